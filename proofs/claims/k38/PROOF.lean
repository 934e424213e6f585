import PyProof.Rows.All
import OpenK.KLine
import KE.RegKIsAll
import KE.RegKTryMore
import Lean
import PyProof.EqAt
import PyProof.EqKinds
import PyProof.TupleCall
import KE.KTupSum
import KE.KItem
import PySem.Challenge.RW_cagebells_k38_whole_one_place_each
set_option Elab.async false
set_option linter.all false
set_option maxRecDepth 100000
set_option compiler.extract_closed false
namespace PySem.W.Fast
noncomputable abbrev T:=True
theorem t:T:=⟨⟩
def tw12029830851226544754:=t
def tw16180966488617100007:=t
def tw12929155090025125084:=t
def tw1852895219884940193:=t
def tw861502493610598483:=t
def tw1901264235766753598:=t
def tw9040558253995353078:=t
def tw14174926179415627322:=t
def tw9483934198085756240:=t
def tw5086556237032957090:=t
def tw17033773727609420563:=t
def tw7774113678449685934:=t
def tw7500099963899442251:=t
def tw13164271082218262909:=t
def tw12546471409375691253:=t
def tw664398029645352804:=t
def tw3244086316793181374:=t
def tw1180504863943622396:=t
def tw10971829966401845888:=t
def tw9721000390032803332:=t
def tw18017129668781235815:=t
def tw17723881924890802966:=t
def tw15663039152381354059:=t
def tw9023412946914863120:=t
def tw6605169337270321112:=t
def tw15018716904364860632:=t
def tw8982996807040281057:=t
def tw14565471765716263578:=t
def tw12145756527313086355:=t
def tw2275282789119773048:=t
def tw15279809834360698895:=t
def tw14569604634059749682:=t
def tw16770109012480181591:=t
def tw3507769193172341495:=t
def tw16522183678017940807:=t
def tw11589282660436910429:=t
def tw9385439782273163706:=t
def tw5278154662435632464:=t
def tw12943679250779740260:=t
def tw5395340147747708899:=t
def tw14736888041290939073:=t
def tw14833712730911297017:=t
def tw7256139644542635133:=t
def tw9304451534382375720:=t
def tw10888863842102328177:=t
def tw6594970650091316094:=t
def tw7611196895359807804:=t
def tw15540911362017771936:=t
def tw18239524524250173017:=t
def tw10368827614151553891:=t
def tw17105322094737777421:=t
def tw8498532028676091811:=t
def tw10741264400317747893:=t
def tw14540961386073393648:=t
def tw11024694936033576346:=t
def tw5322009542560784348:=t
def tw16506471722634982818:=t
def tw6880980288501444468:=t
def tw17986951261819808105:=t
def tw17216001249096748393:=t
def tw8431482922422412695:=t
def tw4413860948169739490:=t
def tw13205091638197436094:=t
def tw17163426234232328066:=t
def tw11205608169257636508:=t
def tw9388066449989048879:=t
def tw7484994123860896570:=t
def tw1420270799746587975:=t
def tw12528221419883600679:=t
def tw12182174808115992843:=t
def tw2875624504187281209:=t
def tw9719393640593047967:=t
def tw17713387462200973399:=t
def tw13257414776242894994:=t
def tw726351398001015727:=t
def tw12064304430848566033:=t
def tw7926090574327391632:=t
def tw11373181179767321252:=t
def tw5462360663327728810:=t
def tw10624116801336726872:=t
def tw16212330677787901120:=t
def tw5459702643516471331:=t
def tw2216542800690825051:=t
def tw18220031379085947620:=t
def tw3971525946579005399:=t
def tw7372170664606466022:=t
def tw6128106870883400570:=t
def tw14958820412457663293:=t
def tw6194202620331982285:=t
def tw15171223727094530161:=t
def tw5205737364524765896:=t
def tw1442379640649564109:=t
def tw15685335758407661847:=t
def tw13164499291161521807:=t
def tw17890440400047909864:=t
def tw3500664145855060485:=t
def tw6751970477201280107:=t
def tw2528511596961503537:=t
def tw15227483606004533461:=t
def tw16822532161544500889:=t
def tw1866716027138748530:=t
def tw3945831679567021610:=t
def tw10052031235695348791:=t
def tw4483904966330829159:=t
def tw18127189064453720709:=t
def tw5845002605336314091:=t
def tw13385558918117058561:=t
def tw15577281813014381367:=t
def tw15401437161963490237:=t
def tw11513857634932158529:=t
def tw7212858340449540239:=t
def tw7538781388859322016:=t
def tw6733606326906232124:=t
def tw13215348057498601715:=t
def tw9630203353718772412:=t
def tw17518593693041627797:=t
def tw4026147355466621588:=t
def tw6030501089693204938:=t
def tw3713540243193553862:=t
def tw18003772858949239459:=t
def tw5008408621672944243:=t
def tw16132249320637822498:=t
def tw247591363613054380:=t
def tw11853640710764476214:=t
def tw5055593616971399804:=t
def tw8916268530333523031:=t
def tw7164969610272591079:=t
def tw3374319085511977134:=t
def tw16691165463884887630:=t
def tw2087409540819079288:=t
def tw4309217394794523951:=t
def tw2228412568605170491:=t
def tw12151077715039277381:=t
def tw12330612334027959195:=t
def tw7943549864190904611:=t
def tw13628181090677844186:=t
def tw3603697650439363286:=t
def tw9818998656811842119:=t
def tw1467881925912835984:=t
def tw12960429369202013873:=t
def tw10236332898609347644:=t
def tw16140922888777852060:=t
def tw8319933024895762948:=t
def tw18400553757987027518:=t
def tw14847308668706973960:=t
def tw547895379624588593:=t
def tw5239429619861171699:=t
def tw9947508896943372755:=t
def tw16773468814595293053:=t
def tw10228342955482612591:=t
def tw8565224436197482051:=t
def tw6128145076113358165:=t
def tw8297923619242306668:=t
def tw4102176305081739490:=t
def tw11207431853666184334:=t
def tw4313010194945074917:=t
def tw12528533614272120300:=t
def tw17614877247268290040:=t
def tw10953238642706405951:=t
def tw7478123994339007903:=t
def tw15593559885672580101:=t
def tw4860023922305330110:=t
def tw4490611911172417597:=t
def tw7882045510503734624:=t
def tw8222940686941784037:=t
def tw15831126876759372255:=t
def tw7792700002687035005:=t
def tw2466311954974566718:=t
def tw9676783613728631035:=t
def tw17963105932079019327:=t
def tw727553628536289456:=t
def tw5634867526602368427:=t
def tw4858918184162951299:=t
def tw16217903435359918192:=t
def tw15166322114958858414:=t
def tw4903002758410956813:=t
def tw17659185236578331656:=t
def tw16728255500844073214:=t
def tw6278996535519779258:=t
def tw2741014181512449073:=t
def tw2046362190076281809:=t
def tw7001957589650049515:=t
def tw4884199854448574:=t
def tw10550934584343373414:=t
def tw694261584828832409:=t
def tw1378205811072252300:=t
def tw18073898193381586223:=t
def tw6557801498797044033:=t
def tw12076989928817844590:=t
def tw10341888390210383824:=t
def tw17346623794827051843:=t
def tw5000232492035539693:=t
def tw10295913840692754127:=t
def tw13367274342830030513:=t
def tw17823556299335049440:=t
def tw5515903443438498500:=t
def tw3075201292733833056:=t
def tw1835071406663858368:=t
def tw8185545411690514434:=t
def tw5812350808301622050:=t
def tw11267315532378154396:=t
def tw14938211915633500526:=t
def tw13557862171009465336:=t
def tw6329614223026926184:=t
def tw16864618592142003386:=t
def tw17397653436517662659:=t
def tw1405720946626083897:=t
def tw10988764466652934233:=t
def tw4561898282857576226:=t
def tw8176730645128964420:=t
def tw1941844328875101383:=t
def tw14479964200598819128:=t
def tw7231845647793152400:=t
def tw18105302477358141223:=t
def tw15418378422589880096:=t
def tw18124618509676941091:=t
def tw12550775161083096063:=t
def tw18383651708701053236:=t
def tw5610444585433571239:=t
def tw8122695690928665766:=t
def tw14940998509354871970:=t
def tw9404705873571188630:=t
def tw13439652990877377571:=t
def tw12369848792361866835:=t
def tw12549542988036985293:=t
def tw14903569129155370506:=t
def tw5960047855520388891:=t
def tw9584292182412213727:=t
def tw12250869413391326473:=t
def tw12125097214300078407:=t
def tw1998347030407657756:=t
def tw13861322856664149509:=t
def tw8413399678365625193:=t
def tw7787813539459594420:=t
def tw2931988195819169919:=t
def tw17082689572870858151:=t
def tw8996207646774452837:=t
def tw12099505692703838030:=t
def tw9317495090193701157:=t
def tw2595618661548880785:=t
def tw16109456028575089023:=t
def tw11095110211248682772:=t
def tw2629151800749243262:=t
def tw16792556548410726896:=t
def tw13851515409511356469:=t
def tw3992765435912101610:=t
def tw3297117884562324255:=t
def tw3328811466098603303:=t
def tw506581581156960101:=t
def tw15699961213505342161:=t
def tw5010956058597451964:=t
def tw18441984877410159329:=t
def tw12717557048674177747:=t
def tw11212356425047092601:=t
def tw14689541978594310382:=t
def tw1142673529048489019:=t
def tw1956260828630720203:=t
def tw15267169705364848929:=t
def tw5037459499596335280:=t
def tw8166255043249204926:=t
def tw16947231599799070506:=t
def tw12747814925858328940:=t
def tw17261404542052806724:=t
def tw16583815154217966991:=t
def tw17877845533520812795:=t
def tw6631347999910079877:=t
def tw1887573119177674980:=t
def tw3520257249291928256:=t
def tw4683681711962371626:=t
def tw17079817176256170043:=t
def tw14746253646979254834:=t
def tw651700358538967526:=t
def tw4971374062829452455:=t
def tw8047209995159408440:=t
def tw11401859456886640639:=t
def tw2868442198168577507:=t
def tw14202271707224943307:=t
def tw11402884983299125971:=t
def tw6188973233030003785:=t
def tw609457278022895560:=t
def tw977512076041815475:=t
def tw18101783494082082527:=t
def tw1205604411410820431:=t
def tw12954591660760965231:=t
def tw9201617497623189827:=t
def tw5816495043963226922:=t
def tw5467331546851215429:=t
def tw8356303796347215682:=t
def tw12670982853097334264:=t
def tw9320515035125037321:=t
def tw3308634892276815127:=t
def tw9536688357841153863:=t
def tw8219003486749837733:=t
def tw7424060955962978353:=t
def tw5649666937502919571:=t
def tw4548300405975405348:=t
def tw4436474186459923750:=t
def tw3985964047577975286:=t
def tw3641951560692057861:=t
def tw3042748168174471775:=t
def tw2132029292895624192:=t
def tw1864683662541468164:=t
def tw1848955828906020544:=t
def tw17760279517084355780:=t
def tw17590705303994421779:=t
def tw17318462890700432884:=t
def tw15910123707662034135:=t
def tw14827714588952709054:=t
def tw14760874974797668852:=t
def tw1205274952441263945:=t
def tw11564986514327137767:=t
def tw699815216081779126:=t
def tw3436067635600285980:=t
def tw13462424878891718212:=t
def tw9461873434466728008:=t
def tw11280630913190679075:=t
def tw9510108024173832781:=t
def tw8950108695139179302:=t
def tw890339118813698166:=t
def tw17338325484393633139:=t
def tw8733291241859026926:=t
def tw18335596039185421423:=t
def tw14935467056822913822:=t
def tw13996866031312336078:=t
def tw3300257896294614128:=t
def tw7322748291113730364:=t
def tw4290864757253303354:=t
def tw9860861378791804195:=t
def tw87601786513091389:=t
def tw12382822922155266910:=t
def tw12669407529647801677:=t
def tw11468729153070441980:=t
def tw3846801734645722302:=t
def tw3719891259706897012:=t
def tw17558320327384617127:=t
def tw14710976976299594304:=t
def tw12393862125047025020:=t
def tw5537553045615171315:=t
def tw3543459598558145280:=t
def tw2941924889016668590:=t
def tw16248296213531012650:=t
def tw15402603294489630176:=t
def tw10826640976665885199:=t
def tw3239113980409921550:=t
def tw15254633091992210921:=t
def tw11824586356888161845:=t
def tw9689729476882780088:=t
def tw8002303944043701648:=t
def tw6170744672141170255:=t
def tw10510019762269167821:=t
def tw8157277791214410489:=t
def tw9972681490609642005:=t
def tw15541240446876304647:=t
def tw6526287140368922620:=t
def tw896239598344801917:=t
def tw2546767868308347339:=t
def tw16409965706819354750:=t
def tw4635989785427082552:=t
def tw16151628708876355199:=t
def tw8997383693586321770:=t
def tw206757683497733573:=t
def tw11962351593759143498:=t
def tw3235425350174046738:=t
def tw11907897558876765624:=t
def tw5890639436620234070:=t
def tw5832146486336120021:=t
def tw8912161614967838395:=t
def tw18418582437962087742:=t
def tw11566098044289413073:=t
def tw16859961878692490766:=t
def tw3721919958574915784:=t
def tw1000662321505670351:=t
def tw9456574344343218679:=t
def tw9402243437249704421:=t
def tw7480016910919988345:=t
def tw5438652380644606353:=t
def tw15779231459743154856:=t
def tw13757698761724263525:=t
def tw12772213712371865176:=t
def tw9869809959619462935:=t
def tw17680797132471856694:=t
def tw9977182230042388008:=t
def tw9879335643197240621:=t
def tw6968137755033780318:=t
def tw6472337539984862722:=t
def tw5702276774652866934:=t
def tw2455152089536381482:=t
def tw2353497105660221152:=t
def tw1979317910248211280:=t
def tw17351735930882485243:=t
def tw16670775579421159206:=t
def tw16120054744476736488:=t
def tw13855379610559885079:=t
def tw12843764043397292189:=t
def tw12269216009862288129:=t
def tw11429584451438056573:=t
def tw5171440476677080432:=t
def tw9969077435446430640:=t
def tw6782663255696616371:=t
def tw17613222154834848340:=t
def tw17184031218471190783:=t
def tw10861573186032746274:=t
def tw17271881437230615512:=t
def tw2358075552688931204:=t
def tw9316815775250114193:=t
def tw2773992215795510196:=t
def tw12681666616541194006:=t
def tw7933485763601977624:=t
def tw2333105410213810865:=t
def tw7764699552788554220:=t
def tw4333590680753393835:=t
def tw14961746396406840608:=t
def tw8915285831880473931:=t
def tw991626836265849350:=t
def tw8151759404152838978:=t
def tw2956708394376553000:=t
def tw18352723725473834589:=t
def tw15752536640612570366:=t
def tw14592624751514493413:=t
def tw11489344026974618541:=t
def tw7929016534517509169:=t
def tw13885670934486923800:=t
def tw8232614014015475128:=t
def tw16053306600634468012:=t
def tw7592715696027808041:=t
def tw15235614512728720:=t
def tw7900394595670775223:=t
def tw11692469974320434101:=t
def tw7007286002206832825:=t
def tw14845619989558847073:=t
def tw938635154573522699:=t
def tw9113380124883318265:=t
def tw8186657734068701312:=t
def tw8171798328758944481:=t
def tw17260811203177919210:=t
def tw14647417624928369756:=t
def tw10282777137419654623:=t
def tw866717566613908145:=t
def tw13601115934706021691:=t
def tw11215392098479208961:=t
def tw2399617604181995578:=t
def tw17155049476370652306:=t
def tw16531682779099013679:=t
def tw15240619367488684849:=t
def tw7557421358154311045:=t
def tw9744259246892133002:=t
def tw9331231397406362311:=t
def tw9045458381397004210:=t
def tw8865387616306378214:=t
def tw8757255369765604158:=t
def tw819570635367399668:=t
def tw6851275008772768644:=t
def tw6714880395473160397:=t
def tw6607644564249050058:=t
def tw622995879521568732:=t
def tw6124413428159637790:=t
def tw5783627655825047438:=t
def tw5061693123953354885:=t
def tw4512776594637900181:=t
def tw4046790133079468173:=t
def tw3099597729799864441:=t
def tw2869065659524454656:=t
def tw2259672571474061568:=t
def tw1956775160557780875:=t
def tw18407495941553956032:=t
def tw17592209452093105858:=t
def tw17267597263503486738:=t
def tw17016834523296244275:=t
def tw16721508838639397229:=t
def tw16309811473084048462:=t
def tw16145670418848962200:=t
def tw16060203290454839817:=t
def tw15565715512253457277:=t
def tw15052318979288761249:=t
def tw14727194681476072466:=t
def tw14441679199631801671:=t
def tw14036186469904095446:=t
def tw13813548295540068894:=t
def tw13710940844802916613:=t
def tw12488014758255163090:=t
def tw12132596417379514657:=t
def tw11662115353561507501:=t
def tw11524815483048965402:=t
def tw10310341975313369176:=t
def tw10161179621583223854:=t
def tw16116027297012810434:=t
def tw14341141199694864594:=t
def tw15621415185263527259:=t
def tw2135409205425526673:=t
def tw6105849179199505303:=t
def tw28018229315631829:=t
def tw2400638427578300857:=t
def tw2314633323536394700:=t
def tw14226173905949225808:=t
def tw11384182702204212275:=t
def tw8159993647027272844:=t
def tw2041926188850086339:=t
def tw1630143524128594353:=t
def tw2692750590507578028:=t
def tw9784134513789038367:=t
def tw885948055608056263:=t
def tw7921390202802761869:=t
def tw6216382948874008006:=t
def tw542563422162235373:=t
def tw463774138113389760:=t
def tw256976265262469064:=t
def tw17348111734160510231:=t
def tw16412085850373738351:=t
def tw13160504802963445071:=t
def tw11757307120078846540:=t
def tw10842938092177581297:=t
def tw10799429511968010386:=t
def tw14904681115217272601:=t
def tw523537741815420091:=t
def tw14261769069557060686:=t
def tw9619071485814978506:=t
def tw8428246938381088814:=t
def tw8285278889055680438:=t
def tw7942791058656714990:=t
def tw7520747337044880989:=t
def tw6162269159774324313:=t
def tw3303267245142563540:=t
def tw1937721966566455358:=t
def tw15861351967447197489:=t
def tw12652081859355081885:=t
def tw11066385474520676512:=t
def tw6953138203311097117:=t
def tw14196522196718054806:=t
def tw12773500944031208451:=t
def tw4693966885379303072:=t
def tw15251835097244881130:=t
def tw1149798457248472902:=t
def tw9399754086935153974:=t
def tw9197174079833555027:=t
def tw8737599933303070863:=t
def tw8412748745612879247:=t
def tw8044325682031459534:=t
def tw6942634455013318504:=t
def tw6338894885288841830:=t
def tw593343749668468936:=t
def tw5338801713223979382:=t
def tw4340673293219707767:=t
def tw354308444213283272:=t
def tw209982475168477708:=t
def tw1725486776273817318:=t
def tw16493865465440409018:=t
def tw16003985067176294414:=t
def tw1599053048872161195:=t
def tw15925456577456769635:=t
def tw15590096980072825465:=t
def tw154272780991502253:=t
def tw15142666989864626641:=t
def tw14538725608371270373:=t
def tw14173793092197918974:=t
def tw14172470266813156586:=t
def tw13384656265869573321:=t
def tw13343918040275786880:=t
def tw12936088452001202715:=t
def tw1293241653719404408:=t
def tw12876709506271813870:=t
def tw12360917755211006479:=t
def tw12091442091272426231:=t
def tw12041797014711123256:=t
def tw10851082721055443051:=t
def tw10538165733446703262:=t
def tw10388488172074580225:=t
def tw10198052994689861382:=t
def tw2731476521559533851:=t
def tw9363214764283991203:=t
def tw4580019852769339753:=t
def tw8752102160057688731:=t
def tw10026605065719503897:=t
def tw14284835775768690865:=t
def tw1045582712504079209:=t
def tw12091130801917272685:=t
def tw1207101557538958131:=t
def tw577049184839899653:=t
def tw5306753302271460952:=t
def tw2983494736656345032:=t
def tw243476719192100926:=t
def tw6542358382571353910:=t
def tw6508132753307246276:=t
def tw6420159726195949164:=t
def tw615563214671542189:=t
def tw4565167180653195659:=t
def tw4334401890000744311:=t
def tw4267111383703672358:=t
def tw4211115844707057057:=t
def tw3277229846650655979:=t
def tw17691633702590694504:=t
def tw15326580083554890809:=t
def tw14553807712399142462:=t
def tw13567515925198824819:=t
def tw13547939009206843870:=t
def tw13465540834166320765:=t
def tw13257283266767686631:=t
def tw12627051441459223148:=t
def tw11009225556382593827:=t
def tw10551173667578312727:=t
def tw10387345722656961088:=t
def tw2034817482908223496:=t
def tw13265978090383273239:=t
def tw12405761042648551022:=t
def tw9910136688757260964:=t
def tw8854275682344465072:=t
def tw8282588126930224528:=t
def tw6621635546502472408:=t
def tw4843829748527759242:=t
def tw17689344090056996911:=t
def tw14800370929953404514:=t
def tw12731152576971404446:=t
def tw10627929193734500438:=t
def tw10118262284458037933:=t
def tw6690350156832105676:=t
def tw5449601097390414333:=t
def tw306047672372848657:=t
def tw14849461344987154502:=t
def tw11151835277377553703:=t
def tw11707130962622978684:=t
def tw10374632558016547081:=t
def tw4323258101793500111:=t
def tw11063759124802658401:=t
def tw1537541725227008683:=t
def tw15214748959534726111:=t
def tw7053471978191194526:=t
def tw7766106395892283477:=t
def tw6522051377940421278:=t
def tw13571862603940711859:=t
def tw13539809779269347639:=t
def tw12884060626414724322:=t
def tw9215358943560890414:=t
def tw8374155422468719031:=t
def tw7217548393331319763:=t
def tw6798380500665416597:=t
def tw5221592684559293012:=t
def tw5217270863462422736:=t
def tw3419001889969749887:=t
def tw17980500129456985241:=t
def tw17916429707943930468:=t
def tw16925712312323332580:=t
def tw16860917588515726111:=t
def tw15764947353670896545:=t
def tw15702583709834301711:=t
def tw14993981098963755598:=t
def tw14074196154385387334:=t
def tw14022695629967993375:=t
def tw12408111787983249662:=t
def tw11161164713144168021:=t
def tw643336161829623379:=t
def tw5725222548895626118:=t
def tw5694767641087392711:=t
def tw2595585439558603231:=t
def tw9919008367099125623:=t
def tw9104974531708491489:=t
def tw8006371003960147343:=t
def tw772564365185477556:=t
def tw6858818405166986180:=t
def tw6548459193220583526:=t
def tw628631919661052299:=t
def tw5994696166404524948:=t
def tw5002640475654186023:=t
def tw447263597446747957:=t
def tw443766864951011646:=t
def tw3475869608268796686:=t
def tw2950685276103557050:=t
def tw18031968618487185184:=t
def tw1719895430356276633:=t
def tw1717767836212652739:=t
def tw16682895059504647277:=t
def tw16615150188913437886:=t
def tw16108870410212019532:=t
def tw1495895850433845275:=t
def tw13812277999558781770:=t
def tw13421457143807847188:=t
def tw12459912946257978736:=t
def tw10258873121960336067:=t
def tw9848817304349107530:=t
def tw8760152093665844161:=t
def tw8115137120850386438:=t
def tw8080008513338510535:=t
def tw5832305185047221409:=t
def tw5444512763150141072:=t
def tw5362036446546632119:=t
def tw4039707410889071942:=t
def tw2403389108928632939:=t
def tw18328257000508772394:=t
def tw15539815450414544023:=t
def tw15173544498738437827:=t
def tw14703100239697439463:=t
def tw13444670453868202053:=t
def tw10910644110388302437:=t
def tw14334995849660946996:=t
def tw11898673842065290130:=t
def tw2483420100392427323:=t
def tw1825952489489211193:=t
def tw16756451883985382160:=t
def tw10510056951384868246:=t
def tw6822071536725586909:=t
def tw446995266069924076:=t
def tw2244103112122482387:=t
def tw1915925776726481438:=t
def tw1708089923452030704:=t
def tw14391293386007564604:=t
def tw13034982811429478159:=t
def tw9950792792127014553:=t
def tw8757050672659960515:=t
def tw6356304189028158447:=t
def tw6248682570935725439:=t
def tw4096438862311573950:=t
def tw3919386906821981792:=t
def tw3300454383303005205:=t
def tw2570914705882880060:=t
def tw17658959251048325594:=t
def tw16723463757517087524:=t
def tw16279288168775177219:=t
def tw14842496431369740429:=t
def tw13953587524928339648:=t
def tw1342123614928995077:=t
def tw10698057553749749337:=t
def tw9381626543082597023:=t
def tw8840235324560252208:=t
def tw855453113358079251:=t
def tw8392358500681263680:=t
def tw599730875272715187:=t
def tw4684226298888400098:=t
def tw4077048163395320219:=t
def tw2167315655227761912:=t
def tw17951090304560329564:=t
def tw17188069144378779261:=t
def tw17137270108147033825:=t
def tw16232239604740543338:=t
def tw14785633479632635281:=t
def tw14321067358777074657:=t
def tw13349420017058727143:=t
def tw13298828918039433023:=t
def tw12461081396071149458:=t
def tw12435058653956393420:=t
def tw12188032599808994241:=t
def tw10406584006884427733:=t
def tw9553971096990549364:=t
def tw9162645422354645296:=t
def tw8981176238543900561:=t
def tw8272569733616993153:=t
def tw8060666987683057360:=t
def tw7873748247521183178:=t
def tw786537726763496527:=t
def tw7509565986652818475:=t
def tw7422445781565681216:=t
def tw727924238349540522:=t
def tw7050804516273991350:=t
def tw6829468419937405859:=t
def tw6701911527682315725:=t
def tw6597789921013551971:=t
def tw640624198105042115:=t
def tw6259241058660970061:=t
def tw6191700953566675008:=t
def tw5662061979359257339:=t
def tw5483103596317574428:=t
def tw5263133172445716209:=t
def tw5086489192560080304:=t
def tw4757880891971583632:=t
def tw4524658085876675188:=t
def tw4449799235075362730:=t
def tw431221854992830470:=t
def tw429539710256275620:=t
def tw424408320835691240:=t
def tw3456351732281881909:=t
def tw3344036261162260069:=t
def tw3233987462203235646:=t
def tw2990168724187919761:=t
def tw2983127059725616120:=t
def tw2781441929908095834:=t
def tw2641800013201688601:=t
def tw2213964242967304950:=t
def tw18384110700954362821:=t
def tw17410218998227585676:=t
def tw16797375974695604193:=t
def tw16746677531222629524:=t
def tw1663524305781585820:=t
def tw16247262843940693239:=t
def tw16103829930404553856:=t
def tw15932183184989994656:=t
def tw15806707075529380192:=t
def tw15792790952358468732:=t
def tw15627779663793561183:=t
def tw15504105790966721872:=t
def tw15036080040530398195:=t
def tw14934011241717051027:=t
def tw14811890972901180937:=t
def tw1474264761786122189:=t
def tw14294133066467233204:=t
def tw14219159868682941630:=t
def tw1402340071739887797:=t
def tw13937768818610491111:=t
def tw13931877327420345601:=t
def tw13872120688422071045:=t
def tw13813618637161013713:=t
def tw13141587033338554882:=t
def tw13127508451798649013:=t
def tw13053394406489344094:=t
def tw11717715558655726156:=t
def tw11512705759438076691:=t
def tw11449968299874610285:=t
def tw11308061921803828041:=t
def tw11219443903484984970:=t
def tw11120740854625124088:=t
def tw11107512795663914464:=t
def tw10713865542653931438:=t
def tw10479991185640055810:=t
def tw10095894221667365369:=t
def tw10085292869130188298:=t
def tw9959121941294770655:=t
def tw9806118890596472461:=t
def tw9796564346219866840:=t
def tw9768418358887946270:=t
def tw9679390387850249182:=t
def tw9678289623588505577:=t
def tw9646623106273453227:=t
def tw9592521066531166775:=t
def tw9592300441314626372:=t
def tw9495317472360511255:=t
def tw9461912720999461741:=t
def tw9433028549170029634:=t
def tw9358312197846296583:=t
def tw908480701973217441:=t
def tw8995945545434573385:=t
def tw896878414759379649:=t
def tw8924819469995637033:=t
def tw8919978131948313185:=t
def tw8909772338491405060:=t
def tw8908233856664302321:=t
def tw8833860146974802555:=t
def tw8833496514701923757:=t
def tw8739830900816887780:=t
def tw866652123128751154:=t
def tw8646635810480103244:=t
def tw8622715204490130888:=t
def tw8535803893964050539:=t
def tw8521684928402303493:=t
def tw8480184845173159842:=t
def tw8432719020341155521:=t
def tw8331849164307833061:=t
def tw8274446707539698164:=t
def tw8212203176049278890:=t
def tw8210202977690762169:=t
def tw8185220541750880888:=t
def tw7998583776865276027:=t
def tw7867829370405329436:=t
def tw7837367980739423823:=t
def tw7828442866392281868:=t
def tw7770478706760583155:=t
def tw757356599333046425:=t
def tw7501186508268903616:=t
def tw7403982271040965895:=t
def tw7350462372000428638:=t
def tw7249310025045793396:=t
def tw7181997581385953548:=t
def tw7086961617601330827:=t
def tw7046044490832178742:=t
def tw6973427100653255629:=t
def tw6702445572142316249:=t
def tw6657536258744368796:=t
def tw6651725471809605288:=t
def tw6575520176995025181:=t
def tw6549852094080907030:=t
def tw6469784823511061222:=t
def tw6331431999304432861:=t
def tw6327569006664949090:=t
def tw6229817132586351632:=t
def tw6208910965292489261:=t
def tw6172094611929405055:=t
def tw6145912378217320015:=t
def tw6060609690816243450:=t
def tw6056707288978253535:=t
def tw6046103115902281144:=t
def tw5992840812097835891:=t
def tw5920806927976990809:=t
def tw5909976876416983842:=t
def tw5874822333441161849:=t
def tw5872530126848033075:=t
def tw5805800948307579973:=t
def tw5748170370737335489:=t
def tw5711038861398032994:=t
def tw5667099127317398114:=t
def tw5622701340561072331:=t
def tw5522115075389312692:=t
def tw5498123283257192965:=t
def tw539538531456391632:=t
def tw5388589039460942527:=t
def tw5376530373609499990:=t
def tw5344687154915797982:=t
def tw5342471268416680606:=t
def tw5341297951324810720:=t
def tw5323657890516693427:=t
def tw5289818103960998278:=t
def tw5285915839522022235:=t
def tw5274481202262711730:=t
def tw5233118043267047457:=t
def tw514280064592716601:=t
def tw5137589814051832496:=t
end PySem.W.Fast
section
open PySem PySem.W PyProof.Rows
set_option maxHeartbeats 0 in
open_top hd for PySem.Challenge.rw_cagebells_k38_whole_one_place_each
end
set_option Elab.async false
set_option linter.all false
set_option maxRecDepth 100000
namespace L2
open PySem PySem.Spec PyProof.Rows
noncomputable abbrev Key:=Sum Int Str
noncomputable def Gx:Key->Value->Bool
 | .inl k,v=>Value.isInt k v
 | .inr x,v=>Value.isStrOf x v
noncomputable def Km (w:World):Key->Int
 | .inl k=>hashInt k
 | .inr x=>hashStr w x
theorem cP:∀{k:Key} {v:Value},Gx k v=true->(∃i t,k=Sum.inl i/\v=Value.int i t)\/(∃x t,k=Sum.inr x/\v=Value.str x t)
 | .inl i,v,h=>by
  obtain ⟨t,e⟩:=Value.isInt_shape (k:=i) (v:=v) h
  exact .inl ⟨i,t,rfl,e⟩
 | .inr x,v,h=>by
  obtain ⟨t,e⟩:=Value.isStrOf_shape (x:=x) (v:=v) h
  exact .inr ⟨x,t,rfl,e⟩
theorem Hk (a b:Int):decide ((Sum.inl a:Key)=Sum.inl b)=(a == b):=by
 by_cases e:a=b
 ·subst e;simp
 ·have h:¬(Sum.inl a:Key)=Sum.inl b:=fun q=>e (Sum.inl.inj q)
  rw [decide_eq_false h]
  exact (beq_eq_false_iff_ne.mpr e).symm
theorem Hl (a b:Str):decide ((Sum.inr a:Key)=Sum.inr b)=decide (a=b):=by
 by_cases e:a=b
 ·subst e;simp
 ·have h:¬(Sum.inr a:Key)=Sum.inr b:=fun q=>e (Sum.inr.inj q)
  rw [decide_eq_false h,decide_eq_false e]
theorem Hm (a:Int)(b:Str):decide ((Sum.inl a:Key)=Sum.inr b)=false:=decide_eq_false (fun q=>nomatch q)
theorem Hn (a:Str)(b:Int):decide ((Sum.inr a:Key)=Sum.inl b)=false:=decide_eq_false (fun q=>nomatch q)
noncomputable def wI (prog:Program)(w:World):PySem.KeyKind prog w Key where
 is:=Gx
 hash:=Km w
 inj:=fun v a b ha hb=>by
  rcases cP ha with ⟨i,t,rfl,rfl⟩ | ⟨x,t,rfl,rfl⟩
  ·rcases cP hb with ⟨j,u,rfl,e⟩ | ⟨y,u,rfl,e⟩
   ·injection e with e1 _;rw [e1]
   ·exact nomatch e
  ·rcases cP hb with ⟨j,u,rfl,e⟩ | ⟨y,u,rfl,e⟩
   ·exact nomatch e
   ·injection e with e1 _;rw [e1]
 byValue:=fun k v h=>by
  rcases cP h with ⟨i,t,rfl,rfl⟩ | ⟨x,t,rfl,rfl⟩<;>rfl
 pyHash:=fun hv h=>by
  rcases cP hv with ⟨i,t,rfl,rfl⟩ | ⟨x,t,rfl,rfl⟩
  ·exact wpAny_pyHash_int h
  ·exact wpAny_pyHash_str h
 eqBool:=fun hu hv h=>by
  rcases cP hu with ⟨i,t,rfl,rfl⟩ | ⟨x,t,rfl,rfl⟩
  ·rcases cP hv with ⟨j,u,rfl,rfl⟩ | ⟨y,u,rfl,rfl⟩
   ·rw [Hk] at h;exact wpAny_eqBool_int h
   ·rw [Hm] at h;exact SeqAt.EqAt.int_str i t y u _ _ _ _ h
  ·rcases cP hv with ⟨j,u,rfl,rfl⟩ | ⟨y,u,rfl,rfl⟩
   ·rw [Hn] at h;exact SeqAt.EqAt.str_int x t j u _ _ _ _ h
   ·rw [Hl] at h;exact wpAny_eqBool_str h
 «strs»:=fun k x t v h=>by
  rcases cP h with ⟨i,u,rfl,e⟩ | ⟨y,u,rfl,e⟩
  ·exact nomatch e
  ·injection e with e1 _
   subst e1
   cases v<;>rfl
inductive V where
 | non | bl (b:Bool) | int (i:Int) | str (x:Str) | byt (b:Array UInt8) | flt (b:UInt64) | ref (a:Addr) | ty (n:String)
 deriving DecidableEq
noncomputable def bA:V->Value->Prop
 | .non,u=>u=Value.none
 | .bl b,u=>u=Value.bool b
 | .int i,u=>∃t,u=Value.int i t
 | .str x,u=>∃t,u=Value.str x t
 | .byt b,u=>∃t,u=Value.bytes b t
 | .flt b,u=>∃t,u=Value.float b t
 | .ref a,u=>u=Value.ref a
 | .ty n,u=>u=Value.type n
noncomputable abbrev a8:List V->List Value->Prop:=Paired bA
theorem a8.length {xs:List V}{us:List Value}(r:a8 xs us):xs.length=us.length:=Paired.length r
theorem a8.get:∀{xs:List V} {us:List Value} {i:Nat} {x:V},a8 xs us->xs[i]?=some x->∃u,us[i]?=some u/\bA x u
 | _,_,_,_,.nil,e=>by simp at e
 | _,_,0,_,.cons r _,e=>by simp at e;subst e;exact ⟨_,rfl,r⟩
 | _,_,i+1,x,.cons _ t,e=>by
  obtain ⟨u,h1,h2⟩:=a8.get (i:=i) (x:=x) t (by simpa using e)
  exact ⟨u,by simpa using h1,h2⟩
theorem a8.set {x:V}{u:Value}(r:bA x u):∀{xs:List V} {us:List Value} (i:Nat),a8 xs us->a8 (xs.set i x) (us.set i u)
 | _,_,_,.nil=>.nil
 | _,_,0,.cons _ t=>.cons r t
 | _,_,i+1,.cons q t=>.cons q (a8.set r i t)
theorem a8.append:∀{xs ys:List V} {us ws:List Value},a8 xs us->a8 ys ws->a8 (xs++ys) (us++ws)
 | _,_,_,_,.nil,s=>s
 | _,_,_,_,.cons r t,s=>.cons r (a8.append t s)
theorem a8.take:∀{xs:List V} {us:List Value} (n:Nat),a8 xs us->a8 (xs.take n) (us.take n)
 | _,_,0,_=>.nil
 | _,_,_+1,.nil=>.nil
 | _,_,n+1,.cons r t=>.cons r (a8.take n t)
theorem a8.drop:∀{xs:List V} {us:List Value} (n:Nat),a8 xs us->a8 (xs.drop n) (us.drop n)
 | _,_,0,r=>r
 | _,_,_+1,.nil=>.nil
 | _,_,n+1,.cons _ t=>a8.drop n t
noncomputable def uV:Option V->Option Value->Prop
 | some v,some u=>bA v u
 | none,none=>True
 | _,_=>False
noncomputable def KV {κ:Type}:List (κ×V)->List (κ×Value)->Prop:=Paired fun (p:κ×V) (q:κ×Value)=>p.1=q.1/\bA p.2 q.2
noncomputable def kV:Key->V
 | .inl i=>.int i
 | .inr x=>.str x
inductive HO where
 | lst (xs:List V)
 | tup (xs:List V)
 | dK (kvs:List (Key×V)) | dT (kvs:List (List Key×V))
 | set (S:Int->Bool) (n:Nat)
 | ins (C dx:Addr) (fs:List (Str×V))
 | own (x:Addr)
 | xd (fs:List (Str×V))
 | met (f x:Addr)
 | rng (lo hi:Int)
 | frz (o:Obj) (u:HO)
 | tbl (ps:Array Value)
 | ext (φ:Heap->Prop)
noncomputable abbrev Hp:=Addr->Option HO
noncomputable def upd (H:Hp)(a:Addr)(o:HO):Hp:=fun b=>if b=a then some o else H b
theorem ag {H:Hp}{a:Addr}{o:HO}:upd H a o a=some o:=by unfold upd;rw [if_pos rfl]
theorem aG {H:Hp}{a b:Addr}{o:HO}(h:b≠a):upd H a o b=H b:=by unfold upd;rw [if_neg h]
theorem EA {H:Hp}{a:Addr}{o u:HO}:upd (upd H a o) a u=upd H a u:=by
 funext b;unfold upd;split<;>rfl
theorem ak {H:Hp}{a b:Addr}{o:HO}(h:H a=some o)(h':H b=none):a≠b:=by
 intro e;subst e;rw [h] at h';cases h'
def g0 (h:Heap)(a:Addr)(items:Array Value):Prop:=∃o,h.get? a=some o/\(o.cls=.type "tuple"/\∃n,o.data=.seq items n)/\o.dict=none
theorem g0.tup {h:Heap}{a:Addr}{items:Array Value}(x:g0 h a items):IsTup h a items:=let ⟨o,e,c,_⟩:=x;⟨o,e,c⟩
theorem g0.lt {h:Heap}{a:Addr}{items:Array Value}(x:g0 h a items):a < h.objs.size:=let ⟨_,e,_⟩:=x;Heap.lt_size e
theorem g0.new (h:Heap)(items:Array Value):g0 (h.push {cls:=.type "tuple",data:=.seq items}) h.objs.size items:=⟨_,Heap.get?_push_size _ rfl,⟨rfl,_,rfl⟩,rfl⟩
section
variable (P:Program)(w:World)
noncomputable def dE (H:Hp)(h:Heap)(a:Addr):HO->Prop
 | .lst xs=>xs.length<=sizeLine/\∃(its:List Value) (n:Nat),a8 xs its/\h.get? a=some {cls:=.type "list",data:=.seq its.toArray n}
 | .tup xs=>xs.length<=sizeLine/\∃its:List Value,a8 xs its/\g0 h a its.toArray
 | .dK kvs=>kvs.length<=sizeLine/\(a == sysModules)=false/\∃vs,KV kvs vs/\h.DictOf (wI P w) a vs
 | .dT kvs=>kvs.length<=sizeLine/\(a == sysModules)=false/\∃xs:List (List Key×Addr×Value),
   Paired (fun (p:List Key×V) (q:List Key×Addr×Value)=>p.1=q.1/\H q.2.1=some (.tup (p.1.map kV))/\bA p.2 q.2.2) kvs xs/\
   ∃o es ep,h.get? a=some o/\o.ExactDict/\o.data=.dict es ep/\es.toList=xs.map (entryOfKey (tupleKind (wI P w)))/\(xs.map (·.1)).Nodup
 | .set S n=>h.SetOf (intKind P w) a S n
 | .ins C dx fs=>H dx=some (.own a)/\fs.length<=1000/\dx≠a/\h.get? a=some (W.instObj C dx)/\
   ∃mA,h.Ns1 dx mA/\(∀f,uV (fs.lookup f) (mA f))/\PySem.Within mA (fs.map (·.1))
 | .own _=>∃o,h.get? a=some o
 | .xd fs=>∃mA,h.Ns1 a mA/\∀f,uV (fs.lookup f) (mA f)
 | .rng lo hi=>∃t u v,h.get? a=some {cls:=.type "range",data:=.fields #[.int lo t,.int hi u,.int 1 v]}
 | .frz o u=>h.get? a=some o/\dE H h a u
 | .tbl ps=>h.get? a=some {cls:=.none,data:=.fields ps}
 | .met f x=>h.get? a=some (W.methodObj (.ref f) (.ref x))
 | .ext φ=>φ h/\(∃o,h.get? a=some o)/\∀h1 h2:Heap,φ h1->(∀o,h1.get? a=some o->h2.get? a=some o)->φ h2
def HOk (H:Hp)(h:Heap):Prop:=∀a o,H a=some o->dE P w H h a o
end
section
variable {P:Program}{w:World}{H H':Hp}{h h':Heap}{a:Addr}{o:HO}
theorem dE.lt (x:dE P w H h a o):a < h.objs.size:=by
 cases o with
 | lst xs=>obtain ⟨_,_,_,_,e⟩:=x;exact Heap.lt_size e
 | tup xs=>obtain ⟨_,_,_,p⟩:=x;exact p.lt
 | dK kvs=>obtain ⟨_,_,_,_,o,_,_,e,_⟩:=x;exact Heap.lt_size e
 | dT kvs=>obtain ⟨_,_,_,_,o,_,_,e,_⟩:=x;exact Heap.lt_size e
 | set S n=>obtain ⟨o,_,_,_,e,_⟩:=x;exact Heap.lt_size e
 | ins C dx fs=>obtain ⟨_,_,_,e,_⟩:=x;exact Heap.lt_size e
 | own y=>obtain ⟨_,e⟩:=x;exact Heap.lt_size e
 | xd fs=>obtain ⟨_,⟨_,_,_,e,_⟩,_⟩:=x;exact Heap.lt_size e
 | rng lo hi=>obtain ⟨_,_,_,e⟩:=x;exact Heap.lt_size e
 | frz ob u=>obtain ⟨e,_⟩:=x;exact Heap.lt_size e
 | tbl ps=>exact Heap.lt_size (show h.get? a=some _ from x)
 | met f y=>exact Heap.lt_size (show h.get? a=some _ from x)
 | ext φ=>obtain ⟨_,⟨_,e⟩,_⟩:=x;exact Heap.lt_size e
theorem Paired.mapP {α β:Type}{F G:α->β->Prop}:∀{l₁:List α} {l₂:List β},Paired F l₁ l₂->(∀a b,F a b->G a b)->Paired G l₁ l₂
 | _,_,.nil,_=>.nil
 | _,_,.cons r t,f=>.cons (f _ _ r) (Paired.mapP t f)
theorem dE.stay (x:dE P w H h a o)(k:∀b u,(b=a\/H b=some (.own a))->h.get? b=some u->h'.get? b=some u)
  (ho:∀b,H b=some (.own a)->H' b=some (.own a)) (ht:∀b xs,H b=some (.tup xs)->H' b=some (.tup xs)):dE P w H' h' a o:=by
 induction o with
 | lst xs=>obtain ⟨z,its,n,r,e⟩:=x;exact ⟨z,its,n,r,k _ _ (.inl rfl) e⟩
 | tup xs=>obtain ⟨z,its,r,ob,e,c⟩:=x;exact ⟨z,its,r,ob,k _ _ (.inl rfl) e,c⟩
 | dK kvs=>obtain ⟨z,y,vs,r,ob,es,ep,e,c⟩:=x;exact ⟨z,y,vs,r,ob,es,ep,k _ _ (.inl rfl) e,c⟩
 | dT kvs=>
  obtain ⟨z,y,xs,r,ob,es,ep,e,c⟩:=x
  exact ⟨z,y,xs,Paired.mapP r fun p q z=>⟨z.1,ht _ _ z.2.1,z.2.2⟩,ob,es,ep,k _ _ (.inl rfl) e,c⟩
 | set S n=>obtain ⟨ob,es,ep,t,e,c⟩:=x;exact ⟨ob,es,ep,t,k _ _ (.inl rfl) e,c⟩
 | ins C dx fs=>
  obtain ⟨d,z,ne,e,mA,⟨od,es,ep,e2,c⟩,r⟩:=x
  exact ⟨ho _ d,z,ne,k _ _ (.inl rfl) e,mA,⟨od,es,ep,k _ _ (.inr d) e2,c⟩,r⟩
 | own y=>obtain ⟨ob,e⟩:=x;exact ⟨ob,k _ _ (.inl rfl) e⟩
 | xd fs=>obtain ⟨mA,⟨od,es,ep,e,c⟩,r⟩:=x;exact ⟨mA,⟨od,es,ep,k _ _ (.inl rfl) e,c⟩,r⟩
 | rng lo hi=>obtain ⟨t,u,v,e⟩:=x;exact ⟨t,u,v,k _ _ (.inl rfl) e⟩
 | frz ob u ih=>obtain ⟨e,q⟩:=x;exact ⟨k _ _ (.inl rfl) e,ih q⟩
 | tbl ps=>
  have e:h.get? a=some {cls:=.none,data:=.fields ps}:=x
  show h'.get? a=some {cls:=.none,data:=.fields ps}
  exact k a _ (.inl rfl) e
 | met f y=>
  have e:h.get? a=some (W.methodObj (.ref f) (.ref y)):=x
  show h'.get? a=some (W.methodObj (.ref f) (.ref y))
  exact k a _ (.inl rfl) e
 | ext φ=>obtain ⟨p,⟨o,e⟩,st⟩:=x;exact ⟨st _ _ p fun o q=>k _ _ (.inl rfl) q,⟨o,k _ _ (.inl rfl) e⟩,st⟩
theorem HOk.lt (x:HOk P w H h)(e:H a=some o):a < h.objs.size:=(x a o e).lt
theorem HOk.fresh (x:HOk P w H h)(e:h.objs.size<=a):H a=none:=by
 cases q:H a with
 | none=>rfl
 | some u=>exact absurd (Nat.lt_of_lt_of_le (x.lt q) e) (Nat.lt_irrefl _)
theorem HOk.kept (x:HOk P w H h)(k:∀b u,h.get? b=some u->h'.get? b=some u):HOk P w H h':=fun a o e=>
 (x a o e).stay (fun b u _ q=>k b u q) (fun _ q=>q) fun _ _ q=>q
theorem HOk.laid (x:HOk P w H h)(k:∀b u,h.get? b=some u->h'.get? b=some u)(hp:h.objs.size<=a)(new:dE P w (upd H a o) h' a o):HOk P w (upd H a o) h':=fun b u e=>by
 have hn:=x.fresh hp
 by_cases hb:b=a
 ·subst hb;rw [ag] at e;cases e;exact new
 ·rw [aG hb] at e
  exact (x b u e).stay (fun c v _ q=>k c v q) (fun c q=>by rw [aG (ak q hn)];exact q) fun c xs q=>by rw [aG (ak q hn)];exact q
end
def Rd (H:Hp)(a:Addr)(u:HO):Prop:=H a=some u\/∃o,H a=some (.frz o u)
theorem Rd.ok {P:Program}{w:World}{H:Hp}{h:Heap}{a:Addr}{u:HO}(r:Rd H a u)(x:HOk P w H h):dE P w H h a u:=by
 rcases r with r | ⟨o,r⟩
 ·exact x a u r
 ·obtain ⟨_,q⟩:=x a _ r
  exact q
noncomputable def Mut:Option HO->Prop
 | some (.lst _)=>True
 | some (.dK _)=>True
 | some (.dT _)=>True
 | some (.set _ _)=>True
 | some (.ins _ _ _)=>True
 | some (.ext _)=>True
 | _=>False
section
variable {P:Program}{w:World}{H:Hp}{h h':Heap}{x e:Addr}{o':HO}
theorem HOk.write (ok:HOk P w H h)(mu:Mut (H x))(he:e=x\/H e=some (.own x))(k:∀b u,b≠e->h.get? b=some u->h'.get? b=some u)(heo:∃u,h'.get? e=some u)
  (new:dE P w (upd H x o') h' x o'):HOk P w (upd H x o') h':=fun b u q=>by
 have nown:∀c y,H c=some (.own y)->c≠x:=fun c y r z=>by subst z;rw [r] at mu;exact mu
 have ntup:∀c xs,H c=some (.tup xs)->c≠x:=fun c xs r z=>by subst z;rw [r] at mu;exact mu
 by_cases hb:b=x
 ·subst hb;rw [ag] at q;cases q;exact new
 ·rw [aG hb] at q
  by_cases hbe:b=e
  ·have q':H b=some (.own x):=by
    rcases he with z | z
    ·exact absurd (hbe.trans z) hb
    ·rw [hbe];exact z
   rw [q] at q';cases q'
   obtain ⟨v,hv⟩:=heo
   exact ⟨v,by rw [hbe];exact hv⟩
  ·refine (ok b u q).stay (fun c v hc r=>k c v ?_ r) (fun c r=>by rw [aG (nown c b r)];exact r) fun c xs r=>by rw [aG (ntup c xs r)];exact r
   rcases hc with rfl | hc
   ·exact hbe
   ·rintro rfl
    rcases he with z | z
    ·exact nown c b hc z
    ·rw [hc] at z;cases z;exact hb rfl
end
structure Un (fs ex:List Addr)(H H':Hp)(h h':Heap):Prop where
 keep:∀b o,h.get? b=some o->H b=none->b∉fs->b∉ex->h'.get? b=some o
 slot:∀b o,h.get? b=some o->H b=none->b∈fs->b∉ex->∃sl,h'.get? b=some {o with slots:=sl}
 free:∀b o,h.get? b=some o->H b=none->b∉ex->H' b=none
 there:∀b o,h.get? b=some o->b∉ex->∃o',h'.get? b=some o'
 tups:∀b xs,H b=some (.tup xs)->H' b=some (.tup xs)
 frzs:∀b o u,H b=some (.frz o u)->H' b=some (.frz o u)
 tbls:∀b ps,H b=some (.tbl ps)->∃more,H' b=some (.tbl (ps++more))
section
variable {fs fs' ex ex':List Addr}{H H1 H2:Hp}{h h1 h2 h':Heap}{a x e:Addr}{o:HO}
theorem Un.any (u:Un fs ex H H1 h h1){b:Addr}{ob:Obj}(q:h.get? b=some ob)(n:H b=none)(hx:b∉ex):∃sl,h1.get? b=some {ob with slots:=sl}:=by
 by_cases hb:b∈fs
 ·exact u.slot b ob q n hb hx
 ·exact ⟨ob.slots,u.keep b ob q n hb hx⟩
theorem Un.kept (k:∀b u,h.get? b=some u->h'.get? b=some u):Un fs ex H H h h':=
 ⟨fun b ob q _ _ _=>k b ob q,fun b ob q _ _ _=>⟨ob.slots,k b ob q⟩,fun _ _ _ n _=>n,fun b ob q _=>⟨ob,k b ob q⟩,fun _ _ q=>q,fun _ _ _ q=>q,fun _ ps q=>⟨#[],by rw [q];simp⟩⟩
theorem Un.refl:Un fs ex H H h h:=Un.kept fun _ _ q=>q
theorem Un.laid (k:∀b u,h.get? b=some u->h'.get? b=some u)(hp:h.objs.size<=a)(hn:H a=none):Un fs ex H (upd H a o) h h' where
 keep:=fun b u q _ _ _=>k b u q
 slot:=fun b u q _ _ _=>⟨u.slots,k b u q⟩
 free:=fun b u q n _=>by rw [aG (Nat.ne_of_lt (Nat.lt_of_lt_of_le (Heap.lt_size q) hp))];exact n
 there:=fun b u q _=>⟨u,k b u q⟩
 tups:=fun b xs q=>by rw [aG (ak q hn)];exact q
 frzs:=fun b u xs q=>by rw [aG (ak q hn)];exact q
 tbls:=fun b ps q=>⟨#[],by rw [aG (ak q hn),q];simp⟩
theorem Un.write (mu:Mut (H x))(he:e=x\/H e=some (.own x))(k:∀b u,b≠e->h.get? b=some u->h'.get? b=some u)(heo:∃u,h'.get? e=some u):Un fs ex H (upd H x o) h h':=by
 have hx:∀b,H b=none->b≠x:=fun b n z=>by subst z;rw [n] at mu;exact mu
 have hb:∀b,H b=none->b≠e:=fun b n z=>by
  subst z
  rcases he with r | r
  ·exact hx b n r
  ·rw [n] at r;cases r
 have hm:∀b u,H b=some u->¬Mut (some u)->b≠x:=fun b u q nm z=>by subst z;rw [q] at mu;exact nm mu
 refine ⟨fun b u q n _ _=>k b u (hb b n) q,fun b u q n _ _=>⟨u.slots,k b u (hb b n) q⟩,fun b u q n _=>by rw [aG (hx b n)];exact n,fun b u q _=>?_,
  fun b xs q=>by rw [aG (hm b _ q fun z=>z)];exact q,fun b u xs q=>by rw [aG (hm b _ q fun z=>z)];exact q,fun b ps q=>⟨#[],by rw [aG (hm b _ q fun z=>z),q];simp⟩⟩
 by_cases hbe:b=e
 ·subst hbe;exact heo
 ·exact ⟨u,k b u hbe q⟩
end
noncomputable def trk (h:Heap)(H:Hp):List Addr:=(List.range h.objs.size).filter fun a=>(H a).isSome
noncomputable def wJ (h:Heap)(H:Hp):Heap:=W.hideAll h (trk h H)
theorem A8 (h:Heap)(H:Hp):(wJ h H).objs.size=h.objs.size:=W.hideAll_size _ _
theorem Cb {h:Heap}{H:Hp}{b:Addr}{o:Obj}(e:h.get? b=some o)(n:H b=none):(wJ h H).get? b=some o:=
 W.hideAll_get _ e fun hm=>by
  have q:(H b).isSome=true:=(List.mem_filter.mp hm).2
  rw [n] at q;simp at q
theorem EB {h:Heap}{H:Hp}{b:Addr}{o:Obj}(e:(wJ h H).get? b=some o):h.get? b=some o/\H b=none:=by
 have e':h.get? b=some o:=W.of_hideAll (trk h H) e
 refine ⟨e',?_⟩
 cases q:H b with
 | none=>rfl
 | some x=>
  have hm:b∈trk h H:=List.mem_filter.mpr ⟨List.mem_range.mpr (Heap.lt_size e'),by simp [q]⟩
  have z:(wJ h H).get? b=none:=W.hideAll_none (trk h H) hm
  rw [z] at e;cases e
noncomputable def EC (g h:Heap)(L:Addr):List (Addr×Obj):=(List.range h.objs.size).filterMap fun a=>if a=L\/(g.get? a).isSome=true then none else (h.get? a).map fun o=>(a,o)
noncomputable def jT (g h:Heap)(L d:Addr):List (Addr×Obj):=(EC g h L).filter fun p=>decide (p.1≠d)
structure Mod (K:W.Frag)(mg:Str->Option Value)(base:Heap):Prop where
 kin:K.In base
 glob:base.Ns mainGlobals mg
 blt:∃mb,base.Ns builtinsNs mb/\∀x:Str,x≠"__name__"->mb x=bootBuiltins x
 nolimit:base.NoLimit
structure Cx where
 prog:Program
 w:World
 K:W.Frag
 mg:Str->Option Value
 base:Heap
 A:Around
 N:List Str
 s₀:Shared
 H₀:Hp
 env:Env
 outer:List Env
 stack:List Env
 ex:List Addr
 fn:Str->Bool
 calm:Bool
 pn:List (Addr×Obj)
 xe:Value->Shared->Prop
noncomputable def frs (l:List Env):List Addr:=l.filterMap (·.frame)
noncomputable abbrev Cx.fs (X:Cx):List Addr:=frs X.outer
def Vis (sc:Scope)(x:Str):Prop:=sc.names.lookup x=some .local\/sc.names.lookup x=some .cell\/sc.names.lookup x=some .free
def Loc (sc:Scope)(x:Str):Prop:=sc.names.lookup x=some .local\/sc.names.lookup x=some .cell
def Kn (env:Env)(h:Heap)(m:Str->Option Value)(x:Str)(u:Value):Prop:=
 (env.kindOf x=some .local/\m x=some u)\/((env.kindOf x=some .cell\/env.kindOf x=some .free)/\∃c,env.cells.lookup x=some c/\h.IsCell c (some u))
structure Cx.Ok (X:Cx):Prop where
 mod:Mod X.K X.mg X.base
 kind:X.env.scope.kind=.function
 glob:X.env.globals=mainGlobals
 blt:X.env.builtins=builtinsNs
 above:X.s₀.heap.objs.size<=X.env.locals
 inj:∀x y c,X.env.cells.lookup x=some c->X.env.cells.lookup y=some c->x=y
 has:∀x,(X.env.kindOf x=some .cell\/X.env.kindOf x=some .free)->∃c,X.env.cells.lookup x=some c
 cab:∀x c,X.fn x=true->X.env.cells.lookup x=some c->X.s₀.heap.objs.size<=c
 hd:X.calm=true->X.A.handled=none
 frames:X.A.frames=some X.stack
 stk:X.stack=X.outer\/(X.stack=X.env::X.outer/\X.env.frame=some X.env.locals)
 exf:∀b∈X.ex,b≠X.env.locals/\∀x c,X.env.cells.lookup x=some c->c≠b
 bs:∀b o,X.base.get? b=some o->X.s₀.heap.get? b=some o/\X.H₀ b=none
 bsz:X.base.objs.size<=X.s₀.heap.objs.size
 noex:∀b o,X.base.get? b=some o->b∉X.ex
 exfs:∀b∈X.ex,b∉X.fs
 funs:X.s₀.heap.FunFrames X.base X.outer
 frf:∀b∈X.fs,X.H₀ b=none
structure Inv (X:Cx)(pins:List (Addr×Obj))(σ:List (Option V))(H:Hp)(s:Shared):Prop where
 ok:X.Ok
 os:s.os=X.s₀.os
 bare:AllBare s.gens
 base:Un X.fs X.ex X.H₀ H X.s₀.heap s.heap
 loc:∃m,s.heap.Ns X.env.locals m/\∀(i:Nat) (x:Str) (v:V),X.N[i]?=some x->σ[i]?=some (some v)->Vis X.env.scope x->∃u,bA v u/\Kn X.env s.heap m x u
 cell:∀x c,X.env.cells.lookup x=some c->∃v,s.heap.IsCell c v
 free:H X.env.locals=none
 freeC:∀x c,X.env.cells.lookup x=some c->H c=none
 pin:∀p∈X.pn++pins,s.heap.get? p.1=some p.2/\H p.1=none/\p.1≠X.env.locals/\p.1∉X.fs/\∀v,p.2.data≠.cell v
 hok:HOk X.prog X.w H s.heap
 len:σ.length=X.N.length
section
variable {X:Cx}{pins:List (Addr×Obj)}{σ:List (Option V)}{H H':Hp}{s:Shared}{h':Heap}
theorem Cx.Ok.nofr (ok:X.Ok){b:Addr}{o:Obj}(e:X.base.get? b=some o):b∉X.fs:=fun hb=>by
 have:=(ok.funs.mem hb).1
 rw [e] at this;cases this
theorem Inv.bs (I:Inv X pins σ H s):∀b o,X.base.get? b=some o->s.heap.get? b=some o/\H b=none:=fun b o e=>
 ⟨I.base.keep b o (I.ok.bs b o e).1 (I.ok.bs b o e).2 (I.ok.nofr e) (I.ok.noex b o e),I.base.free b o (I.ok.bs b o e).1 (I.ok.bs b o e).2 (I.ok.noex b o e)⟩
theorem Inv.bk (I:Inv X pins σ H s):∀b o,X.base.get? b=some o->s.heap.get? b=some o:=fun b o e=>(I.bs b o e).1
theorem Inv.mod (I:Inv X pins σ H s):Mod X.K X.mg X.base:=I.ok.mod
theorem Inv.kIn (I:Inv X pins σ H s):X.K.In s.heap:=I.ok.mod.kin.keeps I.bk
theorem Inv.fr (I:Inv X pins σ H s):∃m,Fr X.base X.env.locals s.heap m:=
 let ⟨m,hn,_⟩:=I.loc
 ⟨m,hn,I.bk,Nat.le_trans I.ok.bsz I.ok.above⟩
theorem Inv.lt (I:Inv X pins σ H s):X.env.locals < s.heap.objs.size:=let ⟨_,hn,_⟩:=I.loc;hn.lt
theorem Inv.sz (I:Inv X pins σ H s):X.s₀.heap.objs.size<=s.heap.objs.size:=Nat.le_trans I.ok.above (Nat.le_of_lt I.lt)
theorem Inv.nofs (I:Inv X pins σ H s){a:Addr}(h:s.heap.objs.size<=a):a∉X.fs:=fun hb=>by
 obtain ⟨_,o,ho,_⟩:=I.ok.funs.mem hb
 exact absurd (Nat.lt_of_lt_of_le (Heap.lt_size ho) (Nat.le_trans I.sz h)) (Nat.lt_irrefl _)
theorem Inv.cne (I:Inv X pins σ H s):∀x c,X.env.cells.lookup x=some c->c≠X.env.locals:=fun x c e z=>by
 obtain ⟨v,o,ho,hd⟩:=I.cell x c e
 obtain ⟨m,⟨o',es,ep,ho',hd',_⟩,_⟩:=I.loc
 rw [z,ho'] at ho;cases ho;rw [hd'] at hd;cases hd
theorem Inv.funs (I:Inv X pins σ H s):s.heap.FunFrames X.base X.outer:=by
 have all:∀(l:List Env),(∀b∈frs l,b∈X.fs)->X.s₀.heap.FunFrames X.base l->s.heap.FunFrames X.base l:=by
  intro l
  induction l with
  | nil=>intro _ _;trivial
  | cons env r ih=>
   intro hs hl
   obtain ⟨hk,⟨L,o,hf,hn,ho,hd⟩,hr⟩:=hl
   have hL:L∈X.fs:=hs L (by unfold frs;rw [List.filterMap_cons,hf];exact List.mem_cons_self)
   obtain ⟨sl,e⟩:=I.base.slot L o ho (I.ok.frf L hL) hL fun z=>I.ok.exfs L z hL
   exact ⟨hk,⟨L,_,hf,hn,e,hd⟩,ih (fun b hb=>hs b (by unfold frs;rw [List.filterMap_cons,hf];exact List.mem_cons_of_mem _ hb)) hr⟩
 exact all X.outer (fun _ hb=>hb) I.ok.funs
theorem Inv.stack (I:Inv X pins σ H s):s.heap.FunFrames X.base X.stack:=by
 rcases I.ok.stk with e | ⟨e,hf⟩
 ·rw [e];exact I.funs
 ·rw [e]
  obtain ⟨m,hn,_⟩:=I.loc
  refine .cons (by rw [I.ok.kind];decide) hf hn ?_ I.funs
  exact Heap.get?_none_of_le (Nat.le_trans I.ok.bsz I.ok.above)
theorem Inv.stkSub (I:Inv X pins σ H s):∀b∈frs X.stack,b∈X.env.locals::X.fs:=fun b hb=>by
 rcases I.ok.stk with e | ⟨e,hf⟩
 ·rw [e] at hb;exact List.mem_cons_of_mem _ hb
 ·rw [e] at hb
  unfold frs at hb
  rw [List.filterMap_cons,hf] at hb
  exact hb
theorem Inv.stkFree (I:Inv X pins σ H s):∀b∈frs X.stack,H b=none:=fun b hb=>by
 rcases List.mem_cons.mp (I.stkSub b hb) with e | hb
 ·rw [e];exact I.free
 ·obtain ⟨_,o,ho,_⟩:=I.ok.funs.mem hb
  exact I.base.free b o ho (I.ok.frf b hb) fun z=>I.ok.exfs b z hb
theorem Inv.step {g':Array GenState}{t':Nat}{d':Drawn}{ch:List Addr}(I:Inv X pins σ H s)
  (hch:∀b∈ch,(b∈X.ex\/X.s₀.heap.objs.size<=b)/\b≠X.env.locals/\(∀x c,X.env.cells.lookup x=some c->c≠b)/\∀p∈X.pn++pins,p.1≠b)
  (keep:∀b o,b≠X.env.locals->b∉X.fs->b∉ch->s.heap.get? b=some o->H b=none->h'.get? b=some o)
  (slot:∀b o,b≠X.env.locals->b∈X.fs->b∉ch->s.heap.get? b=some o->H b=none->∃sl,h'.get? b=some {o with slots:=sl}) (free:∀b o,b∉ch->s.heap.get? b=some o->H b=none->H' b=none)
  (there:∀b o,b∉ch->s.heap.get? b=some o->∃o',h'.get? b=some o')
  (tups:∀b xs,H b=some (.tup xs)->H' b=some (.tup xs)) (frzs:∀b o u,H b=some (.frz o u)->H' b=some (.frz o u)) (tbls:∀b ps,H b=some (.tbl ps)->∃more,H' b=some (.tbl (ps++more)))
  (ns:∀m,s.heap.Ns X.env.locals m->h'.Ns X.env.locals m) (hok:HOk X.prog X.w H' h') (hg:AllBare g') :
  Inv X pins σ H' {s with heap:=h',gens:=g',drawn:=d',toks:=t'}:=by
 have neL:∀b o,X.s₀.heap.get? b=some o->b≠X.env.locals:=fun b o e=>Nat.ne_of_lt (Nat.lt_of_lt_of_le (Heap.lt_size e) I.ok.above)
 have neC:∀b o,X.s₀.heap.get? b=some o->b∉X.ex->b∉ch:=fun b o e hx hb=>by
  rcases (hch b hb).1 with z | z
  ·exact hx z
  ·exact absurd (Nat.lt_of_lt_of_le (Heap.lt_size e) z) (Nat.lt_irrefl _)
 have cellK:∀x c,X.env.cells.lookup x=some c->∀v,s.heap.IsCell c v->h'.IsCell c v:=fun x c e v ⟨o,ho,hd⟩=>by
  have nch:c∉ch:=fun z=>(hch c z).2.2.1 x c e rfl
  by_cases hc:c∈X.fs
  ·obtain ⟨sl,q⟩:=slot c o (I.cne x c e) hc nch ho (I.freeC x c e)
   exact ⟨_,q,hd⟩
  ·exact ⟨o,keep c o (I.cne x c e) hc nch ho (I.freeC x c e),hd⟩
 refine ⟨I.ok,I.os,hg,⟨fun b o e n hb hx=>?_,fun b o e n hb hx=>?_,fun b o e n hx=>?_,fun b o e hx=>?_,fun b xs e=>tups b xs (I.base.tups b xs e),fun b o xs e=>frzs b o xs (I.base.frzs b o xs e),fun b ps e=>?_⟩,?_,fun x c e=>?_,?_,fun x c e=>?_,fun p hp=>?_,hok,I.len⟩
 ·exact keep b o (neL b o e) hb (neC b o e hx) (I.base.keep b o e n hb hx) (I.base.free b o e n hx)
 ·obtain ⟨sl,e1⟩:=I.base.slot b o e n hb hx
  obtain ⟨sl',e2⟩:=slot b _ (neL b o e) hb (neC b o e hx) e1 (I.base.free b o e n hx)
  exact ⟨sl',e2⟩
 ·obtain ⟨o',e1⟩:=I.base.there b o e hx
  exact free b o' (neC b o e hx) e1 (I.base.free b o e n hx)
 ·obtain ⟨o',e1⟩:=I.base.there b o e hx
  exact there b o' (neC b o e hx) e1
 ·obtain ⟨m1,e1⟩:=I.base.tbls b ps e
  obtain ⟨m2,e2⟩:=tbls b _ e1
  exact ⟨m1++m2,by rw [e2,Array.append_assoc]⟩
 ·obtain ⟨m,hn,hl⟩:=I.loc
  refine ⟨m,ns m hn,fun i x v e1 e2 e3=>?_⟩
  obtain ⟨u,r,l⟩:=hl i x v e1 e2 e3
  refine ⟨u,r,?_⟩
  rcases l with l | ⟨k,c,e,z⟩
  ·exact .inl l
  ·exact .inr ⟨k,c,e,cellK x c e _ z⟩
 ·obtain ⟨v,z⟩:=I.cell x c e
  exact ⟨v,cellK x c e v z⟩
 ·obtain ⟨m,⟨o,_,_,ho,_⟩,_⟩:=I.loc
  exact free _ o (fun z=>(hch _ z).2.1 rfl) ho I.free
 ·obtain ⟨v,o,ho,hd⟩:=I.cell x c e
  exact free c o (fun z=>(hch c z).2.2.1 x c e rfl) ho (I.freeC x c e)
 ·obtain ⟨e,n,ne,nf,d⟩:=I.pin p hp
  have nch:p.1∉ch:=fun z=>(hch p.1 z).2.2.2 p hp rfl
  exact ⟨keep p.1 p.2 ne nf nch e n,free p.1 p.2 nch e n,ne,nf,d⟩
theorem Inv.un {t':Nat}(I:Inv X pins σ H s)(u:Un X.fs [] H H' s.heap h')(hok:HOk X.prog X.w H' h'):Inv X pins σ H' {s with heap:=h',toks:=t'}:=by
 obtain ⟨m,⟨o,es,ep,ho,r⟩,_⟩:=id I.loc
 obtain ⟨sl,hL⟩:=u.any ho I.free (by simp)
 exact I.step (g':=s.gens) (d':=s.drawn) (ch:=[]) (fun _ z=>nomatch z) (fun b o _ hb _ e n=>u.keep b o e n hb (by simp)) (fun b o _ hb _ e n=>u.slot b o e n hb (by simp)) (fun b o _ e n=>u.free b o e n (by simp)) (fun b o _ e=>u.there b o e (by simp)) u.tups u.frzs u.tbls (fun m' hm=>by
  obtain ⟨o',es',ep',ho',r'⟩:=hm
  rw [ho] at ho';cases ho'
  exact ⟨_,es',ep',hL,r'⟩) hok I.bare
theorem Inv.call {g':Array GenState}{t':Nat}{d':Drawn}{ch:List Addr}(I:Inv X pins σ H s)(u:Un (frs X.stack) ch H H' s.heap h')(hok:HOk X.prog X.w H' h')(hg:AllBare g')
  (hch:∀b∈ch,(b∈X.ex\/X.s₀.heap.objs.size<=b)/\b≠X.env.locals/\(∀x c,X.env.cells.lookup x=some c->c≠b)/\∀p∈X.pn++pins,p.1≠b) :
  Inv X pins σ H' {s with heap:=h',gens:=g',drawn:=d',toks:=t'}:=by
 obtain ⟨m,⟨o,es,ep,ho,r⟩,_⟩:=id I.loc
 obtain ⟨sl,hL⟩:=u.any ho I.free fun z=>(hch _ z).2.1 rfl
 exact I.step (ch:=ch) hch (fun b o hL hb hc e n=>u.keep b o e n (fun z=>(List.mem_cons.mp (I.stkSub b z)).elim hL hb) hc) (fun b o _ _ hc e n=>u.any e n hc) (fun b o hc e n=>u.free b o e n hc) (fun b o hc e=>u.there b o e hc) u.tups u.frzs u.tbls (fun m' hm=>by
  obtain ⟨o',es',ep',ho',r'⟩:=hm
  rw [ho] at ho';cases ho'
  exact ⟨_,es',ep',hL,r'⟩) hok hg
theorem Inv.turned {t':Nat}{it:Addr}(I:Inv X pins σ H s)(k:∀b o,b≠it->s.heap.get? b=some o->h'.get? b=some o)(hn:H it=none)(hL:it≠X.env.locals)
  (h1:it∈X.ex\/X.s₀.heap.objs.size<=it) (h2:∀x c,X.env.cells.lookup x=some c->c≠it) (h3:∀p∈X.pn++pins,p.1≠it):Inv X pins σ H {s with heap:=h',toks:=t'}:=by
 have nit:∀b u,H b=some u->b≠it:=fun b u e z=>by rw [z,hn] at e;cases e
 refine I.step (g':=s.gens) (d':=s.drawn) (ch:=[it]) (fun b hb=>?_) (fun b o _ _ hc e _=>k b o (fun z=>hc (by simp [z])) e) (fun b o _ _ hc e _=>⟨o.slots,k b o (fun z=>hc (by simp [z])) e⟩) (fun _ _ _ _ n=>n)
  (fun b o hc e=>⟨o,k b o (fun z=>hc (by simp [z])) e⟩) (fun _ _ e=>e) (fun _ _ _ e=>e) (fun b ps e=>⟨#[],by rw [e];simp⟩) (fun m hm=>?_) (fun b u e=>?_) I.bare
 ·have e:b=it:=by simpa using hb
  subst e
  exact ⟨h1,hL,h2,h3⟩
 ·obtain ⟨o,es,ep,ho,r⟩:=hm
  exact ⟨o,es,ep,k _ o (Ne.symm hL) ho,r⟩
 ·refine (I.hok b u e).stay (fun c v hc q=>k c v ?_ q) (fun _ q=>q) fun _ _ q=>q
  rcases hc with z | z
  ·rw [z];exact nit b u e
  ·exact nit c _ z
theorem Inv.tok (I:Inv X pins σ H s)(t:Nat):Inv X pins σ H {s with toks:=t}:=I.un (h':=s.heap) (t':=t) Un.refl I.hok
theorem Inv.kept {t':Nat}(I:Inv X pins σ H s)(k:∀b u,s.heap.get? b=some u->h'.get? b=some u):Inv X pins σ H {s with heap:=h',toks:=t'}:=I.un (Un.kept k) (I.hok.kept k)
theorem Inv.laid {a:Addr}{o:HO}{t':Nat}(I:Inv X pins σ H s)(k:∀b u,s.heap.get? b=some u->h'.get? b=some u)(hp:s.heap.objs.size<=a)(new:dE X.prog X.w (upd H a o) h' a o) :
  Inv X pins σ (upd H a o) {s with heap:=h',toks:=t'}:=I.un (Un.laid k hp (I.hok.fresh hp)) (I.hok.laid k hp new)
theorem Inv.write {x e:Addr}{o:HO}{t':Nat}(I:Inv X pins σ H s)(mu:Mut (H x))(he:e=x\/H e=some (.own x))(k:∀b u,b≠e->s.heap.get? b=some u->h'.get? b=some u)(heo:∃u,h'.get? e=some u)
  (new:dE X.prog X.w (upd H x o) h' x o):Inv X pins σ (upd H x o) {s with heap:=h',toks:=t'}:=I.un (Un.write mu he k heo) (I.hok.write mu he k heo new)
theorem Inv.weak {σ':List (Option V)}(I:Inv X pins σ H s)(hl:σ'.length=σ.length)(w:∀(i:Nat) v,σ'[i]?=some (some v)->σ[i]?=some (some v)):Inv X pins σ' H s:=
 ⟨I.ok,I.os,I.bare,I.base,let ⟨m,hn,hl'⟩:=I.loc;⟨m,hn,fun i x v e1 e2 e3=>hl' i x v e1 (w i v e2) e3⟩,I.cell,I.free,I.freeC,I.pin,I.hok,hl.trans I.len⟩
theorem Inv.pins_of {pins':List (Addr×Obj)}(I:Inv X pins σ H s)(h:∀p∈pins',s.heap.get? p.1=some p.2/\H p.1=none/\p.1≠X.env.locals/\p.1∉X.fs/\∀v,p.2.data≠.cell v):Inv X pins' σ H s:=
 ⟨I.ok,I.os,I.bare,I.base,I.loc,I.cell,I.free,I.freeC,fun p hp=>(List.mem_append.mp hp).elim (fun z=>I.pin p (List.mem_append_left _ z)) (h p),I.hok,I.len⟩
theorem xI {N:List Str}(hN:N.Nodup){i j:Nat}{x:Str}(a:N[i]?=some x)(b:N[j]?=some x):i=j:=by
 obtain ⟨h1,e1⟩:=List.getElem?_eq_some_iff.mp a
 obtain ⟨h2,e2⟩:=List.getElem?_eq_some_iff.mp b
 exact (List.getElem_inj hN).mp (e1.trans e2.symm)
theorem vK {M:Model}{A:Around}{E:Value->Shared->Prop}{i:Nat}{x:Str}{v:V}{u:Value}{Q:Unit->Shared->Prop}(I:Inv X pins σ H s)(hN:X.N.Nodup)(hi:X.N[i]?=some x)(hx:Loc X.env.scope x)(r:bA v u)
  (h:∀s',Inv X pins (σ.set i (some v)) H s'->(∃a,Heap.SameBut a s.heap s'.heap/\(a=X.env.locals\/X.env.cells.lookup x=some a))->Q () s') (hf:X.fn x=true\/X.env.scope.names.lookup x=some .local:=by first | exact .inl rfl | exact .inr rfl | assumption):wpAny M A (storeName X.env x u) Q E s:=by
 obtain ⟨m,hn,hl⟩:=id I.loc
 have hcls:(X.env.scope.kind == .class || (X.env.scope.kind == .module && X.env.locals != X.env.globals))=false:=by rw [I.ok.kind];rfl
 have hiσ:i < σ.length:=by rw [I.len];exact (List.getElem?_eq_some_iff.mp hi).1
 have cne:=I.cne
 have tracked:∀{a:Addr} {h':Heap},(∃o,s.heap.get? a=some o/\H a=none)->Heap.SameBut a s.heap h'->HOk X.prog X.w H h':=fun {a h'} ha hs b ob e=>by
  obtain ⟨_,_,hfree⟩:=ha
  refine (I.hok b ob e).stay (fun c w' hc q=>(hs.2 c ?_).trans q) (fun _ q=>q) fun _ _ q=>q
  rintro rfl
  rcases hc with rfl | hc
  ·rw [hfree] at e;cases e
  ·rw [hfree] at hc;cases hc
 rcases hx with hk | hk
 ·refine wpAny_storeName_local hk hn (fun h' hn' hs=>?_) hcls
  obtain ⟨oL,_,_,hoL,_⟩:=id hn
  refine h _ ⟨I.ok,I.os,I.bare,⟨fun b o e n hb hx=>?_,fun b o e n hb hx=>?_,I.base.free,fun b o e hx=>?_,I.base.tups,I.base.frzs,I.base.tbls⟩,⟨_,hn',fun j y v' e1 e2 e3=>?_⟩,fun y c e=>?_,I.free,I.freeC,fun p hp=>?_,tracked ⟨oL,hoL,I.free⟩ hs,by simpa using I.len⟩ ⟨_,hs,.inl rfl⟩
  ·exact (hs.2 b (Nat.ne_of_lt (Nat.lt_of_lt_of_le (Heap.lt_size e) I.ok.above))).trans (I.base.keep b o e n hb hx)
  ·obtain ⟨sl,e1⟩:=I.base.slot b o e n hb hx
   exact ⟨sl,(hs.2 b (Nat.ne_of_lt (Nat.lt_of_lt_of_le (Heap.lt_size e) I.ok.above))).trans e1⟩
  ·obtain ⟨o',e1⟩:=I.base.there b o e hx
   exact ⟨o',(hs.2 b (Nat.ne_of_lt (Nat.lt_of_lt_of_le (Heap.lt_size e) I.ok.above))).trans e1⟩
  ·by_cases hj:j=i
   ·subst hj
    rw [hi] at e1;cases e1
    rw [List.getElem?_set_self hiσ] at e2
    cases e2
    exact ⟨u,r,.inl ⟨hk,by simp⟩⟩
   ·rw [List.getElem?_set_ne (Ne.symm hj)] at e2
    obtain ⟨u',r',q⟩:=hl j y v' e1 e2 e3
    refine ⟨u',r',?_⟩
    rcases q with ⟨k,e⟩ | ⟨k,c,e,z⟩
    ·refine .inl ⟨k,?_⟩
     have:y≠x:=fun e=>hj (xI hN e1 (e▸hi))
     simp [this,e]
    ·exact .inr ⟨k,c,e,z.sameBut hs (cne y c e)⟩
  ·obtain ⟨w',z⟩:=I.cell y c e
   exact ⟨w',z.sameBut hs (cne y c e)⟩
  ·obtain ⟨e,n,ne,nf,d⟩:=I.pin p hp
   exact ⟨(hs.2 p.1 ne).trans e,n,ne,nf,d⟩
 ·have hfn:X.fn x=true:=by
   rcases hf with z | z
   ·exact z
   ·rw [z] at hk;cases hk
  obtain ⟨c,hc⟩:=I.ok.has x (.inl hk)
  obtain ⟨w',z⟩:=I.cell x c hc
  refine wpAny_storeName_cell I.ok.kind hk hc z (fun h' hc' hs=>?_)
  obtain ⟨oc,hoc,hocd⟩:=id z
  refine h {s with heap:=h'} ⟨I.ok,I.os,I.bare,⟨fun b o e n hb hx=>?_,fun b o e n hb hx=>?_,I.base.free,fun b o e hx=>?_,I.base.tups,I.base.frzs,I.base.tbls⟩,⟨m,hn.sameBut hs (Ne.symm (cne x c hc)),fun j y v' e1 e2 e3=>?_⟩,fun y c' e=>?_,I.free,I.freeC,fun p hp=>?_,tracked ⟨oc,hoc,I.freeC x c hc⟩ hs,by simpa using I.len⟩ ⟨c,hs,.inr hc⟩
  ·exact (hs.2 b (Nat.ne_of_lt (Nat.lt_of_lt_of_le (Heap.lt_size e) (I.ok.cab x c hfn hc)))).trans (I.base.keep b o e n hb hx)
  ·obtain ⟨sl,e1⟩:=I.base.slot b o e n hb hx
   exact ⟨sl,(hs.2 b (Nat.ne_of_lt (Nat.lt_of_lt_of_le (Heap.lt_size e) (I.ok.cab x c hfn hc)))).trans e1⟩
  ·obtain ⟨o',e1⟩:=I.base.there b o e hx
   exact ⟨o',(hs.2 b (Nat.ne_of_lt (Nat.lt_of_lt_of_le (Heap.lt_size e) (I.ok.cab x c hfn hc)))).trans e1⟩
  ·by_cases hj:j=i
   ·subst hj
    rw [hi] at e1;cases e1
    rw [List.getElem?_set_self hiσ] at e2
    cases e2
    exact ⟨u,r,.inr ⟨.inl hk,c,hc,hc'⟩⟩
   ·rw [List.getElem?_set_ne (Ne.symm hj)] at e2
    obtain ⟨u',r',q⟩:=hl j y v' e1 e2 e3
    refine ⟨u',r',?_⟩
    rcases q with q | ⟨k,c',e,z'⟩
    ·exact .inl q
    ·refine .inr ⟨k,c',e,z'.sameBut hs ?_⟩
     rintro rfl
     exact hj (xI hN e1 (I.ok.inj _ _ _ e hc▸hi))
  ·by_cases hcc:c'=c
   ·subst hcc;exact ⟨_,hc'⟩
   ·obtain ⟨w2,z2⟩:=I.cell y c' e
    exact ⟨w2,z2.sameBut hs hcc⟩
  ·obtain ⟨e,n,ne,nf,d⟩:=I.pin p hp
   refine ⟨(hs.2 p.1 ?_).trans e,n,ne,nf,d⟩
   intro q
   rw [q,hoc] at e
   have q':oc=p.2:=Option.some.inj e
   exact d w' (by rw [←q'];exact hocd)
theorem oR {M:Model}{A:Around}{E:Value->Shared->Prop}{i:Nat}{x:Str}{v:V}{u:Value}{Q:Unit->Shared->Prop}(I:Inv X pins σ H s)(hN:X.N.Nodup)(hi:X.N[i]?=some x)(hx:Loc X.env.scope x)(r:bA v u)
  (h:∀s',Inv X pins (σ.set i (some v)) H s'->Q () s') (hf:X.fn x=true\/X.env.scope.names.lookup x=some .local:=by first | exact .inl rfl | exact .inr rfl | assumption):wpAny M A (storeName X.env x u) Q E s:=
 vK I hN hi hx r (fun s' I' _=>h s' I') hf
theorem Inv.call' {s':Shared}{ch:List Addr}(I:Inv X pins σ H s)(ho:s'.os=s.os)(u:Un (frs X.stack) ch H H' s.heap s'.heap)(hok:HOk X.prog X.w H' s'.heap)(hg:AllBare s'.gens)
  (hch:∀b∈ch,(b∈X.ex\/X.s₀.heap.objs.size<=b)/\b≠X.env.locals/\(∀x c,X.env.cells.lookup x=some c->c≠b)/\∀p∈X.pn++pins,p.1≠b):Inv X pins σ H' s':=by
 obtain ⟨h',g',d',t',o'⟩:=s'
 have e:o'=s.os:=ho
 subst e
 exact I.call (g':=g') (t':=t') (d':=d') u hok hg hch
end
noncomputable abbrev XK:=Value->Option Addr->Hp->Prop
noncomputable abbrev St:=List (Option V)
noncomputable abbrev VK:=V->Hp->Prop
noncomputable abbrev TE:=St->Hp->VK->Prop
noncomputable abbrev TT:=St->Hp->(Bool->Hp->Prop)->Prop
noncomputable abbrev TA:=St->Hp->(List V->Hp->Prop)->Prop
structure jU where
 nx:St->Hp->Prop
 rt:VK
 bk:St->Hp->Prop:=fun _ _=>False
 ct:St->Hp->Prop:=fun _ _=>False
noncomputable abbrev TS:=jU->St->Hp->Prop
def EP (X:Cx)(pins:List (Addr×Obj))(σ:St)(Q:VK)(u:Value)(s':Shared):Prop:=∃v H',Inv X pins σ H' s'/\bA v u/\Q v H'
def TP (X:Cx)(pins:List (Addr×Obj))(σ:St)(Q:Bool->Hp->Prop)(b:Bool)(s':Shared):Prop:=∃H',Inv X pins σ H' s'/\Q b H'
def AP (X:Cx)(pins:List (Addr×Obj))(σ:St)(Q:List V->Hp->Prop)(us:List Value)(s':Shared):Prop:=∃vs H',Inv X pins σ H' s'/\a8 vs us/\Q vs H'
def SP (X:Cx)(pins:List (Addr×Obj))(D:jU)(f:Flow)(s':Shared):Prop:=
 match f with
 | .next=>∃σ' H',Inv X pins σ' H' s'/\D.nx σ' H'
 | .brk=>∃σ' H',Inv X pins σ' H' s'/\D.bk σ' H'
 | .cont=>∃σ' H',Inv X pins σ' H' s'/\D.ct σ' H'
 | .ret u=>∃v σ' H',Inv X pins σ' H' s'/\bA v u/\D.rt v H'
def PE (X:Cx)(e:Expr)(t:TE):Prop:=
 ∀(pins:List (Addr×Obj)) (s:Shared) (σ:St) (H:Hp) (Q:VK),Inv X pins σ H s->t σ H Q->wpAny (model X.prog X.w) X.A (eval e X.env) (EP X pins σ Q) X.xe s
def PT (X:Cx)(e:Expr)(t:TT):Prop:=
 ∀(pins:List (Addr×Obj)) (s:Shared) (σ:St) (H:Hp) (Q:Bool->Hp->Prop),Inv X pins σ H s->t σ H Q->wpAny (model X.prog X.w) X.A (isTrue e X.env (eval e X.env)) (TP X pins σ Q) X.xe s
def PW (X:Cx)(e:Expr)(t:TT):Prop:=
 ∀(bS:Sem Value) (pins:List (Addr×Obj)) (s:Shared) (σ:St) (H:Hp) (Q:Bool->Hp->Prop),Inv X pins σ H s->t σ H Q->wpAny (model X.prog X.w) X.A (isTrue e X.env bS) (TP X pins σ Q) X.xe s
theorem PW.pt {X:Cx}{e:Expr}{t:TT}(h:PW X e t):PT X e t:=h _
def PA (X:Cx)(es:List Expr)(t:TA):Prop:=
 ∀(pos:Pos) (pins:List (Addr×Obj)) (s:Shared) (σ:St) (H:Hp) (Q:List V->Hp->Prop),Inv X pins σ H s->t σ H Q->wpAny (model X.prog X.w) X.A (spliced (backTo pos (starEach es X.env))) (AP X pins σ Q) X.xe s
def PS (X:Cx)(st:Stmt)(t:TS):Prop:=
 ∀(pins:List (Addr×Obj)) (s:Shared) (σ:St) (H:Hp) (D:jU),Inv X pins σ H s->t D σ H->wpAny (model X.prog X.w) X.A (exec st X.env) (SP X pins D) X.xe s
def PSs (X:Cx)(st:List Stmt)(t:TS):Prop:=
 ∀(pins:List (Addr×Obj)) (s:Shared) (σ:St) (H:Hp) (D:jU),Inv X pins σ H s->t D σ H->wpAny (model X.prog X.w) X.A (execs st X.env) (SP X pins D) X.xe s
theorem thn {α:Type}{t:Sem α}{Q Q':α->Shared->Prop}{M:Model}{A:Around}{E:Value->Shared->Prop}{s:Shared}(h:wpAny M A t Q E s)(hQ:∀a s,Q a s->Q' a s):wpAny M A t Q' E s:=wpAny_mono h hQ fun _ _ x=>x
section
variable {X:Cx}
theorem bin {a b:Expr}{ta tb:TE}(ha:PE X a ta)(hb:PE X b tb){pins:List (Addr×Obj)}{s:Shared}{σ:St}{H:Hp}{R:V->V->Hp->Prop}(I:Inv X pins σ H s)(h:ta σ H fun x H1=>tb σ H1 fun y H2=>R x y H2)
  {α:Type} {Q:α->Shared->Prop} {f:Value->Value->Sem α}
  (hf:∀v u s2 x y H2,Inv X pins σ H2 s2->bA x v->bA y u->R x y H2->wpAny (model X.prog X.w) X.A (f v u) Q X.xe s2) :
  wpAny (model X.prog X.w) X.A (eval a X.env) (fun v s₁=>wpAny (model X.prog X.w) X.A (eval b X.env) (fun u s₂=>wpAny (model X.prog X.w) X.A (f v u) Q X.xe s₂) X.xe s₁) X.xe s:=by
 refine thn (ha pins s σ H _ I h) fun v s1 ⟨x,H1,I1,r1,q1⟩=>?_
 refine thn (hb pins s1 σ H1 _ I1 q1) fun u s2 ⟨y,H2,I2,r2,q2⟩=>?_
 exact hf v u s2 x y H2 I2 r1 r2 q2
noncomputable def Ho (i:Nat):TE:=fun σ H Q=>∃v,σ[i]?=some (some v)/\Q v H
noncomputable def tC (v:V):TE:=fun _ H Q=>Q v H
theorem Hq {i:Nat}{x:Str}{pos:Pos}(hN:X.N[i]?=some x)(hv:Vis X.env.scope x)(hd:(x == ("__debug__":Str))=false:=by decide)(hcd:(x == ("__classdict__":Str))=false:=by decide):PE X (.Name x pos) (Ho i):=by
 intro pins s σ H Q I h
 obtain ⟨v,e,h⟩:=h
 obtain ⟨m,hn,hl⟩:=I.loc
 obtain ⟨u,r,l⟩:=hl i x v hN e hv
 have fin:EP X pins σ Q u s:=⟨v,H,I,r,h⟩
 rcases l with ⟨hk,hm⟩ | ⟨hk,c,hc,hcell⟩
 ·exact wpAny_Name (wpAny_loadName_local I.ok.kind hk hn hm fin) hd
 ·rcases hk with hk | hk
  ·exact wpAny_Name (wpAny_loadName_cell I.ok.kind hk hc hcell fin) hd
  ·exact wpAny_Name (wpAny_loadName_free I.ok.kind hk hc hcell fin hcd) hd
theorem af {i j pos}:PE X (.Constant (.int i) j pos) (tC (.int i)):=fun _ _ _ H _ I h=>wpAny_Constant_int ⟨.int i,H,I.tok _,⟨_,rfl⟩,h⟩
theorem eF {b j pos}:PE X (.Constant (.bool b) j pos) (tC (.bl b)):=fun _ _ _ H _ I h=>Constant_bool ⟨.bl b,H,I,rfl,h⟩
theorem en {j pos}:PE X (.Constant .none j pos) (tC .non):=fun _ _ _ H _ I h=>Constant_none ⟨.non,H,I,rfl,h⟩
theorem aC {x j pos}:PE X (.Constant (.str x) j pos) (tC (.str x)):=fun _ _ _ H _ I h=>Calls.Constant_str ⟨.str x,H,I.tok _,⟨_,rfl⟩,h⟩
def Gl (X:Cx)(x:Str):Prop:=X.env.kindOf x=some .globalImplicit
theorem sP {E:Value->Shared->Prop}{pins:List (Addr×Obj)}{s:Shared}{σ:St}{H:Hp}{x:Str}{u:Value}{pos:Pos}{Q:Value->Shared->Prop}(I:Inv X pins σ H s)(hg:Gl X x)(hm:X.mg x=some u)(h:Q u s)
  (hd:(x == ("__debug__":Str))=false:=by decide):wpAny (model X.prog X.w) X.A (eval (.Name x pos) X.env) Q E s:=
 Calls.Name_function_global I.ok.kind hg (Calls.loadGlobal_global (by rw [I.ok.glob];exact I.mod.glob.keeps I.bk) hm h) hd
theorem nS {E:Value->Shared->Prop}{pins:List (Addr×Obj)}{s:Shared}{σ:St}{H:Hp}{x:Str}{u:Value}{pos:Pos}{Q:Value->Shared->Prop}(I:Inv X pins σ H s)(hg:Gl X x)(hm:X.mg x=none)(hv:bootBuiltins x=some u)(h:Q u s)
  (hn:x≠"__name__":=by decide) (hd:(x == ("__debug__":Str))=false:=by decide):wpAny (model X.prog X.w) X.A (eval (.Name x pos) X.env) Q E s:=by
 obtain ⟨mb,h1,h2⟩:=I.mod.blt
 exact Calls.Name_function_global I.ok.kind hg (Calls.loadGlobal_builtin (by rw [I.ok.glob];exact I.mod.glob.keeps I.bk) hm (by rw [I.ok.blt];exact h1.keeps I.bk) ((h2 x hn).trans hv) h) hd
theorem ED {x:Str}{v:V}{u:Value}{pos:Pos}(hg:Gl X x)(hm:X.mg x=some u)(r:bA v u)(hd:(x == ("__debug__":Str))=false:=by decide):PE X (.Name x pos) (tC v):=
 fun _ _ _ H _ I h=>sP I hg hm ⟨v,H,I,r,h⟩ hd
theorem cV {x:Str}{v:V}{u:Value}{pos:Pos}(hg:Gl X x)(hm:X.mg x=none)(hv:bootBuiltins x=some u)(r:bA v u)(hn:x≠"__name__":=by decide)(hd:(x == ("__debug__":Str))=false:=by decide):PE X (.Name x pos) (tC v):=
 fun _ _ _ H _ I h=>nS I hg hm hv ⟨v,H,I,r,h⟩ hn hd
variable {a b:Expr}{ta tb:TE}{pos:Pos}
def PC (X:Cx)(op:CmpOp)(a b:Expr)(t:TE):Prop:=
 ∀(pins:List (Addr×Obj)) (s:Shared) (σ:St) (H:Hp) (Q:VK),Inv X pins σ H s->t σ H Q->
  wpAny (model X.prog X.w) X.A (eval a X.env) (fun v s₁=>wpAny (model X.prog X.w) X.A (eval b X.env) (fun u s₂=>wpAny (model X.prog X.w) X.A (compareOp op v u) (EP X pins σ Q) X.xe s₂) X.xe s₁) X.xe s
theorem Cc (b:Expr){op:CmpOp}(h:op≠.In)(h2:op≠.NotIn):behindInMarks op b=false:=by
 have e1:(op == CmpOp.In)=false:=by cases op<;>first | rfl | exact absurd rfl h
 have e2:(op == CmpOp.NotIn)=false:=by cases op<;>first | rfl | exact absurd rfl h2
 cases b<;>simp [behindInMarks,e1,e2]
noncomputable def tB (t:TE):TT:=fun σ H Q=>t σ H fun x H1=>∃c,x=.bl c/\Q c H1
theorem Ko {op:CmpOp}{t:TE}(h:PC X op a b t)(h1:behindInMarks op b=false:=by first | exact Cc _ (by decide) (by decide) | rfl):PT X (.Compare a [op] [b] pos) (tB t):=by
 intro pins s σ H Q I hw
 refine wpAny_isTrue_Compare1 (thn (h pins s σ H _ I hw) fun v s1 h1=>thn h1 fun u s2 h2=>thn h2 fun c s3 ⟨x,H1,I1,r1,q1⟩=>?_) h1
 obtain ⟨d,rfl,q⟩:=q1
 cases r1
 exact wpAny_truthy_bool ⟨H1,I1,q⟩
theorem Hr {e:Expr}{t:TE}(h:PE X e t)(he:∀bS,isTrue e X.env bS=(do let v ←bS;standAt e.pos;holding [v] (truthy v)):=by intro _;rfl):PT X e (tB t):=by
 intro pins s σ H Q I hw
 refine isTrue_plain (thn (h pins s σ H _ I hw) fun v s1 ⟨x,H1,I1,r1,q1⟩=>?_) (he _)
 obtain ⟨d,rfl,q⟩:=q1
 cases r1
 exact wpAny_truthy_bool ⟨H1,I1,q⟩
variable {tA tB':TT}{jT:List Expr}
noncomputable def Jg (t u:TT):TT:=fun σ H Q=>t σ H fun c H1=>if c=true then u σ H1 Q else Q false H1
noncomputable def tOr (t u:TT):TT:=fun σ H Q=>t σ H fun c H1=>if c=true then Q true H1 else u σ H1 Q
noncomputable def Jh (t:TT):TT:=fun σ H Q=>t σ H fun c H1=>Q (!c) H1
theorem eL (ha:PT X a tA):PW X (.BoolOp .And [a] pos) tA:=by
 intro wh pins s σ H Q I h
 refine isTrue_and (thn (ha pins s σ H Q I h) fun c s1 e=>?_)
 cases c with
 | true=>exact isTrue_and_nil e
 | false=>exact e
theorem fQ (ha:PT X a tA):PW X (.BoolOp .Or [a] pos) tA:=by
 intro wh pins s σ H Q I h
 refine isTrue_or (thn (ha pins s σ H Q I h) fun c s1 e=>?_)
 cases c with
 | false=>exact isTrue_or_nil e
 | true=>exact e
theorem eP (ha:PT X a tA)(hb:PW X (.BoolOp .And (b::jT) pos) tB'):PW X (.BoolOp .And (a::b::jT) pos) (Jg tA tB'):=by
 intro wh pins s σ H Q I h
 refine isTrue_and (thn (ha pins s σ H _ I h) fun c s1 ⟨H1,I1,q1⟩=>?_)
 cases c with
 | true=>exact hb wh pins s1 σ H1 Q I1 q1
 | false=>exact ⟨H1,I1,q1⟩
theorem iZ (ha:PT X a tA)(hb:PW X (.BoolOp .Or (b::jT) pos) tB'):PW X (.BoolOp .Or (a::b::jT) pos) (tOr tA tB'):=by
 intro wh pins s σ H Q I h
 refine isTrue_or (thn (ha pins s σ H _ I h) fun c s1 ⟨H1,I1,q1⟩=>?_)
 cases c with
 | true=>exact ⟨H1,I1,q1⟩
 | false=>exact hb wh pins s1 σ H1 Q I1 q1
theorem cT (ha:PT X a tA):PT X (.UnaryOp .Not a pos) (Jh tA):=by
 intro pins s σ H Q I h
 exact isTrue_not (ha pins s σ H (fun c H1=>Q (!c) H1) I h)
noncomputable def Gy (ta tb:TE):TE:=fun σ H Q=>ta σ H fun x H1=>∃c,x=.bl c/\if c=true then tb σ H1 Q else Q (.bl false) H1
noncomputable def Ji (ta tb:TE):TE:=fun σ H Q=>ta σ H fun x H1=>∃c,x=.bl c/\if c=true then Q (.bl true) H1 else tb σ H1 Q
noncomputable def Gz (ta:TE):TE:=fun σ H Q=>ta σ H fun x H1=>∃c,x=.bl c/\Q (.bl (!c)) H1
theorem lB {op}{t:TE}(h:PE X a t):PE X (.BoolOp op [a] pos) t:=fun pins s σ H Q I hw=>BoolOp_one (h pins s σ H Q I hw)
theorem Hs (ha:PE X a ta)(hb:PE X (.BoolOp .And (b::jT) pos) tb):PE X (.BoolOp .And (a::b::jT) pos) (Gy ta tb):=by
 intro pins s σ H Q I h
 refine BoolOp_and (thn (ha pins s σ H _ I h) fun v s1 ⟨x,H1,I1,r1,q1⟩=>?_)
 obtain ⟨c,rfl,q1⟩:=q1
 cases r1
 refine wpAny_truthy_bool ?_
 cases c with
 | true=>exact hb pins s1 σ H1 Q I1 q1
 | false=>exact ⟨.bl false,H1,I1,rfl,q1⟩
theorem Jj (ha:PE X a ta)(hb:PE X (.BoolOp .Or (b::jT) pos) tb):PE X (.BoolOp .Or (a::b::jT) pos) (Ji ta tb):=by
 intro pins s σ H Q I h
 refine BoolOp_or (thn (ha pins s σ H _ I h) fun v s1 ⟨x,H1,I1,r1,q1⟩=>?_)
 obtain ⟨c,rfl,q1⟩:=q1
 cases r1
 refine wpAny_truthy_bool ?_
 cases c with
 | false=>exact hb pins s1 σ H1 Q I1 q1
 | true=>exact ⟨.bl true,H1,I1,rfl,q1⟩
theorem Ht (ha:PE X a ta):PE X (.UnaryOp .Not a pos) (Gz ta):=by
 intro pins s σ H Q I h
 refine UnaryOp_ (thn (ha pins s σ H _ I h) fun v s1 ⟨x,H1,I1,r1,q1⟩=>?_)
 obtain ⟨c,rfl,q1⟩:=q1
 cases r1
 exact not_of (wpAny_truthy_bool ⟨.bl (!c),H1,I1,rfl,q1⟩)
noncomputable def tIf (t:TT)(ta tb:TE):TE:=fun σ H Q=>t σ H fun c H1=>if c=true then ta σ H1 Q else tb σ H1 Q
theorem xJ {c:Expr}(hc:PT X c tA)(ha:PE X a ta)(hb:PE X b tb):PE X (.IfExp c a b pos) (tIf tA ta tb):=by
 intro pins s σ H Q I h
 refine wpAny_IfExp (thn (hc pins s σ H _ I h) fun d s1 ⟨H1,I1,q1⟩=>?_)
 cases d with
 | true=>exact ha pins s1 σ H1 Q I1 q1
 | false=>exact hb pins s1 σ H1 Q I1 q1
end
def SqL (K:W.Frag)(H:Hp)(a:Addr)(xs:List V):Prop:=
 Rd H a (.lst xs)\/
  ∃(o:Obj) (its:Array Value) (n:Nat),K.lookup a=some o/\o.cls=.type "list"/\o.dict=none/\o.data=.seq its n/\its.size<=sizeLine/\a8 xs its.toList
def SqT (K:W.Frag)(H:Hp)(a:Addr)(xs:List V):Prop:=
 Rd H a (.tup xs)\/
  ∃(o:Obj) (its:Array Value) (n:Nat),K.lookup a=some o/\o.cls=.type "tuple"/\o.data=.seq its n/\its.size<=sizeLine/\a8 xs its.toList
noncomputable def Kp:Value->Option V
 | .none=>some .non
 | .bool b=>some (.bl b)
 | .int i _=>some (.int i)
 | .str x _=>some (.str x)
 | .bytes b _=>some (.byt b)
 | .float b _=>some (.flt b)
 | .ref a=>some (.ref a)
 | .type n=>some (.ty n)
 | _=>none
theorem bA.abs {x:V}{u:Value}(r:bA x u):Kp u=some x:=by
 cases x with
 | non=>cases r;rfl
 | bl _=>cases r;rfl
 | int _=>obtain ⟨t,rfl⟩:=r;rfl
 | str _=>obtain ⟨t,rfl⟩:=r;rfl
 | byt _=>obtain ⟨t,rfl⟩:=r;rfl
 | flt _=>obtain ⟨t,rfl⟩:=r;rfl
 | ref _=>cases r;rfl
 | ty _=>cases r;rfl
theorem bA.inj {x y:V}{u:Value}(r:bA x u)(q:bA y u):x=y:=Option.some.inj (r.abs.symm.trans q.abs)
theorem a8.inj:∀{xs ys:List V} {us:List Value},a8 xs us->a8 ys us->xs=ys
 | _,_,_,.nil,.nil=>rfl
 | _,_,_,.cons r t,.cons r' t'=>by rw [r.inj r',a8.inj t t']
section
variable {X:Cx}{pins:List (Addr×Obj)}{σ:St}{H:Hp}{s:Shared}{a:Addr}{xs ys:List V}
theorem SqL.of {K:W.Frag}(h:H a=some (.lst xs)):SqL K H a xs:=.inl (.inl h)
theorem SqT.of {K:W.Frag}(h:H a=some (.tup xs)):SqT K H a xs:=.inl (.inl h)
theorem Inv.list (I:Inv X pins σ H s)(h:SqL X.K H a xs):∃its:List Value,a8 xs its/\PlainL s.heap a its.toArray/\xs.length<=sizeLine:=by
 rcases h with h | ⟨o,its,n,hk,hc,hd,hs,hz,r⟩
 ·obtain ⟨z,its,n,r,e⟩:=h.ok I.hok
  exact ⟨its,r,⟨_,n,e,rfl,rfl,rfl⟩,z⟩
 ·refine ⟨its.toList,r,⟨o,n,I.kIn a o hk,hc,hd,by simpa using hs⟩,?_⟩
  have e:=r.length
  simp only [Array.length_toList] at e
  omega
theorem Inv.tuple (I:Inv X pins σ H s)(h:SqT X.K H a xs):∃its:List Value,a8 xs its/\IsTup s.heap a its.toArray/\xs.length<=sizeLine:=by
 rcases h with h | ⟨o,its,n,hk,hc,hs,hz,r⟩
 ·obtain ⟨z,its,r,p⟩:=h.ok I.hok
  exact ⟨its,r,p.tup,z⟩
 ·refine ⟨its.toList,r,⟨o,I.kIn a o hk,hc,n,by simpa using hs⟩,?_⟩
  have e:=r.length
  simp only [Array.length_toList] at e
  omega
theorem Inv.list_inj (I:Inv X pins σ H s)(h:SqL X.K H a xs)(h':SqL X.K H a ys):xs=ys:=by
 obtain ⟨its,r,⟨o,n,e,_,_,d⟩,_⟩:=I.list h
 obtain ⟨its',r',⟨o',n',e',_,_,d'⟩,_⟩:=I.list h'
 rw [e] at e';cases e'
 rw [d] at d'
 injection d' with d1 _
 have:its=its':=by simpa using congrArg Array.toList d1
 subst this
 exact r.inj r'
end
noncomputable abbrev Cx.wish (X:Cx)(E:Value->Shared->Prop):Cx:={X with xe:=E}
noncomputable abbrev Cx.nox (X:Cx):Cx:=X.wish fun _ _=>False
theorem Cx.Ok.wish {X:Cx}(ok:X.Ok)(E:Value->Shared->Prop):(X.wish E).Ok:=
 ⟨ok.mod,ok.kind,ok.glob,ok.blt,ok.above,ok.inj,ok.has,ok.cab,ok.hd,ok.frames,ok.stk,ok.exf,ok.bs,ok.bsz,ok.noex,ok.exfs,ok.funs,ok.frf⟩
theorem Cx.Ok.unwish {X:Cx}{E:Value->Shared->Prop}(ok:(X.wish E).Ok):X.Ok:=
 ⟨ok.mod,ok.kind,ok.glob,ok.blt,ok.above,ok.inj,ok.has,ok.cab,ok.hd,ok.frames,ok.stk,ok.exf,ok.bs,ok.bsz,ok.noex,ok.exfs,ok.funs,ok.frf⟩
section
variable {X:Cx}{pins:List (Addr×Obj)}{σ:St}{H:Hp}{s:Shared}{E:Value->Shared->Prop}
theorem Inv.wish (I:Inv X pins σ H s)(E:Value->Shared->Prop):Inv (X.wish E) pins σ H s:=⟨I.ok.wish E,I.os,I.bare,I.base,I.loc,I.cell,I.free,I.freeC,I.pin,I.hok,I.len⟩
theorem Inv.unwish (I:Inv (X.wish E) pins σ H s):Inv X pins σ H s:=⟨I.ok.unwish,I.os,I.bare,I.base,I.loc,I.cell,I.free,I.freeC,I.pin,I.hok,I.len⟩
theorem SP.unwish {D:jU}{f:Flow}{s':Shared}(h:SP (X.wish E) pins D f s'):SP X pins D f s':=by
 cases f with
 | next=>obtain ⟨σ',H',I,q⟩:=h;exact ⟨σ',H',I.unwish,q⟩
 | brk=>obtain ⟨σ',H',I,q⟩:=h;exact ⟨σ',H',I.unwish,q⟩
 | cont=>obtain ⟨σ',H',I,q⟩:=h;exact ⟨σ',H',I.unwish,q⟩
 | ret u=>obtain ⟨v,σ',H',I,r,q⟩:=h;exact ⟨v,σ',H',I.unwish,r,q⟩
theorem PSs.nox {st:List Stmt}{t:TS}(h:PSs X.nox st t):PSs X st t:=fun pins s σ H D I hw=>
 wpAny_mono (h pins s σ H D (I.wish _) hw) (fun _ _ q=>q.unwish) fun _ _ z=>False.elim z
end
section
variable {X:Cx}{st:Stmt}{jT:List Stmt}{t u:TS}{e:Expr}{te:TE}{pos:Pos}
noncomputable def GA:TS:=fun D σ H=>D.nx σ H
noncomputable def Jk (t u:TS):TS:=fun D σ H=>t {D with nx:=u D} σ H
theorem aA:PSs X [] GA:=fun _ _ σ H _ I h=>wpAny_execs_nil ⟨σ,H,I,h⟩
theorem ae (h1:PS X st t)(h2:PSs X jT u):PSs X (st::jT) (Jk t u):=by
 intro pins s σ H D I h
 refine wpAny_execs_cons (thn (h1 pins s σ H {D with nx:=u D} I h) fun f s1 q=>?_)
 cases f with
 | next=>
  obtain ⟨σ',H',I',q⟩:=q
  exact h2 pins s1 σ' H' D I' q
 | ret v=>exact q
 | brk=>exact q
 | cont=>exact q
theorem ah (h1:PS X st t):PSs X [st] t:=by
 intro pins s σ H D I h
 refine wpAny_execs_cons (thn (h1 pins s σ H D I h) fun f s1 q=>?_)
 cases f with
 | next=>exact wpAny_execs_nil q
 | ret v=>exact q
 | brk=>exact q
 | cont=>exact q
theorem Inv.quiet {pins:List (Addr×Obj)}{σ:St}{H:Hp}{s:Shared}(I:Inv X pins σ H s):interactive X.env=false:=by simp [interactive,I.ok.kind]
noncomputable def GB (te:TE):TS:=fun D σ H=>te σ H fun _ H1=>D.nx σ H1
theorem a6 (he:PE X e te)(hs:swapsWith e none pos.line X.env=pure false:=by rfl):PS X (.Expr e pos) (GB te):=by
 intro pins s σ H D I h
 exact wpAny_Expr_any (thn (he pins s σ H _ I h) fun v s1 ⟨x,H1,I1,r1,q1⟩=>⟨σ,H1,I1,q1⟩) I.quiet hs
noncomputable def Jl (te:TE):TS:=fun D σ H=>te σ H D.rt
theorem aw (he:PE X e te):PS X (.Return (some e) pos) (Jl te):=by
 intro pins s σ H D I h
 exact wpAny_Return_some (thn (he pins s σ H _ I h) fun v s1 ⟨x,H1,I1,r1,q1⟩=>⟨x,σ,H1,I1,r1,q1⟩)
noncomputable def Jm:TS:=fun D _ H=>D.rt .non H
noncomputable def Jn (c:TT)(t u:TS):TS:=fun D σ H=>c σ H fun b H1=>if b=true then t D σ H1 else u D σ H1
theorem aJ {c:Expr}{a b:List Stmt}{tc:TT}(hc:PT X c tc)(ha:PSs X a t)(hb:PSs X b u):PS X (.If c a b pos) (Jn tc t u):=by
 intro pins s σ H D I h
 refine wpAny_If (thn (hc pins s σ H _ I h) fun d s1 ⟨H1,I1,q1⟩=>?_)
 cases d with
 | true=>exact ha pins s1 σ H1 D I1 q1
 | false=>exact hb pins s1 σ H1 D I1 q1
end
noncomputable abbrev TG:=V->St->Hp->(St->Hp->Prop)->Prop
noncomputable abbrev TGs:=List V->St->Hp->(St->Hp->Prop)->Prop
def PG (X:Cx)(target:Expr)(t:TG):Prop:=
 ∀(pins:List (Addr×Obj)) (s:Shared) (σ:St) (H:Hp) (v:V) (u:Value) (Q:St->Hp->Prop),Inv X pins σ H s->bA v u->t v σ H Q->
  wpAny (model X.prog X.w) X.A (assign target X.env u) (fun _ s'=>∃σ' H',Inv X pins σ' H' s'/\Q σ' H') X.xe s
def PGs (X:Cx)(ts:List Expr)(t:TGs):Prop:=
 ∀(pins:List (Addr×Obj)) (s:Shared) (σ:St) (H:Hp) (vs:List V) (us:List Value) (Q:St->Hp->Prop),Inv X pins σ H s->a8 vs us->t vs σ H Q->
  wpAny (model X.prog X.w) X.A (assignInOrder ((assignEach ts X.env).map (·.2)) us) (fun _ s'=>∃σ' H',Inv X pins σ' H' s'/\Q σ' H') X.xe s
noncomputable abbrev Hu:=V->V->V->Hp->(Hp->Prop)->Prop
def Hv (X:Cx)(t:Hu):Prop:=
 ∀(pins:List (Addr×Obj)) (s:Shared) (σ:St) (H:Hp) (o i v:V) (ov iv u:Value) (Q:Hp->Prop),Inv X pins σ H s->bA o ov->bA i iv->bA v u->t o i v H Q->
  wpAny (model X.prog X.w) X.A (setItem ov iv u) (fun _ s'=>∃H',Inv X pins σ H' s'/\Q H') X.xe s
section
variable {X:Cx}{pos:Pos}
noncomputable def fm (i:Nat):TG:=fun v σ H Q=>Q (σ.set i (some v)) H
theorem aF {i:Nat}{x:Str}(hN:X.N.Nodup)(hi:X.N[i]?=some x)(hx:Loc X.env.scope x)(hf:X.fn x=true\/X.env.scope.names.lookup x=some .local:=by first | exact .inl rfl | exact .inr rfl | assumption):PG X (.Name x pos) (fm i):=by
 intro pins s σ H v u Q I r h
 exact wpAny_assign_Name (oR I hN hi hx r (fun s' I'=>⟨_,H,I',h⟩) hf)
noncomputable def Hw:TGs:=fun vs σ H Q=>vs=[]/\Q σ H
noncomputable def xK (t:TG)(u:TGs):TGs:=fun vs σ H Q=>∃v r,vs=v::r/\t v σ H fun σ' H'=>u r σ' H' Q
theorem EE:PGs X [] Hw:=by
 intro pins s σ H vs us Q I r h
 obtain ⟨e,h⟩:=h
 subst e
 cases r
 exact assignInOrder_nil ⟨σ,H,I,h⟩
theorem Ce {e:Expr}{es:List Expr}{t:TG}{u:TGs}(h1:PG X e t)(h2:PGs X es u)
  (hs:(assignEach (e::es) X.env).map (·.2)=assign e X.env::(assignEach es X.env).map (·.2):=by rfl):PGs X (e::es) (xK t u):=by
 intro pins s σ H vs us Q I r h
 obtain ⟨v,vr,e1,h⟩:=h
 subst e1
 cases r with
 | cons r rr=>
  rw [hs]
  refine assignInOrder_cons (thn (h1 pins s σ H _ _ _ I r h) fun _ s1 ⟨σ1,H1,I1,q1⟩=>?_)
  exact h2 pins s1 σ1 H1 _ _ Q I1 rr q1
noncomputable def Hx (K:W.Frag)(n:Nat)(t:TGs):TG:=fun v σ H Q=>∃a xs,v=.ref a/\SqT K H a xs/\xs.length=n/\t xs σ H Q
theorem Hy {es:List Expr}{k:Nat}{t:TGs}{n:Nat}(hc:X.calm=true)(h:PGs X es t)
  (hn:(assignEach es X.env).length=n:=by rfl) (hst:(assignEach es X.env).findIdx? (·.1)=none:=by rfl):PG X (.Tuple es k pos) (Hx X.K n t):=by
 intro pins s σ H v u Q I r hw
 obtain ⟨a,xs,e1,hq,hl,hw⟩:=hw
 subst e1
 cases r
 obtain ⟨its,rv,ht,hz⟩:=I.tuple hq
 refine assign_Tuple_tuple (I.ok.hd hc) ht (by simp [hn,←hl,rv.length]) hst fun h' hx=>?_
 have I1:Inv X pins σ H {s with heap:=h'}:=I.kept (t':=s.toks) fun b o e=>hx b o (Nat.ne_of_lt (Heap.lt_size e)) e
 exact h pins _ σ H xs _ Q I1 (by simpa using rv) hw
noncomputable def Jo (to ti:TE)(t:Hu):TG:=fun v σ H Q=>to σ H fun o H1=>ti σ H1 fun i H2=>t o i v H2 fun H3=>Q σ H3
theorem tj {o i:Expr}{to ti:TE}{t:Hu}(ho:PE X o to)(hi:PE X i ti)(hs:Hv X t)
  (ha:∀v,assign (.Subscript o i pos) X.env v=(do
   let ov ←holding [v] (eval o X.env)
   let iv ←holding [v,ov] (eval i X.env)
   standAt pos
   holding [v,ov,iv] (setItem ov iv v)
   release [v,ov,iv] []):=by intro _;rfl):PG X (.Subscript o i pos) (Jo to ti t):=by
 intro pins s σ H v u Q I r h
 rw [ha]
 refine wpAny_bind (wpAny_holding (thn (ho pins s σ H _ I h) fun ov s1 ⟨x,H1,I1,r1,q1⟩=>?_))
 refine wpAny_bind (wpAny_holding (thn (hi pins s1 σ H1 _ I1 q1) fun iv s2 ⟨y,H2,I2,r2,q2⟩=>?_))
 refine wpAny_bind (wpAny_standAt (wpAny_bind (wpAny_holding (thn (hs pins s2 σ H2 x y v ov iv u _ I2 r1 r2 r q2) fun _ s3 ⟨H3,I3,q3⟩=>?_))))
 exact wpAny_release ⟨σ,H3,I3,q3⟩
noncomputable def Cf (te:TE)(g:TG):TS:=fun D σ H=>te σ H fun x H1=>g x σ H1 D.nx
theorem kh {tg e:Expr}{te:TE}{g:TG}(he:PE X e te)(hg:PG X tg g)(hs:swapsWithSole [tg] e pos.line X.env=pure false:=by rfl)(hw:swappedStores [tg] e X.env=pure none:=by rfl)
  (h1:(assignEach [tg] X.env).map (·.2)=[assign tg X.env]:=by rfl):PS X (.Assign [tg] e pos) (Cf te g):=by
 intro pins s σ H D I h
 refine wpAny_Assign_stores (thn (he pins s σ H _ I h) fun v s1 ⟨x,H1,I1,r1,q1⟩=>?_) hs hw
 rw [h1]
 exact thn (hg pins s1 σ H1 x v _ I1 r1 q1) fun _ s2 q=>q
theorem aD {i:Nat}{x:Str}{e:Expr}{te:TE}{pos':Pos}(hN:X.N.Nodup)(hi:X.N[i]?=some x)(hx:Loc X.env.scope x)(he:PE X e te)(hs:swapsWith e (some (.Name x pos')) pos.line X.env=pure false:=by rfl)(hf:X.fn x=true\/X.env.scope.names.lookup x=some .local:=by first | exact .inl rfl | exact .inr rfl | assumption) :
  PS X (.Assign [.Name x pos'] e pos) (Cf te (fm i)):=by
 intro pins s σ H D I h
 refine wpAny_Assign_Name (thn (he pins s σ H _ I h) fun v s1 ⟨y,H1,I1,r1,q1⟩=>?_) hs
 exact oR I1 hN hi hx r1 (fun s2 I2=>⟨_,H1,I2,q1⟩) hf
noncomputable def Jp (i j:Nat)(ta:TA):TS:=fun D σ H=>ta σ H fun vs H1=>∃v w,vs=[v,w]/\D.nx ((σ.set i (some v)).set j (some w)) H1
theorem Hz {i j:Nat}{x y:Str}{a b:Expr}{ta:TA}{px py pt:Pos}{kt k2 pt2}(hc:X.calm=true)(hN:X.N.Nodup)(hi:X.N[i]?=some x)(hj:X.N[j]?=some y)(hij:i≠j)
  (hx:X.env.scope.names.lookup x=some .local) (hy:X.env.scope.names.lookup y=some .local) (ha:PA X [a,b] ta)
  (hw:swappedStores [.Tuple [.Name x px,.Name y py] kt pt] (.Tuple [a,b] k2 pt2) X.env=pure (some [x,y]))
  (hs:swapsWithSole [.Tuple [.Name x px,.Name y py] kt pt] (.Tuple [a,b] k2 pt2) pos.line X.env=pure false:=by rfl) :
  PS X (.Assign [.Tuple [.Name x px,.Name y py] kt pt] (.Tuple [a,b] k2 pt2) pos) (Jp i j ta):=by
 intro pins s σ H D I h
 rw [exec_Assign_arm]
 refine wpAny_bind (wpAny_standAt ?_)
 rw [hs]
 refine wpAny_bind (wpAny_pure ?_)
 rw [if_neg (by decide)]
 refine wpAny_bind (Tuple_ (thn (ha _ pins s σ H _ I h) fun us s1 ⟨vs,H1,I1,r1,q1⟩=>?_))
 obtain ⟨v,w,e1,q1⟩:=q1
 subst e1
 obtain ⟨u1,u2,rfl,rv,rw'⟩:∃u1 u2,us=[u1,u2]/\bA v u1/\bA w u2:=by
  cases r1 with
  | cons p q=>
   cases q with
   | cons p' q'=>
    cases q'
    exact ⟨_,_,rfl,p,p'⟩
 refine wpAny_newObj_type ?_ (by show 2<=sizeLine;decide)
 have I2:Inv X pins σ H1 {s1 with heap:=s1.heap.push {cls:=.type "tuple",data:=.seq [u1,u2].toArray}}:=I1.kept (t':=s1.toks) fun b o e=>Heap.get?_push_of_some _ e
 rw [hw]
 refine wpAny_bind (wpAny_pure ?_)
 show wpAny (model X.prog X.w) X.A (do rule "assign.swapped-stores";let items ←unpackItems (.ref s1.heap.objs.size) 2 none;assignInOrder [fun v=>bindName X.env y v,fun v=>bindName X.env x v] items.reverse;pure Flow.next) _ _ _
 refine wpAny_bind (wpAny_rule (wpAny_bind (unpackItems_tuple (items:=#[u1,u2]) (I.ok.hd hc) (IsTup.new s1.heap _) fun h' hx'=>?_)))
 have I3:=I2.kept (h':=h') (t':=s1.toks) fun b o e=>hx' b o (Nat.ne_of_lt (Heap.lt_size e)) e
 show wpAny _ _ (assignInOrder [fun v=>bindName X.env y v,fun v=>bindName X.env x v] [u2,u1] >>= fun _=>pure Flow.next) _ _ _
 refine wpAny_bind (assignInOrder_cons (wpAny_bindName (oR I3 hN hj (.inl hy) rw' (fun s2 I4=>?_) (.inr hy))))
 refine assignInOrder_cons (wpAny_bindName (oR I4 hN hi (.inl hx) rv (fun s3 I5=>assignInOrder_nil (wpAny_pure ?_)) (.inr hx)))
 rw [List.set_comm _ _ (Ne.symm hij)] at I5
 exact ⟨_,H1,I5,q1⟩
end
section
variable {X:Cx}{pos:Pos}
noncomputable def Cg (c:TT)(tb:TS):TS:=fun D σ H=>∃W:Nat->St->Hp->Prop,(∃m,W m σ H)/\∀m σ H,W m σ H->
 c σ H fun b H1=>if b=true then ∃N:St->Hp->Prop,(∀σ' H',N σ' H'->∃m',m' < m/\W m' σ' H')/\tb {D with nx:=N,ct:=N,bk:=D.nx} σ H1 else D.nx σ H1
theorem Ci {c:Expr}{body:List Stmt}{tc:TT}{tb:TS}(hp:PassesOwn (model X.prog X.w) X.A X.env X.xe)(hc:PT X c tc)(hb:PSs X body tb):PS X (.While c body [] pos) (Cg tc tb):=by
 intro pins s σ H D I h
 obtain ⟨W,⟨m0,w0⟩,turn⟩:=h
 refine wpAny_While (codeAny_whileLoop (fun n s'=>∃σ' H',Inv X pins σ' H' s'/\W n σ' H') ?_ m0 ⟨σ,H,I,w0⟩)
 rintro n s1 ⟨σ1,H1,I1,w1⟩
 refine wpAny_passesOwn hp (thn (hc pins s1 σ1 H1 _ I1 (turn n σ1 H1 w1)) fun b s2 ⟨H2,I2,q2⟩=>?_)
 cases b with
 | true=>
  obtain ⟨N,hN,q2⟩:=q2
  rw [if_pos rfl]
  refine wpAny_passesOwn hp (thn (hb pins s2 σ1 H2 _ I2 q2) fun f s3 q3=>?_)
  cases f with
  | next=>
   obtain ⟨σ3,H3,I3,n3⟩:=q3
   obtain ⟨m',hm,w3⟩:=hN σ3 H3 n3
   exact ⟨m',hm,σ3,H3,I3,w3⟩
  | cont=>
   obtain ⟨σ3,H3,I3,n3⟩:=q3
   obtain ⟨m',hm,w3⟩:=hN σ3 H3 n3
   exact ⟨m',hm,σ3,H3,I3,w3⟩
  | brk=>exact q3
  | ret v=>exact q3
 | false=>
  rw [if_neg Bool.false_ne_true]
  exact wpAny_execs_nil ⟨σ1,H2,I2,q2⟩
end
structure It where
 go:Nat->Hp->Prop
 yld:Nat->Hp->V->Hp->Prop
 stop:Nat->Hp->Prop
def oS (X:Cx)(pins:List (Addr×Obj))(H:Hp)(b:Addr):Prop:=
 H b=none/\b≠X.env.locals/\b∉X.fs/\(b∈X.ex\/X.s₀.heap.objs.size<=b)/\(∀x c,X.env.cells.lookup x=some c->c≠b)/\∀p∈X.pn++pins,p.1≠b
theorem Inv.fpOk {X:Cx}{pins:List (Addr×Obj)}{σ:St}{H H':Hp}{s:Shared}{b:Addr}(I:Inv X pins σ H s)(hb:s.heap.objs.size<=b)(hn:H' b=none):oS X pins H' b:=by
 refine ⟨hn,Nat.ne_of_gt (Nat.lt_of_lt_of_le I.lt hb),I.nofs hb,.inr (Nat.le_trans I.sz hb),fun x c e z=>?_,fun p hp z=>?_⟩
 ·obtain ⟨v,q⟩:=I.cell x c e
  exact absurd (Nat.lt_of_lt_of_le q.lt (by rw [z];exact hb)) (Nat.lt_irrefl _)
 ·exact absurd (Nat.lt_of_lt_of_le (Heap.lt_size (I.pin p hp).1) (by rw [z];exact hb)) (Nat.lt_irrefl _)
structure Cj (P:Program)(w:World)(K:W.Frag)(tg:Expr)(J:It)(fp:List Addr)(it:Addr)(tn:Nat->Heap->Prop):Prop where
 mem:it∈fp
 obj:∀i h,tn i h->∀b∈fp,∃o,h.get? b=some o/\∀v,o.data≠.cell v
 keep:∀i h h',tn i h->(∀b∈fp,∀o,h.get? b=some o->h'.get? b=some o)->tn i h'
 item:∀(X:Cx),X.prog=P->X.w=w->X.K=K->X.calm=true->∀(i:Nat) (pins:List (Addr×Obj)) (s:Shared) (σ:St) (H:Hp) (E:Value->Shared->Prop),Inv X pins σ H s->(∀b∈fp,oS X pins H b)->tn i s.heap->J.go i H->
  wpAny (model P w) X.A (pyNext (.ref it)) (fun r s1=>∃u,r=some u/\
   wpAny (model P w) X.A (letOwnedTupleGo tg (.ref it) u) (fun _ s2=>∃x H',Inv X pins σ H' s2/\bA x u/\J.yld i H x H'/\tn (i+1) s2.heap/\∀b∈fp,H' b=none) E s1) E s
 done:∀(X:Cx),X.prog=P->X.w=w->X.K=K->X.calm=true->∀(i:Nat) (pins:List (Addr×Obj)) (s:Shared) (σ:St) (H:Hp) (E:Value->Shared->Prop),Inv X pins σ H s->(∀b∈fp,oS X pins H b)->tn i s.heap->J.stop i H->
  wpAny (model P w) X.A (pyNext (.ref it)) (fun r s1=>r=none/\Inv X pins σ H s1) E s
 self:∀(A:Around) (i:Nat) (s:Shared) (Q:Value->Shared->Prop) (E:Value->Shared->Prop),tn i s.heap->Q (.ref it) s->wpAny (model P w) A (pyIter (.ref it)) Q E s
noncomputable abbrev TI:=St->Hp->(It->Hp->Prop)->Prop
def PIE (X:Cx)(pins:List (Addr×Obj))(σ:St)(tg:Expr)(R:It->Hp->Prop)(itv:Value)(s2:Shared):Prop:=
 ∃(it:Addr) (fp:List Addr) (tn:Nat->Heap->Prop) (J:It) (H':Hp),itv=.ref it/\Inv X pins σ H' s2/\Cj X.prog X.w X.K tg J fp it tn/\tn 0 s2.heap/\(∀b∈fp,oS X pins H' b)/\R J H'
def PI (X:Cx)(tg iter:Expr)(wi:TI):Prop:=
 ∀(pins:List (Addr×Obj)) (s:Shared) (σ:St) (H:Hp) (R:It->Hp->Prop),Inv X pins σ H s->wi σ H R->
  wpAny (model X.prog X.w) X.A (eval iter X.env) (fun v s1=>wpAny (model X.prog X.w) X.A (pyIter v) (PIE X pins σ tg R) X.xe s1) X.xe s
theorem GC {M:Model}{A:Around}{E:Value->Shared->Prop}{s:Shared}{tg:Expr}{it:Addr}{u:Value}{o:Obj}{n:String}{vs:Array Value}{Q:Unit->Shared->Prop}(ho:s.heap.get? it=some o)(hc:o.cls=.type n)(hd:o.data=.fields vs)
  (hn:["enumerate","zip","dict_itemiterator","dict_reverseitemiterator","odict_iterator","itertools.zip_longest","itertools.pairwise"].contains n=false) (hQ:Q () s):wpAny M A (letOwnedTupleGo tg (.ref it) u) Q E s:=by
 unfold letOwnedTupleGo
 cases tg<;>first
  | exact wpAny_pure hQ
  | (cases u<;>first
    | exact wpAny_pure hQ
    | (refine wpAny_bind (wpAny_load ho ?_)
       rw [hc,hd]
       show wpAny M A (if (["enumerate","zip","dict_itemiterator","dict_reverseitemiterator","odict_iterator","itertools.zip_longest","itertools.pairwise"].contains n && vs[0]? == some (rawInt _))=true then _ else _) Q E s
       rw [if_neg (by intro h;rw [hn,Bool.false_and] at h;cases h)]
       exact wpAny_pure hQ))
noncomputable def Itl (K:W.Frag)(a:Addr):It:=
 ⟨fun i H=>∃xs x,SqL K H a xs/\xs[i]?=some x,fun i H x H'=>H'=H/\∀xs,SqL K H a xs->xs[i]?=some x,fun i H=>∃xs,SqL K H a xs/\xs.length<=i⟩
noncomputable def Itt (K:W.Frag)(a:Addr):It:=
 ⟨fun i H=>∃xs x,SqT K H a xs/\xs[i]?=some x,fun i H x H'=>H'=H/\∀xs,SqT K H a xs->xs[i]?=some x,fun i H=>∃xs,SqT K H a xs/\xs.length<=i⟩
noncomputable def Itr (lo:Int)(n:Nat):It:=⟨fun i _=>i < n,fun i H x H'=>H'=H/\x=.int (lo+i),fun i _=>n<=i⟩
theorem A9 {P:Program}{w:World}{K:W.Frag}{tg:Expr}(a it:Addr):Cj P w K tg (Itl K a) [it] it (fun i h=>h.IsListIter it a i) where
 mem:=by simp
 obj:=fun i h st b hb=>by
  have e:b=it:=by simpa using hb
  subst e
  obtain ⟨o,e,c,d⟩:=st
  exact ⟨o,e,fun v z=>by rw [d] at z;cases z⟩
 keep:=fun i h h' st k=>st.at fun o e=>k it (by simp) o e
 item:=by
  intro X hP hw hK hc i pins s σ H E I hf st hg
  subst hP hw hK
  obtain ⟨xs,x,hq,hx⟩:=hg
  obtain ⟨its,rv,p,hz⟩:=I.list hq
  obtain ⟨u,hu,ru⟩:=rv.get hx
  obtain ⟨f0,f1,f2,f3,f4,f5⟩:=hf it (by simp)
  refine wpAny_pyNext_list_item st p.isList (x:=u) (by simpa using hu) fun h' st' sb=>?_
  have I1:Inv X pins σ H {s with heap:=h'}:=I.turned (t':=s.toks) (fun b o hb e=>(sb.2 b hb).trans e) f0 f1 f3 f4 f5
  obtain ⟨o,e,c,d⟩:=id st'
  exact ⟨u,rfl,GC (s:={s with heap:=h'}) e c d (by decide) ⟨x,H,I1,ru,⟨rfl,fun ys hy=>by rw [I.list_inj hy hq];exact hx⟩,st',fun b hb=>(hf b hb).1⟩⟩
 done:=by
  intro X hP hw hK hc i pins s σ H E I hf st hg
  subst hP hw hK
  obtain ⟨xs,hq,hx⟩:=hg
  obtain ⟨its,rv,p,hz⟩:=I.list hq
  obtain ⟨f0,f1,f2,f3,f4,f5⟩:=hf it (by simp)
  have hl:=rv.length
  exact wpAny_pyNext_list_end (I.ok.hd hc) st p.isList (by simp;omega) fun h' eb=>⟨rfl,I.turned (t':=s.toks) (fun b o hb e=>eb b o hb e) f0 f1 f3 f4 f5⟩
 self:=fun _ _ _ _ _ st h=>wpAny_pyIter_listiter st h
theorem yU {P:Program}{w:World}{K:W.Frag}{tg:Expr}(it:Addr)(lo:Int)(n:Nat):Cj P w K tg (Itr lo n) [it] it (fun i h=>IsRangeIter h it (lo+(i:Nat) * 1) ((n:Int) - (i:Nat)) 1) where
 mem:=by simp
 obj:=fun i h st b hb=>by
  have e:b=it:=by simpa using hb
  subst e
  exact ⟨_,st,fun v z=>by
   have z':Data.fields _=Data.cell v:=z
   cases z'⟩
 keep:=fun i h h' st k=>k it (by simp) _ st
 item:=by
  intro X hP hw hK hc i pins s σ H E I hf st hg
  subst hP hw hK
  obtain ⟨f0,f1,f2,f3,f4,f5⟩:=hf it (by simp)
  have W:=Walks.range (prog:=X.prog) (w:=X.w) (I.ok.hd hc) it lo 1 n
  refine W.item i s _ _ hg st fun v h' tk hv st' kk=>?_
  obtain ⟨t,rfl⟩:=hv
  have I1:Inv X pins σ H {s with heap:=h',toks:=tk}:=I.turned (fun b o hb e=>kk b o (by simpa using hb) e) f0 f1 f3 f4 f5
  refine ⟨_,rfl,GC (s:={s with heap:=h',toks:=tk}) (n:="range_iterator") st' rfl rfl (by decide) ⟨.int (lo+i),H,I1,⟨t,?_⟩,⟨rfl,rfl⟩,st',fun b hb=>(hf b hb).1⟩⟩
  rw [Int.mul_one]
 done:=by
  intro X hP hw hK hc i pins s σ H E I hf st hg
  subst hP hw hK
  obtain ⟨f0,f1,f2,f3,f4,f5⟩:=hf it (by simp)
  exact wpAny_pyNext_range_end (I.ok.hd hc) st (by have:n<=i:=hg;omega) fun h' eb=>⟨rfl,I.turned (t':=s.toks) (fun b o hb e=>eb b o hb e) f0 f1 f3 f4 f5⟩
 self:=fun _ _ _ _ _ st h=>wpAny_pyIter_rangeiter st h
section
variable {X:Cx}{tg:Expr}
noncomputable def GD (K:W.Frag)(tl:TE):TI:=fun σ H R=>tl σ H fun x H1=>∃a,x=.ref a/\(∃xs,SqL K H1 a xs)/\R (Itl K a) H1
theorem EF {l:Expr}{tl:TE}(hl:PE X l tl):PI X tg l (GD X.K tl):=by
 intro pins s σ H R I h
 refine thn (hl pins s σ H _ I h) fun v s1 ⟨x,H1,I1,r1,q1⟩=>?_
 obtain ⟨a,e,⟨xs,hq⟩,q⟩:=q1
 subst e
 cases r1
 obtain ⟨its,rv,p,hz⟩:=I1.list hq
 refine wpAny_pyIter_list p.isList ?_
 refine ⟨s1.heap.objs.size,[s1.heap.objs.size],_,_,H1,rfl,I1.kept (t':=s1.toks) fun b o e=>Heap.get?_push_of_some _ e,A9 a _,⟨_,Heap.get?_push_size _ rfl,rfl,rfl⟩,fun b hb=>?_,q⟩
 have e:b=s1.heap.objs.size:=by simpa using hb
 subst e
 exact I1.fpOk (Nat.le_refl _) (I1.hok.fresh (Nat.le_refl _))
theorem xM {pins:List (Addr×Obj)}{σ:St}{H:Hp}{s:Shared}{R:It->Hp->Prop}{E:Value->Shared->Prop}{lo hi:Int}{t u v:Tok}{tk:Nat}(I:Inv X pins σ H s)(h1:-(2 ^ 62)<=lo)(h2:lo < 2 ^ 62)(h3:-(2 ^ 62)<=hi)(h4:hi < 2 ^ 62)
  (q:R (Itr lo (hi - lo).toNat) H):wpAny (model X.prog X.w) X.A (pyIter (.ref s.heap.objs.size)) (PIE X pins σ tg R) E {s with heap:=s.heap.push {cls:=.type "range",data:=.fields #[.int lo t,.int hi u,.int 1 v]},toks:=tk}:=by
 refine wpAny_pyIter_range (IsRange.new ..) (small_one h1 h2 h3 h4) ?_
 have I1:Inv X pins σ H {s with heap:=s.heap.push {cls:=.type "range",data:=.fields #[.int lo t,.int hi u,.int 1 v]},toks:=tk}:=I.kept fun b o e=>Heap.get?_push_of_some _ e
 refine ⟨(s.heap.push {cls:=.type "range",data:=.fields #[.int lo t,.int hi u,.int 1 v]}).objs.size,[(s.heap.push {cls:=.type "range",data:=.fields #[.int lo t,.int hi u,.int 1 v]}).objs.size],_,_,H,rfl,
  I1.kept (t':=tk) fun b o e=>Heap.get?_push_of_some _ e,yU _ lo (hi - lo).toNat,?_,fun b hb=>?_,q⟩
 ·have e1:lo+((0:Nat):Int) * 1=lo:=by simp
  have e2:(((hi - lo).toNat:Nat):Int) - ((0:Nat):Int)=Builtin.Range.rangeSize lo hi 1:=by rw [rangeSize_one];split<;>omega
  show IsRangeIter _ _ (lo+((0:Nat):Int) * 1) ((((hi - lo).toNat:Nat):Int) - ((0:Nat):Int)) 1
  rw [e1,e2]
  exact Heap.get?_push_size _ rfl
 ·have e:b=(s.heap.push {cls:=.type "range",data:=.fields #[.int lo t,.int hi u,.int 1 v]}).objs.size:=by simpa using hb
  subst e
  exact I1.fpOk (Nat.le_refl _) (I1.hok.fresh (Nat.le_refl _))
noncomputable def GF (ta:TA):TI:=fun σ H R=>ta σ H fun vs H1=>∃j:Int,vs=[.int j]/\-(2 ^ 62)<=j/\j < 2 ^ 62/\R (Itr 0 j.toNat) H1
noncomputable def GG (ta:TA):TI:=fun σ H R=>ta σ H fun vs H1=>∃i j:Int,vs=[.int i,.int j]/\(-(2 ^ 62)<=i/\i < 2 ^ 62/\-(2 ^ 62)<=j/\j < 2 ^ 62)/\R (Itr i (j - i).toNat) H1
theorem Ba {a:Expr}{ta:TA}{p pos:Pos}(hg:Gl X "range")(hm:X.mg "range"=none)(ha:PA X [a] ta)(hs:starEach [a] X.env=[(false,eval a X.env)]:=by rfl):PI X tg (.Call (.Name "range" p) [a] [] pos) (GF ta):=by
 intro pins s σ H R I h
 refine Call_ (nS I hg hm boot_range (PyProof.Rows.callWith_type1 (thn (ha pos pins s σ H _ I h) fun us s1 ⟨vs,H1,I1,r1,q1⟩=>?_) hs rfl))
 obtain ⟨j,e,q1,q2,q⟩:=q1
 subst e
 cases r1 with
 | cons r rr=>
  cases rr
  obtain ⟨t,rfl⟩:=r
  exact call_range_1 (xM I1 (by omega) (by omega) q1 q2 (by simpa using q))
theorem Bb {a b:Expr}{ta:TA}{p pos:Pos}(hg:Gl X "range")(hm:X.mg "range"=none)(ha:PA X [a,b] ta)(hs:starEach [a,b] X.env=[(false,eval a X.env),(false,eval b X.env)]:=by rfl)(hs2:starEach [b] X.env=[(false,eval b X.env)]:=by rfl) :
  PI X tg (.Call (.Name "range" p) [a,b] [] pos) (GG ta):=by
 intro pins s σ H R I h
 refine Call_ (nS I hg hm boot_range (PyProof.Rows.callWith_type1 (thn (ha pos pins s σ H _ I h) fun us s1 ⟨vs,H1,I1,r1,q1⟩=>?_) (by rw [hs,hs2]) (by rw [hs2];rfl)))
 obtain ⟨i,j,e,⟨q1,q2,q3,q4⟩,q⟩:=q1
 subst e
 cases r1 with
 | cons r rr=>
  cases rr with
  | cons r' rr=>
   cases rr
   obtain ⟨t,rfl⟩:=r
   obtain ⟨t',rfl⟩:=r'
   exact call_range_2 (xM I1 q1 q2 q3 q4 q)
noncomputable def Jq (wi:TI)(g:TG)(tb:TS):TS:=fun D σ H=>wi σ H fun J H1=>∃W:Nat->Nat->St->Hp->Prop,(∃m,W 0 m σ H1)/\∀i m σ H,W i m σ H->
 (J.stop i H/\D.nx σ H)\/(J.go i H/\∃N:St->Hp->Prop,(∀σ' H',N σ' H'->∃m',m' < m/\W (i+1) m' σ' H')/\∀x H',J.yld i H x H'->g x σ H' fun σ2 H2=>tb {D with nx:=N,ct:=N,bk:=D.nx} σ2 H2)
noncomputable def qt (fp:List Addr)(h:Heap):List (Addr×Obj):=fp.filterMap fun b=>(h.get? b).map fun o=>(b,o)
theorem fR {fp:List Addr}{h:Heap}{b:Addr}{o:Obj}(hb:b∈fp)(e:h.get? b=some o):(b,o)∈qt fp h:=List.mem_filterMap.mpr ⟨b,hb,by rw [e];rfl⟩
theorem Bc {fp:List Addr}{h:Heap}{p:Addr×Obj}(hp:p∈qt fp h):p.1∈fp/\h.get? p.1=some p.2:=by
 obtain ⟨b,hb,e⟩:=List.mem_filterMap.mp hp
 cases q:h.get? b with
 | none=>rw [q] at e;cases e
 | some o=>
  rw [q] at e
  have e':(b,o)=p:=Option.some.inj e
  subst e'
  exact ⟨hb,q⟩
theorem Inv.pinned {pins:List (Addr×Obj)}{σ:St}{H:Hp}{s:Shared}{fp:List Addr}(I:Inv X pins σ H s)(hf:∀b∈fp,oS X pins H b)(ho:∀b∈fp,∃o,s.heap.get? b=some o/\∀v,o.data≠.cell v):Inv X (pins++qt fp s.heap) σ H s:=
 I.pins_of fun p hp=>(List.mem_append.mp hp).elim (fun z=>I.pin p (List.mem_append_right _ z)) fun z=>by
  obtain ⟨hb,e⟩:=Bc z
  obtain ⟨f0,f1,f2,_⟩:=hf p.1 hb
  obtain ⟨o,e',d⟩:=ho p.1 hb
  rw [e] at e';cases e'
  exact ⟨e,f0,f1,f2,d⟩
theorem Inv.unpinned {pins pl:List (Addr×Obj)}{σ:St}{H:Hp}{s:Shared}(I:Inv X (pins++pl) σ H s):Inv X pins σ H s:=I.pins_of fun p hp=>I.pin p (List.mem_append_right _ (List.mem_append_left _ hp))
theorem cy {iter:Expr}{body:List Stmt}{wi:TI}{g:TG}{tb:TS}{pos:Pos}(hp:PassesOwn (model X.prog X.w) X.A X.env X.xe)(hc:X.calm=true)(hi:PI X tg iter wi)(hg:PG X tg g)(hb:PSs X body tb)
  (hs:∀x,foldedSetIterable iter X.env x=pure x:=by intro _;rfl):PS X (.For tg iter body [] pos) (Jq wi g tb):=by
 intro pins s σ H D I h
 refine wpAny_For (thn (hi pins s σ H _ I h) fun v s1 h1=>thn h1 fun itv s2 h2=>?_) hs
 obtain ⟨it,fp,tn,J,H2,e,I2,T,st2,f2,W,⟨m0,w0⟩,turn⟩:=h2
 subst e
 have stat:∀{H':Hp},(∀b∈fp,H' b=none)->∀b∈fp,oS X pins H' b:=fun hn b hb=>⟨hn b hb,(f2 b hb).2⟩
 refine codeAny_forLoop_any (fun n s'=>∃i σ' H',Inv X pins σ' H' s'/\tn i s'.heap/\(∀b∈fp,H' b=none)/\W i n σ' H') ?_ m0 ⟨0,σ,H2,I2,st2,fun b hb=>(f2 b hb).1,w0⟩
 rintro n s3 ⟨i,σ3,H3,I3,st3,fr3,w3⟩
 rcases turn i n σ3 H3 w3 with ⟨stop,qn⟩ | ⟨go,N,hN,step⟩
 ·refine wpAny_passesOwn hp (thn (T.done X rfl rfl rfl hc i pins s3 σ3 H3 X.xe I3 (stat fr3) st3 stop) fun r s4 ⟨hr,I4⟩=>?_)
  subst hr
  exact wpAny_execs_nil ⟨σ3,H3,I4,qn⟩
 ·refine wpAny_passesOwn hp (thn (T.item X rfl rfl rfl hc i pins s3 σ3 H3 X.xe I3 (stat fr3) st3 go) fun r s4 ⟨u,hr,h4⟩=>?_)
  subst hr
  refine wpAny_passesOwn hp (thn h4 fun _ s5 ⟨x,H5,I5,r5,y5,st5,fr5⟩=>?_)
  have I5':=I5.pinned (stat fr5) (T.obj _ _ st5)
  refine wpAny_passesOwn hp (thn (hg _ s5 σ3 H5 x u _ I5' r5 (step x H5 y5)) fun _ s6 ⟨σ6,H6,I6,q6⟩=>?_)
  refine wpAny_passesOwn hp (thn (hb _ s6 σ6 H6 _ I6 q6) fun f s7 q7=>?_)
  have again:∀{σ7:St} {H7:Hp},Inv X (pins++qt fp s5.heap) σ7 H7 s7->N σ7 H7->∃m,m < n/\∃i σ' H',Inv X pins σ' H' s7/\tn i s7.heap/\(∀b∈fp,H' b=none)/\W i m σ' H':=fun {σ7 H7} I7 n7=>by
   obtain ⟨m',hm,w7⟩:=hN σ7 H7 n7
   refine ⟨m',hm,i+1,σ7,H7,I7.unpinned,T.keep _ _ _ st5 fun b hb o e=>(I7.pin (b,o) (List.mem_append_right _ (List.mem_append_right _ (fR hb e)))).1,fun b hb=>?_,w7⟩
   obtain ⟨o,e,d⟩:=T.obj _ _ st5 b hb
   exact (I7.pin (b,o) (List.mem_append_right _ (List.mem_append_right _ (fR hb e)))).2.1
  cases f with
  | next=>obtain ⟨σ7,H7,I7,n7⟩:=q7;exact again I7 n7
  | cont=>obtain ⟨σ7,H7,I7,n7⟩:=q7;exact again I7 n7
  | brk=>obtain ⟨σ7,H7,I7,q7⟩:=q7;exact ⟨σ7,H7,I7.unpinned,q7⟩
  | ret v=>obtain ⟨x7,σ7,H7,I7,r7,q7⟩:=q7;exact ⟨x7,σ7,H7,I7.unpinned,r7,q7⟩
end
theorem Ck {K:W.Frag}{a:Addr}{xs:List V}{g:TG}{tb:TS}{D:jU}{σ:St}{H:Hp}(Pv:Nat->St->Hp->Prop)(h0:Pv 0 σ H)(hl:∀i σ H,i<=xs.length->Pv i σ H->SqL K H a xs)
  (hs:∀i x σ H,xs[i]?=some x->Pv i σ H->g x σ H fun σ2 H2=>tb {D with nx:=Pv (i+1),ct:=Pv (i+1),bk:=D.nx} σ2 H2) (hd:∀σ H,Pv xs.length σ H->D.nx σ H) :
  ∃W:Nat->Nat->St->Hp->Prop,(∃m,W 0 m σ H)/\∀i m σ H,W i m σ H->
   ((Itl K a).stop i H/\D.nx σ H)\/((Itl K a).go i H/\∃N:St->Hp->Prop,(∀σ' H',N σ' H'->∃m',m' < m/\W (i+1) m' σ' H')/\∀x H',(Itl K a).yld i H x H'->g x σ H' fun σ2 H2=>tb {D with nx:=N,ct:=N,bk:=D.nx} σ2 H2):=by
 refine ⟨fun i m σ H=>m=xs.length - i/\i<=xs.length/\Pv i σ H,⟨xs.length,by simp,Nat.zero_le _,h0⟩,?_⟩
 rintro i m σ H ⟨rfl,hi,p⟩
 have q:=hl i σ H hi p
 by_cases hlt:i < xs.length
 ·refine .inr ⟨⟨xs,xs[i],q,by simp [hlt]⟩,Pv (i+1),fun σ' H' p'=>⟨xs.length - (i+1),by omega,rfl,hlt,p'⟩,fun x H' y=>?_⟩
  obtain ⟨e,y⟩:=y
  subst e
  exact hs i x σ _ (y xs q) p
 ·have e:i=xs.length:=by omega
  subst e
  exact .inl ⟨⟨xs,q,Nat.le_refl _⟩,hd σ H p⟩
theorem Be {lo:Int}{n:Nat}{g:TG}{tb:TS}{D:jU}{σ:St}{H:Hp}(Pv:Nat->St->Hp->Prop)(h0:Pv 0 σ H)
  (hs:∀i σ H,i < n->Pv i σ H->g (.int (lo+i)) σ H fun σ2 H2=>tb {D with nx:=Pv (i+1),ct:=Pv (i+1),bk:=D.nx} σ2 H2) (hd:∀σ H,Pv n σ H->D.nx σ H) :
  ∃W:Nat->Nat->St->Hp->Prop,(∃m,W 0 m σ H)/\∀i m σ H,W i m σ H->
   ((Itr lo n).stop i H/\D.nx σ H)\/((Itr lo n).go i H/\∃N:St->Hp->Prop,(∀σ' H',N σ' H'->∃m',m' < m/\W (i+1) m' σ' H')/\∀x H',(Itr lo n).yld i H x H'->g x σ H' fun σ2 H2=>tb {D with nx:=N,ct:=N,bk:=D.nx} σ2 H2):=by
 refine ⟨fun i m σ H=>m=n - i/\i<=n/\Pv i σ H,⟨n,by simp,Nat.zero_le _,h0⟩,?_⟩
 rintro i m σ H ⟨rfl,hi,p⟩
 by_cases hlt:i < n
 ·refine .inr ⟨hlt,Pv (i+1),fun σ' H' p'=>⟨n - (i+1),by omega,rfl,hlt,p'⟩,fun x H' y=>?_⟩
  obtain ⟨e,y⟩:=y
  subst e y
  exact hs i σ _ hlt p
 ·have e:i=n:=by omega
  subst e
  exact .inl ⟨Nat.le_refl _,hd σ H p⟩
theorem Cm {c:TT}{tb:TS}{D:jU}{σ:St}{H:Hp}(Pv:St->Hp->Prop)(μ:St->Hp->Nat)(h0:Pv σ H)
  (hs:∀σ H,Pv σ H->c σ H fun b H1=>if b=true then tb {D with nx:=fun σ' H'=>Pv σ' H'/\μ σ' H' < μ σ H,ct:=fun σ' H'=>Pv σ' H'/\μ σ' H' < μ σ H,bk:=D.nx} σ H1 else D.nx σ H1)
  (mono:∀σ H Q Q',(∀b H1,Q b H1->Q' b H1)->c σ H Q->c σ H Q'):Cg c tb D σ H:=by
 refine ⟨fun m σ H=>m=μ σ H/\Pv σ H,⟨_,rfl,h0⟩,?_⟩
 rintro m σ H ⟨rfl,p⟩
 refine mono σ H _ _ (fun b H1 q=>?_) (hs σ H p)
 cases b with
 | true=>exact ⟨_,fun σ' H' ⟨p',l⟩=>⟨_,l,rfl,p'⟩,q⟩
 | false=>exact q
noncomputable abbrev R2:=V->V->Hp->VK->Prop
def OpR (X:Cx)(f:Value->Value->Sem Value)(r:R2):Prop:=
 ∀(pins:List (Addr×Obj)) (s:Shared) (σ:St) (H:Hp) (x y:V) (v u:Value) (Q:VK),Inv X pins σ H s->bA x v->bA y u->r x y H Q->
  wpAny (model X.prog X.w) X.A (f v u) (EP X pins σ Q) X.xe s
def UnR (X:Cx)(f:Value->Sem Value)(r:V->Hp->VK->Prop):Prop:=
 ∀(pins:List (Addr×Obj)) (s:Shared) (σ:St) (H:Hp) (x:V) (v:Value) (Q:VK),Inv X pins σ H s->bA x v->r x H Q->
  wpAny (model X.prog X.w) X.A (f v) (EP X pins σ Q) X.xe s
def eG (X:Cx)(f:Value)(r:List V->Hp->VK->Prop):Prop:=
 ∀(pins:List (Addr×Obj)) (s:Shared) (σ:St) (H:Hp) (xs:List V) (us:List Value) (Q:VK),Inv X pins σ H s->a8 xs us->r xs H Q->
  wpAny (model X.prog X.w) X.A (call f us) (EP X pins σ Q) X.xe s
def Kq (X:Cx)(r:V->Hp->(Bool->Hp->Prop)->Prop):Prop:=
 ∀(pins:List (Addr×Obj)) (s:Shared) (σ:St) (H:Hp) (x:V) (v:Value) (Q:Bool->Hp->Prop),Inv X pins σ H s->bA x v->r x H Q->
  wpAny (model X.prog X.w) X.A (truthy v) (TP X pins σ Q) X.xe s
noncomputable def tOp (r:R2)(ta tb:TE):TE:=fun σ H Q=>ta σ H fun x H1=>tb σ H1 fun y H2=>r x y H2 Q
noncomputable def tUn (r:V->Hp->VK->Prop)(ta:TE):TE:=fun σ H Q=>ta σ H fun x H1=>r x H1 Q
noncomputable def rI (C:Int->Int->Prop)(g:Int->Int->V):R2:=fun x y H Q=>∃i j,x=.int i/\y=.int j/\C i j/\Q (g i j) H
noncomputable def rI0 (g:Int->Int->V):R2:=fun x y H Q=>∃i j,x=.int i/\y=.int j/\Q (g i j) H
noncomputable def rU (g:Int->V):V->Hp->VK->Prop:=fun x H Q=>∃i,x=.int i/\Q (g i) H
section
variable {X:Cx}{a b c:Expr}{ta tb tc:TE}{pos:Pos}
theorem HA (ha:PE X a ta)(hb:PE X b tb){pins:List (Addr×Obj)}{s:Shared}{σ:St}{H:Hp}{R:V->V->Hp->Prop}(I:Inv X pins σ H s)
  (h:ta σ H fun x H1=>tb σ H1 fun y H2=>R x y H2) {Q:Value->Shared->Prop} {f:Value->Value->Sem Value}
  (hf:∀v u s2 x y H2,Inv X pins σ H2 s2->bA x v->bA y u->R x y H2->wpAny (model X.prog X.w) X.A (f v u) Q X.xe s2) :
  wpAny (model X.prog X.w) X.A (eval a X.env) (fun v s₁=>wpAny (model X.prog X.w) X.A (eval b X.env) (fun u s₂=>wpAny (model X.prog X.w) X.A (f v u) Q X.xe s₂) X.xe s₁) X.xe s:=by
 refine thn (ha pins s σ H _ I h) fun v s1 ⟨x,H1,I1,r1,q1⟩=>?_
 refine thn (hb pins s1 σ H1 _ I1 q1) fun u s2 ⟨y,H2,I2,r2,q2⟩=>?_
 exact hf v u s2 x y H2 I2 r1 r2 q2
theorem aO {op:Operator}{r:R2}(ho:OpR X (binaryOp op) r)(ha:PE X a ta)(hb:PE X b tb):PE X (.BinOp a op b pos) (tOp r ta tb):=by
 intro pins s σ H Q I h
 exact wpAny_BinOp (HA ha hb I h fun v u s2 x y H2 I2 rx ry q=>ho pins s2 σ H2 x y v u Q I2 rx ry q)
theorem jV {op:UnaryOp}{r:V->Hp->VK->Prop}(ho:UnR X (unaryOp op) r)(ha:PE X a ta):PE X (.UnaryOp op a pos) (tUn r ta):=by
 intro pins s σ H Q I h
 exact UnaryOp_ (thn (ha pins s σ H _ I h) fun v s1 ⟨x,H1,I1,r1,q1⟩=>ho pins s1 σ H1 x v Q I1 r1 q1)
theorem opI {f:Value->Value->Sem Value}{C:Int->Int->Prop}{g:Int->Int->Int}
  (rule:∀(i j:Int) (t u:Tok) (s:Shared) (Q:Value->Shared->Prop) (E:Value->Shared->Prop),C i j->Q (.int (g i j) s.toks) {s with toks:=s.toks+1}->wpAny (model X.prog X.w) X.A (f (.int i t) (.int j u)) Q E s) :
  OpR X f (rI C fun i j=>.int (g i j)):=by
 intro pins s σ H x y v u Q I rx ry h
 obtain ⟨i,j,rfl,rfl,hc,q⟩:=h
 obtain ⟨t,rfl⟩:=rx
 obtain ⟨t',rfl⟩:=ry
 exact rule i j t t' s _ _ hc ⟨.int (g i j),H,I.tok _,⟨_,rfl⟩,q⟩
theorem Jr {f:Value->Value->Sem Value}{g:Int->Int->Int}
  (rule:∀(i j:Int) (t u:Tok) (s:Shared) (Q:Value->Shared->Prop) (E:Value->Shared->Prop),Q (.int (g i j) s.toks) {s with toks:=s.toks+1}->wpAny (model X.prog X.w) X.A (f (.int i t) (.int j u)) Q E s) :
  OpR X f (rI0 fun i j=>.int (g i j)):=by
 intro pins s σ H x y v u Q I rx ry h
 obtain ⟨i,j,rfl,rfl,q⟩:=h
 obtain ⟨t,rfl⟩:=rx
 obtain ⟨t',rfl⟩:=ry
 exact rule i j t t' s _ _ ⟨.int (g i j),H,I.tok _,⟨_,rfl⟩,q⟩
theorem EG {f:Value->Value->Sem Value}{g:Int->Int->Bool}
  (rule:∀(i j:Int) (t u:Tok) (s:Shared) (Q:Value->Shared->Prop) (E:Value->Shared->Prop),Q (.bool (g i j)) s->wpAny (model X.prog X.w) X.A (f (.int i t) (.int j u)) Q E s) :
  OpR X f (rI0 fun i j=>.bl (g i j)):=by
 intro pins s σ H x y v u Q I rx ry h
 obtain ⟨i,j,rfl,rfl,q⟩:=h
 obtain ⟨t,rfl⟩:=rx
 obtain ⟨t',rfl⟩:=ry
 exact rule i j t t' s _ _ ⟨.bl (g i j),H,I,rfl,q⟩
def Cn (i j:Int):Prop:=0 < j/\j < 1073741824
def Kr (i j:Int):Prop:=0<=j/\j<=1000000/\i.natAbs < 2 ^ 64
def tu (i j:Int):Prop:=(-(2 ^ 64) < i/\i < 2 ^ 64)\/(-(2 ^ 64) < j/\j < 2 ^ 64)
theorem tu.ok {i j:Int}(h:tu i j):IntMulOk i j:=by
 rcases h with ⟨h1,h2⟩ | ⟨h1,h2⟩
 ·exact .of_left (intBits_le_64 h1 h2)
 ·exact .of_right (intBits_le_64 h1 h2)
theorem HB:OpR X (binaryOp .Add) (rI0 fun i j=>.int (i+j)):=Jr fun _ _ _ _ _ _ _ q=>add_int q
theorem HC:OpR X (binaryOp .Sub) (rI0 fun i j=>.int (i - j)):=Jr fun _ _ _ _ _ _ _ q=>sub_int q
theorem yV:OpR X (binaryOp .Mult) (rI tu fun i j=>.int (i * j)):=opI fun _ _ _ _ _ _ _ hc q=>mul_int q hc.ok
theorem EH:OpR X (binaryOp .FloorDiv) (rI Cn fun i j=>.int (i / j)):=opI fun i j _ _ _ _ _ hc q=>by
 have h1:(0:Int) < j:=hc.1
 have h2:j < 1073741824:=hc.2
 exact floordiv_int (by omega) (by rw [Int.fdiv_eq_ediv_of_nonneg i (by omega)];exact q) (.inl (PyProof.noPylong_small (by omega)))
theorem Co:OpR X (binaryOp .Mod) (rI (fun _ j=>0 < j) fun i j=>.int (i % j)):=opI fun i j _ _ _ _ _ hc q=>by
 have h1:(0:Int) < j:=hc
 exact mod_int' (by omega) (by rw [Int.fmod_eq_emod_of_nonneg i (by omega)];exact q)
theorem unI {f:Value->Sem Value}{g:Int->Int}
  (rule:∀(i:Int) (t:Tok) (s:Shared) (Q:Value->Shared->Prop) (E:Value->Shared->Prop),Q (.int (g i) s.toks) {s with toks:=s.toks+1}->wpAny (model X.prog X.w) X.A (f (.int i t)) Q E s) :
  UnR X f (rU fun i=>.int (g i)):=by
 intro pins s σ H x v Q I rx h
 obtain ⟨i,rfl,q⟩:=h
 obtain ⟨t,rfl⟩:=rx
 exact rule i t s _ _ ⟨.int (g i),H,I.tok _,⟨_,rfl⟩,q⟩
theorem HD:UnR X (unaryOp .USub) (rU fun i=>.int (-i)):=unI fun _ _ _ _ _ q=>neg_int q
end
noncomputable def uW:V->V->Bool
 | .non,.non=>true | .non,.int _=>true | .int _,.non=>true | .non,.bl _=>true | .bl _,.non=>true | .non,.str _=>true | .str _,.non=>true
 | .int _,.int _=>true | .bl _,.bl _=>true | .str _,.str _=>true | .byt _,.byt _=>true
 | .int _,.str _=>true | .str _,.int _=>true | .bl _,.str _=>true | .str _,.bl _=>true
 | _,_=>false
noncomputable def rEq:R2:=fun x y H Q=>uW x y=true/\Q (.bl (decide (x=y))) H
noncomputable def rNe:R2:=fun x y H Q=>uW x y=true/\Q (.bl (!decide (x=y))) H
theorem An {i j:Int}:decide (V.int i=V.int j)=(i == j):=by
 rw [Bool.eq_iff_iff]
 simp
theorem Cp {i j:Bool}:decide (V.bl i=V.bl j)=(i == j):=by
 rw [Bool.eq_iff_iff]
 simp
theorem Ao {i j:Str}:decide (V.str i=V.str j)=(i == j):=by
 rw [Bool.eq_iff_iff]
 simp
theorem Ap {i j:Array UInt8}:decide (V.byt i=V.byt j)=(i.toList == j.toList):=by
 rw [Bool.eq_iff_iff]
 cases i
 cases j
 simp
section
variable {X:Cx}{a b c:Expr}{ta tb tc:TE}{pos:Pos}
theorem bJ {pins:List (Addr×Obj)}{σ:St}{H:Hp}{s:Shared}{Q:VK}{k k':Bool}(I:Inv X pins σ H s)(q:Q (.bl k) H)(e:k=k'):EP X pins σ Q (.bool k') s:=by
 subst e
 exact ⟨.bl k,H,I,rfl,q⟩
theorem GH:OpR X (compareOp .Eq) rEq:=by
 intro pins s σ H x y v u Q I rx ry h
 obtain ⟨hs,q⟩:=h
 cases x with
 | non=>
  cases rx
  cases y with
  | non=>cases ry;exact PySem.EqNone.eq_none_none (bJ I q (by simp))
  | bl j=>cases ry;exact PySem.EqNone.eq_none_bool (bJ I q (by simp))
  | int j=>obtain ⟨t',rfl⟩:=ry;exact PySem.EqNone.eq_none_int (bJ I q (by simp))
  | str j=>obtain ⟨t',rfl⟩:=ry;exact PySem.EqNone.eq_none_str (bJ I q (by simp))
  | _=>exact absurd (show false=true from hs) Bool.false_ne_true
 | bl i=>
  cases rx
  cases y with
  | non=>cases ry;exact PySem.EqNone.eq_bool_none (bJ I q (by simp))
  | bl j=>cases ry;exact eq_bool (bJ I q Cp)
  | str j=>obtain ⟨t',rfl⟩:=ry;exact PySem.EqMixed.eq_bool_str (bJ I q (by simp))
  | _=>exact absurd (show false=true from hs) Bool.false_ne_true
 | int i=>
  obtain ⟨t,rfl⟩:=rx
  cases y with
  | non=>cases ry;exact PySem.EqNone.eq_int_none (bJ I q (by simp))
  | int j=>obtain ⟨t',rfl⟩:=ry;exact eq_int (bJ I q An)
  | str j=>obtain ⟨t',rfl⟩:=ry;exact PySem.EqMixed.eq_int_str (bJ I q (by simp))
  | _=>exact absurd (show false=true from hs) Bool.false_ne_true
 | str i=>
  obtain ⟨t,rfl⟩:=rx
  cases y with
  | non=>cases ry;exact PySem.EqNone.eq_str_none (bJ I q (by simp))
  | bl j=>cases ry;exact PySem.EqMixed.eq_str_bool (bJ I q (by simp))
  | int j=>obtain ⟨t',rfl⟩:=ry;exact PySem.EqMixed.eq_str_int (bJ I q (by simp))
  | str j=>obtain ⟨t',rfl⟩:=ry;exact eq_str (bJ I q Ao)
  | _=>exact absurd (show false=true from hs) Bool.false_ne_true
 | byt i=>
  obtain ⟨t,rfl⟩:=rx
  cases y with
  | byt j=>obtain ⟨t',rfl⟩:=ry;exact W.eq_bytes (bJ I q Ap)
  | _=>exact absurd (show false=true from hs) Bool.false_ne_true
 | _=>cases y<;>exact absurd (show false=true from hs) Bool.false_ne_true
theorem Js:OpR X (compareOp .NotEq) rNe:=by
 intro pins s σ H x y v u Q I rx ry h
 obtain ⟨hs,q⟩:=h
 cases x with
 | non=>
  cases rx
  cases y with
  | non=>cases ry;exact PySem.EqNone.ne_none_none (bJ I q (by simp))
  | bl j=>cases ry;exact PySem.EqNone.ne_none_bool (bJ I q (by simp))
  | int j=>obtain ⟨t',rfl⟩:=ry;exact PySem.EqNone.ne_none_int (bJ I q (by simp))
  | str j=>obtain ⟨t',rfl⟩:=ry;exact PySem.EqNone.ne_none_str (bJ I q (by simp))
  | _=>exact absurd (show false=true from hs) Bool.false_ne_true
 | bl i=>
  cases rx
  cases y with
  | non=>cases ry;exact PySem.EqNone.ne_bool_none (bJ I q (by simp))
  | bl j=>cases ry;exact ne_bool (bJ I q (congrArg not Cp))
  | str j=>obtain ⟨t',rfl⟩:=ry;exact PySem.EqMixed.ne_bool_str (bJ I q (by simp))
  | _=>exact absurd (show false=true from hs) Bool.false_ne_true
 | int i=>
  obtain ⟨t,rfl⟩:=rx
  cases y with
  | non=>cases ry;exact PySem.EqNone.ne_int_none (bJ I q (by simp))
  | int j=>obtain ⟨t',rfl⟩:=ry;exact ne_int (bJ I q (congrArg not An))
  | str j=>obtain ⟨t',rfl⟩:=ry;exact PySem.EqMixed.ne_int_str (bJ I q (by simp))
  | _=>exact absurd (show false=true from hs) Bool.false_ne_true
 | str i=>
  obtain ⟨t,rfl⟩:=rx
  cases y with
  | non=>cases ry;exact PySem.EqNone.ne_str_none (bJ I q (by simp))
  | bl j=>cases ry;exact PySem.EqMixed.ne_str_bool (bJ I q (by simp))
  | int j=>obtain ⟨t',rfl⟩:=ry;exact PySem.EqMixed.ne_str_int (bJ I q (by simp))
  | str j=>obtain ⟨t',rfl⟩:=ry;exact ne_str (bJ I q (congrArg not Ao))
  | _=>exact absurd (show false=true from hs) Bool.false_ne_true
 | byt i=>
  obtain ⟨t,rfl⟩:=rx
  cases y with
  | byt j=>obtain ⟨t',rfl⟩:=ry;exact W.ne_bytes (bJ I q (congrArg not Ap))
  | _=>exact absurd (show false=true from hs) Bool.false_ne_true
 | _=>cases y<;>exact absurd (show false=true from hs) Bool.false_ne_true
theorem GI:OpR X (compareOp .Lt) (rI0 fun i j=>.bl (decide (i < j))):=EG fun _ _ _ _ _ _ _ q=>lt_int q
theorem GJ:OpR X (compareOp .LtE) (rI0 fun i j=>.bl (decide (i<=j))):=EG fun _ _ _ _ _ _ _ q=>le_int q
theorem Jt:OpR X (compareOp .Gt) (rI0 fun i j=>.bl (decide (j < i))):=EG fun _ _ _ _ _ _ _ q=>gt_int q
theorem GK:OpR X (compareOp .GtE) (rI0 fun i j=>.bl (decide (j<=i))):=EG fun _ _ _ _ _ _ _ q=>ge_int q
theorem HE:OpR X (compareOp .Is) (fun x y H Q=>y=.non/\Q (.bl (decide (x=.non))) H):=by
 intro pins s σ H x y v u Q I rx ry h
 obtain ⟨rfl,q⟩:=h
 cases ry
 refine is_none_gen (bJ I q ?_)
 cases x<;>first
  | (cases rx;rfl)
  | (obtain ⟨t,rfl⟩:=rx;rfl)
theorem EI:OpR X (compareOp .IsNot) (fun x y H Q=>y=.non/\Q (.bl (!decide (x=.non))) H):=by
 intro pins s σ H x y v u Q I rx ry h
 obtain ⟨rfl,q⟩:=h
 cases ry
 refine isnot_none_gen (bJ I q ?_)
 cases x<;>first
  | (cases rx;rfl)
  | (obtain ⟨t,rfl⟩:=rx;rfl)
theorem bV (b:Expr){op:CmpOp}(h:op≠.In:=by decide)(h2:op≠.NotIn:=by decide):behindInMarks op b=false:=by
 have e1:(op == CmpOp.In)=false:=by cases op<;>first | rfl | exact absurd rfl h
 have e2:(op == CmpOp.NotIn)=false:=by cases op<;>first | rfl | exact absurd rfl h2
 cases b<;>simp [behindInMarks,e1,e2]
theorem cB {op:CmpOp}{r:R2}(ho:OpR X (compareOp op) r)(ha:PE X a ta)(hb:PE X b tb)(hm:behindInMarks op b=false):PE X (.Compare a [op] [b] pos) (tOp r ta tb):=by
 intro pins s σ H Q I h
 exact wpAny_Compare1 (HA ha hb I h fun v u s2 x y H2 I2 rx ry q=>ho pins s2 σ H2 x y v u Q I2 rx ry q) hm
noncomputable def lD (t:TE):TT:=fun σ H Q=>t σ H fun x H'=>∃k,x=.bl k/\Q k H'
theorem gO {op:CmpOp}{r:R2}(ho:OpR X (compareOp op) r)(ha:PE X a ta)(hb:PE X b tb)(hm:behindInMarks op b=false):PT X (.Compare a [op] [b] pos) (lD (tOp r ta tb)):=by
 intro pins s σ H Q I h
 refine wpAny_isTrue_Compare1 (thn (ha pins s σ H _ I h) fun v s1 ⟨x,H1,I1,r1,q1⟩=>thn (hb pins s1 σ H1 _ I1 q1) fun u s2 ⟨y,H2,I2,r2,q2⟩=>
  thn (ho pins s2 σ H2 x y v u _ I2 r1 r2 q2) fun c s3 ⟨z,H3,I3,r3,k,e,q3⟩=>?_) hm
 subst e
 cases r3
 exact wpAny_truthy_bool ⟨H3,I3,q3⟩
def Ju (K:W.Frag)(x:V)(H:Hp)(k:Bool):Prop:=
 match x with
 | .non=>k=false
 | .bl b=>k=b
 | .int i=>k=(i != 0)
 | .str y=>y.length<=sizeLine/\k=((y.length:Int) != 0)
 | .byt y=>y.size<=sizeLine/\k=((y.size:Int) != 0)
 | .ref p=>(∃xs,SqL K H p xs/\k=!xs.isEmpty)\/(∃xs,SqT K H p xs/\k=!xs.isEmpty)\/∃kvs,H p=some (.dK kvs)/\k=!kvs.isEmpty
 | _=>False
theorem yW {κ:Type}{kvs:List (κ×V)}{vs:List (κ×Value)}(r:KV kvs vs):(!vs.isEmpty)=!kvs.isEmpty:=by
 cases r<;>rfl
theorem tw {xs:List V}{its:List Value}(r:a8 xs its):(!its.toArray.isEmpty)=!xs.isEmpty:=by
 cases r<;>simp
theorem qu:(sizeLine:Nat) < 2 ^ 63:=by rw [sizeLine_eq];decide
theorem HF:Kq X (fun x H Q=>∃k,Ju X.K x H k/\Q k H):=by
 intro pins s σ H x v Q I rx h
 obtain ⟨k,e,q⟩:=h
 have hl:=qu
 have hs:sizeLine=16777216:=sizeLine_eq
 cases x with
 | non=>
  cases rx
  have e':k=false:=e
  subst e'
  exact truthy_none ⟨H,I,q⟩
 | bl b=>
  cases rx
  have e':k=b:=e
  subst e'
  exact wpAny_truthy_bool ⟨H,I,q⟩
 | int i=>
  obtain ⟨t,rfl⟩:=rx
  have e':k=(i != 0):=e
  subst e'
  exact PySem.P.truthy_int ⟨H,I,q⟩
 | str y=>
  obtain ⟨t,rfl⟩:=rx
  obtain ⟨hy,e'⟩:y.length<=sizeLine/\k=((y.length:Int) != 0):=e
  subst e'
  exact PySem.P.truthy_str (by omega) ⟨H,I.tok _,q⟩
 | byt y=>
  obtain ⟨t,rfl⟩:=rx
  obtain ⟨hy,e'⟩:y.size<=sizeLine/\k=((y.size:Int) != 0):=e
  subst e'
  exact W.truthy_bytes (by omega) ⟨H,I.tok _,q⟩
 | ref p=>
  cases rx
  have e':(∃xs,SqL X.K H p xs/\k=!xs.isEmpty)\/(∃xs,SqT X.K H p xs/\k=!xs.isEmpty)\/∃kvs,H p=some (.dK kvs)/\k=!kvs.isEmpty:=e
  rcases e' with ⟨xs,hx,e'⟩ | ⟨xs,hx,e'⟩ | ⟨kvs,hx,e'⟩
  ·subst e'
   obtain ⟨its,r,pl,hz⟩:=I.list hx
   have hlen:=r.length
   exact wpAny_truthy_list pl.isList (by simp only [List.size_toArray];omega) ⟨H,I.tok _,by rw [tw r];exact q⟩
  ·subst e'
   obtain ⟨its,r,pl,hz⟩:=I.tuple hx
   have hlen:=r.length
   exact truthy_tuple pl (by simp only [List.size_toArray];omega) ⟨H,I.tok _,by rw [tw r];exact q⟩
  ·subst e'
   obtain ⟨hz,hS,vs,r,m⟩:kvs.length<=sizeLine/\(p == sysModules)=false/\∃vs,KV kvs vs/\s.heap.DictOf (wI X.prog X.w) p vs:=I.hok p _ hx
   have hlen:kvs.length=vs.length:=Paired.length r
   exact wpAny_truthy_dict hS m (by omega) ⟨H,I.tok _,by rw [yW r];exact q⟩
 | _=>exact (show False from e).elim
theorem tD (ha:PE X a ta)(he:∀bS,isTrue a X.env bS=(do let v ←bS;standAt a.pos;holding [v] (truthy v))) :
  PT X a (fun σ H Q=>ta σ H fun x H'=>∃k,Ju X.K x H' k/\Q k H'):=by
 intro pins s σ H Q I h
 exact isTrue_plain (thn (ha pins s σ H _ I h) fun v s1 ⟨x,H1,I1,r1,q1⟩=>HF pins s1 σ H1 x v Q I1 r1 q1) (he _)
theorem oT {x:V}{us:List Value}(r:a8 [x] us):∃u,us=[u]/\bA x u:=by
 cases r with
 | cons r1 r2=>cases r2;exact ⟨_,rfl,r1⟩
theorem Aq {x y:V}{us:List Value}(r:a8 [x,y] us):∃u w',us=[u,w']/\bA x u/\bA y w':=by
 cases r with
 | cons r1 r2=>
  cases r2 with
  | cons r3 r4=>cases r4;exact ⟨_,_,rfl,r1,r3⟩
theorem Cq:eG X (.builtin "abs") (fun xs H Q=>∃i,xs=[.int i]/\Q (.int (if i < 0 then -i else i)) H):=by
 intro pins s σ H xs us Q I r h
 obtain ⟨i,rfl,q⟩:=h
 obtain ⟨u,rfl,t,rfl⟩:=oT r
 exact call_abs_int fun u tk=>⟨.int (if i < 0 then -i else i),H,I.tok _,⟨_,rfl⟩,q⟩
theorem Bf (hc:X.calm=true):eG X (.builtin "min") (fun xs H Q=>∃i j,xs=[.int i,.int j]/\Q (.int (if j < i then j else i)) H):=by
 intro pins s σ H xs us Q I r h
 obtain ⟨i,j,rfl,q⟩:=h
 obtain ⟨u,w',rfl,⟨t,rfl⟩,⟨t',rfl⟩⟩:=Aq r
 refine min_two_ints (I.ok.hd hc) fun h' tk k=>⟨_,H,I.kept k,?_,q⟩
 by_cases hj:j < i
 ·rw [if_pos hj,if_pos hj];exact ⟨_,rfl⟩
 ·rw [if_neg hj,if_neg hj];exact ⟨_,rfl⟩
theorem Bg:eG X (.type "int") (fun xs H Q=>(∃i,xs=[.int i]/\Q (.int i) H)\/∃k,xs=[.bl k]/\Q (.int (if k then 1 else 0)) H):=by
 intro pins s σ H xs us Q I r h
 rcases h with ⟨i,rfl,q⟩ | ⟨k,rfl,q⟩
 ·obtain ⟨u,rfl,t,rfl⟩:=oT r
  exact call_int_int ⟨.int i,H,I,⟨_,rfl⟩,q⟩
 ·obtain ⟨u,rfl,r1⟩:=oT r
  cases r1
  exact call_int_bool ⟨.int (if k then 1 else 0),H,I.tok _,⟨_,rfl⟩,q⟩
end
structure yX (h:Heap)(x dx C:Addr)(mA:Str->Option Value):Prop where
 obj:h.get? x=some (W.instObj C dx)
 ns:h.Ns1 dx mA
 ne:dx≠x
theorem Bh {h:Heap}{dx:Addr}{mA:Str->Option Value}(n:h.Ns1 dx mA):∃od,h.get? dx=some od/\∀name,W.lookIn name od=some (mA name):=by
 obtain ⟨o,es,ep,ho,hd,hk,_,hm⟩:=n
 refine ⟨o,ho,fun name=>?_⟩
 have e:=hm name
 unfold nsFind findBy at e
 rw [←Array.find?_toList] at e
 unfold W.lookIn
 rw [hd]
 dsimp only
 split
 ·rename_i y q
  rw [q] at e
  exact congrArg some e
 ·rename_i q
  rw [q] at e
  have a:es.toList.any (·.refKey)=false:=by
   rw [List.any_eq_false]
   intro y hy
   obtain ⟨z,t,hkey⟩:=hk y (Array.mem_toList_iff.mp hy)
   simp [DictEntry.refKey,hkey]
  have a':¬es.toList.any (·.refKey)=true:=by rw [a];exact Bool.false_ne_true
  rw [if_neg a']
  exact congrArg some e
theorem yX.look {h:Heap}{x dx C:Addr}{mA:Str->Option Value}(I:yX h x dx C mA):∃od,W.InstAt h x (W.instObj C dx) C (some od)/\∀name,W.lookIn name od=some (mA name):=
 let ⟨od,ho,hl⟩:=Bh I.ns
 ⟨od,⟨I.obj,rfl,rfl,ho⟩,hl⟩
section
variable {prog:Program}{w:World}{A:Around}{E:Value->Shared->Prop}{s:Shared}{K:W.Frag}{x dx C f:Addr}{mA:Str->Option Value}{name:Str}{v:Value}
theorem EJ {expr:Bool}{Q:Value->Shared->Prop}(X:K.In s.heap)(I:yX s.heap x dx C mA)(hg:W.plainGet K C name=true)(hh:W.hasDictIn K C=true)
  (ha:W.findIn K (.ref C) name=some none) (hv:mA name=some v) (hv':W.handedIn v=true) (h:Q v {s with toks:=s.toks+1}) :
  wpAny (model prog w) A (getAttr (.ref x) name expr) Q E s:=by
 obtain ⟨od,J,hl⟩:=I.look
 exact W.get_value X J (W.plainGet_of hg).1 (W.findObj_own hh ha rfl (by rw [hl,hv])) hv' h
theorem Cr {pl:Sem Bool}{Q:Value×List Value->Shared->Prop}(X:K.In s.heap)(I:yX s.heap x dx C mA)(hg:W.plainGet K C name=true)
  (hf:W.findIn K (.ref C) name=some (some (.ref f))) (ht:W.isFn K (.ref f)=true) (hv:mA name=none) (h:Q (.ref f,[.ref x]) s) :
  wpAny (model prog w) A (getMethod (.ref x) name pl) Q E s:=by
 obtain ⟨od,J,hl⟩:=I.look
 exact W.method_fn X J (W.plainGet_of hg).1 (W.plainGet_of hg).2 hf (beq_iff_eq.mp ht) (by show (W.lookIn name od).map (·.isSome)=some false;rw [hl,hv];rfl) h
theorem EK {ns:List Str}{Q:Unit->Shared->Prop}(X:K.In s.heap)(I:yX s.heap x dx C mA)
  (hs:W.findIn K (.ref C) "__setattr__"=some (some (.builtin "object.__setattr__"))) (hp:W.plainOver K C=true) (ht:W.takerIn K C name=some none) (hh:W.hasDictIn K C=true)
  (hw:PySem.Within mA ns) (hsz:ns.length<=sizeLine)
  (h:∀h',yX h' x dx C (fun y=>if y=name then some v else mA y)->Heap.SameBut dx s.heap h'->Q () {s with heap:=h',toks:=s.toks+2}) :
  wpAny (model prog w) A (setAttr (.ref x) name v) Q E s:=by
 obtain ⟨od,J,hl⟩:=I.look
 refine W.set_plain X J hs (W.osa_open (s:={s with toks:=s.toks+1}) (r:=none) X J hp ht fun b=>?_)
 obtain ⟨cd,hc,hd'⟩:=W.any_some hh
 have hx:s.heap.get? x=some ⟨.ref C,some dx,.plain,#[]⟩:=I.obj
 refine wpAny_bind (wpAny_pure (wpAny_bind (wpAny_bind (wpAny_loadPart hx (wpAny_bind (W.Looks.here (s:={s with toks:=s.toks+1}) (W.looks_clsIn X hc) ?_))))))
 rw [hd']
 refine wpAny_pure (a:=some dx) (wpAny_bind (wpAny_pure (wpAny_bind ?_)))
 refine wpAny_nsSet1 (s:={s with toks:=s.toks+1}) I.ns fun h' hn2 hs2=>?_
 obtain ⟨oD,esD,epD,hoD,hdD,hcD⟩:=hn2.count (PySem.Within.cons name v hw)
 refine wpAny_bind (wpAny_lookBehind hoD (by rw [hdD];exact pastItsLine_dict (Nat.le_trans hcD (by rw [List.length_cons];omega))) ?_)
 exact wpAny_pure (h _ ⟨(hs2.2 _ (Ne.symm I.ne)).trans I.obj,hn2,I.ne⟩ hs2)
theorem Cs {R:Result->Shared->Prop}{vs:List Value}{kw:List (Str×Value)}(X:K.In s.heap)(hm:W.makesIn K C=true)
  (hi:W.findIn K (.ref C) "__init__"=some (some (.ref f))) (hf:W.typeIn K (.ref f)=some (.type "function"))
  (h:codeAny (model prog w) (A.under (.builtin "type.__call__" ⟨.ref C::vs,kw⟩)) (.call (.ref f) ⟨.ref (s.heap.objs.size+1)::vs,kw⟩) (W.InitBack (s.heap.objs.size+1) R)
   {s with heap:=(s.heap.push W.emptyDict).push (W.instObj C s.heap.objs.size)}) :
  codeAny (model prog w) A (.call (.ref C) ⟨vs,kw⟩) R s:=by
 obtain ⟨hh,g,d,t,os⟩:=s
 exact W.make_core (W.makes_of X hm) (W.looks_findIn X hi) (fun self=>W.bind_fn X self hf) (.inl rfl) h
end
noncomputable def ba (f:Str)(v:V):List (Str×V)->List (Str×V)
 | []=>[(f,v)]
 | (g,x)::r=>if g=f then (g,v)::r else (g,x)::ba f v r
theorem rF (f g:Str)(v:V):∀fs:List (Str×V),(ba f v fs).lookup g=if g=f then some v else fs.lookup g
 | []=>by
  show List.lookup g [(f,v)]=_
  by_cases h:g=f
  ·have hb:(g == f)=true:=beq_iff_eq.mpr h
   simp only [List.lookup,hb,if_pos h]
  ·have hb:(g == f)=false:=beq_eq_false_iff_ne.mpr h
   simp only [List.lookup,hb,if_neg h]
 | (k,x)::r=>by
  have ih:=rF f g v r
  rw [show ba f v ((k,x)::r)=(if k=f then (k,v)::r else (k,x)::ba f v r) from rfl]
  by_cases hk:k=f
  ·rw [if_pos hk]
   by_cases h:g=k
   ·have hb:(g == k)=true:=beq_iff_eq.mpr h
    simp only [List.lookup,hb,if_pos (h.trans hk)]
   ·have hb:(g == k)=false:=beq_eq_false_iff_ne.mpr h
    simp only [List.lookup,hb,if_neg (fun e:g=f=>h (e.trans hk.symm))]
  ·rw [if_neg hk]
   by_cases h:g=k
   ·have hb:(g == k)=true:=beq_iff_eq.mpr h
    simp only [List.lookup,hb,if_neg (fun e:g=f=>hk (h.symm.trans e))]
   ·have hb:(g == k)=false:=beq_eq_false_iff_ne.mpr h
    simp only [List.lookup,hb]
    exact ih
theorem qv (f:Str)(v:V):∀fs:List (Str×V),f∈(ba f v fs).map (·.1)/\∀g,g∈fs.map (·.1)->g∈(ba f v fs).map (·.1)
 | []=>⟨by simp [ba],fun g h=>by simp at h⟩
 | (k,x)::r=>by
  obtain ⟨i1,i2⟩:=qv f v r
  rw [show ba f v ((k,x)::r)=(if k=f then (k,v)::r else (k,x)::ba f v r) from rfl]
  by_cases hk:k=f
  ·rw [if_pos hk]
   subst hk
   exact ⟨by simp,fun g h=>by simpa using h⟩
  ·rw [if_neg hk]
   refine ⟨?_,fun g h=>?_⟩
   ·rw [List.map_cons]
    exact List.mem_cons_of_mem _ i1
   ·rw [List.map_cons] at h ⊢
    rcases List.mem_cons.mp h with e | e
    ·exact List.mem_cons.mpr (.inl e)
    ·exact List.mem_cons_of_mem _ (i2 g e)
theorem lE (f:Str)(v:V):∀fs:List (Str×V),(ba f v fs).length<=fs.length+1
 | []=>by simp [ba]
 | (k,x)::r=>by
  have ih:=lE f v r
  rw [show ba f v ((k,x)::r)=(if k=f then (k,v)::r else (k,x)::ba f v r) from rfl]
  by_cases hk:k=f
  ·rw [if_pos hk,List.length_cons,List.length_cons];omega
  ·rw [if_neg hk,List.length_cons,List.length_cons];omega
theorem uV.some_of {v:V}{o:Option Value}(r:uV (some v) o):∃u,o=some u/\bA v u:=by
 cases o with
 | none=>exact (show False from r).elim
 | some u=>exact ⟨u,rfl,r⟩
theorem uV.none_of {o:Option Value}(r:uV none o):o=none:=by
 cases o with
 | none=>rfl
 | some u=>exact (show False from r).elim
theorem Bi {v:V}{u:Value}(r:bA v u):W.handedIn u=true:=by
 cases v with
 | non=>cases (show u=Value.none from r);rfl
 | bl b=>cases (show u=Value.bool b from r);rfl
 | int i=>obtain ⟨t,e⟩:=(show ∃t,u=Value.int i t from r);cases e;rfl
 | str x=>obtain ⟨t,e⟩:=(show ∃t,u=Value.str x t from r);cases e;rfl
 | byt b=>obtain ⟨t,e⟩:=(show ∃t,u=Value.bytes b t from r);cases e;rfl
 | flt b=>obtain ⟨t,e⟩:=(show ∃t,u=Value.float b t from r);cases e;rfl
 | ref a=>cases (show u=Value.ref a from r);rfl
 | ty n=>cases (show u=Value.type n from r);rfl
section
variable {P:Program}{w:World}{H H':Hp}{h h':Heap}{a C dx:Addr}{fs fs':List (Str×V)}
theorem sQ (hok:HOk P w H h)(e:H a=some (.ins C dx fs)):∃mA,yX h a dx C mA/\(∀f,uV (fs.lookup f) (mA f))/\PySem.Within mA (fs.map (·.1))/\fs.length<=1000/\H dx=some (.own a):=by
 obtain ⟨d,z,ne,ob,mA,n,r,q⟩:=(show dE P w H h a (.ins C dx fs) from hok a _ e)
 exact ⟨mA,⟨ob,n,ne⟩,r,q,z,d⟩
end
structure Cls (K:W.Frag)(C:Addr):Prop where
 pg:W.plainGet K C Str.empty=true
 hd:W.hasDictIn K C=true
 po:W.plainOver K C=true
 sa:W.findIn K (.ref C) "__setattr__"=some (some (.builtin "object.__setattr__"))
theorem Cls.get {K:W.Frag}{C:Addr}(c:Cls K C)(f:Str):W.plainGet K C f=true:=c.pg
def aS (K:W.Frag)(C:Addr)(f:Str):Prop:=W.findIn K (.ref C) f=some none
theorem aS.taker {K:W.Frag}{C:Addr}{f:Str}(n:aS K C f):W.takerIn K C f=some none:=by
 unfold W.takerIn
 rw [show W.findIn K (.ref C) f=some none from n]
 rfl
structure yY (K:W.Frag)(C:Addr)(m:Str)(f:Addr):Prop where
 at_:W.findIn K (.ref C) m=some (some (.ref f))
 fn:W.isFn K (.ref f)=true
 kp:W.keepIn K (.ref f)=true
section
variable {X:Cx}{pins:List (Addr×Obj)}{σ:St}{H:Hp}{s:Shared}{a C dx:Addr}{fs:List (Str×V)}{f:Str}{v:V}{A:Around}{E:Value->Shared->Prop}
theorem yZ {b:Bool}{Q:Value->Shared->Prop}(I:Inv X pins σ H s)(e:H a=some (.ins C dx fs))(c:Cls X.K C)(n:aS X.K C f)(l:fs.lookup f=some v)
  (h:∀u s',Inv X pins σ H s'->bA v u->Q u s'):wpAny (model X.prog X.w) A (getAttr (.ref a) f b) Q E s:=by
 obtain ⟨mA,O,r,_,_,_⟩:=sQ I.hok e
 obtain ⟨u,hu,ru⟩:=uV.some_of (v:=v) (o:=mA f) (by rw [←l];exact r f)
 exact EJ I.kIn O (c.get f) c.hd n hu (Bi ru) (h u _ (I.tok _) ru)
theorem nT {m:Str}{g:Addr}{pl:Sem Bool}{Q:Value×List Value->Shared->Prop}(I:Inv X pins σ H s)(e:H a=some (.ins C dx fs))(c:Cls X.K C)(k:yY X.K C m g)(l:fs.lookup m=none)
  (h:Q (.ref g,[.ref a]) s):wpAny (model X.prog X.w) A (getMethod (.ref a) m pl) Q E s:=by
 obtain ⟨mA,O,r,_,_,_⟩:=sQ I.hok e
 have hn:mA m=none:=uV.none_of (by rw [←l];exact r m)
 exact Cr I.kIn O (c.get m) k.at_ k.fn hn h
theorem y3 {y:V}{u:Value}{Q:Unit->Shared->Prop}(I:Inv X pins σ H s)(e:H a=some (.ins C dx fs))(c:Cls X.K C)(n:aS X.K C f)(hl:fs.length < 1000)(ry:bA y u)
  (h:∀s',Inv X pins σ (upd H a (.ins C dx (ba f y fs))) s'->Q () s'):wpAny (model X.prog X.w) A (setAttr (.ref a) f u) Q E s:=by
 obtain ⟨mA,O,r,wi,_,ho⟩:=sQ I.hok e
 have hz:(fs.map (·.1)).length<=sizeLine:=by rw [List.length_map,sizeLine_eq];omega
 refine EK I.kIn O c.sa c.po n.taker c.hd wi hz fun h' O' sb=>h _ ?_
 have hd:∃o,h'.get? dx=some o:=let ⟨o,_,_,e',_⟩:=O'.ns;⟨o,e'⟩
 refine I.write (x:=a) (e:=dx) (by rw [e];exact True.intro) (.inr ho) (fun b q hb z=>(sb.2 b hb).trans z) hd ?_
 refine ⟨by rw [aG O.ne];exact ho,?_,O.ne,O'.obj,_,O'.ns,fun g=>?_,fun g hg=>?_⟩
 ·have:=lE f y fs;omega
 ·show uV ((ba f y fs).lookup g) (if g=f then some u else mA g)
  rw [rF]
  by_cases q:g=f
  ·rw [if_pos q,if_pos q];exact ry
  ·rw [if_neg q,if_neg q];exact r g
 ·by_cases q:g=f
  ·rw [q];exact (qv f y fs).1
  ·refine (qv f y fs).2 g (wi g fun z=>hg ?_)
   show (if g=f then some u else mA g)=none
   rw [if_neg q];exact z
theorem Inv.made (I:Inv X pins σ H s):Inv X pins σ (upd (upd H s.heap.objs.size (.own (s.heap.objs.size+1))) (s.heap.objs.size+1) (.ins C s.heap.objs.size []))
  {s with heap:=(s.heap.push W.emptyDict).push (W.instObj C s.heap.objs.size)}:=by
 have e1:(s.heap.push W.emptyDict).get? s.heap.objs.size=some W.emptyDict:=Heap.get?_push_size s.heap rfl
 have e2:((s.heap.push W.emptyDict).push (W.instObj C s.heap.objs.size)).get? (s.heap.objs.size+1)=some (W.instObj C s.heap.objs.size):=by
  have:=Heap.get?_push_size (s.heap.push W.emptyDict) (o:=W.instObj C s.heap.objs.size) rfl
  rwa [Heap.size_push] at this
 have e3:(s.heap.push W.emptyDict).Ns s.heap.objs.size (fun _=>none):=⟨W.emptyDict,#[],_,e1,rfl,(fun e he=>absurd he (by simp)),fun _=>rfl⟩
 have I1:=I.laid (a:=s.heap.objs.size) (o:=.own (s.heap.objs.size+1)) (h':=s.heap.push W.emptyDict) (t':=s.toks) (fun b u q=>Heap.get?_push_of_some _ q) (Nat.le_refl _) ⟨_,e1⟩
 refine I1.laid (a:=s.heap.objs.size+1) (o:=.ins C s.heap.objs.size []) (t':=s.toks) (fun b u q=>Heap.get?_push_of_some _ q) (Nat.le_of_eq (Heap.size_push _ _)) ?_
 have ne:s.heap.objs.size≠s.heap.objs.size+1:=Nat.ne_of_lt (Nat.lt_succ_self _)
 refine ⟨by rw [aG ne,ag],Nat.zero_le _,ne,e2,fun _=>none,(Heap.Ns1.of_empty e3).at fun o q=>Heap.get?_push_of_some _ q,fun _=>True.intro,fun y hy=>absurd rfl hy⟩
theorem EL {prog:Program}{w:World}{env:Env}{e:Expr}{f:Str}{pos:Pos}{s:Shared}{Q:Value->Shared->Prop}(hb:attributeBase e f env (eval e env)=eval e env)
  (h:wpAny (model prog w) A (eval e env) (fun o s₁=>wpAny (model prog w) A (getAttr o f true) Q E s₁) E s):wpAny (model prog w) A (eval (.Attribute e f pos) env) Q E s:=
 Attribute_any_ h (by rw [arm_eval_Attribute,hb])
end
noncomputable def Jv (K:W.Frag)(ta:TE)(f:Str):TE:=fun σ H Q=>ta σ H fun x H1=>∃a C dx fs v,x=.ref a/\H1 a=some (.ins C dx fs)/\Cls K C/\aS K C f/\fs.lookup f=some v/\Q v H1
noncomputable def Jw (K:W.Frag)(ta tv:TE)(f:Str):TS:=fun D σ H=>tv σ H fun y H1=>ta σ H1 fun x H2=>∃a C dx fs,x=.ref a/\H2 a=some (.ins C dx fs)/\Cls K C/\aS K C f/\fs.length < 1000/\
 D.nx σ (upd H2 a (.ins C dx (ba f y fs)))
section
variable {X:Cx}{o e value:Expr}{f:Str}{pos pos' tpos:Pos}{ta tv:TE}
theorem HG (he:PE X e ta)(hb:attributeBase e f X.env (eval e X.env)=eval e X.env):PE X (.Attribute e f pos) (Jv X.K ta f):=by
 intro pins s σ H Q I h
 refine EL hb (thn (he pins s σ H _ I h) fun u s1 ⟨x,H1,I1,rx,a,C,dx,fs,v,ex,ea,c,n,l,q⟩=>?_)
 subst ex
 obtain rfl:u=Value.ref a:=rx
 exact yZ I1 ea c n l fun u' s2 I2 ru=>⟨v,H1,I2,ru,q⟩
theorem HH (ha:PE X o ta)(hv:PE X value tv)(hs:swapsWith value (some (.Attribute o f pos')) pos.line X.env=pure false):PS X (.Assign [.Attribute o f pos'] value pos) (Jw X.K ta tv f):=by
 intro pins s σ H D I h
 refine plainObj_wpAny_Assign_Attribute (thn (hv pins s σ H _ I h) fun u s1 ⟨y,H1,I1,ry,q⟩=>thn (ha pins s1 σ H1 _ I1 q) fun ov s2 ⟨x,H2,I2,rx,a,C,dx,fs,ex,ea,c,n,l,q2⟩=>?_) hs
 subst ex
 obtain rfl:ov=Value.ref a:=rx
 exact y3 I2 ea c n l ry fun s3 I3=>⟨σ,_,I3,q2⟩
theorem GL {pl:Sem Bool}{m:Str}{apos:Pos}{args:List Expr}{pins:List (Addr×Obj)}{s:Shared}{σ:St}{H:Hp}{Q:Value->Shared->Prop}{te:TE}(he:PE X e te)(I:Inv X pins σ H s)
  (h:te σ H fun x H1=>∃a C dx fs g,x=.ref a/\H1 a=some (.ins C dx fs)/\Cls X.K C/\yY X.K C m g/\fs.lookup m=none/\
   ∀s1,Inv X pins σ H1 s1->wpAny (model X.prog X.w) X.A (callWith pos (.ref g) [.ref a] (backTo pos (starEach args X.env)) (backToKw pos (keywordEach [] X.env))) Q X.xe s1)
  (ht:eval (.Call (.Attribute e m apos) args [] pos) X.env=(do
   let ov ←eval e X.env
   standAt apos.atName
   let (f,first) ←holding [ov] (getMethod ov m pl)
   callWith pos f first (backTo pos (starEach args X.env)) (backToKw pos (keywordEach [] X.env)))) :
  wpAny (model X.prog X.w) X.A (eval (.Call (.Attribute e m apos) args [] pos) X.env) Q X.xe s:=by
 refine W.methodCall_KW (pl:=pl) (thn (he pins s σ H _ I h) fun u s1 ⟨x,H1,I1,rx,a,C,dx,fs,g,ex,ea,c,k,l,q⟩=>?_) ht
 subst ex
 obtain rfl:u=Value.ref a:=rx
 exact nT I1 ea c k l (q s1 I1)
end
section
variable {X:Cx}{pins:List (Addr×Obj)}{σ:St}{H:Hp}{s:Shared}{A:Around}{E:Value->Shared->Prop}{Q:Value->Shared->Prop}{c:Value}{b:Bool}
inductive qw (K:W.Frag)(H:Hp):V->Value->Prop where
 | non:qw K H .non (.type "NoneType")
 | bl (x:Bool):qw K H (.bl x) (.type "bool")
 | int (i:Int):qw K H (.int i) (.type "int")
 | str (x:Str):qw K H (.str x) (.type "str")
 | flt (x:UInt64):qw K H (.flt x) (.type "float")
 | lst {a:Addr} {xs:List V} (e:H a=some (.lst xs)):qw K H (.ref a) (.type "list")
 | frz {a:Addr} {o:Obj} {xs:List V} (e:H a=some (.frz o (.lst xs))):qw K H (.ref a) (.type "list")
 | tup {a:Addr} {xs:List V} (e:H a=some (.tup xs)):qw K H (.ref a) (.type "tuple")
 | dK {a:Addr} {kvs:List (Key×V)} (e:H a=some (.dK kvs)):qw K H (.ref a) (.type "dict")
 | dT {a:Addr} {kvs:List (List Key×V)} (e:H a=some (.dT kvs)):qw K H (.ref a) (.type "dict")
 | ins {a C dx:Addr} {fs:List (Str×V)} (e:H a=some (.ins C dx fs)) (cl:Cls K C) (ha:W.findIn K (.ref C) "__class__"=some (some (.builtin "object.__class__")))
   (hn:W.specialIn K (.builtin "object.__class__") "__get__"=some (some (.builtin "getset_descriptor.__get__"))) (htk:W.takesIn K (.builtin "object.__class__")=some true)
   (hm:W.mroIn K C (.type "object")=some true):qw K H (.ref a) (.ref C)
theorem Bj {x:V}{u t:Value}(I:Inv X pins σ H s)(rx:bA x u)(ty:qw X.K H x t)(e:W.kitOne X.K t c=some b)(h:∀tk,Q (.bool b) {s with toks:=tk}) :
  wpAny (model X.prog X.w) A (call (.builtin "isinstance") [u,c]) Q E s:=by
 cases ty with
 | non=>cases (show u=Value.none from rx);exact W.kia_one W.kitx_none I.kIn True.intro e (fun z=>nomatch z) h
 | bl y=>cases (show u=Value.bool y from rx);exact W.kia_one W.kitx_bool I.kIn True.intro e (fun z=>nomatch z) h
 | int i=>obtain ⟨t,q⟩:=(show ∃t,u=Value.int i t from rx);cases q;exact W.kia_one W.kitx_int I.kIn True.intro e (fun z=>nomatch z) h
 | str y=>obtain ⟨t,q⟩:=(show ∃t,u=Value.str y t from rx);cases q;exact W.kia_one W.kitx_str I.kIn True.intro e (fun z=>nomatch z) h
 | flt y=>obtain ⟨t,q⟩:=(show ∃t,u=Value.float y t from rx);cases q;exact W.kia_one W.kitx_float I.kIn True.intro e (fun z=>nomatch z) h
 | @lst a xs ea=>
  cases (show u=Value.ref a from rx)
  obtain ⟨_,_,n,_,h1⟩:=(show dE X.prog X.w H s.heap a (.lst xs) from I.hok a _ ea)
  exact W.kia_one W.kitx_list I.kIn ⟨_,h1,rfl⟩ e (fun z=>nomatch z) h
 | @frz a ob xs ea=>
  cases (show u=Value.ref a from rx)
  obtain ⟨_,_,_,n,_,h1⟩:=(show dE X.prog X.w H s.heap a (.frz ob (.lst xs)) from I.hok a _ ea)
  exact W.kia_one W.kitx_list I.kIn ⟨_,h1,rfl⟩ e (fun z=>nomatch z) h
 | @tup a xs ea=>
  cases (show u=Value.ref a from rx)
  obtain ⟨_,_,_,p⟩:=(show dE X.prog X.w H s.heap a (.tup xs) from I.hok a _ ea)
  obtain ⟨o,h1,h2,_⟩:=p.tup
  exact W.kia_one W.kitx_tuple I.kIn ⟨o,h1,h2⟩ e (fun z=>nomatch z) h
 | @dK a kvs ea=>
  cases (show u=Value.ref a from rx)
  obtain ⟨_,_,vs,_,p⟩:=(show dE X.prog X.w H s.heap a (.dK kvs) from I.hok a _ ea)
  obtain ⟨o,es,ep,h1,h2,_⟩:=p
  exact W.kia_one W.kitx_dict I.kIn ⟨o,h1,h2.1⟩ e (fun z=>nomatch z) h
 | @dT a kvs ea=>
  cases (show u=Value.ref a from rx)
  obtain ⟨_,_,xs,_,o,es,ep,h1,h2,_⟩:=(show dE X.prog X.w H s.heap a (.dT kvs) from I.hok a _ ea)
  exact W.kia_one W.kitx_dict I.kIn ⟨o,h1,h2.1⟩ e (fun z=>nomatch z) h
 | @ins a C dx fs ea cl ha hn htk hm=>
  cases (show u=Value.ref a from rx)
  obtain ⟨mA,O,_⟩:=sQ I.hok ea
  obtain ⟨od,J,_⟩:=O.look
  exact W.kia_one (W.kitx_own (cl.get _) cl.hd ha hn htk hm) I.kIn J e (fun z=>nomatch z) h
end
structure dC (k:Nat)(A:Around):Prop where
 hd:A.handled=none
 dp:A.depth+3 * k+5 < recursionLimit
 un:A.units+16 * k+200 < cLine
theorem dC.mono {j k:Nat}{A:Around}(r:dC k A)(h:j<=k):dC j A:=⟨r.hd,by have:=r.dp;omega,by have:=r.un;omega⟩
theorem dC.deeper {k:Nat}{A:Around}(r:dC (k+1) A)(env:Env):dC k (A.deeper env):=
 ⟨r.hd,by have:=r.dp;show A.depth+1+3 * k+5 < _;omega,by have:=r.un;show A.units+3+16 * k+200 < _;omega⟩
theorem y4 {A:Around}{C:Addr}{us:List Value}{kw:List (Str×Value)}:(A.under (.builtin "type.__call__" ⟨.ref C::us,kw⟩)).depth=A.depth+1:=by
 first | rfl | simp [Around.under,Code.weight,Code.isCreation,Code.isGuard,Code.isCaller,Code.frames,Code.isFrame,guardIds]
theorem y6 {A:Around}{C:Addr}{us:List Value}{kw:List (Str×Value)}:(A.under (.builtin "type.__call__" ⟨.ref C::us,kw⟩)).units=A.units+1:=by
 first | rfl | simp [Around.under,Code.cUnits,Code.frames,Code.isFrame]
theorem dC.make {k:Nat}{A:Around}(r:dC (k+1) A)(C:Addr)(us:List Value)(kw:List (Str×Value)):dC k (A.under (.builtin "type.__call__" ⟨.ref C::us,kw⟩)):=
 ⟨r.hd,by have:=r.dp;rw [y4];omega,by have:=r.un;rw [y6];omega⟩
theorem dC.depth {k:Nat}{A:Around}(r:dC k A):A.depth < recursionLimit:=by have:=r.dp;omega
theorem dC.units0 {k:Nat}{A:Around}(r:dC k A):A.units < cLine:=by have:=r.un;omega
noncomputable def uX:TA:=fun _ H Q=>Q [] H
noncomputable def kY (ta:TE)(tr:TA):TA:=fun σ H Q=>ta σ H fun x H1=>tr σ H1 fun xs H2=>Q (x::xs) H2
section
variable {X:Cx}{e:Expr}{es:List Expr}{te:TE}{t:TA}{pos:Pos}
theorem g8:PA X [] uX:=fun _ _ _ _ H Q I h=>Calls.spliced_nil ⟨[],H,I,.nil,h⟩
theorem dU (ha:PE X e te)(hr:PA X es t)(hs:starEach (e::es) X.env=(false,eval e X.env)::starEach es X.env:=by rfl):PA X (e::es) (kY te t):=by
 intro pos pins s σ H Q I h
 rw [hs]
 show wpAny _ _ (spliced ((false,eval e X.env)::backTo pos (starEach es X.env))) _ _ s
 refine Calls.spliced_cons (thn (ha pins s σ H _ I h) fun u s1 ⟨x,H1,I1,r1,q1⟩=>?_)
 exact thn (hr pos pins s1 σ H1 _ I1 q1) fun us s2 ⟨xs,H2,I2,r2,q2⟩=>⟨x::xs,H2,I2,.cons r1 r2,q2⟩
noncomputable def Jx (t:TA):TE:=fun σ H Q=>t σ H fun xs H1=>xs.length<=sizeLine/\∀p,H1 p=none->Q (.ref p) (upd H1 p (.tup xs))
noncomputable def Jy (t:TA):TE:=fun σ H Q=>t σ H fun xs H1=>xs.length<=sizeLine/\∀p,H1 p=none->Q (.ref p) (upd H1 p (.lst xs))
theorem aP {x1}(h:PA X es t):PE X (.Tuple es x1 pos) (Jx t):=by
 intro pins s σ H Q I hq
 refine wpAny_Tuple_spliced (thn (h pos pins s σ H _ I hq) fun us s1 ⟨xs,H1,I1,r,z,q⟩=>⟨by rw [←r.length];exact z,?_⟩)
 have hf:H1 s1.heap.objs.size=none:=I1.hok.fresh (Nat.le_refl _)
 refine ⟨.ref s1.heap.objs.size,upd H1 s1.heap.objs.size (.tup xs),I1.laid (t':=s1.toks) (fun b u e=>Heap.get?_push_of_some _ e) (Nat.le_refl _) ?_,rfl,q _ hf⟩
 exact ⟨z,us,r,⟨_,Heap.get?_push_size _ rfl,⟨rfl,_,rfl⟩,rfl⟩⟩
theorem bX (h:PA X es t):PE X (.List es pos) (Jy t):=by
 intro pins s σ H Q I hq
 refine wpAny_List_spliced (thn (h pos pins s σ H _ I hq) fun us s1 ⟨xs,H1,I1,r,z,q⟩=>⟨by rw [←r.length];exact z,?_⟩)
 have hf:H1 s1.heap.objs.size=none:=I1.hok.fresh (Nat.le_refl _)
 refine ⟨.ref s1.heap.objs.size,upd H1 s1.heap.objs.size (.lst xs),I1.laid (t':=s1.toks) (fun b u e=>Heap.get?_push_of_some _ e) (Nat.le_refl _) ?_,rfl,q _ hf⟩
 exact ⟨z,us,0,r,Heap.get?_push_size _ rfl⟩
end
noncomputable abbrev Sp:=List V->Hp->VK->XK->Prop
noncomputable abbrev CXT:=List Env->Hp->Shared->XK->Value->Shared->Prop
structure y8 (P:Program)(w:World)(K:W.Frag)(mg:Str->Option Value)(base:Heap)(A:Around)(outer:List Env)(s:Shared)(H:Hp):Prop where
 frames:A.frames=some outer
 mod:Mod K mg base
 bs:∀b o,base.get? b=some o->s.heap.get? b=some o/\H b=none
 bsz:base.objs.size<=s.heap.objs.size
 funs:s.heap.FunFrames base outer
 frf:∀b∈frs outer,H b=none
 hok:HOk P w H s.heap
 bare:AllBare s.gens
def CE (outer:List Env)(P:Program)(w:World)(H:Hp)(s:Shared)(Q:VK)(u:Value)(s':Shared):Prop:=
 ∃v H',s'.os=s.os/\AllBare s'.gens/\Un (frs outer) [] H H' s.heap s'.heap/\HOk P w H' s'.heap/\bA v u/\Q v H'
def CR (CX:CXT)(outer:List Env)(P:Program)(w:World)(H:Hp)(s:Shared)(Q:VK)(E:XK)(r:Result)(s':Shared):Prop:=
 match r with
 | .ok (.ret u)=>CE outer P w H s Q u s'
 | .ok _=>False
 | .error e=>CX outer H s E e s'
structure gP (P:Program)(w:World)(K:W.Frag)(mg:Str->Option Value)(base:Heap)(CX:CXT)(k:Nat)(f:Addr)(fd:FuncData)(ps:List Str)(sp:Sp):Prop where
 len:∀vs H Q E,sp vs H Q E->vs.length=ps.length
 run:∀(A:Around) (outer:List Env) (s:Shared) (H:Hp) (args:Args) (us:List Value) (vs:List V) (Q:VK) (E:XK),dC k A->y8 P w K mg base A outer s H->BindsTo s fd args (ps.zip us)->a8 vs us->sp vs H Q E->
  codeAny (model P w) A (.call (.ref f) args) (CR CX outer P w H s Q E) s
theorem gP.imp {P:Program}{w:World}{K:W.Frag}{mg:Str->Option Value}{base:Heap}{CX:CXT}{k:Nat}{f:Addr}{fd:FuncData}{ps:List Str}{sp sp':Sp}(F:gP P w K mg base CX k f fd ps sp)
  (h:∀vs H Q E,sp' vs H Q E->sp vs H Q E):gP P w K mg base CX k f fd ps sp':=
 ⟨fun vs H Q E q=>F.len vs H Q E (h _ _ _ _ q),fun A outer s H args us vs Q E hr he hb hv hs=>F.run A outer s H args us vs Q E hr he hb hv (h _ _ _ _ hs)⟩
theorem y8.make {P:Program}{w:World}{K:W.Frag}{mg:Str->Option Value}{base:Heap}{A:Around}{outer:List Env}{s:Shared}{H:Hp}(e:y8 P w K mg base A outer s H)(C:Addr)(us:List Value)(kw:List (Str×Value)) :
  y8 P w K mg base (A.under (.builtin "type.__call__" ⟨.ref C::us,kw⟩)) outer s H:=⟨by first | exact e.frames | (simpa [Around.under,Code.envs,Code.isFrame,pushEnvs] using e.frames),e.mod,e.bs,e.bsz,e.funs,e.frf,e.hok,e.bare⟩
section
variable {X:Cx}{pins:List (Addr×Obj)}{σ:St}{H:Hp}{s s':Shared}
theorem Inv.env0 (I:Inv X pins σ H s):y8 X.prog X.w X.K X.mg X.base X.A X.stack s H:=
 ⟨I.ok.frames,I.ok.mod,I.bs,Nat.le_trans I.ok.bsz I.sz,I.stack,I.stkFree,I.hok,I.bare⟩
theorem Inv.after {Q:VK}{u:Value}(I:Inv X pins σ H s)(h:CE X.stack X.prog X.w H s Q u s'):EP X pins σ Q u s':=by
 obtain ⟨v,H',os,bare,un,hok,r,q⟩:=h
 obtain ⟨hh,g,d,t,os'⟩:=s'
 obtain rfl:os'=s.os:=os
 exact ⟨v,H',I.call (h':=hh) (g':=g) (d':=d) (t':=t) (ch:=[]) un hok bare (fun b z=>absurd z (by simp)),r,q⟩
end
noncomputable def Ar (sp:Sp)(dvs:List V)(E:XK)(t:TA):TE:=fun σ H Q=>t σ H fun vs H1=>sp (vs++dvs) H1 Q E
noncomputable def vL (C:Addr)(m:Str)(sp:Sp)(dvs:List V)(E:XK)(ta:TE)(t:TA):TE:=fun σ H Q=>ta σ H fun x H1=>∃a dx fs,x=.ref a/\H1 a=some (.ins C dx fs)/\fs.lookup m=none/\
 t σ H1 fun vs H2=>sp (x::(vs++dvs)) H2 Q E
noncomputable def Ct (C:Addr)(sp:Sp)(dvs:List V)(E:XK)(t:TA):TE:=fun σ H Q=>t σ H fun vs H1=>∀x dx,H1 x=none->H1 dx=none->dx≠x->
 sp (.ref x::(vs++dvs)) (upd (upd H1 dx (.own x)) x (.ins C dx [])) (fun v H2=>v=.non/\Q (.ref x) H2) E
def dI (K:W.Frag)(fd:FuncData)(ps:List Str)(ds:List Value):Prop:=
 ∀(s:Shared) (us:List Value),K.In s.heap->(us++ds).length=ps.length->BindsTo s fd ⟨us,[]⟩ (ps.zip (us++ds))
theorem dI.all {K:W.Frag}{fd:FuncData}{ps:List Str}(h:∀us:List Value,us.length=ps.length->bindArgs fd ⟨us,[]⟩=pure (ps.zip us)):dI K fd ps []:=fun s us _ hl=>by
 rw [List.append_nil] at hl ⊢
 exact .of_eq (h us hl)
def fo (CX:CXT)(X:Cx)(E:XK):Prop:=∀(pins:List (Addr×Obj)) (σ:St) (H:Hp) (s:Shared) (e:Value) (s':Shared),Inv X pins σ H s->CX X.stack H s E e s'->X.xe e s'
section
variable {X:Cx}{CX:CXT}{k:Nat}{f C:Addr}{fd:FuncData}{ps:List Str}{sp:Sp}{dvs:List V}{ds:List Value}{E:XK}{x m:Str}{p pos apos:Pos}{e o:Expr}{es:List Expr}{ta:TE}{t:TA}
theorem y9 {pins:List (Addr×Obj)}{σ:St}{H:Hp}{s:Shared}{Q:VK}{us:List Value}{vs:List V}(F:gP X.prog X.w X.K X.mg X.base CX k f fd ps sp)(hr:dC k X.A)(hb:dI X.K fd ps ds)(hd:a8 dvs ds)(hx:fo CX X E)
  (I:Inv X pins σ H s) (r:a8 vs us) (h:sp (vs++dvs) H Q E):wpAny (model X.prog X.w) X.A (call (.ref f) us) (EP X pins σ Q) X.xe s:=by
 have r2:a8 (vs++dvs) (us++ds):=r.append hd
 have hl:(us++ds).length=ps.length:=by rw [←r2.length];exact F.len _ _ _ _ h
 refine wpAny_call (codeAny_mono (F.run X.A X.stack s H ⟨us,[]⟩ (us++ds) (vs++dvs) Q E hr I.env0 (hb s us I.kIn hl) r2 h) fun r s' hq=>?_)
 cases r with
 | error e=>exact hx pins σ H s e s' I hq
 | ok fl=>
  cases fl with
  | ret u=>exact I.after hq
  | next=>exact False.elim hq
  | brk=>exact False.elim hq
  | cont=>exact False.elim hq
theorem EM (F:gP X.prog X.w X.K X.mg X.base CX k f fd ps sp)(hr:dC k X.A)(hg:Gl X x)(hm:X.mg x=some (.ref f))(hk:W.keepIn X.K (.ref f)=true)(hb:dI X.K fd ps ds)(hd:a8 dvs ds)(hx:fo CX X E)
  (ha:PA X (e::es) t) (hdb:(x == ("__debug__":Str))=false:=by decide) (he:starEach (e::es) X.env=(false,eval e X.env)::starEach es X.env:=by rfl) (hpl:(backTo pos (starEach es X.env)).any (·.1)=false:=by rfl) :
  PE X (.Call (.Name x p) (e::es) [] pos) (Ar sp dvs E t):=by
 intro pins s σ H Q I h
 refine wpAny_Call_Name_kw (sP I hg hm ?_ hdb)
 refine W.callWith_K (h₀:=X.base) I.ok.mod.kin hk (thn (ha pos pins s σ H _ I h) fun us s1 ⟨vs,H1,I1,r,q⟩=>⟨I1.kIn,?_⟩) he hpl
 exact y9 F hr hb hd hx I1 r q
theorem EN {pl:Sem Bool}(he:PE X o ta)(c:Cls X.K C)(hm:yY X.K C m f)(F:gP X.prog X.w X.K X.mg X.base CX k f fd ps sp)(hr:dC k X.A)(hb:dI X.K fd ps ds)(hd:a8 dvs ds)(hx:fo CX X E)(ha:PA X (e::es) t)
  (hst:starEach (e::es) X.env=(false,eval e X.env)::starEach es X.env:=by rfl) (hpl:(backTo pos (starEach es X.env)).any (·.1)=false:=by rfl)
  (ht:eval (.Call (.Attribute o m apos) (e::es) [] pos) X.env=(do
   let ov ←eval o X.env
   standAt apos.atName
   let (f,first) ←holding [ov] (getMethod ov m pl)
   callWith pos f first (backTo pos (starEach (e::es) X.env)) (backToKw pos (keywordEach [] X.env))):=by rfl) :
  PE X (.Call (.Attribute o m apos) (e::es) [] pos) (vL C m sp dvs E ta t):=by
 intro pins s σ H Q I h
 refine W.methodCall_KW (pl:=pl) (thn (he pins s σ H _ I h) fun u s1 ⟨x,H1,I1,rx,a,dx,fs,ex,ea,l,q⟩=>?_) ht
 subst ex
 obtain rfl:u=Value.ref a:=rx
 refine nT I1 ea c hm l ?_
 refine W.callWith_K (first:=[.ref a]) (h₀:=X.base) I.ok.mod.kin hm.kp (thn (ha pos pins s1 σ H1 _ I1 q) fun us s2 ⟨vs,H2,I2,r,q2⟩=>⟨I2.kIn,?_⟩) hst hpl
 exact y9 (us:=.ref a::us) (vs:=.ref a::vs) F hr hb hd hx I2 (.cons rfl r) q2
theorem Cu {pl:Sem Bool}(he:PE X o ta)(c:Cls X.K C)(hm:yY X.K C m f)(F:gP X.prog X.w X.K X.mg X.base CX k f fd ps sp)(hr:dC k X.A)(hb:dI X.K fd ps ds)(hd:a8 dvs ds)(hx:fo CX X E)
  (ht:eval (.Call (.Attribute o m apos) [] [] pos) X.env=(do
   let ov ←eval o X.env
   standAt apos.atName
   let (f,first) ←holding [ov] (getMethod ov m pl)
   callWith pos f first (backTo pos (starEach [] X.env)) (backToKw pos (keywordEach [] X.env))):=by rfl) :
  PE X (.Call (.Attribute o m apos) [] [] pos) (vL C m sp dvs E ta uX):=by
 intro pins s σ H Q I h
 refine W.methodCall_KW (pl:=pl) (thn (he pins s σ H _ I h) fun u s1 ⟨x,H1,I1,rx,a,dx,fs,ex,ea,l,q⟩=>?_) ht
 subst ex
 obtain rfl:u=Value.ref a:=rx
 refine nT I1 ea c hm l ?_
 exact W.callWith_K0 (first:=[.ref a]) I1.kIn hm.kp (y9 (us:=[.ref a]) (vs:=[.ref a]) F hr hb hd hx I1 (.cons rfl .nil) q)
structure Mk (K:W.Frag)(C f:Addr):Prop where
 makes:W.makesIn K C=true
 init:W.findIn K (.ref C) "__init__"=some (some (.ref f))
 fn:W.isFn K (.ref f)=true
 kp:W.keepIn K (.ref C)=true
theorem Cv {pins:List (Addr×Obj)}{σ:St}{H:Hp}{s:Shared}{Q:VK}{us:List Value}{vs:List V}(M:Mk X.K C f)(F:gP X.prog X.w X.K X.mg X.base CX k f fd ps sp)(hr:dC (k+1) X.A)(hb:dI X.K fd ps ds)(hd:a8 dvs ds)
  (hx:fo CX X E) (I:Inv X pins σ H s) (r:a8 vs us)
  (h:∀x dx,H x=none->H dx=none->dx≠x->sp (.ref x::(vs++dvs)) (upd (upd H dx (.own x)) x (.ins C dx [])) (fun v H2=>v=.non/\Q (.ref x) H2) E) :
  wpAny (model X.prog X.w) X.A (call (.ref C) us) (EP X pins σ Q) X.xe s:=by
 have hq:=h (s.heap.objs.size+1) s.heap.objs.size (I.hok.fresh (Nat.le_succ _)) (I.hok.fresh (Nat.le_refl _)) (Nat.ne_of_lt (Nat.lt_succ_self _))
 have I2:=Inv.made (C:=C) I
 have r2:a8 (V.ref (s.heap.objs.size+1)::(vs++dvs)) (Value.ref (s.heap.objs.size+1)::(us++ds)):=.cons rfl (r.append hd)
 have hl:(Value.ref (s.heap.objs.size+1)::us++ds).length=ps.length:=by
  have e:=r2.length
  rw [F.len _ _ _ _ hq] at e
  exact e.symm
 refine wpAny_call (Cs (f:=f) I.kIn M.makes M.init (beq_iff_eq.mp M.fn) (codeAny_mono (F.run _ X.stack _ _ ⟨Value.ref (s.heap.objs.size+1)::us,[]⟩ (Value.ref (s.heap.objs.size+1)::(us++ds)) _ _ E (hr.make C us [])
  (I2.env0.make C us []) (hb _ (Value.ref (s.heap.objs.size+1)::us) I2.kIn hl) r2 hq) fun r s' hq'=>?_))
 cases r with
 | error e=>exact hx pins σ _ _ e s' I2 hq'
 | ok fl=>
  cases fl with
  | ret u=>
   obtain ⟨v,H',I3,rv,ev,q3⟩:=I2.after hq'
   subst ev
   exact ⟨rv,⟨V.ref (s.heap.objs.size+1),H',I3,rfl,q3⟩⟩
  | next=>exact False.elim hq'
  | brk=>exact False.elim hq'
  | cont=>exact False.elim hq'
theorem EO (M:Mk X.K C f)(F:gP X.prog X.w X.K X.mg X.base CX k f fd ps sp)(hr:dC (k+1) X.A)(hg:Gl X x)(hm:X.mg x=some (.ref C))(hb:dI X.K fd ps ds)(hd:a8 dvs ds)(hx:fo CX X E)
  (ha:PA X (e::es) t) (hdb:(x == ("__debug__":Str))=false:=by decide) (he:starEach (e::es) X.env=(false,eval e X.env)::starEach es X.env:=by rfl) (hpl:(backTo pos (starEach es X.env)).any (·.1)=false:=by rfl) :
  PE X (.Call (.Name x p) (e::es) [] pos) (Ct C sp dvs E t):=by
 intro pins s σ H Q I h
 refine wpAny_Call_Name_kw (sP I hg hm ?_ hdb)
 refine W.callWith_K (h₀:=X.base) I.ok.mod.kin M.kp (thn (ha pos pins s σ H _ I h) fun us s1 ⟨vs,H1,I1,r,q⟩=>⟨I1.kIn,?_⟩) he hpl
 exact Cv M F hr hb hd hx I1 r q
end
structure ay (N P:List Str)(sc:Scope):Prop where
 kind:sc.kind=.function
 co:sc.isCoroutine=false
 gen:sc.isGenerator=false
 nd:N.Nodup
 pre:N.take P.length=P
 par:∀x∈P,sc.names.lookup x=some .local\/sc.names.lookup x=some .cell
 nofree:∀y∈sc.names,y.2≠.free
theorem vM {kindOf:Str->Option NameKind}{x:Str}:∀{binds:List (Str×Value)} {m:Str->Option Value},(∀v,(x,v)∉binds)->bindL kindOf binds m x=m x
 | [],_,_=>rfl
 | (n,v)::r,m,h=>by
  unfold bindL
  rw [vM fun w hw=>h w (List.mem_cons_of_mem _ hw)]
  split
  ·have:x≠n:=by rintro rfl;exact h v List.mem_cons_self
   simp [this]
  ·rfl
theorem vN {kindOf:Str->Option NameKind}{x:Str}:∀{binds:List (Str×Value)} {m:Str->Option Value},(∀v,(x,v)∉binds)->bindC kindOf binds m x=m x
 | [],_,_=>rfl
 | (n,v)::r,m,h=>by
  unfold bindC
  rw [vN fun w hw=>h w (List.mem_cons_of_mem _ hw)]
  split
  ·rfl
  ·have:x≠n:=by rintro rfl;exact h v List.mem_cons_self
   simp [this]
theorem vO {kindOf:Str->Option NameKind}{x:Str}{v:Value}:∀{P:List Str} {vs:List Value} {i:Nat} {m:Str->Option Value},P.Nodup->P[i]?=some x->vs[i]?=some v->kindOf x=some .local->
  bindL kindOf (P.zip vs) m x=some v
 | [],_,_,_,_,h,_,_=>by simp at h
 | _::_,[],_,_,_,_,h,_=>by simp at h
 | p::P,w::vs,0,m,nd,h1,h2,hk=>by
  simp at h1 h2;subst h1;subst h2
  show bindL kindOf ((p,w)::P.zip vs) m p=_
  unfold bindL
  rw [vM fun v hv=>(List.nodup_cons.mp nd).1 (List.of_mem_zip hv).1,if_pos hk]
  simp
 | p::P,w::vs,i+1,m,nd,h1,h2,hk=>by
  show bindL kindOf ((p,w)::P.zip vs) m x=_
  unfold bindL
  exact vO (i:=i) (List.nodup_cons.mp nd).2 (by simpa using h1) (by simpa using h2) hk
theorem vP {kindOf:Str->Option NameKind}{x:Str}{v:Value}:∀{P:List Str} {vs:List Value} {i:Nat} {m:Str->Option Value},P.Nodup->P[i]?=some x->vs[i]?=some v->kindOf x≠some .local->
  bindC kindOf (P.zip vs) m x=some v
 | [],_,_,_,_,h,_,_=>by simp at h
 | _::_,[],_,_,_,_,h,_=>by simp at h
 | p::P,w::vs,0,m,nd,h1,h2,hk=>by
  simp at h1 h2;subst h1;subst h2
  show bindC kindOf ((p,w)::P.zip vs) m p=_
  unfold bindC
  rw [vN fun v hv=>(List.nodup_cons.mp nd).1 (List.of_mem_zip hv).1,if_neg hk]
  simp
 | p::P,w::vs,i+1,m,nd,h1,h2,hk=>by
  show bindC kindOf ((p,w)::P.zip vs) m x=_
  unfold bindC
  exact vP (i:=i) (List.nodup_cons.mp nd).2 (by simpa using h1) (by simpa using h2) hk
noncomputable def kZ (N:List Str)(vs:List V):St:=vs.map some++List.replicate (N.length - vs.length) none
noncomputable def nU (CX:CXT)(P:Program)(w:World)(K:W.Frag)(mg:Str->Option Value)(base:Heap)(N:List Str)(qual:Str)(scope:Scope)(f:Addr)(cd:Value)(A:Around)(outer:List Env)(s:Shared)(H:Hp)(E:XK):Cx where
 prog:=P
 w:=w
 K:=K
 mg:=mg
 base:=base
 A:=A.deeper (envOfC qual scope s.heap.objs.size f cd)
 N:=N
 s₀:=s
 H₀:=H
 env:=envOfC qual scope s.heap.objs.size f cd
 outer:=outer
 stack:=envOfC qual scope s.heap.objs.size f cd::outer
 ex:=[]
 calm:=true
 fn:=fun _=>true
 pn:=[]
 xe:=fun e s'=>wpAny (model P w) (A.deeper (envOfC qual scope s.heap.objs.size f cd)) (leaving (envOfC qual scope s.heap.objs.size f cd) e) (fun _ s''=>CX outer H s E e s'') (fun e' s''=>CX outer H s E e' s'') s'
theorem xN {sc:Scope}{n:Nat}{x:Str}(h:sc.names.lookup x=some .cell):∃c,(cellsFrom n sc.names []).lookup x=some c:=by
 have q:=W.cellsFrom_some sc.names n [] (.inl h)
 exact Option.isSome_iff_exists.mp q
theorem Bk {CX:CXT}{P:Program}{w:World}{K:W.Frag}{mg:Str->Option Value}{base:Heap}{N ps:List Str}{qual:Str}{scope:Scope}{f:Addr}{cd:Value}{A:Around}{outer:List Env}{s s1:Shared}{H:Hp}{E:XK}{us:List Value}{vs:List V}
  (S:ay N ps scope) (hd:A.handled=none) (e0:y8 P w K mg base A outer s H) (hl:vs.length=ps.length) (r:a8 vs us)
  (x:InCallC s s.heap.objs.size (bindL (envOfC qual scope s.heap.objs.size f cd).kindOf (ps.zip us) fun _=>none) (cellsFrom (s.heap.objs.size+1) scope.names []) (bindC (envOfC qual scope s.heap.objs.size f cd).kindOf (ps.zip us) fun _=>none) s1) :
  Inv (nU CX P w K mg base N qual scope f cd A outer s H E) [] (kZ N vs) H s1:=by
 have hpl:ps.length<=N.length:=by have:=congrArg List.length S.pre;rw [List.length_take] at this;omega
 obtain ⟨h1,tk,rfl,hk⟩:=x.done
 have noA:∀b:Addr,b∉(nU CX P w K mg base N qual scope f cd A outer s H E).ex:=fun b z=>absurd (show b∈([]:List Addr) from z) (by simp)
 refine ⟨⟨e0.mod,S.kind,rfl,rfl,Nat.le_refl _,fun y z c h1 h2=>?_,fun y hy=>?_,fun y c _ h=>?_,fun _=>hd,Around.frames_deeper e0.frames,.inr ⟨rfl,rfl⟩,fun b z=>absurd z (noA b),e0.bs,e0.bsz,fun b _ _=>noA b,fun b z=>absurd z (noA b),e0.funs,e0.frf⟩,
  rfl,e0.bare,Un.kept hk,⟨_,x.toInCall.ns,fun i y v h1 h2 h3=>?_⟩,fun y c h=>⟨_,x.cell y c h⟩,e0.hok.fresh (Nat.le_refl _),fun y c h=>?_,fun p hp=>absurd (show p∈([]:List (Addr×Obj)) from hp) (by simp),e0.hok.kept hk,?_⟩
 ·exact name_of_addr x.apart (PySem.mem_of_lookup h1) (PySem.mem_of_lookup h2)
 ·have hy:scope.names.lookup y=some .cell\/scope.names.lookup y=some .free:=hy
  rcases hy with hy | hy
  ·exact xN hy
  ·exact absurd rfl (S.nofree _ (PySem.mem_of_lookup hy))
 ·exact Nat.le_of_lt (x.above y c (PySem.mem_of_lookup h))
 ·have hi:i < vs.length:=by
   unfold kZ at h2
   by_cases hi:i < vs.length
   ·exact hi
   ·rw [List.getElem?_append_right (by simpa using hi)] at h2
    rw [List.getElem?_replicate] at h2
    split at h2<;>cases h2
  have ha:vs[i]?=some v:=by
   unfold kZ at h2
   rw [List.getElem?_append_left (by simpa using hi),List.getElem?_map] at h2
   cases e:vs[i]? with
   | none=>rw [e] at h2;cases h2
   | some a=>rw [e] at h2;cases h2;rfl
  obtain ⟨u,hu,rv⟩:=r.get ha
  have hp:ps[i]?=some y:=by
   rw [←S.pre,List.getElem?_take_of_lt (by omega)];exact h1
  have ndP:ps.Nodup:=by rw [←S.pre];exact S.nd.sublist (List.take_sublist _ _)
  refine ⟨u,rv,?_⟩
  rcases S.par y (List.mem_of_getElem? hp) with k | k
  ·exact .inl ⟨k,vO ndP hp hu k⟩
  ·obtain ⟨c,e⟩:=xN (n:=s.heap.objs.size+1) k
   refine .inr ⟨.inl k,c,e,?_⟩
   have q:=x.cell y c e
   rw [vP ndP hp hu (by show scope.names.lookup y≠_;rw [k];decide)] at q
   exact q
 ·exact e0.hok.fresh (Nat.le_of_lt (x.above y c (PySem.mem_of_lookup h)))
 ·unfold kZ
  show _=N.length
  rw [List.length_append,List.length_map,List.length_replicate]
  omega
theorem GN {CX:CXT}{P:Program}{w:World}{K:W.Frag}{mg:Str->Option Value}{base:Heap}{k:Nat}{f:Addr}{name qual:Str}{params:Arguments}{body:List Stmt}{scope:Scope}{dV kV doc pm cdv ct oc:Value}{an od:Option Addr}
  {osl:Array (Option Value)} {N ps:List Str} {sp:Sp} (lk:K.lookup f=some ⟨oc,od,.func (W.fnOf name qual params body scope dV kV doc pm an cdv ct),osl⟩) (hcd:W.codeIn K cdv qual=true) (S:ay N ps scope)
  (len:∀vs H Q E,sp vs H Q E->vs.length=ps.length)
  (hbody:∀(A:Around) (outer:List Env) (s:Shared) (H:Hp) (vs:List V) (Q:VK) (E:XK),dC k (A.deeper (envOfC qual scope s.heap.objs.size f cdv))->sp vs H Q E->
   ∃t,PSs (nU CX P w K mg base N qual scope f cdv A outer s H E) body t/\t {nx:=fun _ H'=>Q .non H',rt:=Q} (kZ N vs) H) :
  gP P w K mg base CX (k+1) f (W.fnOf name qual params body scope dV kV doc pm an cdv ct) ps sp:=by
 refine ⟨len,fun A outer s H args us vs Q E hr e0 hb r hsp=>?_⟩
 have hl:=len _ _ _ _ hsp
 have KX:K.In s.heap:=e0.mod.kin.keeps fun b o e=>(e0.bs b o e).1
 have lim:s.heap.NoLimit:=e0.mod.nolimit.keeps fun b o e=>(e0.bs b o e).1
 have hkind:∀y∈ps.zip us,scope.names.lookup y.1=some .local\/(scope.names.lookup y.1=some .cell/\((cellsFrom (s.heap.objs.size+1) scope.names []).lookup y.1).isSome=true):=fun ⟨n,v⟩ hy=>by
  rcases S.par n (List.of_mem_zip hy).1 with q | q
  ·exact .inl q
  ·exact .inr ⟨q,W.cellsFrom_some _ _ _ (.inl q)⟩
 refine codeAny_call_function hr.depth (KX _ _ lk) rfl S.co S.gen rfl (W.codeRec_of KX hcd) (hb _ _ _ _ ?_)
 refine wpAny_newFunctionEnv_cells S.kind hkind fun env he s1 x=>?_
 subst he
 refine ⟨lim.keeps x.toInCall.keep,codeAny_func ?_⟩
 obtain ⟨t,ht,hq⟩:=hbody A outer s H vs Q E (hr.deeper _) hsp
 have I:Inv (nU CX P w K mg base N qual scope f cdv A outer s H E) [] (kZ N vs) H s1:=Bk S hr.hd e0 hl r x
 refine wpAny_mono (ht [] s1 (kZ N vs) H _ I hq) (fun fl s' hs=>?_) fun e s' hs=>hs
 have fin:∀{σ':St} {H':Hp} {v:V} {u:Value},Inv (nU CX P w K mg base N qual scope f cdv A outer s H E) [] σ' H' s'->bA v u->Q v H'->CE outer P w H s Q u s':=
  fun {σ' H' v u} J rv q=>⟨v,H',J.os,J.bare,J.base,J.hok,rv,q⟩
 cases fl with
 | ret u=>
  obtain ⟨v,σ',H',J,rv,q⟩:=hs
  exact fin J rv q
 | next=>
  obtain ⟨σ',H',J,q⟩:=hs
  exact fin (v:=V.non) (u:=Value.none) J rfl q
 | brk=>
  obtain ⟨_,_,_,q⟩:=hs
  exact False.elim q
 | cont=>
  obtain ⟨_,_,_,q⟩:=hs
  exact False.elim q
section
variable {X:Cx}{x:Str}{p pos:Pos}{e:Expr}{es:List Expr}{t:TA}{id T:String}{r:List V->Hp->VK->Prop}
noncomputable def tCB (r:List V->Hp->VK->Prop)(t:TA):TE:=fun σ H Q=>t σ H fun vs H1=>r vs H1 Q
theorem aE (hc:eG X (.builtin id) r)(hg:Gl X x)(hm:X.mg x=none)(hv:bootBuiltins x=some (.builtin id))(ha:PA X (e::es) t)(hn:x≠"__name__":=by decide)(hdb:(x == ("__debug__":Str))=false:=by decide)
  (he:starEach (e::es) X.env=(false,eval e X.env)::starEach es X.env:=by rfl) (hpl:(backTo pos (starEach es X.env)).any (·.1)=false:=by rfl):PE X (.Call (.Name x p) (e::es) [] pos) (tCB r t):=by
 intro pins s σ H Q I h
 refine wpAny_Call_Name_kw (nS I hg hm hv ?_ hn hdb)
 exact PyProof.Rows.callWith_builtin1 (thn (ha pos pins s σ H _ I h) fun us s1 ⟨vs,H1,I1,r1,q1⟩=>hc pins s1 σ H1 vs us Q I1 r1 q1) he hpl
theorem bh (hc:eG X (.type T) r)(hg:Gl X x)(hm:X.mg x=none)(hv:bootBuiltins x=some (.type T))(ha:PA X (e::es) t)(hn:x≠"__name__":=by decide)(hdb:(x == ("__debug__":Str))=false:=by decide)
  (he:starEach (e::es) X.env=(false,eval e X.env)::starEach es X.env:=by rfl) (hpl:(backTo pos (starEach es X.env)).any (·.1)=false:=by rfl):PE X (.Call (.Name x p) (e::es) [] pos) (tCB r t):=by
 intro pins s σ H Q I h
 refine wpAny_Call_Name_kw (nS I hg hm hv ?_ hn hdb)
 exact PyProof.Rows.callWith_type1 (thn (ha pos pins s σ H _ I h) fun us s1 ⟨vs,H1,I1,r1,q1⟩=>hc pins s1 σ H1 vs us Q I1 r1 q1) he hpl
end
end L2
namespace HT
open PySem PyProof.Rows
section
open PySem.SeqAt
open PySem.AutoSeq1 (wpAny_loadPart')
open PySem.MeetsSeq PySem.MeetsSeq2 PySem.MeetsSeq3
end
section
variable {prog:Program}{w:World}{A:Around}{E:Value->Shared->Prop}{s:Shared}
theorem ER {t b:Addr}{vs ws:List Value}{Q:Value->Shared->Prop}(ht:IsTup s.heap t vs.toArray)(hb:IsTup s.heap b ws.toArray)(hv:vs≠[])
  (h1:ws=[]->Q (.ref t) s) (h2:ws≠[]->Q (.ref s.heap.objs.size) {s with heap:=s.heap.push {cls:=.type "tuple",data:=.seq (vs++ws).toArray}})
  (hsz:vs.length+ws.length<=sizeLine):wpAny (model prog w) A (binaryOp .Add (.ref t) (.ref b)) Q E s:=by
 obtain ⟨⟨cls,dd,data,sl⟩,ho,hc,n,hd⟩:=id ht
 obtain ⟨⟨cls2,dd2,data2,sl2⟩,ho2,hc2,n2,hd2⟩:=id hb
 simp only at hc hd hc2 hd2
 subst hc hd hc2 hd2
 have e:vs.toArray++ws.toArray=(vs++ws).toArray:=by simp
 by_cases hw:ws=[]
 ·exact concat_meets ⟨_,ho,rfl⟩ ⟨_,ho2,rfl⟩ noFill_tuple_add seq_tuple_add PySem.F.slot_tuple_add PySem.F.entry_tuple_add (PySem.F.args_tuple_add_2 _ _)
   (tuple_addW1 t b vs.toArray ws.toArray n n2 dd dd2 sl sl2 (by simpa using hv) (by simp [hw])) ⟨ho,ho2,h1 hw⟩
 ·refine concat_meets ⟨_,ho,rfl⟩ ⟨_,ho2,rfl⟩ noFill_tuple_add seq_tuple_add PySem.F.slot_tuple_add PySem.F.entry_tuple_add (PySem.F.args_tuple_add_2 _ _)
   (tuple_addW2 t b vs.toArray ws.toArray n n2 dd dd2 sl sl2 (by simpa using hv) (by simpa using hw) (by rw [List.size_toArray,List.size_toArray];exact hsz)) ⟨ho,ho2,?_⟩
  rw [e]
  exact h2 hw
noncomputable def sIx (n d:Nat):Option Int->Nat
 | none=>d
 | some v=>if v < 0 then (v+(n:Int)).toNat else min v.toNat n
theorem ES (n d k:Nat):sIx n d (some (k:Int))=min k n:=by
 show (if (k:Int) < 0 then ((k:Int)+(n:Int)).toNat else min (k:Int).toNat n)=min k n
 rw [if_neg (by omega),Int.toNat_natCast]
theorem HI (n d:Nat)(hd:d<=n)(o:Option Int):sIx n d o<=n:=by
 cases o with
 | none=>exact hd
 | some v=>
  show (if v < 0 then (v+(n:Int)).toNat else min v.toNat n)<=n
  by_cases hv:v < 0
  ·rw [if_pos hv];omega
  ·rw [if_neg hv];exact Nat.min_le_right _ _
theorem wK (v:Int)(n d:Nat):(if v < 0 then max (v+(n:Int)) 0 else min v (n:Int))=((sIx n d (some v):Nat):Int):=by
 show (if v < 0 then max (v+(n:Int)) 0 else min v (n:Int))=(((if v < 0 then (v+(n:Int)).toNat else min v.toNat n):Nat):Int)
 by_cases hv:v < 0
 ·simp only [if_pos hv];omega
 ·simp only [if_neg hv];omega
theorem zc (lo hi:Option Int)(n:Nat):Builtin.Slice.sliceAdjust lo hi 1 (n:Int)=(((sIx n 0 lo:Nat):Int),((sIx n n hi:Nat):Int)):=by
 have h1:¬((1:Int) < 0):=by omega
 unfold Builtin.Slice.sliceAdjust
 simp only [h1,if_false]
 refine Prod.ext ?_ ?_
 ·cases lo with
  | none=>rfl
  | some v=>exact wK v n 0
 ·cases hi with
  | none=>rfl
  | some v=>exact wK v n n
theorem zd (i j:Nat):Builtin.Slice.slicePlaces (i:Int) (j:Int) 1=j - i:=by
 unfold Builtin.Slice.slicePlaces
 have h1:(1:Int) > 0:=by omega
 simp only [h1,if_true,Int.ediv_one]
 split<;>omega
theorem tE {v:Value}{o:Option Int}{Q:Option Int->Shared->Prop}(p:IsPart v o)(h:Q o s):wpAny (model prog w) A (Builtin.Slice.slicePartIndex v) Q E s:=by
 cases p with
 | none=>exact slicePart_none h
 | int i t=>exact slicePart_int h
theorem qx {sl:Addr}{vl vu:Value}{lo hi:Option Int}{n:Nat}{Q:Int×Int×Nat->Shared->Prop}(hs:s.heap.IsSliceOf sl vl vu .none)(pl:IsPart vl lo)(pu:IsPart vu hi)
  (h:Q (((sIx n 0 lo:Nat):Int),1,sIx n n hi - sIx n 0 lo) s):wpAny (model prog w) A (Builtin.Slice.sliceApplied (.ref sl) (pure (n:Int))) Q E s:=by
 obtain ⟨os,hos,hcs,hds⟩:=id hs
 unfold Builtin.Slice.sliceApplied Builtin.Slice.sliceFields
 refine wpAny_bind (wpAny_bind (wpAny_field hos hds (x:=vl) rfl (wpAny_bind (wpAny_field hos hds (x:=vu) rfl (wpAny_bind (wpAny_field hos hds (x:=.none) rfl (wpAny_pure ?_)))))))
 refine wpAny_bind (slicePart_none ?_)
 show wpAny _ _ (if ((1:Int) == 0)=true then _ else _) _ _ s
 rw [if_neg (by decide)]
 refine wpAny_bind (tE pl (wpAny_bind (tE pu (wpAny_bind (wpAny_pure ?_)))))
 show wpAny _ _ (match Builtin.Slice.sliceAdjust lo hi 1 (n:Int) with | (lo,hi)=>pure (lo,(1:Int),Builtin.Slice.slicePlaces lo hi 1)) _ _ s
 rw [zc lo hi n]
 show wpAny _ _ (pure (((sIx n 0 lo:Nat):Int),(1:Int),Builtin.Slice.slicePlaces ((sIx n 0 lo:Nat):Int) ((sIx n n hi:Nat):Int) 1)) _ _ s
 rw [zd]
 exact wpAny_pure h
theorem Cw (xs:Array Value)(i k:Nat):((List.range k).filterMap fun (m:Nat)=>xs[((i:Int)+(m:Int) * 1).toNat]?).toArray=((xs.toList.drop i).take k).toArray:=by
 have e:(fun (m:Nat)=>xs[((i:Int)+(m:Int) * 1).toNat]?)=fun m=>xs[i+m]?:=by
  funext m
  have:((i:Int)+(m:Int) * 1).toNat=i+m:=by omega
  rw [this]
 rw [e]
 have:=pick_run xs i k
 rw [List.filterMap_map] at this
 have e2:((fun x=>xs[x]?) ∘ fun x=>i+x)=fun m=>xs[i+m]?:=rfl
 rw [e2] at this
 rw [this]
theorem oU {t sl:Addr}{items:Array Value}{vl vu:Value}{lo hi:Option Int}{Q:Value->Shared->Prop}(ht:IsTup s.heap t items)(hs:s.heap.IsSliceOf sl vl vu .none)(pl:IsPart vl lo)(pu:IsPart vu hi)
  (hw:¬(sIx items.size 0 lo=0/\sIx items.size items.size hi=items.size))
  (h:Q (.ref s.heap.objs.size) {s with heap:=s.heap.push {cls:=.type "tuple",data:=.seq ((items.toList.drop (sIx items.size 0 lo)).take (sIx items.size items.size hi - sIx items.size 0 lo)).toArray}})
  (hsz:items.size<=sizeLine):wpAny (model prog w) A (getItem (.ref t) (.ref sl)) Q E s:=by
 have htake:sizeOk (.seq ((items.toList.drop (sIx items.size 0 lo)).take (sIx items.size items.size hi - sIx items.size 0 lo)).toArray):=by
  show ((items.toList.drop (sIx items.size 0 lo)).take (sIx items.size items.size hi - sIx items.size 0 lo)).toArray.size<=sizeLine
  rw [List.size_toArray,List.length_take,List.length_drop,Array.length_toList]
  omega
 have hj:sIx items.size items.size hi<=items.size:=HI _ _ (Nat.le_refl _) hi
 obtain ⟨os,hos,hcs,hds⟩:=id hs
 have hTs:s.TypeIs (.ref sl) "slice":=⟨os,hos,hcs⟩
 unfold getItem
 try with_reducible refine wpAny_holding ?_
 first | refine wpAny_bind (wpAny_pure ?_) | skip
 refine wpAny_bind (wpAny_sequenceKey ht.typeIs (by decide) ?_)
 refine wpAny_bind (wpAny_callSpecial?_slot (name:=Str.ofString "__getitem__") ht.typeIs PyProof.Rows.slot_tuple_getitem
  (wpAny_call_entry PyProof.Rows.slot_tuple_getitem ht.typeIs entry_tuple_getitem ?_ (args_tuple_getitem _ _)))
 show wpAny _ _ (Builtin.Tuple.tupleItemsOf (.ref t) >>= _) _ _ s
 refine wpAny_bind (tupleItemsOf_ ht ?_)
 refine wpAny_bind (wpAny_typeOf hTs ?_)
 rw [if_pos (by decide)]
 refine wpAny_bind (qx hs pl pu ?_)
 have hno:¬((((sIx items.size 0 lo:Nat):Int) == 0 && (1:Int) == 1 && (sIx items.size items.size hi - sIx items.size 0 lo) == items.size)=true):=by
  intro q
  rw [Bool.and_eq_true,Bool.and_eq_true] at q
  have q1:((sIx items.size 0 lo:Nat):Int)=0:=eq_of_beq q.1.1
  have q2:sIx items.size items.size hi - sIx items.size 0 lo=items.size:=eq_of_beq q.2
  exact hw ⟨by omega,by omega⟩
 show wpAny _ _ (if (((sIx items.size 0 lo:Nat):Int) == 0 && (1:Int) == 1 && (sIx items.size items.size hi - sIx items.size 0 lo) == items.size)=true then _ else _) _ _ s
 rw [if_neg hno,Cw]
 first
  | exact wpAny_bind (m:=Builtin.Tuple.tupleExact _) (wpAny_newObj_type (wpAny_pure ⟨_,rfl,wpAny_pure h⟩) htake)
  | exact wpAny_bind (m:=Builtin.Tuple.tupleExact _) (wpAny_newObj_type (wpAny_bind (wpAny_pure (wpAny_pure ⟨_,rfl,wpAny_pure h⟩))) htake)
  | exact wpAny_bind (wpAny_bind (m:=Builtin.Tuple.tupleExact _) (wpAny_newObj_type (wpAny_pure (wpAny_pure ⟨_,rfl,wpAny_pure h⟩)) htake))
  | exact wpAny_bind (wpAny_bind (m:=Builtin.Tuple.tupleExact _) (wpAny_newObj_type (wpAny_pure ⟨_,rfl,wpAny_pure h⟩) htake))
end
end HT
namespace L2
open PySem PySem.Spec PyProof.Rows
noncomputable abbrev TO:=St->Hp->(Option Int->Hp->Prop)->Prop
def PO (X:Cx)(e:Option Expr)(t:TO):Prop:=
 ∀(pins:List (Addr×Obj)) (s:Shared) (σ:St) (H:Hp) (Q:Option Int->Hp->Prop),Inv X pins σ H s->t σ H Q->
  wpAny (model X.prog X.w) X.A (evalPart e X.env) (fun u s'=>∃o H',Inv X pins σ H' s'/\IsPart u o/\Q o H') X.xe s
noncomputable def As:TO:=fun _ H Q=>Q none H
noncomputable def GO (t:TE):TO:=fun σ H Q=>t σ H fun x H1=>∃i,x=.int i/\Q (some i) H1
theorem ze {ns:List Int}:∀{us:List Value},a8 (ns.map V.int) us->IntsAre us ns:=by
 induction ns with
 | nil=>intro us r;rw [List.map_nil] at r;cases r;exact .nil
 | cons n ns ih=>
  intro us r
  rw [List.map_cons] at r
  cases r with
  | cons r1 r2=>
   obtain ⟨t,e⟩:=r1
   subst e
   exact .cons n t (ih r2)
section
variable {X:Cx}{e:Expr}{te:TE}{lo hi:Option Expr}{tl th:TO}{pos p2:Pos}
theorem Au:PO X none As:=by
 intro pins s σ H Q I h
 rw [evalPart_none]
 exact wpAny_pure ⟨none,H,I,.none,h⟩
theorem ET (h:PE X e te):PO X (some e) (GO te):=by
 intro pins s σ H Q I hw
 rw [evalPart_some]
 refine thn (h pins s σ H _ I hw) fun u s1 ⟨x,H1,I1,r1,q1⟩=>?_
 obtain ⟨i,rfl,q⟩:=q1
 obtain ⟨t,rfl⟩:=r1
 exact ⟨some i,H1,I1,.int i t,q⟩
def SlR (X:Cx)(r:V->Option Int->Option Int->Hp->VK->Prop):Prop:=
 ∀(pins:List (Addr×Obj)) (s:Shared) (σ:St) (H:Hp) (x:V) (v vl vu:Value) (lo hi:Option Int) (sl:Addr) (Q:VK),Inv X pins σ H s->bA x v->s.heap.IsSliceOf sl vl vu .none->IsPart vl lo->IsPart vu hi->r x lo hi H Q->
  ∃T id,typeLookup (.type T) "__getitem__"=pure (some (.builtin id))/\s.TypeIs v T/\wpAny (model X.prog X.w) X.A (getItem v (.ref sl)) (EP X pins σ Q) X.xe s
noncomputable def tSl (r:V->Option Int->Option Int->Hp->VK->Prop)(te:TE)(tl th:TO):TE:=fun σ H Q=>te σ H fun x H1=>tl σ H1 fun l H2=>th σ H2 fun u H3=>r x l u H3 Q
theorem tF {r:V->Option Int->Option Int->Hp->VK->Prop}(hr:SlR X r)(he:PE X e te)(hl:PO X lo tl)(hu:PO X hi th):PE X (.Subscript e (.Slice lo hi none p2) pos) (tSl r te tl th):=by
 intro pins s σ H Q I h
 refine Subscript_ (thn (he pins s σ H _ I h) fun v s1 ⟨x,H1,I1,r1,q1⟩=>?_)
 refine wpAny_Slice (thn (hl pins s1 σ H1 _ I1 q1) fun vl s2 ⟨l,H2,I2,pl,q2⟩=>thn (hu pins s2 σ H2 _ I2 q2) fun vu s3 ⟨u,H3,I3,pu,q3⟩=>?_)
 rw [evalPart_none]
 refine wpAny_pure ?_
 have I4:Inv X pins σ H3 {s3 with heap:=s3.heap.push {cls:=.type "slice",data:=.fields #[vl,vu,.none]}}:=I3.kept (t':=s3.toks) fun b ob q=>Heap.get?_push_of_some _ q
 obtain ⟨T,id,hT,ht,hg⟩:=hr pins {s3 with heap:=s3.heap.push {cls:=.type "slice",data:=.fields #[vl,vu,.none]}} σ H3 x v vl vu l u s3.heap.objs.size Q I4 r1 (Heap.IsSliceOf.new ..) pl pu q3
 show wpAny (model X.prog X.w) X.A (subscriptTail e (.Slice lo hi none p2) v (.ref s3.heap.objs.size)) (EP X pins σ Q) X.xe {s3 with heap:=s3.heap.push {cls:=.type "slice",data:=.fields #[vl,vu,.none]}}
 exact tail_any (ops:=[.ref s3.heap.objs.size,v]) ht hT hg (by with_unfolding_all rfl)
noncomputable def oV (xs:List V)(lo hi:Option Int):List V:=(xs.drop (HT.sIx xs.length 0 lo)).take (HT.sIx xs.length xs.length hi - HT.sIx xs.length 0 lo)
theorem i4 (xs:List V)(lo hi:Option Int):(oV xs lo hi).length<=xs.length:=by
 unfold oV
 rw [List.length_take,List.length_drop]
 omega
noncomputable def Jz (K:W.Frag):V->Option Int->Option Int->Hp->VK->Prop:=fun x lo hi H Q=>∃a xs,x=.ref a/\SqT K H a xs/\
 ¬(HT.sIx xs.length 0 lo=0/\HT.sIx xs.length xs.length hi=xs.length)/\∀p,H p=none->Q (.ref p) (upd H p (.tup (oV xs lo hi)))
theorem HJ:SlR X (Jz X.K):=by
 intro pins s σ H x v vl vu lo hi sl Q I rx hs pl pu h
 obtain ⟨a,xs,rfl,hx,hw,q⟩:=h
 cases rx
 obtain ⟨its,r,ht,hz⟩:=I.tuple hx
 have hlen:its.toArray.size=xs.length:=by rw [List.size_toArray];exact r.length.symm
 refine ⟨"tuple",_,PyProof.Rows.slot_tuple_getitem.lookup,ht.typeIs,?_⟩
 refine HT.oU ht hs pl pu (by rw [hlen];exact hw) ?_ (by rw [hlen];exact hz)
 rw [hlen]
 refine ⟨.ref s.heap.objs.size,_,I.laid (t':=s.toks) (o:=.tup (oV xs lo hi)) (fun b ob q=>Heap.get?_push_of_some _ q) (Nat.le_refl _) ?_,rfl,q _ (I.hok.fresh (Nat.le_refl _))⟩
 exact ⟨Nat.le_trans (i4 xs lo hi) hz,_,(r.drop (HT.sIx xs.length 0 lo)).take (HT.sIx xs.length xs.length hi - HT.sIx xs.length 0 lo),g0.new _ _⟩
noncomputable def GP (K:W.Frag):R2:=fun x y H Q=>∃a b xs ys,x=.ref a/\y=.ref b/\SqT K H a xs/\SqT K H b ys/\xs≠[]/\xs.length+ys.length<=sizeLine/\
 (ys=[]->Q (.ref a) H)/\(ys≠[]->∀p,H p=none->Q (.ref p) (upd H p (.tup (xs++ys))))
theorem a8.nil_iff {xs:List V}{us:List Value}(r:a8 xs us):us=[]↔xs=[]:=by
 cases r with
 | nil=>simp
 | cons _ _=>simp
theorem Av:OpR X (binaryOp .Add) (GP X.K):=by
 intro pins s σ H x y v u Q I rx ry h
 obtain ⟨a,b,xs,ys,rfl,rfl,ha,hb,hx,hz,q1,q2⟩:=h
 cases rx
 cases ry
 obtain ⟨its,r1,p1,_⟩:=I.tuple ha
 obtain ⟨its2,r2,p2,_⟩:=I.tuple hb
 refine HT.ER p1 p2 (fun z=>hx (r1.nil_iff.mp z)) (fun z=>⟨.ref a,H,I,rfl,q1 (r2.nil_iff.mp z)⟩) (fun z=>?_) (by rw [←r1.length,←r2.length];exact hz)
 refine ⟨.ref s.heap.objs.size,_,I.laid (t':=s.toks) (o:=.tup (xs++ys)) (fun b ob q=>Heap.get?_push_of_some _ q) (Nat.le_refl _) ?_,rfl,q2 (fun w=>z (r2.nil_iff.mpr w)) _ (I.hok.fresh (Nat.le_refl _))⟩
 exact ⟨by rw [List.length_append];exact hz,_,r1.append r2,g0.new _ _⟩
end
noncomputable def ixN (n:Nat)(i:Int):Option Nat:=if 0<=i then (if i < n then some i.toNat else none) else if -(n:Int)<=i then some (i+n).toNat else none
noncomputable def atI {α:Type}(xs:List α)(i:Int):Option α:=(ixN xs.length i).bind fun j=>xs[j]?
theorem Aw {n:Nat}{i:Int}{j:Nat}(h:ixN n i=some j):seqIndex? i n=some j/\j < n/\-(n:Int)<=i/\i < n:=by
 unfold ixN at h
 by_cases h0:0<=i
 ·rw [if_pos h0] at h
  by_cases h1:i < n
  ·rw [if_pos h1] at h
   have e:i.toNat=j:=Option.some.inj h
   exact ⟨by rw [seqIndex_of h0 h1,e],by omega,by omega,h1⟩
  ·rw [if_neg h1] at h;cases h
 ·rw [if_neg h0] at h
  by_cases h1:-(n:Int)<=i
  ·rw [if_pos h1] at h
   have e:(i+n).toNat=j:=Option.some.inj h
   exact ⟨by rw [seqIndex_neg (by omega) h1,e],by omega,h1,by omega⟩
  ·rw [if_neg h1] at h;cases h
theorem wL {α:Type}{xs:List α}{i:Int}{v:α}(h:atI xs i=some v):∃j,seqIndex? i xs.length=some j/\xs[j]?=some v/\j < xs.length/\-(xs.length:Int)<=i/\i < xs.length:=by
 unfold atI at h
 cases e:ixN xs.length i with
 | none=>rw [e] at h;cases h
 | some j=>
  rw [e] at h
  obtain ⟨h1,h2,h3,h4⟩:=Aw e
  exact ⟨j,h1,h,h2,h3,h4⟩
theorem Ax {α:Type}{xs:List α}{j:Nat}{v:α}(h:xs[j]?=some v):atI xs (j:Int)=some v:=by
 have hj:j < xs.length:=(List.getElem?_eq_some_iff.mp h).1
 have e:ixN xs.length (j:Int)=some j:=by
  unfold ixN
  rw [if_pos (by omega),if_pos (by omega)];simp
 unfold atI;rw [e];exact h
theorem Cy {α:Type}(xs:List α)(v:α):atI (xs++[v]) (-1)=some v:=by
 have hl:(xs++[v]).length=xs.length+1:=by simp
 have e:ixN (xs++[v]).length (-1)=some xs.length:=by
  unfold ixN
  rw [hl,if_neg (by decide),if_pos (by omega)]
  congr 1
  omega
 unfold atI
 rw [e]
 show (xs++[v])[xs.length]?=some v
 simp
def Ay (b:Expr):Prop:=∀o i,subscripted b false o i=operate [o,i] (getItem o i)
def IxR (X:Cx)(r:R2):Prop:=
 ∀(value slice:Expr) (pins:List (Addr×Obj)) (s:Shared) (σ:St) (H:Hp) (x y:V) (v u:Value) (Q:VK),Inv X pins σ H s->bA x v->bA y u->r x y H Q->
  subscripted slice false v u=operate [v,u] (getItem v u)->wpAny (model X.prog X.w) X.A (subscriptTail value slice v u) (EP X pins σ Q) X.xe s
def MtR (X:Cx)(id:String)(r:V->List V->Hp->VK->Prop):Prop:=
 ∀(pins:List (Addr×Obj)) (s:Shared) (σ:St) (H:Hp) (x:V) (xs:List V) (v:Value) (us:List Value) (Q:VK),Inv X pins σ H s->bA x v->a8 xs us->r x xs H Q->
  wpAny (model X.prog X.w) X.A (call (.builtin id) (v::us)) (EP X pins σ Q) X.xe s
section
variable {X:Cx}{a b:Expr}{ta tb:TE}{pos:Pos}
theorem IxR.or {r r':R2}(h:IxR X r)(h':IxR X r'):IxR X (fun x y H Q=>r x y H Q\/r' x y H Q):=by
 intro value slice pins s σ H x y v u Q I rx ry q hs
 rcases q with q | q
 ·exact h value slice pins s σ H x y v u Q I rx ry q hs
 ·exact h' value slice pins s σ H x y v u Q I rx ry q hs
theorem JA {r:R2}(hr:IxR X r)(ha:PE X a ta)(hb:PE X b tb)(hs:Ay b):PE X (.Subscript a b pos) (tOp r ta tb):=by
 intro pins s σ H Q I h
 exact Subscript_ (HA ha hb I h fun v u s2 x y H2 I2 rx ry q=>hr a b pins s2 σ H2 x y v u Q I2 rx ry q (hs _ _))
noncomputable def HK (K:W.Frag):R2:=fun x y H Q=>∃p xs i v,x=.ref p/\y=.int i/\SqL K H p xs/\atI xs i=some v/\Q v H
noncomputable def HL (K:W.Frag):R2:=fun x y H Q=>∃p xs i v,x=.ref p/\y=.int i/\SqT K H p xs/\atI xs i=some v/\Q v H
noncomputable def JB:R2:=fun x y H Q=>∃z i c,x=.str z/\y=.int i/\z.length<=sizeLine/\atI z.cps.toList i=some c/\Q (.str ⟨#[c]⟩) H
theorem Az:IxR X (HK X.K):=by
 intro value slice pins s σ H x y v u Q I rx ry h hs
 obtain ⟨p,xs,i,z,rfl,rfl,hq,he,q⟩:=h
 cases rx
 obtain ⟨t,rfl⟩:=ry
 obtain ⟨its,r,pl,hz⟩:=I.list hq
 obtain ⟨j,h1,h2,h3,h4,h5⟩:=wL he
 obtain ⟨w,ew,rw'⟩:=r.get h2
 have hl:=r.length
 have hn:=qu
 have fin:EP X pins σ Q w s:=⟨z,H,I,rw',q⟩
 by_cases h0:0<=i
 ·have hj:i.toNat=j:=by
   rw [seqIndex_of h0 h5] at h1
   exact Option.some.inj h1
  exact item_listR pl.isList h0 (by omega) (by rw [hj];simpa using ew) fin hs
 ·have hj:(i+(its.toArray.size:Int)).toNat=j:=by
   rw [seqIndex_neg (by omega) h4] at h1
   rw [List.size_toArray,←hl]
   exact Option.some.inj h1
  exact subscriptTail_builtinR (x:=w) pl.isList.typeIs slot_list_getitem.lookup
   (wpAny_getItem_list_neg (Q:=fun r s'=>r=w/\EP X pins σ Q r s') pl.isList (by omega) (by rw [List.size_toArray]<;>omega) (by omega) (by rw [hj];simpa using ew) ⟨rfl,fin⟩) hs
theorem Cz:IxR X (HL X.K):=by
 intro value slice pins s σ H x y v u Q I rx ry h hs
 obtain ⟨p,xs,i,z,rfl,rfl,hq,he,q⟩:=h
 cases rx
 obtain ⟨t,rfl⟩:=ry
 obtain ⟨its,r,pl,hz⟩:=I.tuple hq
 obtain ⟨j,h1,h2,h3,h4,h5⟩:=wL he
 obtain ⟨w,ew,rw'⟩:=r.get h2
 have hl:=r.length
 have hn:=qu
 have fin:EP X pins σ Q w s:=⟨z,H,I,rw',q⟩
 exact subscriptTail_builtinR (x:=w) pl.typeIs slot_tuple_getitem.lookup
  (getItem_tuple (j:=j) (Q:=fun r s'=>r=w/\EP X pins σ Q r s') pl (by omega) (by omega) (by rw [List.size_toArray,←hl];exact h1) (by simpa using ew) ⟨rfl,fin⟩) hs
theorem HM:IxR X JB:=by
 intro value slice pins s σ H x y v u Q I rx ry h hs
 obtain ⟨z,i,c,rfl,rfl,hz,he,q⟩:=h
 obtain ⟨t,rfl⟩:=rx
 obtain ⟨t',rfl⟩:=ry
 obtain ⟨j,h1,h2,h3,h4,h5⟩:=wL he
 have hl:z.cps.toList.length=z.length:=by simp [Str.length]
 rw [hl] at h1 h4 h5
 have hn:=qu
 exact tail_any (typeIs_str s z t) slot_str_getitem.lookup (getItem_str (c:=c) (by
  have e1:decide (i < -(2 ^ 63:Int))=false:=decide_eq_false (by omega)
  have e2:decide (i≥2 ^ 63)=false:=decide_eq_false (by omega)
  rw [e1,e2,Bool.or_false]) (by rw [h1];simpa using h2) ⟨.str ⟨#[c]⟩,H,I.tok _,⟨_,rfl⟩,q⟩) hs
noncomputable def rIx (K:W.Frag):R2:=fun x y H Q=>HK K x y H Q\/HL K x y H Q\/JB x y H Q
theorem CA:IxR X (rIx X.K):=Az.or (Cz.or HM)
theorem zg (its:List Value)(n j:Nat)(u:Value):Obj.mapSeq (·.setIfInBounds j u) {cls:=.type "list",data:=.seq its.toArray n}={cls:=.type "list",data:=.seq (its.set j u).toArray n}:=by
 simp [Obj.mapSeq]
theorem Inv.lst {pins:List (Addr×Obj)}{σ:St}{H:Hp}{s:Shared}{p:Addr}{xs:List V}(I:Inv X pins σ H s)(h:H p=some (.lst xs)) :
  ∃(its:List Value) (n:Nat),a8 xs its/\s.heap.get? p=some {cls:=.type "list",data:=.seq its.toArray n}/\xs.length<=sizeLine:=by
 obtain ⟨z,its,n,r,e⟩:=I.hok p _ h
 exact ⟨its,n,r,e,z⟩
theorem Inv.lstUpd {pins:List (Addr×Obj)}{σ:St}{H:Hp}{s:Shared}{p:Addr}{xs ys:List V}{its its':List Value}{n n':Nat}{f:Obj->Obj}(I:Inv X pins σ H s)(h:H p=some (.lst xs))
  (ho:s.heap.get? p=some {cls:=.type "list",data:=.seq its.toArray n}) (hf:f {cls:=.type "list",data:=.seq its.toArray n}={cls:=.type "list",data:=.seq its'.toArray n'}) (r:a8 ys its') (hz:ys.length<=sizeLine) (t:Nat) :
  Inv X pins σ (upd H p (.lst ys)) {s with heap:=s.heap.update p f,toks:=t}:=by
 have e:(s.heap.update p f).get? p=some {cls:=.type "list",data:=.seq its'.toArray n'}:=by
  rw [Heap.get?_update_self f ho (by rw [hf]<;>rfl),hf]
 refine I.write (x:=p) (e:=p) (by rw [h];trivial) (.inl rfl) (fun b u hb q=>(Heap.get?_update_other _ _ (Ne.symm hb)).trans q) ⟨_,e⟩ ?_
 exact ⟨hz,its',n',r,e⟩
noncomputable def GQ:V->V->V->Hp->(Hp->Prop)->Prop:=fun o i v H Q=>∃p xs k j,o=.ref p/\i=.int k/\H p=some (.lst xs)/\ixN xs.length k=some j/\Q (upd H p (.lst (xs.set j v)))
theorem CB:Hv X GQ:=by
 intro pins s σ H o i v ov iv u Q I ro ri rv h
 obtain ⟨p,xs,k,j,rfl,rfl,hp,hj,q⟩:=h
 cases ro
 obtain ⟨t,rfl⟩:=ri
 obtain ⟨its,n,r,ho,hz⟩:=I.lst hp
 obtain ⟨h1,h2,h3,h4⟩:=Aw hj
 have hl:=r.length
 have hn:=qu
 have I':Inv X pins σ (upd H p (.lst (xs.set j v))) {s with heap:=s.heap.update p (Obj.mapSeq (·.setIfInBounds j u))}:=
  I.lstUpd hp ho (zg its n j u) (r.set rv j) (by rw [List.length_set];exact hz) s.toks
 by_cases h0:0<=k
 ·have hk:k.toNat=j:=by
   rw [seqIndex_of h0 h4] at h1
   exact Option.some.inj h1
  exact W.ki_setAt ho h0 (by omega) (by rw [List.size_toArray,←hl];exact h4) (by rw [hk];exact ⟨_,I',q⟩)
 ·have hk:(k+(its.toArray.size:Int)).toNat=j:=by
   rw [seqIndex_neg (by omega) h3] at h1
   rw [List.size_toArray,←hl]
   exact Option.some.inj h1
  exact W.ki_setBack ho (by omega) (by rw [List.size_toArray,←hl];exact h3) (by omega) (by rw [hk];exact ⟨_,I',q⟩)
theorem wM (lo hi:Option Int)(n:Nat):(sliceBounds lo hi none n).1=((HT.sIx n 0 lo:Nat):Int)/\(sliceBounds lo hi none n).2.1=((HT.sIx n n hi:Nat):Int)/\(sliceBounds lo hi none n).2.2=1:=by
 refine ⟨?_,?_,rfl⟩
 ·cases lo with
  | none=>simp [sliceBounds,HT.sIx]
  | some i=>
   simp only [sliceBounds,HT.sIx,Option.getD_none,show (1:Int) > 0 by decide,if_true]
   by_cases h:i < 0
   ·simp only [h,if_true]<;>omega
   ·simp only [h,if_false]<;>omega
 ·cases hi with
  | none=>simp [sliceBounds,HT.sIx]
  | some i=>
   simp only [sliceBounds,HT.sIx,Option.getD_none,show (1:Int) > 0 by decide,if_true]
   by_cases h:i < 0
   ·simp only [h,if_true]<;>omega
   ·simp only [h,if_false]<;>omega
theorem uY (its:List Value)(lo hi:Option Int):slicePick its.toArray lo hi none=((its.drop (HT.sIx its.length 0 lo)).take (HT.sIx its.length its.length hi - HT.sIx its.length 0 lo)).toArray:=by
 obtain ⟨h1,h2,h3⟩:=wM lo hi its.toArray.size
 unfold slicePick
 rw [h1,h2,h3]
 simp only [sliceRange_one,pick_run,List.size_toArray]<;>rfl
noncomputable def JC (K:W.Frag):V->Option Int->Option Int->Hp->VK->Prop:=fun x lo hi H Q=>∃a xs,x=.ref a/\SqL K H a xs/\∀p,H p=none->Q (.ref p) (upd H p (.lst (oV xs lo hi)))
theorem EU:SlR X (JC X.K):=by
 intro pins s σ H x v vl vu lo hi sl Q I rx hs pl pu h
 obtain ⟨a,xs,rfl,hx,q⟩:=h
 cases rx
 obtain ⟨its,r,ht,hz⟩:=I.list hx
 have hlen:=r.length
 refine ⟨"list",_,slot_list_getitem.lookup,ht.isList.typeIs,?_⟩
 refine wpAny_getItem_list_slice ht.isList hs pl pu .none (by simp) ?_ (by rw [List.size_toArray]<;>omega)
 rw [uY,←hlen]
 refine ⟨.ref s.heap.objs.size,_,I.laid (t':=s.toks) (o:=.lst (oV xs lo hi)) (fun b ob q=>Heap.get?_push_of_some _ q) (Nat.le_refl _) ?_,rfl,q _ (I.hok.fresh (Nat.le_refl _))⟩
 exact ⟨Nat.le_trans (i4 xs lo hi) hz,_,0,(r.drop (HT.sIx xs.length 0 lo)).take (HT.sIx xs.length xs.length hi - HT.sIx xs.length 0 lo),Heap.get?_push_size _ rfl⟩
noncomputable def bY:V->Bool
 | .non=>true
 | .bl _=>true
 | .int _=>true
 | .str _=>true
 | _=>false
noncomputable def eqV:V->V->Bool
 | .non,.non=>true
 | .bl a,.bl b=>a == b
 | .bl a,.int b=>(if a then 1 else 0) == b
 | .int a,.bl b=>a == (if b then 1 else 0)
 | .int a,.int b=>a == b
 | .str a,.str b=>a == b
 | _,_=>false
theorem qy {A:Around}{s:Shared}{y x:V}{u v:Value}(ry:bA y u)(rx:bA x v)(fy:bY y=true)(fx:bY x=true):SeqAt.EqAt A s u v (eqV y x):=by
 cases y with
 | non=>
  cases ry
  cases x with
  | non=>cases rx;exact SeqAt.EqAt.same _
  | bl b=>cases rx;exact SeqAt.EqAt.none_bool b
  | int b=>obtain ⟨t,rfl⟩:=rx;exact SeqAt.EqAt.none_int b t
  | str b=>obtain ⟨t,rfl⟩:=rx;exact SeqAt.EqAt.none_str b t
  | _=>exact absurd (show false=true from fx) Bool.false_ne_true
 | bl a=>
  cases ry
  cases x with
  | non=>cases rx;exact SeqAt.EqAt.bool_none a
  | bl b=>cases rx;exact SeqAt.EqAt.bool_bool a b
  | int b=>obtain ⟨t,rfl⟩:=rx;exact SeqAt.EqAt.bool_int a b t
  | str b=>obtain ⟨t,rfl⟩:=rx;exact SeqAt.EqAt.bool_str a b t
  | _=>exact absurd (show false=true from fx) Bool.false_ne_true
 | int a=>
  obtain ⟨t',rfl⟩:=ry
  cases x with
  | non=>cases rx;exact SeqAt.EqAt.int_none a t'
  | bl b=>cases rx;exact SeqAt.EqAt.int_bool a t' b
  | int b=>obtain ⟨t,rfl⟩:=rx;exact SeqAt.EqAt.int_int a t' b t
  | str b=>obtain ⟨t,rfl⟩:=rx;exact SeqAt.EqAt.int_str a t' b t
  | _=>exact absurd (show false=true from fx) Bool.false_ne_true
 | str a=>
  obtain ⟨t',rfl⟩:=ry
  cases x with
  | non=>cases rx;exact SeqAt.EqAt.str_none a t'
  | bl b=>cases rx;exact SeqAt.EqAt.str_bool a t' b
  | int b=>obtain ⟨t,rfl⟩:=rx;exact SeqAt.EqAt.str_int a t' b t
  | str b=>obtain ⟨t,rfl⟩:=rx;exact SeqAt.EqAt.str_str a t' b t
  | _=>exact absurd (show false=true from fx) Bool.false_ne_true
 | _=>exact absurd (show false=true from fy) Bool.false_ne_true
noncomputable def eqU (x:V)(u:Value):Bool:=match u with
 | .none=>eqV .non x
 | .bool b=>eqV (.bl b) x
 | .int i _=>eqV (.int i) x
 | .str z _=>eqV (.str z) x
 | _=>false
theorem CC {x y:V}{u:Value}(r:bA y u)(f:bY y=true):eqU x u=eqV y x:=by
 cases y with
 | non=>cases r;rfl
 | bl b=>cases r;rfl
 | int i=>obtain ⟨t,rfl⟩:=r;rfl
 | str z=>obtain ⟨t,rfl⟩:=r;rfl
 | _=>exact absurd (show false=true from f) Bool.false_ne_true
theorem oW {x:V}:∀{xs:List V} {us:List Value},a8 xs us->xs.all bY=true->us.any (eqU x)=xs.any fun y=>eqV y x
 | _,_,.nil,_=>rfl
 | y::xs,u::us,.cons r t,f=>by
  rw [List.all_cons,Bool.and_eq_true] at f
  rw [List.any_cons,List.any_cons,CC r f.1,oW t f.2]
theorem lF {A:Around}{s:Shared}{x:V}{v:Value}(rx:bA x v)(fx:bY x=true):∀{xs:List V} {us:List Value},a8 xs us->xs.all bY=true->∀u∈us,SeqAt.EqAt A s u v (eqU x u)
 | _,_,.nil,_=>fun u hu=>by cases hu
 | y::xs,u::us,.cons r t,f=>fun u' hu=>by
  rw [List.all_cons,Bool.and_eq_true] at f
  rcases List.mem_cons.mp hu with rfl | hu
  ·rw [CC r f.1];exact qy r rx f.1 fx
  ·exact lF rx fx t f.2 u' hu
noncomputable def inV (x:V)(xs:List V):Bool:=xs.any fun y=>eqV y x
noncomputable def rIn (K:W.Frag)(neg:Bool):R2:=fun x y H Q=>∃p xs,y=.ref p/\(SqL K H p xs\/SqT K H p xs)/\bY x=true/\xs.all bY=true/\Q (.bl (if neg then !inV x xs else inV x xs)) H
theorem Bl:OpR X (compareOp .In) (rIn X.K false):=by
 intro pins s σ H x y v u Q I rx ry h
 obtain ⟨p,xs,rfl,hq,fx,fs,q⟩:=h
 cases ry
 rcases hq with hq | hq
 ·obtain ⟨its,r,pl,hz⟩:=I.list hq
  refine SeqAt.in_listAt (eqU x) pl.isList (fun w hw=>lF rx fx r fs w (by simpa using hw)) ⟨.bl _,H,I,rfl,?_⟩
  rw [show its.toArray.any (eqU x)=its.any (eqU x) by simp,oW r fs]
  exact q
 ·obtain ⟨its,r,pl,hz⟩:=I.tuple hq
  refine SeqAt.in_tupleAt (eqU x) pl (fun w hw=>lF rx fx r fs w (by simpa using hw)) ⟨.bl _,H,I,rfl,?_⟩
  rw [show its.toArray.any (eqU x)=its.any (eqU x) by simp,oW r fs]
  exact q
theorem wN:OpR X (compareOp .NotIn) (rIn X.K true):=by
 intro pins s σ H x y v u Q I rx ry h
 obtain ⟨p,xs,rfl,hq,fx,fs,q⟩:=h
 cases ry
 rcases hq with hq | hq
 ·obtain ⟨its,r,pl,hz⟩:=I.list hq
  refine SeqAt.notIn_listAt (eqU x) pl.isList (fun w hw=>lF rx fx r fs w (by simpa using hw)) ⟨.bl _,H,I,rfl,?_⟩
  rw [show its.toArray.any (eqU x)=its.any (eqU x) by simp,oW r fs]
  exact q
 ·obtain ⟨its,r,pl,hz⟩:=I.tuple hq
  refine SeqAt.notIn_tupleAt (eqU x) pl (fun w hw=>lF rx fx r fs w (by simpa using hw)) ⟨.bl _,H,I,rfl,?_⟩
  rw [show its.toArray.any (eqU x)=its.any (eqU x) by simp,oW r fs]
  exact q
theorem wO:eG X (.builtin "len") (fun xs H Q=>∃p ys,xs=[.ref p]/\(SqL X.K H p ys\/SqT X.K H p ys)/\Q (.int ys.length) H):=by
 intro pins s σ H xs us Q I r h
 obtain ⟨p,ys,rfl,hq,q⟩:=h
 obtain ⟨u,rfl,rx⟩:=oT r
 cases rx
 have hn:=qu
 rcases hq with hq | hq
 ·obtain ⟨its,r',pl,hz⟩:=I.list hq
  have hlen:=r'.length
  exact Calls.call_len_list pl.isList (by simp only [List.size_toArray]<;>omega) ⟨.int ys.length,H,I.tok _,⟨s.toks+1,by rw [List.size_toArray,hlen]⟩,q⟩
 ·obtain ⟨its,r',pl,hz⟩:=I.tuple hq
  have hlen:=r'.length
  exact len_tuple pl (by simp only [List.size_toArray]<;>omega) ⟨.int ys.length,H,I.tok _,⟨s.toks+1,by rw [List.size_toArray,hlen]⟩,q⟩
theorem wQ:eG X (.type "list") (fun xs H Q=>∃p ys,xs=[.ref p]/\(SqL X.K H p ys\/SqT X.K H p ys)/\∀l,H l=none->Q (.ref l) (upd H l (.lst ys))):=by
 intro pins s σ H xs us Q I r h
 obtain ⟨p,ys,rfl,hq,q⟩:=h
 obtain ⟨u,rfl,rx⟩:=oT r
 cases rx
 have fin:∀(its:List Value),a8 ys its->ys.length<=sizeLine->∀(h':Heap) (c':Nat),(∀b o',s.heap.get? b=some o'->h'.get? b=some o')->
   h'.get? s.heap.objs.size=some {cls:=.type "list",dict:=none,data:=.seq its.toArray c',slots:=#[]}->EP X pins σ Q (.ref s.heap.objs.size) {s with heap:=h'}:=fun its r' hz h' c' kp e=>
  ⟨.ref s.heap.objs.size,_,I.laid (t':=s.toks) kp (Nat.le_refl _) (show dE X.prog X.w _ h' _ (.lst ys) from ⟨hz,its,c',r',e⟩),rfl,q _ (I.hok.fresh (Nat.le_refl _))⟩
 rcases hq with hq | hq
 ·obtain ⟨its,r',pl,hz⟩:=I.list hq
  have hlen:=r'.length
  obtain ⟨o,ho,hc,n,hd⟩:=pl.isList
  exact call_list_seq p (.inl rfl) ho hc hd (fun h' c' kp e=>fin its r' hz h' c' kp e) (by simp only [List.size_toArray]<;>omega)
 ·obtain ⟨its,r',pl,hz⟩:=I.tuple hq
  have hlen:=r'.length
  obtain ⟨o,ho,hc,n,hd⟩:=pl
  exact call_list_seq p (.inr rfl) ho hc hd (fun h' c' kp e=>fin its r' hz h' c' kp e) (by simp only [List.size_toArray]<;>omega)
theorem uZ:eG X (.type "tuple") (fun xs H Q=>∃p ys,xs=[.ref p]/\((SqL X.K H p ys/\∀l,H l=none->Q (.ref l) (upd H l (.tup ys)))\/(SqT X.K H p ys/\Q (.ref p) H))):=by
 intro pins s σ H xs us Q I r h
 obtain ⟨p,ys,rfl,h⟩:=h
 obtain ⟨u,rfl,rx⟩:=oT r
 cases rx
 rcases h with ⟨hq,q⟩ | ⟨hq,q⟩
 ·obtain ⟨its,r',pl,hz⟩:=I.list hq
  have hlen:=r'.length
  refine call_tuple_list pl.isList (fun h' kp=>?_) (by simp only [List.size_toArray]<;>omega)
  have I1:Inv X pins σ H {s with heap:=h'}:=I.kept (t':=s.toks) kp
  have I2:Inv X pins σ (upd H h'.objs.size (.tup ys)) {s with heap:=h'.push {cls:=.type "tuple",data:=.seq its.toArray}}:=
   I1.laid (t':=s.toks) (fun b o e=>Heap.get?_push_of_some _ e) (Nat.le_refl _) (show dE X.prog X.w _ _ _ (.tup ys) from ⟨hz,its,r',g0.new _ _⟩)
  exact ⟨.ref h'.objs.size,_,I2,rfl,q _ (I1.hok.fresh (Nat.le_refl _))⟩
 ·obtain ⟨its,r',pl,hz⟩:=I.tuple hq
  exact call_tuple_same pl ⟨.ref p,H,I,rfl,q⟩
def tyV (K:W.Frag)(T:String)(x:V)(H:Hp):Prop:=match x with
 | .str _=>T="str"
 | .int _=>T="int"
 | .ref p=>(T="list"/\∃xs,SqL K H p xs)\/(T="tuple"/\∃o,K.lookup p=some o/\o.cls=.type "tuple"/\o.dict=none)\/
   (T="dict"/\((∃kvs,H p=some (.dK kvs))\/∃kvs,H p=some (.dT kvs)))\/(T="set"/\∃S n,H p=some (.set S n))
 | _=>False
theorem CD {pins:List (Addr×Obj)}{σ:St}{H:Hp}{s:Shared}{T:String}{x:V}{v:Value}(I:Inv X pins σ H s)(r:bA x v)(ty:tyV X.K T x H) :
  s.TypeIs v T/\∀a,v=.ref a->∃ob,s.heap.get? a=some ob/\ob.dict=none:=by
 cases x with
 | str z=>
  obtain ⟨t,rfl⟩:=r
  cases (show T="str" from ty)
  exact ⟨typeIs_str s z t,fun _ e=>nomatch e⟩
 | int i=>
  obtain ⟨t,rfl⟩:=r
  cases (show T="int" from ty)
  exact ⟨typeIs_int s i t,fun _ e=>nomatch e⟩
 | ref p=>
  cases r
  rcases ty with ⟨rfl,xs,hq⟩ | ⟨rfl,o,hk,hc,hd⟩ | ⟨rfl,hk⟩ | ⟨rfl,S,n,hk⟩
  ·obtain ⟨its,_,pl,_⟩:=I.list hq
   refine ⟨pl.isList.typeIs,fun a e=>?_⟩
   cases e
   obtain ⟨o,n,e,c,hd,_⟩:=pl
   exact ⟨o,e,hd⟩
  ·refine ⟨⟨o,I.kIn p o hk,hc⟩,fun a e=>?_⟩
   cases e
   exact ⟨o,I.kIn _ o hk,hd⟩
  ·have z:∃o,s.heap.get? p=some o/\o.ExactDict:=by
    rcases hk with ⟨kvs,hk⟩ | ⟨kvs,hk⟩
    ·obtain ⟨_,_,_,_,o,_,_,e,ex,_⟩:=I.hok p _ hk
     exact ⟨o,e,ex⟩
    ·obtain ⟨_,_,_,_,o,_,_,e,ex,_⟩:=I.hok p _ hk
     exact ⟨o,e,ex⟩
   obtain ⟨o,e,ex⟩:=z
   refine ⟨⟨o,e,ex.1⟩,fun a e2=>?_⟩
   cases e2
   exact ⟨o,e,ex.2.1⟩
  ·obtain ⟨o,_,_,_,e,ex,_⟩:=I.hok p _ hk
   refine ⟨⟨o,e,ex.1⟩,fun a e2=>?_⟩
   cases e2
   exact ⟨o,e,ex.2.1⟩
 | _=>exact False.elim ty
noncomputable def JD (K:W.Frag)(T:String)(r:V->List V->Hp->VK->Prop)(to:TE):TE:=fun σ H Q=>to σ H fun x H1=>tyV K T x H1/\r x [] H1 Q
noncomputable def tBM (K:W.Frag)(T:String)(r:V->List V->Hp->VK->Prop)(to:TE)(t:TA):TE:=fun σ H Q=>to σ H fun x H1=>tyV K T x H1/\t σ H1 fun xs H2=>r x xs H2 Q
variable {o e:Expr}{es:List Expr}{to:TE}{t:TA}{name:Str}{apos cpos:Pos}{T id:String}{r:V->List V->Hp->VK->Prop}
theorem tG (pa:PlainAttrs T)(slot:Slot T name id)(hty:typeOf (.builtin id)=pure (.type "method_descriptor"))(hm:MtR X id r)(ho:PE X o to)
  (hbase:attributeBase o name X.env (eval o X.env)=eval o X.env:=by rfl) (hline:(apos.endLine == cpos.line)=true:=by rfl):PE X (.Call (.Attribute o name apos) [] [] cpos) (JD X.K T r to):=by
 intro pins s σ H Q I h
 refine wpAny_Call_method0_late hbase hline (thn (ho pins s σ H _ I h) fun v s1 ⟨x,H1,I1,r1,ty,q1⟩=>?_)
 obtain ⟨h1,h2⟩:=CD I1 r1 ty
 exact ⟨T,id,pa,slot,hty,h1,h2,Calls.callWith_builtin rfl (PySem.evalArgs_none (hm pins s1 σ H1 x [] v [] Q I1 r1 .nil q1))⟩
theorem lG (pa:PlainAttrs T)(slot:Slot T name id)(hty:typeOf (.builtin id)=pure (.type "method_descriptor"))(hm:MtR X id r)(ho:PE X o to)(ha:PA X (e::es) t)
  (hbase:attributeBase o name X.env (eval o X.env)=eval o X.env:=by rfl)
  (hfew:((backTo cpos (starEach (e::es) X.env)).all (fun x=>!x.1) && (backToKw cpos (keywordEach [] X.env)).all (fun x=>x.1.isSome)
   && decide ((e::es).length+([]:List Keyword).length+(if ([]:List Keyword).isEmpty then 0 else 1) < 30))=true:=by rfl)
  (hline:(apos.endLine == cpos.line)=true:=by rfl) (hs:starEach (e::es) X.env=(false,eval e X.env)::starEach es X.env:=by rfl) (hplain:(backTo cpos (starEach es X.env)).any (·.1)=false:=by rfl) :
  PE X (.Call (.Attribute o name apos) (e::es) [] cpos) (tBM X.K T r to t):=by
 intro pins s σ H Q I h
 refine wpAny_Call_method_late hbase hfew hline rfl (thn (ho pins s σ H _ I h) fun v s1 ⟨x,H1,I1,r1,ty,q1⟩=>?_)
 obtain ⟨h1,h2⟩:=CD I1 r1 ty
 refine ⟨T,id,pa,slot,hty,h1,h2,?_⟩
 have hA:=ha cpos pins s1 σ H1 _ I1 q1
 rw [hs] at hA ⊢
 refine Calls.callWith_builtin (by show (false || (backTo cpos (starEach es X.env)).any (·.1))=false;rw [hplain]<;>rfl) (Calls.evalArgs_plain ?_)
 exact thn hA fun us s2 ⟨vs,H2,I2,r2,q2⟩=>hm pins s2 σ H2 x vs v us Q I2 r1 r2 q2
end
def MtM (X:Cx)(id:String)(r:V->List V->Hp->VK->Prop):Prop:=
 ∀(pins:List (Addr×Obj)) (s:Shared) (σ:St) (H:Hp) (x:V) (xs:List V) (v:Value) (us:List Value) (Q:VK),Inv X pins σ H s->bA x v->a8 xs us->r x xs H Q->
  wpAny (model X.prog X.w) X.A (call (.builtin id) (v::us)) (EP X pins σ Q) X.xe s
theorem a8.one:∀{x:V} {us:List Value},a8 [x] us->∃u,us=[u]/\bA x u
 | _,_,.cons r .nil=>⟨_,rfl,r⟩
theorem a8.two:∀{x y:V} {us:List Value},a8 [x,y] us->∃u v,us=[u,v]/\bA x u/\bA y v
 | _,_,_,.cons r (.cons q .nil)=>⟨_,_,rfl,r,q⟩
theorem a8.zero:∀{us:List Value},a8 [] us->us=[]
 | _,.nil=>rfl
theorem a8.dropLast {xs:List V}{us:List Value}(h:a8 xs us):a8 xs.dropLast us.dropLast:=by
 induction h with
 | nil=>exact .nil
 | cons r t ih=>
  cases t with
  | nil=>exact .nil
  | cons q t'=>exact .cons r ih
theorem zh {α:Type}(l:List α):l.eraseIdx (l.length - 1)=l.dropLast:=by
 induction l with
 | nil=>rfl
 | cons a r ih=>
  cases r with
  | nil=>rfl
  | cons b r=>
   have e:(a::b::r).length - 1=((b::r).length - 1)+1:=by
    have h1:(a::b::r).length=r.length+2:=rfl
    have h2:(b::r).length=r.length+1:=rfl
    omega
   rw [e,List.eraseIdx_cons_succ,ih]
   all_goals rfl
theorem vQ (its:List Value):∀(k:Nat) (acc:List Value),
  List.foldl (fun x1 x2=>x1++x2) acc.toArray (List.replicate k its.toArray)=(acc++(List.replicate k its).flatten).toArray
 | 0,acc=>by simp
 | k+1,acc=>by
  have e:acc.toArray++its.toArray=(acc++its).toArray:=by simp
  have e2:(acc++its)++(List.replicate k its).flatten=acc++(List.replicate (k+1) its).flatten:=by
   rw [List.replicate_succ,List.flatten_cons,List.append_assoc]
  rw [←e2,←vQ its k (acc++its),←e,List.replicate_succ,List.foldl_cons]
section
variable {X:Cx}{pins:List (Addr×Obj)}{σ:St}{H:Hp}{s:Shared}{l b:Addr}{xs ys zs:List V}
theorem Inv.lset {its its':List Value}{n:Nat}{f:Array Value->Array Value}{t':Nat}(I:Inv X pins σ H s)(hH:H l=some (.lst xs))
  (e:s.heap.get? l=some {cls:=.type "list",data:=.seq its.toArray n}) (hf:f its.toArray=its'.toArray) (hv:a8 ys its') (hz:ys.length<=sizeLine) :
  Inv X pins σ (upd H l (.lst ys)) {s with heap:=s.heap.update l (Obj.mapSeq f),toks:=t'}:=by
 have q:=PySem.IsL.update e f
 rw [hf] at q
 refine I.write (x:=l) (e:=l) (by rw [hH];exact trivial) (.inl rfl) (fun b' u hb hu=>(Heap.get?_update_other s.heap (Obj.mapSeq f) (Ne.symm hb)).trans hu) ⟨_,q⟩ ?_
 exact ⟨hz,its',_,hv,q⟩
theorem Inv.lnew {its:List Value}{t':Nat}(I:Inv X pins σ H s)(hv:a8 ys its)(hz:ys.length<=sizeLine) :
  Inv X pins σ (upd H s.heap.objs.size (.lst ys)) {s with heap:=s.heap.push {cls:=.type "list",data:=.seq its.toArray},toks:=t'}:=
 I.laid (fun _ _ q=>Heap.get?_push_of_some _ q) (Nat.le_refl _) ⟨hz,its,0,hv,Heap.get?_push_size _ rfl⟩
theorem Inv.fresh (I:Inv X pins σ H s):H s.heap.objs.size=none:=I.hok.fresh (Nat.le_refl _)
theorem Inv.lstM (I:Inv X pins σ H s)(hH:H l=some (.lst xs)):xs.length<=sizeLine/\∃(its:List Value) (n:Nat),a8 xs its/\xs.length=its.length/\s.heap.get? l=some {cls:=.type "list",data:=.seq its.toArray n}:=by
 obtain ⟨z,its,n,r,e⟩:=I.hok l _ hH
 exact ⟨z,its,n,r,r.length,e⟩
theorem CF {n:Nat}(h:n<=sizeLine):Builtin.List.listTooLong n=false:=by
 unfold Builtin.List.listTooLong
 exact decide_eq_false (by omega)
end
section
variable {X:Cx}
noncomputable def AA:V->List V->Hp->VK->Prop:=fun x vs H Q=>∃l xs y,x=.ref l/\vs=[y]/\H l=some (.lst xs)/\xs.length < sizeLine/\Q .non (upd H l (.lst (xs++[y])))
theorem Bm:MtM X "list.append" AA:=by
 intro pins s σ H x vs v us Q I rx rv h
 obtain ⟨l,xs,y,rfl,rfl,hH,hz,q⟩:=h
 cases rx
 obtain ⟨u,rfl,ru⟩:=rv.one
 obtain ⟨z,its,n,r,hl,e⟩:=I.lstM hH
 refine call_meets F.slot_list_append ⟨_,e,rfl⟩ F.entry_list_append (F.args_list_append_2 _ _) (PySem.list_append l its.toArray n u (by rw [List.size_toArray];omega)) ⟨e,?_⟩
 refine ⟨.non,_,I.lset (its':=its++[u]) hH e (by simp) (r.append (.cons ru .nil)) ?_,rfl,q⟩
 rw [List.length_append,List.length_singleton]
 omega
noncomputable def EV:V->List V->Hp->VK->Prop:=fun x vs H Q=>∃l b xs zs,x=.ref l/\vs=[.ref b]/\H l=some (.lst xs)/\H b=some (.lst zs)/\xs.length+zs.length<=sizeLine/\Q .non (upd H l (.lst (xs++zs)))
theorem Jf:MtM X "list.extend" EV:=by
 intro pins s σ H x vs v us Q I rx rv h
 obtain ⟨l,b,xs,zs,rfl,rfl,hH,hB,hz,q⟩:=h
 cases rx
 obtain ⟨u,rfl,ru⟩:=rv.one
 cases ru
 obtain ⟨z,its,n,r,hl,e⟩:=I.lstM hH
 obtain ⟨z2,its2,n2,r2,hl2,e2⟩:=I.lstM hB
 have hsz:its.toArray.size+its2.toArray.size<=sizeLine:=by rw [List.size_toArray,List.size_toArray];omega
 have hlong:¬(!its.toArray.isEmpty && Builtin.List.listTooLong (its.toArray.size+its2.toArray.size))=true:=by
  rw [CF hsz,Bool.and_false]
  exact Bool.false_ne_true
 refine call_meets F.slot_list_extend ⟨_,e,rfl⟩ F.entry_list_extend (F.args_list_extend_2 _ _)
  (AutoSeq1.list_extend_list_list_0 l its.toArray n b its2.toArray n2 hlong (by rw [List.size_toArray];omega) (by omega)) ⟨e,e2,?_⟩
 refine ⟨.non,_,I.lset (its':=its++its2) hH e (by simp) (r.append r2) ?_,rfl,q⟩
 rw [List.length_append]
 omega
noncomputable def HN:V->List V->Hp->VK->Prop:=fun x vs H Q=>∃l xs y,x=.ref l/\vs=[]/\H l=some (.lst xs)/\xs[xs.length - 1]?=some y/\Q y (upd H l (.lst xs.dropLast))
theorem HP:MtM X "list.pop" HN:=by
 intro pins s σ H x vs v us Q I rx rv h
 obtain ⟨l,xs,y,rfl,rfl,hH,hy,q⟩:=h
 cases rx
 have hus:=rv.zero
 subst hus
 obtain ⟨z,its,n,r,hl,e⟩:=I.lstM hH
 obtain ⟨u,hu,ru⟩:=r.get hy
 have hy':its.toArray[its.toArray.size - 1]?=some u:=by
  show its.toArray[its.length - 1]?=some u
  rw [←Array.getElem?_toList,←hl]
  exact hu
 refine call_meets F.slot_list_pop ⟨_,e,rfl⟩ F.entry_list_pop (F.args_list_pop_1 _) (MeetsSeq.list_pop_last l its.toArray n u hy' (by rw [List.size_toArray];omega)) ⟨e,?_⟩
 refine ⟨y,_,I.lset (its':=its.dropLast) hH e ?_ r.dropLast ?_,ru,q⟩
 ·show its.toArray.eraseIdxIfInBounds (its.toArray.size - 1)=its.dropLast.toArray
  rw [List.size_toArray,List.eraseIdxIfInBounds_toArray,zh]
 ·rw [List.length_dropLast]
  omega
noncomputable def zi:V->List V->Hp->VK->Prop:=fun x vs H Q=>∃l xs,x=.ref l/\vs=[]/\H l=some (.lst xs)/\Q .non (upd H l (.lst []))
theorem CG:MtM X "list.clear" zi:=by
 intro pins s σ H x vs v us Q I rx rv h
 obtain ⟨l,xs,rfl,rfl,hH,q⟩:=h
 cases rx
 have hus:=rv.zero
 subst hus
 obtain ⟨z,its,n,r,hl,e⟩:=I.lstM hH
 refine call_meets F.slot_list_clear ⟨_,e,rfl⟩ F.entry_list_clear (F.args_list_clear_1 _) (AutoSeq1.list_clear_list_0 l its.toArray n (by rw [List.size_toArray];omega)) ⟨e,?_⟩
 exact ⟨.non,_,I.lset (its':=[]) (ys:=[]) hH e rfl .nil (Nat.zero_le _),rfl,q⟩
noncomputable def JE:R2:=fun x y H Q=>∃l b xs zs,x=.ref l/\y=.ref b/\H l=some (.lst xs)/\H b=some (.lst zs)/\xs.length+zs.length<=sizeLine/\∀p,H p=none->Q (.ref p) (upd H p (.lst (xs++zs)))
theorem HQ:OpR X (binaryOp .Add) JE:=by
 intro pins s σ H x y v u Q I rx ry h
 obtain ⟨l,b,xs,zs,rfl,rfl,hH,hB,hz,q⟩:=h
 cases rx
 cases ry
 obtain ⟨z,its,n,r,hl,e⟩:=I.lstM hH
 obtain ⟨z2,its2,n2,r2,hl2,e2⟩:=I.lstM hB
 refine PySem.P.add_list e e2 ?_ (by rw [List.size_toArray,List.size_toArray];omega)
 have ea:its.toArray++its2.toArray=(its++its2).toArray:=by simp
 rw [ea]
 exact ⟨.ref _,_,I.lnew (t':=s.toks) (r.append r2) (by rw [List.length_append];omega),rfl,q _ I.fresh⟩
end
section
variable {prog:Program}{w:World}{A:Around}{E:Value->Shared->Prop}{s:Shared}
set_option maxRecDepth 100000 in
end
end L2
namespace Att
open PySem PySem.W PySem.Calls PyProof.Rows
theorem sA {P:Params}{h:Heap}:∀(ns:List Int) (vs:List Value),WellAll P h vs (ns.map WData.int)->IntsAre vs ns:=by
 intro ns
 induction ns with
 | nil=>
  intro vs w
  rw [List.map_nil] at w
  cases w
  exact .nil
 | cons n ns ih=>
  intro vs w
  rw [List.map_cons] at w
  cases w with
  | cons a b=>
   cases a
   exact .cons _ _ (ih _ b)
theorem Bn {l:OpenLaw}{n:Nat}(hn:l.most=some n){P:Params}{h:Heap}{args:List WData}{vals:List Value}
  (hpre:l.row.toRowW.claim.pre args=true) (hwl:WellAll P h vals args) :
  ∃a vs ns,vals=[Value.ref a]/\args=[WData.list (ns.map WData.int)]/\h.get? a=some {cls:=.type "list",data:=.seq vs.toArray}/\IntsAre vs ns/\ns.length<=n:=by
 have hsh:WShape.hasAll [] args [.list .int]=true:=(pre_splitW hpre).1
 have hc:l.pre.holds [] {args:=args}=true:=(pre_splitW hpre).2
 obtain ⟨d,r,rfl,h1,h2⟩:=hasAllW_cons hsh
 obtain rfl:=hasAllW_nil h2
 obtain ⟨xs,rfl,h3⟩:=hasW_list h1
 obtain ⟨ns,rfl⟩:=items_int h3
 have hlen:ns.length<=n:=by
  unfold OpenLaw.pre at hc
  have h4:(WTm.not (.lt (.lit (.int (n:Int))) (.len (.arg 0)))).holds [] {args:=[.list (ns.map .int)]}=true:=by
   have h4:=(holds_andW hc).1
   rw [hn] at h4
   exact h4
  have h5:=condW_of h4 (w_not (w_lt w_lit (w_len_list (w_arg rfl))))
  rw [List.length_map] at h5
  refine Nat.le_of_not_lt fun q=>?_
  have q':(n:Int) < ((ns.length:Nat):Int):=by omega
  first
   | (rw [decide_eq_true q'] at h5;exact absurd h5 (by decide))
   | (simp at h5;omega)
 cases hwl with
 | cons w1 w2=>
  cases w2
  cases w1 with
  | list ho hall=>exact ⟨_,_,ns,rfl,rfl,ho,sA ns _ hall,hlen⟩
theorem Bo (l:OpenLaw)(args:List WData):l.row.toRowW.claim.post args (.bool true) args=true:=
 postW_of (r:=l.row.toRowW) (X:=(true == true))
  (show WShape.has [] (.bool true) .bool=true by first | rfl | decide | simp [WShape.has,WShape.arms,WShape.armsAll])
  (show (WTm.eq .res (.lit (.bool true))).value [] {args:=args,res:=some (.bool true),after:=args}=some (.bool (true == true)) from w_eq_bool (w_res rfl) w_lit) rfl
theorem xO {l:OpenLaw}{n:Nat}{q:Program}{loose:List Str}{XP:(Str->Option Value)->Heap->Prop}{YP:World->Heap->Prop}{d:DefRec}
  (hn:l.most=some n) (hdf:d.params.defaults=[])
  (call:∀(w:World) (s₀ s₁:Shared) (mg mb:Str->Option Value) (fa:Addr) (o:Obj) (pm cd doc:Value) (a:Addr) (vs:List Value) (ns:List Int),
   Ground q loose [] XP w s₀ mg mb s₁.heap->YP w s₁.heap->
   s₁.heap.get? fa=some o->o.data=.func (docDef d.name d.params d.body d.scope pm cd doc)->s₁.heap.CodeRec cd d.name->mg d.name=some (.ref fa)->
   s₁.heap.get? a=some {cls:=.type "list",data:=.seq vs.toArray}->IntsAre vs ns->ns.length<=n->s₁.gens=#[]->
   codeAny (model l.prog w) callerA (.call (.ref fa) ⟨[.ref a],[]⟩) (fun r s'=>r=.ok (.ret (.bool true))/\OldK s₁.heap s'.heap/\s'.os=s₁.os/\AllBare s'.gens) s₁) :
  WalkO q loose XP YP l.row.toRowW d [] (fun f vs=>PySem.call f vs):=by
 intro w s₀ s₁ mg mb G Y fa o pm cd doc dV kV ho hd hcd hD hmg hg args vals as hpre hlay hrd hwl hlo
 obtain rfl:dV=.none:=Dflts.none hD hdf
 obtain rfl:kV=.none:=Dflts.noKw hD
 obtain ⟨a,vs,ns,rfl,rfl,hobj,hints,hlen⟩:=Bn hn hpre hwl
 refine enter_call (codeAny_mono (call w s₀ s₁ mg mb fa o pm cd doc a vs ns G Y ho (fd_plain hd) hcd hmg hobj hints hlen hg) fun r s' hq=>?_)
 obtain ⟨rfl,h2,h3,h4⟩:=hq
 exact ⟨.inl ⟨.bool true,.bool true,[],rfl,fun _=>rfl,.bool true,Bo l _,fun _=>⟨List.Pairwise.nil,fun _ hm=>(nomatch hm)⟩⟩,h2,h3,h4⟩
end Att
namespace L2
open PySem PySem.Spec PyProof.Rows
theorem vR:∀{vs:List Value} {ns:List Int},IntsAre vs ns->a8 (ns.map V.int) vs
 | _,_,.nil=>.nil
 | _,_,.cons n t h=>.cons ⟨t,rfl⟩ (vR h)
def HR (H:Hp):Prop:=∀b,H b=none\/∃o xs,H b=some (.frz o (.lst xs))
theorem CH {P:Program}{w:World}{K:W.Frag}{mg mb:Str->Option Value}{CX:CXT}{k:Nat}{fa a:Addr}{fd:FuncData}{x:Str}{sp:Sp}{s₁:Shared}{vs:List Value}{ns:List Int}
  (KX:K.In s₁.heap) (hns:s₁.heap.Ns mainGlobals mg) (hb:s₁.heap.Ns builtinsNs mb) (hbb:∀x:Str,x≠"__name__"->mb x=bootBuiltins x) (hlim:s₁.heap.NoLimit) (hg:s₁.gens=#[])
  (ha:s₁.heap.get? a=some {cls:=.type "list",data:=.seq vs.toArray}) (hi:IntsAre vs ns) (hl:ns.length<=sizeLine) (hr:dC k callerA)
  (F:∀base:Heap,K.In base->base.Ns mainGlobals mg->gP P w K mg base CX k fa fd [x] sp) (hbind:∀(s:Shared) (u:Value),BindsTo s fd ⟨[u],[]⟩ [(x,u)])
  (hsp:∀H:Hp,HR H->SqL K H a (ns.map V.int)->sp [.ref a] H (fun v _=>v=.bl true) fun _ _ _=>False)
  (hCX:∀H e s',CX [] H s₁ (fun _ _ _=>False) e s'->False) :
  codeAny (model P w) callerA (.call (.ref fa) ⟨[.ref a],[]⟩) (fun r s'=>r=.ok (.ret (.bool true))/\OldK s₁.heap s'.heap/\s'.os=s₁.os/\AllBare s'.gens) s₁:=by
 have rv:=vR hi
 have lenV:=hi.length
 have core:∀H:Hp,HR H->SqL K H a (ns.map V.int)->HOk P w H s₁.heap->(∀b,H b≠none->b=a)->(H a≠none->K.lookup a=none)->
   codeAny (model P w) callerA (.call (.ref fa) ⟨[.ref a],[]⟩) (fun r s'=>r=.ok (.ret (.bool true))/\OldK s₁.heap s'.heap/\s'.os=s₁.os/\AllBare s'.gens) s₁:=by
  intro H hO hS hok hA hK
  have base_of:∀{b:Addr} {o:Obj},s₁.heap.get? b=some o->H b=none->(wJ s₁.heap H).get? b=some o:=fun e n=>Cb e n
  have noA:∀{b:Addr} {o:Obj} {es:Array DictEntry} {ep:Nat},s₁.heap.get? b=some o->o.data=.dict es ep->H b=none:=fun {b o es ep} e d=>by
   cases q:H b with
   | none=>rfl
   | some u=>
    have e':b=a:=hA b (by rw [q];simp)
    subst e'
    rw [ha] at e;cases e
    have d':Data.seq vs.toArray _=Data.dict es ep:=d
    cases d'
  have nsK:∀{b:Addr} {m:Str->Option Value},s₁.heap.Ns b m->(wJ s₁.heap H).Ns b m:=fun {b m} ⟨o,es,ep,e,d,r⟩=>⟨o,es,ep,base_of e (noA e d),d,r⟩
  have hKb:K.In (wJ s₁.heap H):=fun b o e=>base_of (KX b o e) (by
   cases q:H b with
   | none=>rfl
   | some u=>
    have e':b=a:=hA b (by rw [q];simp)
    subst e'
    rw [hK (by rw [q];simp)] at e;cases e)
  have hM:Mod K mg (wJ s₁.heap H):=⟨hKb,nsK hns,⟨mb,nsK hb,hbb⟩,let ⟨mc,h1,h2⟩:=hlim;⟨mc,nsK h1,h2⟩⟩
  have e0:y8 P w K mg (wJ s₁.heap H) callerA [] s₁ H:=⟨rfl,hM,fun b o e=>EB e,Nat.le_of_eq (A8 _ _),trivial,fun b hb=>absurd (show b∈([]:List Addr) from hb) (by simp),hok,.of_eq hg⟩
  refine codeAny_mono ((F _ hKb (nsK hns)).run callerA [] s₁ H ⟨[.ref a],[]⟩ [.ref a] [.ref a] _ _ hr e0 (hbind s₁ (.ref a)) (.cons rfl .nil) (hsp H hO hS)) fun r s' h=>?_
  cases r with
  | error e=>exact (hCX H e s' h).elim
  | ok fl=>
   cases fl with
   | next=>exact False.elim h
   | brk=>exact False.elim h
   | cont=>exact False.elim h
   | ret u=>
    obtain ⟨v,H',os,bare,un,hok',r',q⟩:=h
    have q':v=.bl true:=q
    subst q'
    obtain rfl:u=Value.bool true:=r'
    refine ⟨rfl,OldK.of_keep fun b o e=>?_,os,bare⟩
    cases q:H b with
    | none=>exact un.keep b o e q (by intro z;exact absurd (show b∈([]:List Addr) from z) (by simp)) (by simp)
    | some u=>
     rcases hO b with z | ⟨ob,xs,z⟩
     ·rw [q] at z;cases z
     ·have z2:=un.frzs b ob _ z
      obtain ⟨e1,_⟩:=hok b _ z
      obtain ⟨e2,_⟩:=hok' b _ z2
      rw [e] at e1;cases e1
      exact e2
 cases hk:K.lookup a with
 | some o=>
  have e:=KX a o hk
  rw [ha] at e
  cases e
  refine core (fun _=>none) (fun _=>.inl rfl) (.inr ⟨_,vs.toArray,_,hk,rfl,rfl,rfl,by rw [List.size_toArray,lenV];exact hl,by simpa using rv⟩) (fun b u z=>by have z':(none:Option HO)=some u:=z;cases z') (fun b z=>absurd rfl z) fun z=>absurd rfl z
 | none=>
  refine core (fun b=>if b=a then some (.frz {cls:=.type "list",data:=.seq vs.toArray} (.lst (ns.map V.int))) else none) (fun b=>?_) (.inl (.inr ⟨{cls:=.type "list",data:=.seq vs.toArray},if_pos rfl⟩)) (fun b u z=>?_) (fun b z=>?_) fun _=>hk
  ·by_cases hb:b=a
   ·exact .inr ⟨_,_,if_pos hb⟩
   ·exact .inl (if_neg hb)
  ·by_cases hb:b=a
   ·have z':=(if_pos hb).symm.trans z
    cases z'
    subst hb
    exact ⟨ha,by rw [List.length_map];exact hl,vs,_,rv,ha⟩
   ·have z':=(if_neg hb).symm.trans z
    cases z'
  ·by_cases hb:b=a
   ·exact hb
   ·exact absurd (if_neg hb) z
theorem EW {l:W.OpenLaw}{n k:Nat}{q:Program}{loose:List Str}{XP:(Str->Option Value)->Heap->Prop}{YP:World->Heap->Prop}{d:DefRec}{K:Params->W.Frag}{CX:World->CXT}{sp:World->Sp}{x:Str}
  (hn:l.most=some n) (hn2:n<=sizeLine) (hdf:d.params.defaults=[]) (hr:dC k callerA)
  (hY:∀(w:World) (h:Heap),YP w h->(K w.params).In h)
  (F:∀(w:World) (mg:Str->Option Value) (fa:Addr) (h:Heap),(K w.params).In h->h.Ns mainGlobals mg->mg d.name=some (.ref fa)->
   ∃fd:FuncData,(∀(s:Shared) (u:Value),BindsTo s fd ⟨[u],[]⟩ [(x,u)])/\
    ∀base:Heap,(K w.params).In base->base.Ns mainGlobals mg->gP l.prog w (K w.params) mg base (CX w) k fa fd [x] (sp w))
  (hsp:∀(w:World) (H:Hp) (a:Addr) (ns:List Int),ns.length<=n->HR H->SqL (K w.params) H a (ns.map V.int)->sp w [.ref a] H (fun v _=>v=.bl true) fun _ _ _=>False)
  (hCX:∀(w:World) (H:Hp) (s:Shared) (e:Value) (s':Shared),CX w [] H s (fun _ _ _=>False) e s'->False) :
  W.WalkO q loose XP YP l.row.toRowW d [] (fun f vs=>PySem.call f vs):=by
 refine Att.xO hn hdf fun w s₀ s₁ mg mb fa o pm cd doc a vs ns G Y ho hd hcd hmg hobj hints hlen hg=>?_
 have KX:=hY w _ Y
 obtain ⟨fd,hb,hF⟩:=F w mg fa _ KX G.T.g hmg
 exact CH KX G.T.g G.T.b G.T.builtins G.T.nolimit hg hobj hints (Nat.le_trans hlen hn2) hr hF hb (fun H hO hS=>hsp w H a ns hlen hO hS) fun H e s'=>hCX w H s₁ e s'
noncomputable def aN (s:Stmt)(j:Nat):Stmt:=match s with
 | .ClassDef _ _ _ body _ _ _ _ _ _ _=>body.getD j (.Pass ⟨0,0,0,0⟩)
 | _=>.Pass ⟨0,0,0,0⟩
noncomputable def di (s:Stmt):Arguments:=match s with
 | .FunctionDef _ a _ _ _ _ _ _ _ _=>a
 | _=>{posonlyargs:=[],args:=[],vararg:=none,kwonlyargs:=[],kw_defaults:=[],kwarg:=none,defaults:=[]}
noncomputable def bN (s:Stmt):List Stmt:=match s with
 | .FunctionDef _ _ b _ _ _ _ _ _ _=>b
 | _=>[]
noncomputable def aj (s:Stmt):Scope:=match s with
 | .FunctionDef _ _ _ _ _ _ sc _ _ _=>sc
 | _=>{kind:=.function,names:=[],isGenerator:=false,isCoroutine:=false}
noncomputable abbrev CX0:CXT:=fun _ _ _ _ _ _=>False
noncomputable abbrev E0:XK:=fun _ _ _=>False
theorem bj {X:Cx}:fo CX0 X E0:=fun _ _ _ _ _ _ _ h=>h.elim
structure Fun (K:W.Frag)(x qual:Str)(st:Stmt)(f:Addr)(fd:FuncData):Prop where
 ex:∃(oc:Value) (od:Option Addr) (kV doc pm:Value) (an:Option Addr) (cdv ct:Value) (osl:Array (Option Value)),
  fd=W.fnOf x qual (di st) (bN st) (aj st) .none kV doc pm an cdv ct/\K.lookup f=some ⟨oc,od,.func fd,osl⟩/\W.codeIn K cdv qual=true
 kp:W.keepIn K (.ref f)=true
section
variable {P:Program}{w:World}{K:W.Frag}{mg:Str->Option Value}{base:Heap}
theorem Fun.ok {x qual:Str}{st:Stmt}{f:Addr}{fd:FuncData}{N ps:List Str}{k:Nat}{sp:Sp}(F:Fun K x qual st f fd)(S:ay N ps (aj st))(len:∀vs H Q E,sp vs H Q E->vs.length=ps.length)
  (hbody:∀(cdv:Value) (A:Around) (outer:List Env) (s:Shared) (H:Hp) (vs:List V) (Q:VK) (E:XK),dC k (A.deeper (envOfC qual (aj st) s.heap.objs.size f cdv))->sp vs H Q E->
   ∃t,PSs (nU CX0 P w K mg base N qual (aj st) f cdv A outer s H E).nox (bN st) t/\t {nx:=fun _ H'=>Q .non H',rt:=Q} (kZ N vs) H):gP P w K mg base CX0 (k+1) f fd ps sp:=by
 obtain ⟨oc,od,kV,doc,pm,an,cdv,ct,osl,rfl,lk,hcd⟩:=F.ex
 refine GN lk hcd S len fun A outer s H vs Q E hr hsp=>?_
 obtain ⟨t,h,q⟩:=hbody cdv A outer s H vs Q E hr hsp
 exact ⟨t,h.nox,q⟩
theorem Fun.binds {x qual:Str}{st:Stmt}{f:Addr}{fd:FuncData}{ps:List Str}(F:Fun K x qual st f fd)
  (h:∀(kV doc pm:Value) (an:Option Addr) (cdv ct:Value) (us:List Value),us.length=ps.length->bindArgs (W.fnOf x qual (di st) (bN st) (aj st) .none kV doc pm an cdv ct) ⟨us,[]⟩=pure (ps.zip us)):dI K fd ps []:=by
 obtain ⟨oc,od,kV,doc,pm,an,cdv,ct,osl,rfl,lk,hcd⟩:=F.ex
 exact .all (h kV doc pm an cdv ct)
theorem zj {x qual:Str}{st:Stmt}{f:Addr}{oc:Value}{od an:Option Addr}{osl:Array (Option Value)}{kV doc pm cdv ct:Value}(l:K.lookup f=some ⟨oc,od,.func (W.fnOf x qual (di st) (bN st) (aj st) .none kV doc pm an cdv ct),osl⟩)
  (c:W.codeIn K cdv qual=true) (k:W.keepIn K (.ref f)=true):Fun K x qual st f (W.fnOf x qual (di st) (bN st) (aj st) .none kV doc pm an cdv ct):=⟨⟨oc,od,kV,doc,pm,an,cdv,ct,osl,rfl,l,c⟩,k⟩
end
theorem cY {n:Nat}(h:n<=1000):n < sizeLine:=Nat.lt_of_le_of_lt h (by decide)
section
variable {X:Cx}
theorem pv (i:Nat){x:Str}{pos:Pos}(hN:X.N[i]?=some x:=by rfl)(hv:Vis X.env.scope x:=by first | exact Or.inl rfl | exact Or.inr (Or.inl rfl) | exact Or.inr (Or.inr rfl))(hd:(x == ("__debug__":Str))=false:=by decide)
  (hcd:(x == ("__classdict__":Str))=false:=by decide):PE X (.Name x pos) (Ho i):=Hq hN hv hd hcd
end
theorem JF {A B:Prop}(h:B):if false=true then A else B:=by
 rw [if_neg Bool.false_ne_true]
 exact h
theorem JG {A B:Prop}(h:A):if true=true then A else B:=by
 rw [if_pos rfl]
 exact h
def av (H H':Hp):Prop:=∀b o,H b=some o->H' b=some o
theorem av.refl (H:Hp):av H H:=fun _ _ h=>h
theorem av.trans {H H1 H2:Hp}(a:av H H1)(b:av H1 H2):av H H2:=fun c o h=>b c o (a c o h)
theorem av.free {H H':Hp}(e:av H H'){l:Addr}(h:H' l=Option.none):H l=Option.none:=by
 cases q:H l with
 | none=>rfl
 | some o=>
  rw [e l o q] at h
  cases h
theorem av.seq {K:W.Frag}{H H':Hp}{a:Addr}{xs:List V}(e:av H H')(h:SqL K H a xs):SqL K H' a xs:=by
 rcases h with (h | ⟨o,h⟩) | h
 ·exact .inl (.inl (e _ _ h))
 ·exact .inl (.inr ⟨o,e _ _ h⟩)
 ·exact .inr h
end L2
set_option maxHeartbeats 4000000
namespace L2
open PySem PySem.Spec PyProof.Rows
noncomputable def iW (cells:List (Str×Addr)):List (Str×NameKind)->List (Str×Addr)->List (Str×Addr)
 | [],acc=>acc
 | (n,k)::r,acc=>if (k == NameKind.free)=true then (match cells.lookup n with | some c=>iW cells r ((n,c)::acc) | none=>iW cells r acc) else iW cells r acc
theorem lH {scope:Scope}{env:Env}(h:∀y∈scope.names,y.2=.free->∃c,env.cells.lookup y.1=some c):closureFor scope env=pure (iW env.cells scope.names []):=by
 have key:∀(l:List (Str×NameKind)) (acc:List (Str×Addr)),(∀y∈l,y.2=.free->∃c,env.cells.lookup y.1=some c)->
   (forIn l acc fun x s=>if (x.snd == NameKind.free)=true then do
       let c ←cellOf env x.fst
       pure (ForInStep.yield ((x.fst,c)::s))
      else pure (ForInStep.yield s))=(pure (iW env.cells l acc):Sem _):=by
  intro l
  induction l with
  | nil=>intro acc _;rfl
  | cons y r ih=>
   intro acc hy
   obtain ⟨n,k⟩:=y
   have ih':=fun a=>ih a fun z hz=>hy z (List.mem_cons_of_mem _ hz)
   by_cases hk:(k == NameKind.free)=true
   ·obtain ⟨c,hc⟩:=hy (n,k) List.mem_cons_self (by simpa using hk)
    have hc':env.cells.lookup n=some c:=hc
    simp only [List.forIn_cons,hk,if_true,cellOf,hc',pure_bind,iW]
    exact ih' _
   ·simp only [List.forIn_cons,hk,if_false,pure_bind,iW]
    exact ih' _
 simp only [closureFor]
 rw [key _ _ h]
 rfl
theorem oX {cells:List (Str×Addr)}:∀{l:List (Str×NameKind)} {acc:List (Str×Addr)} {x:Str} {c:Addr},(∀x c,acc.lookup x=some c->cells.lookup x=some c)->(iW cells l acc).lookup x=some c->cells.lookup x=some c
 | [],acc,x,c,h,e=>h x c e
 | (n,k)::r,acc,x,c,h,e=>by
  unfold iW at e
  split at e
  ·split at e
   ·rename_i d hd
    refine oX (l:=r) (acc:=(n,d)::acc) (fun y b hy=>?_) e
    rw [List.lookup_cons] at hy
    split at hy
    ·rename_i z
     have zn:y=n:=by simpa using z
     cases hy
     rw [zn];exact hd
    ·exact h y b hy
   ·exact oX h e
  ·exact oX h e
theorem oY {cells:List (Str×Addr)}{x:Str}:∀{l:List (Str×NameKind)} {acc:List (Str×Addr)},(∃c,acc.lookup x=some c)->∃c,(iW cells l acc).lookup x=some c
 | [],acc,h=>h
 | (n,k)::r,acc,h=>by
  unfold iW
  split
  ·split
   ·rename_i d hd
    refine oY (l:=r) ?_
    rw [List.lookup_cons]
    split
    ·exact ⟨_,rfl⟩
    ·exact h
   ·exact oY h
  ·exact oY h
theorem g9 {cells:List (Str×Addr)}{x:Str}:∀{l:List (Str×NameKind)} {acc:List (Str×Addr)},l.lookup x=some .free->(∃c,cells.lookup x=some c)->∃c,(iW cells l acc).lookup x=some c
 | [],acc,h,_=>by simp at h
 | (n,k)::r,acc,h,hc=>by
  rw [List.lookup_cons] at h
  unfold iW
  split at h
  ·rename_i z
   have zn:x=n:=by simpa using z
   cases h
   subst zn
   obtain ⟨c,hc⟩:=hc
   rw [if_pos (by decide),hc]
   refine oY ⟨c,?_⟩
   rw [List.lookup_cons]
   simp
  ·split
   ·split
    ·exact g9 h hc
    ·exact g9 h hc
   ·exact g9 h hc
theorem eo {env:Env}:∀{names:List (Str×NameKind)} {x:Str},names.lookup x=some .free->
  (names.map fun (n,k)=>if (k == NameKind.free && env.scope.kind == .function && env.kindOf n == some .cell) then (n,NameKind.cell) else (n,k)).lookup x=some .cell\/
  (names.map fun (n,k)=>if (k == NameKind.free && env.scope.kind == .function && env.kindOf n == some .cell) then (n,NameKind.cell) else (n,k)).lookup x=some .free
 | [],_,h=>by simp at h
 | (n,k)::r,x,h=>by
  have ih:=@eo env r x
  show List.lookup x ((if (k == NameKind.free && env.scope.kind == .function && env.kindOf n == some .cell)=true then (n,NameKind.cell) else (n,k))::_)=_\/List.lookup x ((if (k == NameKind.free && env.scope.kind == .function && env.kindOf n == some .cell)=true then (n,NameKind.cell) else (n,k))::_)=_
  cases hx:x == n with
  | true=>
   simp only [List.lookup_cons,hx] at h
   cases h
   by_cases hc:(NameKind.free == NameKind.free && env.scope.kind == .function && env.kindOf n == some .cell)=true
   ·rw [if_pos hc];left;simp only [List.lookup_cons,hx]
   ·rw [if_neg hc];right;simp only [List.lookup_cons,hx]
  | false=>
   simp only [List.lookup_cons,hx] at h
   by_cases hc:(k == NameKind.free && env.scope.kind == .function && env.kindOf n == some .cell)=true
   ·rw [if_pos hc];simp only [List.lookup_cons,hx];exact ih h
   ·rw [if_neg hc];simp only [List.lookup_cons,hx];exact ih h
theorem eA {env:Env}:∀{names:List (Str×NameKind)} {x:Str},(∀y∈names,y.2≠NameKind.cell)->
  ((names.map fun (n,k)=>if (k == NameKind.free && env.scope.kind == .function && env.kindOf n == some .cell) then (n,NameKind.cell) else (n,k)).lookup x=some .cell\/
  (names.map fun (n,k)=>if (k == NameKind.free && env.scope.kind == .function && env.kindOf n == some .cell) then (n,NameKind.cell) else (n,k)).lookup x=some .free)->names.lookup x=some .free
 | [],_,_,h=>by simp at h
 | (n,k)::r,x,hn,h=>by
  have ih:=@eA env r x fun y hy=>hn y (List.mem_cons_of_mem _ hy)
  have h':List.lookup x ((if (k == NameKind.free && env.scope.kind == .function && env.kindOf n == some .cell)=true then (n,NameKind.cell) else (n,k))::(r.map fun (n,k)=>if (k == NameKind.free && env.scope.kind == .function && env.kindOf n == some .cell) then (n,NameKind.cell) else (n,k)))=some .cell\/List.lookup x ((if (k == NameKind.free && env.scope.kind == .function && env.kindOf n == some .cell)=true then (n,NameKind.cell) else (n,k))::(r.map fun (n,k)=>if (k == NameKind.free && env.scope.kind == .function && env.kindOf n == some .cell) then (n,NameKind.cell) else (n,k)))=some .free:=h
  cases hx:x == n with
  | true=>
   simp only [List.lookup_cons,hx]
   by_cases hc:(k == NameKind.free && env.scope.kind == .function && env.kindOf n == some .cell)=true
   ·have hk:k=NameKind.free:=by
     rw [Bool.and_eq_true,Bool.and_eq_true] at hc
     simpa using hc.1.1
    rw [hk]
   ·rw [if_neg hc] at h'
    simp only [List.lookup_cons,hx] at h'
    rcases h' with h' | h'
    ·exact absurd (Option.some.inj h') (hn (n,k) List.mem_cons_self)
    ·exact h'
  | false=>
   simp only [List.lookup_cons,hx]
   by_cases hc:(k == NameKind.free && env.scope.kind == .function && env.kindOf n == some .cell)=true
   ·rw [if_pos hc] at h';simp only [List.lookup_cons,hx] at h';exact ih h'
   ·rw [if_neg hc] at h';simp only [List.lookup_cons,hx] at h';exact ih h'
noncomputable def blk (X:Cx)(Nc:List Str)(scope:Scope)(C:Addr)(s₀:Shared)(H₀:Hp)(ex:List Addr):Cx:=
 {X with N:=Nc,s₀:=s₀,H₀:=H₀,env:=compEnvC scope (iW X.env.cells scope.names []) C X.env,outer:=X.stack,ex:=ex,fn:=fun _=>false,pn:=[],xe:=fun _ _=>False}
noncomputable def bZ (cm:List (Option Nat))(σ:St):St:=cm.map fun o=>match o with
 | none=>none
 | some i=>(σ[i]?).getD none
def Wk (σ σ':St):Prop:=σ.length=σ'.length/\∀(i:Nat) (v:V),σ[i]?=some (some v)->σ'[i]?=some (some v)
noncomputable def xP (wi:TI)(g:TG)(tc:TT)(te:TE)(cm:List (Option Nat)):TE:=fun σ H Q=>wi σ H fun J H1=>∃W:Nat->Nat->List V->Hp->Prop,(∃m,W 0 m [] H1)/\∀i m acc H,W i m acc H->
 (J.stop i H/\∀p,H p=none->Q (.ref p) (upd H p (.lst acc)))\/
 (J.go i H/\acc.length < sizeLine/\∀x H',J.yld i H x H'->g x (bZ cm σ) H' fun σ2 H2=>Wk (bZ cm σ) σ2/\tc σ2 H2 fun b H3=>if b=true then te σ2 H3 fun v H4=>∃m',m' < m/\W (i+1) m' (acc++[v]) H4 else ∃m',m' < m/\W (i+1) m' acc H3)
def PIf (X:Cx)(ifs:List Expr)(t:TT):Prop:=
 ∀(pins:List (Addr×Obj)) (s:Shared) (σ:St) (H:Hp) (Q:Bool->Hp->Prop),Inv X pins σ H s->t σ H Q->
  wpAny (model X.prog X.w) X.A (forIn ifs true fun c r=>if r=true then do let ok ←isTrue c X.env (eval c X.env);pure (ForInStep.yield ok) else pure (ForInStep.yield r)) (TP X pins σ Q) X.xe s
noncomputable def sC:TT:=fun _ H Q=>Q true H
theorem gh {X:Cx}:PIf X [] sC:=fun _ _ σ H _ I h=>wpAny_pure ⟨H,I,h⟩
theorem sR {X:Cx}{c:Expr}{t:TT}(h:PT X c t):PIf X [c] t:=fun pins s σ H Q I q=>wpAny_tests_one (h pins s σ H Q I q)
theorem Inv.track {X:Cx}{pins:List (Addr×Obj)}{σ:St}{H:Hp}{s:Shared}{D:Addr}{o:HO}(I:Inv X pins σ H s)(hn:H D=none)(h0:X.s₀.heap.objs.size<=D)(hL:D≠X.env.locals)
  (hcl:∀x c,X.env.cells.lookup x=some c->c≠D) (hp:∀p∈X.pn++pins,p.1≠D) (new:dE X.prog X.w (upd H D o) s.heap D o):Inv X pins σ (upd H D o) s:=by
 have hb:∀b u,X.s₀.heap.get? b=some u->b≠D:=fun b u e=>Nat.ne_of_lt (Nat.lt_of_lt_of_le (Heap.lt_size e) h0)
 refine ⟨I.ok,I.os,I.bare,⟨I.base.keep,I.base.slot,fun b u e n hx=>?_,I.base.there,fun b xs e=>?_,fun b u xs e=>?_,fun b ps e=>?_⟩,I.loc,I.cell,?_,fun x c e=>?_,fun p hpp=>?_,fun b u e=>?_,I.len⟩
 ·rw [aG (hb b u e)];exact I.base.free b u e n hx
 ·have q:=I.base.tups b xs e;rw [aG (ak q hn)];exact q
 ·have q:=I.base.frzs b u xs e;rw [aG (ak q hn)];exact q
 ·obtain ⟨more,q⟩:=I.base.tbls b ps e;exact ⟨more,by rw [aG (ak q hn)];exact q⟩
 ·rw [aG (Ne.symm hL)];exact I.free
 ·rw [aG (hcl x c e)];exact I.freeC x c e
 ·obtain ⟨a,b,c⟩:=I.pin p hpp
  exact ⟨a,by rw [aG (hp p hpp)];exact b,c⟩
 ·by_cases hb:b=D
  ·subst hb;rw [ag] at e;cases e;exact new
  ·rw [aG hb] at e
   exact (I.hok b u e).stay (fun c v _ q=>q) (fun c q=>by rw [aG (ak q hn)];exact q) fun c xs q=>by rw [aG (ak q hn)];exact q
section
variable {X:Cx}
theorem EX {tg iter elt:Expr}{ifs:List Expr}{scope:Scope}{pos:Pos}{Nc:List Str}{cm:List (Option Nat)}{wi:TI}{g:TG}{tc:TT}{te:TE}
  (hc:X.calm=true) (hi:PI X tg iter wi) (hkind:scope.kind=.function) (hcell:∀y∈scope.names,y.2≠.cell) (hnames:∀y∈scope.names,y.2=.local->scope.names.lookup y.1=some .local)
  (hfree:∀y∈scope.names,y.2=.free->X.env.kindOf y.1=some .cell\/X.env.kindOf y.1=some .free) (hlen:cm.length=Nc.length)
  (hcm:∀(j:Nat) (x:Str) (i:Nat),Nc[j]?=some x->cm[j]?=some (some i)->X.N[i]?=some x/\scope.names.lookup x=some .free/\(X.env.kindOf x=some .cell\/X.env.kindOf x=some .free))
  (hg:∀C s₀ H₀ ex,PG (blk X Nc scope C s₀ H₀ ex) tg g) (ht:∀C s₀ H₀ ex,PIf (blk X Nc scope C s₀ H₀ ex) ifs tc) (he:∀C s₀ H₀ ex,PE (blk X Nc scope C s₀ H₀ ex) elt te)
  (hs:∀x,foldedSetIterable iter X.env x=pure x:=by intro _;rfl):PE X (.ListComp elt [⟨tg,iter,ifs,0⟩] scope pos) (xP wi g tc te cm):=by
 intro pins s σ H Q I h
 rw [eval_ListComp]
 have hfr:∀y∈scope.names,y.2=.free->∃c,X.env.cells.lookup y.1=some c:=fun y hy e=>I.ok.has y.1 (hfree y hy e)
 refine wpAny_comprehension_free (use:=none) rfl hs (lH hfr) hkind hnames (thn (hi pins s σ H _ I h) fun v s1 h1=>thn h1 fun itv s2 h2=>?_)
 obtain ⟨it,fp,tn,J,H2,e,I2,T,st2,f2,W,⟨m0,w0⟩,turn⟩:=h2
 subst e
 refine wpAny_newObj_type (wpAny_newFunctionEnv hcell (by intro y hy;simp at hy) (fun h₁ hns₁ hsb₁=>?_) hkind)
 dsimp only at hns₁ hsb₁ ⊢
 have hk3:∀b u,s2.heap.get? b=some u->(s2.heap.push {cls:=.type "list",dict:=none,data:=.seq ([]:List Value).toArray}).get? b=some u:=fun b u q=>Heap.get?_push_of_some _ q
 have I3:Inv X pins σ H2 {s2 with heap:=s2.heap.push {cls:=.type "list",dict:=none,data:=.seq ([]:List Value).toArray},toks:=s2.toks}:=I2.kept hk3
 have hD3:(s2.heap.push {cls:=.type "list",dict:=none,data:=.seq ([]:List Value).toArray}).get? s2.heap.objs.size=some {cls:=.type "list",data:=.seq ([]:List Value).toArray}:=Heap.get?_push_size _ rfl
 have hCs:(s2.heap.push {cls:=.type "list",dict:=none,data:=.seq ([]:List Value).toArray}).objs.size=s2.heap.objs.size+1:=Heap.size_push _ _
 have hDn:H2 s2.heap.objs.size=none:=I2.hok.fresh (Nat.le_refl _)
 have st3:tn 0 (s2.heap.push {cls:=.type "list",dict:=none,data:=.seq ([]:List Value).toArray}):=T.keep _ _ _ st2 fun b _ o q=>hk3 b o q
 have fpD:∀b∈fp,b < s2.heap.objs.size:=fun b hb=>by
  obtain ⟨o,e,_⟩:=T.obj _ _ st2 b hb
  exact Heap.lt_size e
 have DX:oS X pins H2 s2.heap.objs.size:=I2.fpOk (Nat.le_refl _) hDn
 generalize hs3:s2.heap.push {cls:=.type "list",dict:=none,data:=.seq ([]:List Value).toArray}=h3 at *
 generalize hDg:s2.heap.objs.size=D at *
 have exX:∀b∈D::fp,oS X pins H2 b:=fun b hb=>by
  rcases List.mem_cons.mp hb with z | z
  ·rw [z];exact DX
  ·exact f2 b z
 have exC:∀b∈D::fp,b < h3.objs.size:=fun b hb=>by
  rcases List.mem_cons.mp hb with z | z
  ·rw [z,hCs];exact Nat.lt_succ_self _
  ·rw [hCs];exact Nat.lt_succ_of_lt (fpD b z)
 have exS:∀b∈D::fp,b∉frs X.stack:=fun b hb z=>by
  obtain ⟨_,n1,n2,_⟩:=exX b hb
  rcases List.mem_cons.mp (I2.stkSub b z) with y | y
  ·exact n1 y
  ·exact n2 y
 have clo:∀x c,(iW X.env.cells scope.names []).lookup x=some c->X.env.cells.lookup x=some c:=fun x c e=>oX (acc:=[]) (fun _ _ z=>by simp at z) e
 have keep1:∀b u,h3.get? b=some u->h₁.get? b=some u:=fun b u q=>
  (hsb₁.2 b (Nat.ne_of_lt (Heap.lt_size q))).trans (Heap.get?_push_of_some _ q)
 let s3:Shared:={s2 with heap:=h3}
 let X':Cx:=blk X Nc scope h3.objs.size s3 H2 (D::fp)
 have hX':X'=blk X Nc scope h3.objs.size s3 H2 (D::fp):=rfl
 have okX:X'.Ok:=by
  refine ⟨I3.ok.mod,hkind,I3.ok.glob,I3.ok.blt,Nat.le_refl _,fun x y c e1 e2=>I3.ok.inj x y c (clo x c e1) (clo y c e2),fun x hx=>?_,fun x c e=>(Bool.false_ne_true e).elim,I3.ok.hd,I3.ok.frames,.inl rfl,fun b hb=>⟨Nat.ne_of_lt (exC b hb),fun x c e=>(exX b hb).2.2.2.2.1 x c (clo x c e)⟩,
   I3.bs,?_,fun b o e hb=>?_,exS,I3.stack,I3.stkFree⟩
  ·have hx':scope.names.lookup x=some .free:=eA (env:=X.env) hcell hx
   have hmem:(x,NameKind.free)∈scope.names:=by
    have:∀(l:List (Str×NameKind)),l.lookup x=some .free->(x,NameKind.free)∈l:=by
     intro l
     induction l with
     | nil=>intro z;simp at z
     | cons a r ih=>
      obtain ⟨n,k⟩:=a
      intro z
      rw [List.lookup_cons] at z
      split at z
      ·rename_i y
       have yn:x=n:=by simpa using y
       cases z
       rw [yn];exact List.mem_cons_self
      ·exact List.mem_cons_of_mem _ (ih z)
    exact this _ hx'
   exact g9 hx' (hfr (x,.free) hmem rfl)
  ·exact Nat.le_trans I3.ok.bsz I3.sz
  ·rcases (exX b hb).2.2.2.1 with z | z
   ·exact I3.ok.noex b o e z
   ·exact absurd (Nat.lt_of_lt_of_le (Heap.lt_size (I3.ok.bs b o e).1) z) (Nat.lt_irrefl _)
 have hσl:(bZ cm σ).length=Nc.length:=by
  unfold bZ
  rw [List.length_map];exact hlen
 have I4:Inv X' [] (bZ cm σ) H2 {s2 with heap:=h₁,toks:=s2.toks+([]:List (Str×Value)).length}:=by
  refine ⟨okX,rfl,I3.bare,Un.kept keep1,⟨_,hns₁,fun j x v e1 e2 e3=>?_⟩,fun x c e=>?_,?_,fun x c e=>I3.freeC x c (clo x c e),(fun p hp=>absurd (show p∈([]:List (Addr×Obj)) from hp) (by simp)),I3.hok.kept keep1,hσl⟩
  ·have e2':∃i,cm[j]?=some (some i)/\σ[i]?=some (some v):=by
    unfold bZ at e2
    rw [List.getElem?_map] at e2
    cases q:cm[j]? with
    | none=>rw [q] at e2;simp at e2
    | some o=>
     rw [q] at e2
     cases o with
     | none=>simp at e2
     | some i=>
      refine ⟨i,rfl,?_⟩
      simp only [Option.map_some,Option.some.injEq] at e2
      cases q2:σ[i]? with
      | none=>rw [q2] at e2;simp at e2
      | some o2=>rw [q2] at e2;simp at e2;rw [e2]
   obtain ⟨i,ej,ei⟩:=e2'
   obtain ⟨n1,n2,n3⟩:=hcm j x i e1 ej
   obtain ⟨m,hn,hl⟩:=I3.loc
   have n3':Vis X.env.scope x:=by
    rcases n3 with z | z
    ·exact .inr (.inl z)
    ·exact .inr (.inr z)
   obtain ⟨u,r,l⟩:=hl i x v n1 ei n3'
   refine ⟨u,r,?_⟩
   rcases l with ⟨l,_⟩ | ⟨_,c,ec,ic⟩
   ·rcases n3 with z | z
    ·rw [l] at z;cases z
    ·rw [l] at z;cases z
   ·obtain ⟨c',ec'⟩:=g9 (cells:=X.env.cells) (acc:=[]) n2 ⟨c,ec⟩
    have hcc:=clo x c' ec'
    rw [ec] at hcc;cases hcc
    obtain ⟨oc,hoc,hdc⟩:=ic
    refine .inr ⟨?_,c,ec',oc,keep1 _ _ hoc,hdc⟩
    exact eo (env:=X.env) n2
  ·obtain ⟨v,oc,hoc,hdc⟩:=I3.cell x c (clo x c e)
   exact ⟨v,oc,keep1 _ _ hoc,hdc⟩
  ·exact I3.hok.fresh (Nat.le_refl _)
 have stat:∀{H':Hp} {pl:List (Addr×Obj)},(∀b∈fp,H' b=none)->(∀p∈pl,p.1=D)->∀b∈fp,oS X' pl H' b:=fun {H' pl} hn hpl b hb=>
  ⟨hn b hb,Nat.ne_of_lt (exC b (List.mem_cons_of_mem _ hb)),exS b (List.mem_cons_of_mem _ hb),.inl (List.mem_cons_of_mem _ hb),fun x c e=>(f2 b hb).2.2.2.2.1 x c (clo x c e),fun p hp z=>by
   have:p∈pl:=(List.mem_append.mp hp).elim (fun z=>absurd (show p∈([]:List (Addr×Obj)) from z) (by simp)) fun z=>z
   have e:=hpl p this
   rw [e] at z
   exact absurd (fpD b hb) (by rw [←z];exact Nat.lt_irrefl _)⟩
 have hDC:D≠h3.objs.size:=by rw [hCs];exact Nat.ne_of_lt (Nat.lt_succ_self _)
 have hDs:D∉frs X.stack:=exS D List.mem_cons_self
 have loop:∀s5:Shared,s5={s2 with heap:=h₁,toks:=s2.toks+([]:List (Str×Value)).length}->
   codeAny (model X.prog X.w) X.A (.compLoop (.ListComp elt [⟨tg,iter,ifs,0⟩] scope pos) 0 (.ref it) (.ref D) (compEnvC scope (iW X.env.cells scope.names []) h3.objs.size X.env))
    (compPost (model X.prog X.w) X.A X.xe none (EP X pins σ Q) (.ref D) h3.objs.size) s5:=by
  rintro s5 rfl
  refine codeAny_loop rfl (fun n s'=>∃i acc its k H',Inv X' [] (bZ cm σ) H' s'/\tn i s'.heap/\(∀b∈fp,H' b=none)/\s'.heap.get? D=some {cls:=.type "list",data:=.seq (List.toArray its) k}/\H' D=none/\a8 acc its/\acc.length<=sizeLine/\W i n acc H') (fun n s' hI=>?_) m0
   ⟨0,[],[],0,H2,I4,T.keep _ _ _ st3 fun b _ o q=>keep1 b o q,fun b hb=>(f2 b hb).1,keep1 _ _ hD3,hDn,.nil,Nat.zero_le _,w0⟩
  obtain ⟨i,acc,its,k,H5,J5,t5,fr5,d5,dn5,va5,ac5,w5⟩:=hI
  show wpAny _ X.A ((compTurn (.ListComp elt [⟨tg,iter,ifs,0⟩] scope pos) 0 (.ref it) (.ref D) (compEnvC scope (iW X.env.cells scope.names []) h3.objs.size X.env)).onRaise (fun x=>do noteFrame x (compEnvC scope (iW X.env.cells scope.names []) h3.objs.size X.env);theTreesLotGoes x)) _ _ s'
  refine wpAny_noted ?_
  rw [compTurn_list]
  have nocell:∀v,({cls:=.type "list",data:=.seq (List.toArray its) k}:Obj).data≠.cell v:=fun v z=>nomatch z
  have P5:Inv X' [(D,{cls:=.type "list",data:=.seq (List.toArray its) k})] (bZ cm σ) H5 s':=J5.pins_of fun p hp=>by
   have e:p=(D,{cls:=.type "list",data:=.seq (List.toArray its) k}):=by simpa using hp
   subst e
   exact ⟨d5,dn5,hDC,hDs,nocell⟩
  have pl1:∀p∈[((D,{cls:=.type "list",data:=.seq (List.toArray its) k}):Addr×Obj)],p.1=D:=fun p hp=>by
   have e:p=(D,{cls:=.type "list",data:=.seq (List.toArray its) k}):=by simpa using hp
   rw [e]
  rcases turn i n acc H5 w5 with ⟨stop,qn⟩ | ⟨go,hsz,step⟩
  ·refine wpAny_bind (wpAny_standAt (wpAny_bind (wpAny_mono (T.done X' rfl rfl rfl hc i _ s' _ H5 (fun _ _=>False) P5 (stat fr5 pl1) t5 stop) (fun r s6 ⟨hr,J6⟩=>?_) fun _ _ f=>f.elim)))
   subst hr
   refine wpAny_pure ?_
   obtain ⟨mC,hnC,_⟩:=J6.loc
   refine ⟨mC,hnC,fun h' hsb=>?_⟩
   have hCn:H5 h3.objs.size=none:=J6.free
   have toh:∀b u,b≠h3.objs.size->s6.heap.get? b=some u->h'.get? b=some u:=fun b u hb q=>(hsb.2 b hb).trans q
   have hok':HOk X.prog X.w H5 h':=fun a o e=>(J6.hok a o e).stay (fun b u hb q=>toh b u (by
    rintro rfl
    rcases hb with z | z
    ·rw [←z,hCn] at e;cases e
    ·rw [hCn] at z;cases z) q) (fun _ q=>q) fun _ _ q=>q
   have ltC:∀{b:Addr} {u:Obj},h3.get? b=some u->b≠h3.objs.size:=fun q=>Nat.ne_of_lt (Heap.lt_size q)
   have un':Un (frs X.stack) (D::fp) H2 H5 h3 h':=by
    have u:=J6.base
    refine ⟨fun b o e n hb hx=>toh b o (ltC e) (u.keep b o e n hb hx),fun b o e n hb hx=>?_,u.free,fun b o e hx=>?_,u.tups,u.frzs,u.tbls⟩
    ·obtain ⟨sl,q⟩:=u.slot b o e n hb hx
     exact ⟨sl,toh b _ (ltC e) q⟩
    ·obtain ⟨o',q⟩:=u.there b o e hx
     exact ⟨o',toh b _ (ltC e) q⟩
   have J7:Inv X pins σ H5 {s6 with heap:=h'}:=Inv.call' (s':={s6 with heap:=h'}) (ch:=D::fp) I3 J6.os un' hok' J6.bare fun b hb=>by
    obtain ⟨_,n1,n2,n3,n4,n5⟩:=exX b hb
    exact ⟨n3,n1,n4,n5⟩
   obtain ⟨dg,dg2,_⟩:=J6.pin (D,{cls:=.type "list",data:=.seq (List.toArray its) k}) (by simp)
   obtain ⟨_,n1,n2,n3,n4,n5⟩:=exX D List.mem_cons_self
   have n3':X.s₀.heap.objs.size<=D:=by
    have:=I2.sz
    rw [hDg] at this
    exact this
   refine ⟨.ref D,_,J7.track (o:=.lst acc) dg2 n3' n1 n4 n5 ⟨ac5,its,k,va5,toh _ _ hDC dg⟩,rfl,qn D dg2⟩
  ·refine wpAny_bind (wpAny_standAt (wpAny_bind (wpAny_mono (T.item X' rfl rfl rfl hc i _ s' _ H5 (fun _ _=>False) P5 (stat fr5 pl1) t5 go) (fun r s6 ⟨u,hr,h6⟩=>?_) fun _ _ f=>f.elim)))
   subst hr
   refine wpAny_bind (wpAny_mono h6 (fun _ s7 ⟨x,H7,J7,r7,y7,t7,fr7⟩=>?_) fun _ _ f=>f.elim)
   have P7:=J7.pinned (stat fr7 pl1) (T.obj _ _ t7)
   refine wpAny_bind (wpAny_mono (hg _ _ _ _ _ s7 _ H7 x u _ P7 r7 (step x H7 y7)) (fun _ s8 ⟨σ8,H8,J8,wk8,q8⟩=>?_) fun _ _ f=>f.elim)
   refine wpAny_bind (wpAny_mono (ht _ _ _ _ _ s8 σ8 H8 _ J8 q8) (fun b s9 ⟨H9,J9,q9⟩=>?_) fun _ _ f=>f.elim)
   have back:∀{Ha:Hp} {sa:Shared},Inv X' ([(D,{cls:=.type "list",data:=.seq (List.toArray its) k})]++qt fp s7.heap) σ8 Ha sa->
     Inv X' [] (bZ cm σ) Ha sa/\tn (i+1) sa.heap/\(∀b∈fp,Ha b=none)/\sa.heap.get? D=some {cls:=.type "list",data:=.seq (List.toArray its) k}/\Ha D=none:=fun {Ha sa} Ja=>by
    refine ⟨(Ja.weak wk8.1 wk8.2).pins_of fun p hp=>absurd hp (by simp),T.keep _ _ _ t7 fun b hb o e=>(Ja.pin (b,o) (List.mem_append_right _ (List.mem_append_right _ (fR hb e)))).1,fun b hb=>?_,?_⟩
    ·obtain ⟨o,e,d⟩:=T.obj _ _ t7 b hb
     exact (Ja.pin (b,o) (List.mem_append_right _ (List.mem_append_right _ (fR hb e)))).2.1
    ·obtain ⟨z1,z2,_⟩:=Ja.pin (D,{cls:=.type "list",data:=.seq (List.toArray its) k}) (by simp)
     exact ⟨z1,z2⟩
   cases b with
   | false=>
    simp only [Bool.false_eq_true,if_false] at q9 ⊢
    obtain ⟨m',hm,w'⟩:=q9
    obtain ⟨z0,z1,z2,z3,z4⟩:=back J9
    exact wpAny_pure ⟨rfl,m',hm,i+1,acc,its,k,H9,z0,z1,z2,z3,z4,va5,ac5,w'⟩
   | true=>
    simp only [if_true] at q9 ⊢
    refine wpAny_bind (wpAny_bind (wpAny_mono (he _ _ _ _ _ s9 σ8 H9 _ J9 q9) (fun y s10 ⟨v,H10,J10,rv,q10⟩=>wpAny_bind ?_) fun _ _ f=>f.elim))
    obtain ⟨m',hm,w'⟩:=q10
    obtain ⟨z0,z1,z2,z3,z4⟩:=back J10
    have hli:=va5.length
    refine call_meets F.slot_list_append ⟨_,z3,rfl⟩ F.entry_list_append (F.args_list_append_2 _ _) (PySem.list_append D its.toArray k y (by rw [List.size_toArray];omega)) ⟨z3,?_⟩
    obtain ⟨k',q⟩:∃k',(s10.heap.update D (Obj.mapSeq (·.push y))).get? D=some {cls:=.type "list",data:=.seq (List.toArray (its++[y])) k'}:=by
     have q:=PySem.IsL.update z3 (·.push y)
     have e:its.toArray.push y=(its++[y]).toArray:=by simp
     rw [e] at q
     exact ⟨_,q⟩
    refine wpAny_pure (wpAny_pure ⟨rfl,m',hm,i+1,acc++[v],its++[y],k',H10,z0.turned (it:=D) (fun b o hb hu=>(Heap.get?_update_other s10.heap (Obj.mapSeq (·.push y)) (Ne.symm hb)).trans hu) z4 hDC (.inl List.mem_cons_self) (fun x c e=>(exX D List.mem_cons_self).2.2.2.2.1 x c (clo x c e)) (fun p hp=>absurd (show p∈([]:List (Addr×Obj)) from hp) (by simp)),
     T.keep _ _ _ z1 fun b hb o e=>(Heap.get?_update_other s10.heap (Obj.mapSeq (·.push y)) (Nat.ne_of_gt (fpD b hb))).trans e,z2,q,z4,va5.append (.cons rv .nil),by rw [List.length_append,List.length_singleton];omega,w'⟩)
 exact codeAny_compStart_list (loop _ rfl) (T.self X.A 0 _ _ _ (T.keep _ _ _ st3 fun b _ o q=>keep1 b o q) (loop _ rfl))
end
theorem HS {lo:Int}{n:Nat}{g:TG}{tc:TT}{te:TE}{cm:List (Option Nat)}{σ:St}{H:Hp}{Q:VK}(Pv:Nat->List V->Hp->Prop)(h0:Pv 0 [] H)
  (hs:∀i acc H,i < n->Pv i acc H->acc.length < sizeLine/\g (.int (lo+i)) (bZ cm σ) H fun σ2 H2=>Wk (bZ cm σ) σ2/\tc σ2 H2 fun b H3=>if b=true then te σ2 H3 fun v H4=>Pv (i+1) (acc++[v]) H4 else Pv (i+1) acc H3)
  (mono:∀x σ H N N',(∀σ2 H2,N σ2 H2->N' σ2 H2)->g x σ H N->g x σ H N':=by exact fun _ _ _ _ _ h q=>h _ _ q)
  (monoc:∀σ H N N',(∀b H2,N b H2->N' b H2)->tc σ H N->tc σ H N') (monoe:∀σ H N N',(∀v H2,N v H2->N' v H2)->te σ H N->te σ H N')
  (hd:∀acc H,Pv n acc H->∀p,H p=none->Q (.ref p) (upd H p (.lst acc))) :
  ∃W:Nat->Nat->List V->Hp->Prop,(∃m,W 0 m [] H)/\∀i m acc H,W i m acc H->
   ((Itr lo n).stop i H/\∀p,H p=none->Q (.ref p) (upd H p (.lst acc)))\/
   ((Itr lo n).go i H/\acc.length < sizeLine/\∀x H',(Itr lo n).yld i H x H'->g x (bZ cm σ) H' fun σ2 H2=>Wk (bZ cm σ) σ2/\tc σ2 H2 fun b H3=>if b=true then te σ2 H3 fun v H4=>∃m',m' < m/\W (i+1) m' (acc++[v]) H4 else ∃m',m' < m/\W (i+1) m' acc H3):=by
 refine ⟨fun i m acc H=>m=n - i/\i<=n/\Pv i acc H,⟨n,by simp,Nat.zero_le _,h0⟩,?_⟩
 rintro i m acc H ⟨rfl,hi,p⟩
 by_cases hlt:i < n
 ·obtain ⟨hz,q⟩:=hs i acc H hlt p
  refine .inr ⟨hlt,hz,fun x H' y=>?_⟩
  obtain ⟨e,y⟩:=y
  subst e y
  refine mono _ _ _ _ _ (fun σ2 H2 ⟨wk,q⟩=>⟨wk,monoc _ _ _ _ (fun b H3 q=>?_) q⟩) q
  cases b with
  | true=>exact monoe _ _ _ _ (fun v H4 q=>⟨n - (i+1),by omega,rfl,hlt,q⟩) q
  | false=>exact ⟨n - (i+1),by omega,rfl,hlt,q⟩
 ·have e:i=n:=by omega
  subst e
  exact .inl ⟨Nat.le_refl _,hd acc H p⟩
theorem tH {lo:Int}{n:Nat}{te:TE}{cm:List (Option Nat)}{σ:St}{H:Hp}{Q:VK}(f:Nat->V)(hn:n<=sizeLine){j:Nat}(hj:(bZ cm σ)[j]?=some none)
  (hs:∀i,i < n->∀N:VK,N (f i) H->te ((bZ cm σ).set j (some (.int (lo+i)))) H N)
  (hd:∀p,H p=none->Q (.ref p) (upd H p (.lst ((List.range n).map f)))) :
  ∃W:Nat->Nat->List V->Hp->Prop,(∃m,W 0 m [] H)/\∀i m acc H,W i m acc H->
   ((Itr lo n).stop i H/\∀p,H p=none->Q (.ref p) (upd H p (.lst acc)))\/
   ((Itr lo n).go i H/\acc.length < sizeLine/\∀x H',(Itr lo n).yld i H x H'->fm j x (bZ cm σ) H' fun σ2 H2=>Wk (bZ cm σ) σ2/\sC σ2 H2 fun b H3=>if b=true then te σ2 H3 fun v H4=>∃m',m' < m/\W (i+1) m' (acc++[v]) H4 else ∃m',m' < m/\W (i+1) m' acc H3):=by
 refine ⟨fun i m acc H'=>m=n - i/\i<=n/\H'=H/\acc=(List.range i).map f,⟨n,by simp,Nat.zero_le _,rfl,rfl⟩,?_⟩
 rintro i m acc H' ⟨rfl,hi,rfl,rfl⟩
 by_cases hlt:i < n
 ·refine .inr ⟨hlt,by rw [List.length_map,List.length_range];omega,fun x H' y=>?_⟩
  obtain ⟨e,y⟩:=y
  subst e y
  refine ⟨⟨by simp,fun k v e=>?_⟩,?_⟩
  ·by_cases hk:j=k
   ·subst hk;rw [hj] at e;cases e
   ·rw [List.getElem?_set_ne hk];exact e
  ·unfold sC;dsimp only
   split
   ·refine hs i hlt _ ⟨n - (i+1),by omega,rfl,hlt,rfl,?_⟩
    rw [List.range_succ,List.map_append];rfl
   ·rename_i z;exact absurd rfl z
 ·have e:i=n:=by omega
  subst e
  exact .inl ⟨Nat.le_refl _,hd⟩
theorem u6 {K:W.Frag}{a:Addr}{xs:List V}{tc:TT}{te:TE}{cm:List (Option Nat)}{σ:St}{H:Hp}{Q:VK}(p:V->Bool)(f:V->V)(hl:SqL K H a xs)(hn:xs.length<=sizeLine){j:Nat}(hj:(bZ cm σ)[j]?=some none)
  (hc:∀x,x∈xs->∀N:Bool->Hp->Prop,N (p x) H->tc ((bZ cm σ).set j (some x)) H N)
  (hs:∀x,x∈xs->p x=true->∀N:VK,N (f x) H->te ((bZ cm σ).set j (some x)) H N)
  (hd:∀b,H b=none->Q (.ref b) (upd H b (.lst ((xs.filter p).map f)))) :
  ∃W:Nat->Nat->List V->Hp->Prop,(∃m,W 0 m [] H)/\∀i m acc H,W i m acc H->
   ((Itl K a).stop i H/\∀p,H p=none->Q (.ref p) (upd H p (.lst acc)))\/
   ((Itl K a).go i H/\acc.length < sizeLine/\∀x H',(Itl K a).yld i H x H'->fm j x (bZ cm σ) H' fun σ2 H2=>Wk (bZ cm σ) σ2/\tc σ2 H2 fun b H3=>if b=true then te σ2 H3 fun v H4=>∃m',m' < m/\W (i+1) m' (acc++[v]) H4 else ∃m',m' < m/\W (i+1) m' acc H3):=by
 refine ⟨fun i m acc H'=>m=xs.length - i/\i<=xs.length/\H'=H/\acc=((xs.take i).filter p).map f,⟨xs.length,by simp,Nat.zero_le _,rfl,by simp⟩,?_⟩
 rintro i m acc H' ⟨rfl,hi,rfl,rfl⟩
 by_cases hlt:i < xs.length
 ·have hx:xs[i]?=some xs[i]:=by simp [hlt]
  have hle:(((xs.take i).filter p).map f).length < sizeLine:=by
   rw [List.length_map]
   have:=List.length_filter_le p (xs.take i)
   rw [List.length_take] at this
   omega
  refine .inr ⟨⟨xs,xs[i],hl,hx⟩,hle,fun x H' y=>?_⟩
  obtain ⟨e,y⟩:=y
  subst e
  have hy:=y xs hl
  rw [hx] at hy;cases hy
  have hmem:xs[i]∈xs:=List.getElem_mem hlt
  refine ⟨⟨by simp,fun k v e=>?_⟩,hc _ hmem _ ?_⟩
  ·by_cases hk:j=k
   ·subst hk;rw [hj] at e;cases e
   ·rw [List.getElem?_set_ne hk];exact e
  ·have hstep:((xs.take (i+1)).filter p).map f=((xs.take i).filter p).map f++(if p xs[i] then [f xs[i]] else []):=by
    rw [take_succ_filter p xs i _ hx,List.map_append]
    cases p xs[i]<;>rfl
   cases hp:p xs[i] with
   | true=>
    refine JG (hs _ hmem hp _ ⟨xs.length - (i+1),by omega,rfl,hlt,rfl,?_⟩)
    rw [hstep,hp];rfl
   | false=>
    refine JF ⟨xs.length - (i+1),by omega,rfl,hlt,rfl,?_⟩
    rw [hstep,hp];simp
 ·have e:i=xs.length:=by omega
  subst e
  refine .inl ⟨⟨xs,hl,Nat.le_refl _⟩,?_⟩
  rw [List.take_length]
  exact hd
theorem oZ {lo:Int}{n:Nat}{tc:TT}{te:TE}{cm:List (Option Nat)}{σ:St}{H:Hp}{Q:VK}(p:Nat->Bool)(f:Nat->V)(hn:n<=sizeLine){j:Nat}(hj:(bZ cm σ)[j]?=some none)
  (hc:∀i,i < n->∀N:Bool->Hp->Prop,N (p i) H->tc ((bZ cm σ).set j (some (.int (lo+i)))) H N)
  (hs:∀i,i < n->p i=true->∀N:VK,N (f i) H->te ((bZ cm σ).set j (some (.int (lo+i)))) H N)
  (hd:∀b,H b=none->Q (.ref b) (upd H b (.lst (((List.range n).filter p).map f)))) :
  ∃W:Nat->Nat->List V->Hp->Prop,(∃m,W 0 m [] H)/\∀i m acc H,W i m acc H->
   ((Itr lo n).stop i H/\∀p,H p=none->Q (.ref p) (upd H p (.lst acc)))\/
   ((Itr lo n).go i H/\acc.length < sizeLine/\∀x H',(Itr lo n).yld i H x H'->fm j x (bZ cm σ) H' fun σ2 H2=>Wk (bZ cm σ) σ2/\tc σ2 H2 fun b H3=>if b=true then te σ2 H3 fun v H4=>∃m',m' < m/\W (i+1) m' (acc++[v]) H4 else ∃m',m' < m/\W (i+1) m' acc H3):=by
 refine ⟨fun i m acc H'=>m=n - i/\i<=n/\H'=H/\acc=((List.range i).filter p).map f,⟨n,by simp,Nat.zero_le _,rfl,by simp⟩,?_⟩
 rintro i m acc H' ⟨rfl,hi,rfl,rfl⟩
 by_cases hlt:i < n
 ·have hle:(((List.range i).filter p).map f).length < sizeLine:=by
   rw [List.length_map]
   have:=List.length_filter_le p (List.range i)
   rw [List.length_range] at this
   omega
  refine .inr ⟨hlt,hle,fun x H' y=>?_⟩
  obtain ⟨e,y⟩:=y
  subst e y
  refine ⟨⟨by simp,fun k v e=>?_⟩,hc _ hlt _ ?_⟩
  ·by_cases hk:j=k
   ·subst hk;rw [hj] at e;cases e
   ·rw [List.getElem?_set_ne hk];exact e
  ·have hstep:((List.range (i+1)).filter p).map f=((List.range i).filter p).map f++(if p i then [f i] else []):=by
    rw [List.range_succ,List.filter_append,List.map_append]
    cases hp:p i<;>simp [hp]
   cases hp:p i with
   | true=>
    refine JG (hs _ hlt hp _ ⟨n - (i+1),by omega,rfl,hlt,rfl,?_⟩)
    rw [hstep,hp];rfl
   | false=>
    refine JF ⟨n - (i+1),by omega,rfl,hlt,rfl,?_⟩
    rw [hstep,hp];simp
 ·have e:i=n:=by omega
  subst e
  exact .inl ⟨Nat.le_refl _,hd⟩
section
variable {X:Cx}
noncomputable def HU (K:W.Frag):List V->Hp->VK->Prop:=fun xs H Q=>∃x n t b,xs=[x,.ty n]/\qw K H x t/\W.kitOne K t (.type n)=some b/\Q (.bl b) H
theorem o6:eG X (.builtin "isinstance") (HU X.K):=by
 intro pins s σ H xs us Q I r h
 obtain ⟨x,n,t,b,rfl,ty,e,q⟩:=h
 obtain ⟨u,v,rfl,ru,rv⟩:=Aq r
 cases rv
 exact Bj I ru ty e fun tk=>⟨.bl b,H,I.tok tk,rfl,q⟩
theorem tI {K:W.Frag}{n:String}:W.kitOne K (.type n) (.type n)=some true:=by
 unfold W.kitOne
 rw [if_pos (by simp)]
theorem wR {K:W.Frag}:W.kitOne K (.type "int") (.type "bool")=some false:=by
 with_unfolding_all rfl
def GR (i j:Int):Prop:=0 < j/\j < 2 ^ 200
theorem CI:OpR X (binaryOp .FloorDiv) (rI GR fun i j=>.int (i / j)):=opI fun i j _ _ _ _ _ hc q=>by
 have hj:j.natAbs.log2 < 9000:=by
  have h1:j.natAbs < 2 ^ 200:=by have:=hc.2;have:=hc.1;omega
  have h0:j.natAbs≠0:=by have:=hc.1;omega
  exact Nat.lt_of_lt_of_le ((Nat.log2_lt h0).mpr h1) (by decide)
 have e:i.fdiv j=i / j:=Int.fdiv_eq_ediv_of_nonneg _ (Int.le_of_lt hc.1)
 exact floordiv_int (by have:=hc.1;omega) (by rw [e];exact q) (.inl (PyProof.noPylong_of_log2 hj))
end
theorem a7:bootBuiltins "len"=some (.builtin "len"):=by decide +kernel
theorem bp:bootBuiltins "isinstance"=some (.builtin "isinstance"):=by decide +kernel
theorem zk:bootBuiltins "min"=some (.builtin "min"):=by decide +kernel
theorem CJ:bootBuiltins "abs"=some (.builtin "abs"):=by decide +kernel
theorem Bp:bootBuiltins "sorted"=some (.builtin "sorted"):=by decide +kernel
theorem jl:bootBuiltins "int"=some (.type "int"):=by decide +kernel
theorem wU:bootBuiltins "bool"=some (.type "bool"):=by decide +kernel
theorem CK:bootBuiltins "str"=some (.type "str"):=by decide +kernel
theorem cW:bootBuiltins "list"=some (.type "list"):=by decide +kernel
theorem lI:bootBuiltins "tuple"=some (.type "tuple"):=by decide +kernel
theorem xQ:bootBuiltins "range"=some (.type "range"):=by decide +kernel
theorem HW:bootBuiltins "zip"=some (.type "zip"):=by decide +kernel
theorem o7:bootBuiltins "enumerate"=some (.type "enumerate"):=by decide +kernel
noncomputable def CL (X:Cx)(scope:Scope):Bool:=scope.names.all fun y=>y.2 != .free || (X.env.kindOf y.1 == some .cell || X.env.kindOf y.1 == some .free)
noncomputable def JH (X:Cx)(scope:Scope)(Nc:List Str)(cm:List (Option Nat)):Bool:=(Nc.zip cm).all fun p=>match p.2 with
 | none=>true
 | some i=>X.N[i]? == some p.1 && (scope.names.lookup p.1 == some .free && (X.env.kindOf p.1 == some .cell || X.env.kindOf p.1 == some .free))
theorem mY {X:Cx}{tg iter elt:Expr}{ifs:List Expr}{scope:Scope}{pos:Pos}(Nc:List Str)(cm:List (Option Nat)){wi:TI}{g:TG}{tc:TT}{te:TE}
  (hi:PI X tg iter wi) (hg:∀C s₀ H₀ ex,PG (blk X Nc scope C s₀ H₀ ex) tg g) (ht:∀C s₀ H₀ ex,PIf (blk X Nc scope C s₀ H₀ ex) ifs tc) (he:∀C s₀ H₀ ex,PE (blk X Nc scope C s₀ H₀ ex) elt te)
  (hc:X.calm=true:=by rfl) (hkind:scope.kind=.function:=by rfl) (hcell:∀y∈scope.names,y.2≠.cell:=by decide +kernel) (hnames:∀y∈scope.names,y.2=.local->scope.names.lookup y.1=some .local:=by decide +kernel)
  (hfree:CL X scope=true:=by rfl) (hlen:cm.length=Nc.length:=by rfl) (hcm:JH X scope Nc cm=true:=by rfl)
  (hs:∀x,foldedSetIterable iter X.env x=pure x:=by intro _;rfl):PE X (.ListComp elt [⟨tg,iter,ifs,0⟩] scope pos) (xP wi g tc te cm):=by
 refine EX hc hi hkind hcell hnames (fun y hy e=>?_) hlen (fun j x i e1 e2=>?_) hg ht he hs
 ·have h:=List.all_eq_true.mp hfree y hy
  rw [e] at h
  simpa using h
 ·have hj:(Nc.zip cm)[j]?=some (x,some i):=by
   rw [List.getElem?_zip_eq_some];exact ⟨e1,e2⟩
  have h:=List.all_eq_true.mp hcm _ (List.mem_of_getElem? hj)
  simpa using h
theorem HX {CX:CXT}{P:Program}{w:World}{K:W.Frag}{mg:Str->Option Value}{base:Heap}{N:List Str}{qual:Str}{scope:Scope}{f:Addr}{cd:Value}{A:Around}{outer:List Env}{s:Shared}{H:Hp}{E:XK} :
  (nU CX P w K mg base N qual scope f cd A outer s H E).K=K:=rfl
theorem cX {ns:List Int}{k:Int}(h0:0<=k)(h1:k < ns.length):atI (ns.map V.int) k=some (.int (ns.getD k.toNat 0)):=by
 have hl:k.toNat < ns.length:=by omega
 have q:(ns.map V.int)[k.toNat]?=some (.int (ns.getD k.toNat 0)):=by
  rw [List.getElem?_map,List.getD_eq_getElem?_getD,List.getElem?_eq_getElem hl]
  rfl
 have q2:=Ax q
 rw [show ((k.toNat:Nat):Int)=k by omega] at q2
 exact q2
theorem dJ {ns:List Int}{k:Nat}(h1:k < ns.length):atI (ns.map V.int) (k:Int)=some (.int (ns.getD k 0)):=by
 have:=cX (ns:=ns) (k:=(k:Int)) (by omega) (by omega)
 simpa using this
theorem CM {ns:List Int}{k:Nat}(h:ns.length<=k):ns.getD k 0=0:=by
 rw [List.getD_eq_getElem?_getD,List.getElem?_eq_none_iff.mpr h];rfl
structure bP (ds:List Int):Prop where
 l2:2<=ds.length
 l6:ds.length<=6
 lo:∀d∈ds,0<=d
 hi:∀d∈ds,d<=500
 up:ds.Pairwise (· < ·)
theorem bP.get {ds:List Int}(h:bP ds){i:Nat}(hi:i < ds.length):0<=ds.getD i 0/\ds.getD i 0<=500:=by
 rw [List.getD_eq_getElem?_getD,List.getElem?_eq_getElem hi,Option.getD_some]
 exact ⟨h.lo _ (List.getElem_mem hi),h.hi _ (List.getElem_mem hi)⟩
theorem bP.lt {ds:List Int}(h:bP ds){i j:Nat}(hij:i < j)(hj:j < ds.length):ds.getD i 0 < ds.getD j 0:=by
 have hi:i < ds.length:=Nat.lt_trans hij hj
 rw [List.getD_eq_getElem?_getD,List.getElem?_eq_getElem hi,List.getD_eq_getElem?_getD,List.getElem?_eq_getElem hj,Option.getD_some,Option.getD_some]
 exact List.pairwise_iff_getElem.mp h.up i j hi hj hij
noncomputable def bS (ds:List Int):Int:=ds.getD (ds.length - 1) 0
theorem bP.le_whole {ds:List Int}(h:bP ds){d:Int}(hd:d∈ds):d<=bS ds:=by
 obtain ⟨i,hi,rfl⟩:=List.getElem_of_mem hd
 have e:ds[i]=ds.getD i 0:=by rw [List.getD_eq_getElem?_getD,List.getElem?_eq_getElem hi];rfl
 rw [e]
 unfold bS
 by_cases hl:i=ds.length - 1
 ·rw [hl];exact Int.le_refl _
 ·exact Int.le_of_lt (h.lt (by omega) (by have:=h.l2;omega))
theorem bP.whole_mem {ds:List Int}(h:bP ds):bS ds∈ds:=by
 have hl:=h.l2
 unfold bS
 rw [List.getD_eq_getElem?_getD,List.getElem?_eq_getElem (by omega:ds.length - 1 < ds.length),Option.getD_some]
 exact List.getElem_mem _
theorem bP.even {n:Nat}{g:Int}(h2:2<=n)(h6:n<=6)(g1:1<=g)(g2:g<=100):bP ((List.range n).map fun (i:Nat)=>g * (i:Int)):=by
 refine ⟨by simpa using h2,by simpa using h6,fun d hd=>?_,fun d hd=>?_,?_⟩
 ·obtain ⟨i,hi,rfl⟩:=List.mem_map.mp hd
  exact Int.mul_nonneg (by omega) (by omega)
 ·obtain ⟨i,hi,rfl⟩:=List.mem_map.mp hd
  have hi':=List.mem_range.mp hi
  have a:g * (i:Int)<=g * 5:=Int.mul_le_mul_of_nonneg_left (by omega) (by omega)
  omega
 ·rw [List.pairwise_map]
  refine List.Pairwise.imp_of_mem (fun {a b} ha hb hab=>?_) List.pairwise_lt_range
  exact Int.mul_lt_mul_of_pos_left (by omega) (by omega)
structure ki (ds:List Int)(l:Int):Prop where
 lo:∀d∈ds,0<=d
 hi:∀d∈ds,d<=l
 up:ds.Pairwise (· < ·)
 l0:-1<=l
theorem ki.nil:ki [] (-1):=⟨by simp,by simp,List.Pairwise.nil,by omega⟩
theorem ki.snoc {ds:List Int}{l r:Int}(h:ki ds l)(h0:0<=r):ki (ds++[l+1+r]) (l+1+r):=by
 have l0:=h.l0
 refine ⟨fun d hd=>?_,fun d hd=>?_,?_,by omega⟩
 ·rcases List.mem_append.mp hd with z | z
  ·exact h.lo d z
  ·have:d=l+1+r:=by simpa using z
   omega
 ·rcases List.mem_append.mp hd with z | z
  ·have:=h.hi d z;omega
  ·have:d=l+1+r:=by simpa using z
   omega
 ·rw [List.pairwise_append]
  refine ⟨h.up,by simp,fun a ha b hb=>?_⟩
  have hb':b=l+1+r:=by simpa using hb
  have:=h.hi a ha;omega
theorem ki.shaft {ds:List Int}{l:Int}(h:ki ds l)(hl:l<=500)(h2:2<=ds.length)(h6:ds.length<=6):bP ds:=
 ⟨h2,h6,h.lo,fun d hd=>Int.le_trans (h.hi d hd) hl,h.up⟩
theorem bP.ends {ds:List Int}(h:bP ds):bP ([0]++(ds.drop 1).take (ds.length - 1 - 1)++[500]):=by
 have l2:=h.l2
 have l6:=h.l6
 have hlen:((ds.drop 1).take (ds.length - 1 - 1)).length=ds.length - 2:=by
  rw [List.length_take,List.length_drop];omega
 have hmem:∀d,d∈(ds.drop 1).take (ds.length - 1 - 1)->0 < d/\d < 500:=fun d hd=>by
  obtain ⟨i,hi,rfl⟩:=List.getElem_of_mem hd
  rw [hlen] at hi
  have e:((ds.drop 1).take (ds.length - 1 - 1))[i]'(by rw [hlen];exact hi)=ds.getD (1+i) 0:=by
   rw [List.getElem_take,List.getElem_drop,List.getD_eq_getElem?_getD,List.getElem?_eq_getElem (by omega)]
   rfl
  rw [e]
  have a:=h.lt (i:=0) (j:=1+i) (by omega) (by omega)
  have b:=h.lt (i:=1+i) (j:=ds.length - 1) (by omega) (by omega)
  have c:=(h.get (i:=0) (by omega)).1
  have d:=(h.get (i:=ds.length - 1) (by omega)).2
  omega
 refine ⟨by simp [hlen]<;>omega,by simp [hlen]<;>omega,fun d hd=>?_,fun d hd=>?_,?_⟩
 ·rcases List.mem_append.mp hd with z | z
  ·rcases List.mem_append.mp z with z | z
   ·have:d=0:=by simpa using z
    omega
   ·have:=hmem d z;omega
  ·have:d=500:=by simpa using z
   omega
 ·rcases List.mem_append.mp hd with z | z
  ·rcases List.mem_append.mp z with z | z
   ·have:d=0:=by simpa using z
    omega
   ·have:=hmem d z;omega
  ·have:d=500:=by simpa using z
   omega
 ·rw [List.pairwise_append,List.pairwise_append]
  refine ⟨⟨by simp,(h.up.drop).take,fun a ha b hb=>?_⟩,by simp,fun a ha b hb=>?_⟩
  ·have ha':a=0:=by simpa using ha
   have:=hmem b hb;omega
  ·have hb':b=500:=by simpa using hb
   rcases List.mem_append.mp ha with z | z
   ·have:a=0:=by simpa using z
    omega
   ·have:=hmem a z;omega
def AB (J:It)(g:TG)(tb:TS)(D:jU)(σ:St)(H1:Hp):Prop:=∃W:Nat->Nat->St->Hp->Prop,(∃m,W 0 m σ H1)/\∀i m σ H,W i m σ H->
 (J.stop i H/\D.nx σ H)\/(J.go i H/\∃N:St->Hp->Prop,(∀σ' H',N σ' H'->∃m',m' < m/\W (i+1) m' σ' H')/\∀x H',J.yld i H x H'->g x σ H' fun σ2 H2=>tb {D with nx:=N,ct:=N,bk:=D.nx} σ2 H2)
theorem EY (wi:TI)(g:TG)(tb:TS)(D:jU)(σ:St)(H:Hp):Jq wi g tb D σ H=wi σ H fun J H1=>AB J g tb D σ H1:=rfl
def o8 (J:It)(g:TG)(tc:TT)(te:TE)(cm:List (Option Nat))(σ:St)(Q:VK)(H1:Hp):Prop:=∃W:Nat->Nat->List V->Hp->Prop,(∃m,W 0 m [] H1)/\∀i m acc H,W i m acc H->
 (J.stop i H/\∀p,H p=none->Q (.ref p) (upd H p (.lst acc)))\/
 (J.go i H/\acc.length < sizeLine/\∀x H',J.yld i H x H'->g x (bZ cm σ) H' fun σ2 H2=>Wk (bZ cm σ) σ2/\tc σ2 H2 fun b H3=>if b=true then te σ2 H3 fun v H4=>∃m',m' < m/\W (i+1) m' (acc++[v]) H4 else ∃m',m' < m/\W (i+1) m' acc H3)
theorem CN (wi:TI)(g:TG)(tc:TT)(te:TE)(cm:List (Option Nat))(σ:St)(H:Hp)(Q:VK):xP wi g tc te cm σ H Q=wi σ H fun J H1=>o8 J g tc te cm σ Q H1:=rfl
theorem bF {lo:Int}{n:Nat}{g:TG}{tb:TS}{D:jU}{σ:St}{H:Hp}(Pv:Nat->St->Hp->Prop)(h0:Pv 0 σ H)
  (hs:∀i σ H,i < n->Pv i σ H->g (.int (lo+i)) σ H fun σ2 H2=>tb {D with nx:=Pv (i+1),ct:=Pv (i+1),bk:=D.nx} σ2 H2) (hd:∀σ H,Pv n σ H->D.nx σ H):AB (Itr lo n) g tb D σ H:=Be Pv h0 hs hd
theorem ff {K:W.Frag}{a:Addr}(xs:List V){g:TG}{tb:TS}{D:jU}{σ:St}{H:Hp}(Pv:Nat->St->Hp->Prop)(h0:Pv 0 σ H)(hl:∀i σ H,i<=xs.length->Pv i σ H->SqL K H a xs)
  (hs:∀i x σ H,xs[i]?=some x->Pv i σ H->g x σ H fun σ2 H2=>tb {D with nx:=Pv (i+1),ct:=Pv (i+1),bk:=D.nx} σ2 H2) (hd:∀σ H,Pv xs.length σ H->D.nx σ H):AB (Itl K a) g tb D σ H:=Ck Pv h0 hl hs hd
theorem wV {lo:Int}{n:Nat}{te:TE}{cm:List (Option Nat)}{σ:St}{H:Hp}{Q:VK}(f:Nat->V)(hn:n<=sizeLine){j:Nat}(hj:(bZ cm σ)[j]?=some none)
  (hs:∀i,i < n->∀N:VK,N (f i) H->te ((bZ cm σ).set j (some (.int (lo+i)))) H N)
  (hd:∀p,H p=none->Q (.ref p) (upd H p (.lst ((List.range n).map f)))):o8 (Itr lo n) (fm j) sC te cm σ Q H:=tH f hn hj hs hd
theorem gq {lo:Int}{n:Nat}{tc:TT}{te:TE}{cm:List (Option Nat)}{σ:St}{H:Hp}{Q:VK}(p:Nat->Bool)(f:Nat->V)(hn:n<=sizeLine){j:Nat}(hj:(bZ cm σ)[j]?=some none)
  (hc:∀i,i < n->∀N:Bool->Hp->Prop,N (p i) H->tc ((bZ cm σ).set j (some (.int (lo+i)))) H N)
  (hs:∀i,i < n->p i=true->∀N:VK,N (f i) H->te ((bZ cm σ).set j (some (.int (lo+i)))) H N)
  (hd:∀b,H b=none->Q (.ref b) (upd H b (.lst (((List.range n).filter p).map f)))):o8 (Itr lo n) (fm j) tc te cm σ Q H:=oZ p f hn hj hc hs hd
theorem rG {K:W.Frag}{a:Addr}{xs:List V}{tc:TT}{te:TE}{cm:List (Option Nat)}{σ:St}{H:Hp}{Q:VK}(p:V->Bool)(f:V->V)(hl:SqL K H a xs)(hn:xs.length<=sizeLine){j:Nat}(hj:(bZ cm σ)[j]?=some none)
  (hc:∀x,x∈xs->∀N:Bool->Hp->Prop,N (p x) H->tc ((bZ cm σ).set j (some x)) H N)
  (hs:∀x,x∈xs->p x=true->∀N:VK,N (f x) H->te ((bZ cm σ).set j (some x)) H N)
  (hd:∀b,H b=none->Q (.ref b) (upd H b (.lst ((xs.filter p).map f)))):o8 (Itl K a) (fm j) tc te cm σ Q H:=u6 p f hl hn hj hc hs hd
section
variable {K:W.Frag}{H:Hp}{Q:VK}
theorem xR {i:Int}(q:Q (.bl true) H):HU K [.int i,.ty "int"] H Q:=⟨_,_,_,_,rfl,.int i,tI,q⟩
theorem wW {i:Int}(q:Q (.bl false) H):HU K [.int i,.ty "bool"] H Q:=⟨_,_,_,_,rfl,.int i,wR,q⟩
end
theorem upo {H:Hp}{a b:Addr}{o u:HO}(h:H b=some u)(hn:H a=none):upd H a o b=some u:=by rw [aG (ak h hn)];exact h
theorem upn {H:Hp}{a b:Addr}{o:HO}(h:upd H a o b=none):H b=none:=by
 by_cases e:b=a
 ·subst e;rw [ag] at h;cases h
 ·rw [aG e] at h;exact h
theorem av.lay {H H':Hp}{a:Addr}{o:HO}(s:av H H')(hn:H' a=none):av H (upd H' a o):=fun b u e=>upo (s b u e) hn
theorem av.rewr {H H':Hp}{a:Addr}{o:HO}(s:av H H')(hn:H a=none):av H (upd H' a o):=fun b u e=>by rw [aG (ak e hn)];exact s b u e
theorem EZ {n d:Nat}(h:1<=n):HT.sIx n d (some 1)=1:=by
 have:=HT.ES n d 1
 rw [show ((1:Nat):Int)=1 from rfl] at this
 omega
theorem HY {n d:Nat}(h:1<=n):HT.sIx n d (some (-1))=n - 1:=by
 have:=HT.wK (-1) n d
 rw [if_pos (by decide)] at this
 omega
theorem CO (ds:List Int)(h:2<=ds.length):oV (ds.map V.int) (some 1) (some (-1))=((ds.drop 1).take (ds.length - 1 - 1)).map V.int:=by
 unfold oV
 rw [List.length_map,EZ (by omega),HY (by omega),List.map_take,List.map_drop]
theorem CP {ds:List Int}(h:0 < ds.length):atI (ds.map V.int) (-1)=some (.int (bS ds)):=by
 unfold atI ixN
 rw [if_neg (by decide),List.length_map,if_pos (by omega),Option.bind_some,List.getElem?_map,show (-1+(ds.length:Int)).toNat=ds.length - 1 by omega,List.getElem?_eq_getElem (by omega)]
 unfold bS
 rw [List.getD_eq_getElem?_getD,List.getElem?_eq_getElem (by omega)]
 rfl
theorem wX (a b:Int):eqV (.int a) (.int b)=decide (a=b):=by
 simp [eqV,Bool.beq_eq_decide_eq]
theorem o9 (d:Int)(ds:List Int):inV (.int d) (ds.map V.int)=decide (d∈ds):=by
 unfold inV
 rw [List.any_map]
 by_cases h:d∈ds
 ·rw [decide_eq_true h,List.any_eq_true]
  exact ⟨d,h,by simp [wX]⟩
 ·rw [decide_eq_false h,List.any_eq_false]
  intro x hx
  simp [wX]
  rintro rfl
  exact h hx
theorem kj {xs:List Int}{i:Nat}{x:V}(h:(xs.map V.int)[i]?=some x):∃z,x=V.int z/\xs[i]?=some z/\z∈xs:=by
 rw [List.getElem?_map] at h
 cases e:xs[i]? with
 | none=>rw [e] at h;cases h
 | some z=>rw [e] at h;exact ⟨z,(Option.some.inj h).symm,rfl,List.mem_of_getElem? e⟩
section
variable {X:Cx}
theorem xS:eG X (.type "range") (fun xs H Q=>∃j:Int,xs=[.int j]/\∀p,H p=none->Q (.ref p) (upd H p (.rng 0 j))):=by
 intro pins s σ H xs us Q I r h
 obtain ⟨j,rfl,q⟩:=h
 obtain ⟨u,rfl,t,rfl⟩:=oT r
 refine call_range_1 ?_
 exact ⟨.ref s.heap.objs.size,_,I.laid (o:=.rng 0 j) (fun b o e=>Heap.get?_push_of_some _ e) (Nat.le_refl _) ⟨_,_,_,Heap.get?_push_size _ rfl⟩,rfl,q _ I.fresh⟩
end
theorem AD (d x y:Int):inV (.int d) [.int x,.int y]=decide (d=x\/d=y):=by
 have:=o9 d [x,y]
 simpa [eq_comm] using this
theorem zl {w s:Int}(hw:0<=w)(hs:0 < s):0<=(w+s - 1) / s/\w<=(w+s - 1) / s * s/\((w+s - 1) / s - 1) * s < w/\(w+s - 1) / s<=w:=by
 have e:=Int.emod_add_mul_ediv (w+s - 1) s
 have r0:=Int.emod_nonneg (w+s - 1) (by omega:s≠0)
 have r1:=Int.emod_lt_of_pos (w+s - 1) hs
 have e2:s * ((w+s - 1) / s)=(w+s - 1) / s * s:=Int.mul_comm _ _
 have e3:((w+s - 1) / s - 1) * s=(w+s - 1) / s * s - s:=by rw [Int.sub_mul,Int.one_mul]
 have q0:0<=(w+s - 1) / s:=Int.ediv_nonneg (by omega) (by omega)
 refine ⟨q0,by omega,by omega,?_⟩
 by_cases h:(w+s - 1) / s<=w
 ·exact h
 ·exfalso
  have h1:((w+s - 1) / s - 1) * 1<=((w+s - 1) / s - 1) * s:=Int.mul_le_mul_of_nonneg_left (by omega) (by omega)
  omega
end L2
namespace L2
theorem E1 {x y i:Int}(h:i=0\/i=1):∃m,(m=x\/m=y)/\atI [V.int x,V.int y] i=some (.int m):=by
 rcases h with rfl | rfl
 ·exact ⟨x,.inl rfl,rfl⟩
 ·exact ⟨y,.inr rfl,rfl⟩
end L2
namespace L2
open PySem PySem.Spec PyProof.Rows
noncomputable def CXf (P:Program)(w:World):CXT:=fun outer H s E e s'=>
 ∃(x:Addr) (cls a0:Value) (H':Hp) (B:Heap),e=.ref x/\s'.os=s.os/\AllBare s'.gens/\Un (frs outer) [] H H' s.heap s'.heap/\HOk P w H' s'.heap/\Heap.FlyingW B outer x cls a0 s'.heap/\
  (∀b o,s'.heap.get? b=some o->(H' b≠none\/∃o0,s.heap.get? b=some o0)->b∉frs outer->B.get? b=some o)/\(∀o,s.heap.get? x≠some o)/\H' x=none/\E cls none H'
theorem dE.there {P:Program}{w:World}{H:Hp}{h:Heap}{a:Addr}{o:HO}(l:dE P w H h a o):∃ob,h.get? a=some ob:=by
 cases o with
 | lst xs=>obtain ⟨_,its,n,_,e⟩:=l;exact ⟨_,e⟩
 | tup xs=>obtain ⟨_,its,_,ob,e,_⟩:=l;exact ⟨_,e⟩
 | dK kvs=>obtain ⟨_,_,_,_,ob,_,_,e,_⟩:=l;exact ⟨_,e⟩
 | dT kvs=>obtain ⟨_,_,_,_,ob,_,_,e,_⟩:=l;exact ⟨_,e⟩
 | set S n=>obtain ⟨ob,_,_,_,e,_⟩:=l;exact ⟨_,e⟩
 | ins C dx fs=>obtain ⟨_,_,_,e,_⟩:=l;exact ⟨_,e⟩
 | own y=>exact l
 | xd fs=>obtain ⟨mA,⟨od,_,_,e,_⟩,_⟩:=l;exact ⟨_,e⟩
 | rng lo hi=>obtain ⟨_,_,_,e⟩:=l;exact ⟨_,e⟩
 | frz ob u=>obtain ⟨e,_⟩:=l;exact ⟨_,e⟩
 | tbl ps=>exact ⟨_,l⟩
 | met f y=>exact ⟨_,l⟩
 | ext φ=>obtain ⟨_,h,_⟩:=l;exact h
section
variable {P:Program}{w:World}{K:W.Frag}{mg:Str->Option Value}{base:Heap}{N:List Str}{qual:Str}{scope:Scope}{f:Addr}{cd:Value}{A:Around}{outer:List Env}{s:Shared}{H:Hp}{E:XK}
noncomputable abbrev cxF (P:Program)(w:World)(K:W.Frag)(mg:Str->Option Value)(base:Heap)(N:List Str)(qual:Str)(scope:Scope)(f:Addr)(cd:Value)(A:Around)(outer:List Env)(s:Shared)(H:Hp)(E:XK):Cx:=
 nU (CXf P w) P w K mg base N qual scope f cd A outer s H E
theorem AE {pins:List (Addr×Obj)}{σ:St}{H1:Hp}{s1:Shared}{h2:Heap}{x:Addr}{cls a0:Value}{B:Heap}(I:Inv (cxF P w K mg base N qual scope f cd A outer s H E) pins σ H1 s1)
  (hB:∀b o,s1.heap.get? b=some o->(H1 b≠none\/∃o0,s.heap.get? b=some o0)->b∉frs (cxF P w K mg base N qual scope f cd A outer s H E).stack->B.get? b=some o)
  (hfl:Heap.FlyingW B outer x cls a0 h2) (hsl:∀b o,s1.heap.get? b=some o->(∀vs,o.data≠.fields vs)->∃sl,h2.get? b=some {o with slots:=sl}) (hx:∀o,s.heap.get? x≠some o) (hx1:H1 x=none) (q:E cls none H1) :
  CXf P w outer H s E (.ref x) {s1 with heap:=h2}:=by
 have neL:∀b o,s.heap.get? b=some o->b≠s.heap.objs.size:=fun b o e=>Nat.ne_of_lt (Heap.lt_size e)
 have stk:∀b,b∈frs (cxF P w K mg base N qual scope f cd A outer s H E).stack->b=s.heap.objs.size\/b∈frs outer:=fun b hb=>by
  rcases List.mem_cons.mp (I.stkSub b hb) with z | z
  ·exact .inl z
  ·exact .inr z
 have hfree:H1 s.heap.objs.size=none:=I.free
 have st:B.StaysIn h2:=hfl.1
 have frD:∀b∈frs outer,∃o,s.heap.get? b=some o/\∀vs,o.data≠.fields vs:=fun b hb=>(I.ok.funs.mem hb).2
 have u:=I.base
 have nf:∀b o,s.heap.get? b=some o->b∉frs outer->b∉frs (cxF P w K mg base N qual scope f cd A outer s H E).stack:=fun b o e hb z=>(stk b z).elim (neL b o e) hb
 have up:∀b∈frs outer,∀o,s.heap.get? b=some o->∃sl,h2.get? b=some {o with slots:=sl}:=fun b hb o e=>by
  obtain ⟨o',e',d⟩:=frD b hb
  rw [e] at e';cases e'
  obtain ⟨sl,q1⟩:=u.any (b:=b) e (I.ok.frf b hb) (by intro z;exact nomatch z)
  obtain ⟨sl',q2⟩:=hsl b _ q1 d
  exact ⟨sl',q2⟩
 refine ⟨x,cls,a0,H1,B,rfl,I.os,I.bare,⟨fun b o e n hb _=>?_,fun b o e n hb _=>up b hb o e,u.free,fun b o e _=>?_,u.tups,u.frzs,u.tbls⟩,fun b o e=>?_,hfl,fun b o e hh hb=>?_,hx,hx1,q⟩
 ·exact st b o (hB b o (u.keep b o e n hb (by intro z;exact nomatch z)) (.inr ⟨o,e⟩) (nf b o e hb))
 ·by_cases hb:b∈frs outer
  ·obtain ⟨sl,q⟩:=up b hb o e
   exact ⟨_,q⟩
  ·obtain ⟨o',e'⟩:=u.there b o e (by intro z;exact nomatch z)
   exact ⟨o',st b o' (hB b o' e' (.inr ⟨o,e⟩) (nf b o e hb))⟩
 ·have ne:b≠s.heap.objs.size:=fun z=>by rw [z,hfree] at e;cases e
  have inB:∀c v,H1 c≠none->s1.heap.get? c=some v->h2.get? c=some v:=fun c v hc q=>st c v (hB c v q (.inl hc) fun z=>by
   rcases stk c z with y | y
   ·rw [y] at hc;exact hc hfree
   ·obtain ⟨o',e',_⟩:=frD c y
    exact hc (u.free c o' e' (I.ok.frf c y) (by intro z;exact nomatch z)))
  refine (I.hok b o e).stay (fun c v hc q=>inB c v ?_ q) (fun _ q=>q) fun _ _ q=>q
  rcases hc with z | z
  ·rw [z,e];simp
  ·rw [z];simp
 ·
  have there1:∃o1,s1.heap.get? b=some o1:=by
   rcases hh with z | ⟨o0,z⟩
   ·cases q:H1 b with
    | none=>exact absurd q z
    | some v=>exact (I.hok b v q).there
   ·exact u.there b o0 z (by intro z;exact nomatch z)
  obtain ⟨o1,e1⟩:=there1
  have nfb:b∉frs (cxF P w K mg base N qual scope f cd A outer s H E).stack:=fun z=>by
   rcases stk b z with y | y
   ·rcases hh with t | ⟨o0,t⟩
    ·rw [y] at t;exact t hfree
    ·exact neL b o0 t y
   ·exact hb y
  have e2:=hB b o1 e1 hh nfb
  have e3:=st b o1 e2
  have e':h2.get? b=some o:=e
  rw [e3] at e';cases e'
  exact e2
theorem Bq {pins:List (Addr×Obj)}{σ:St}{H1:Hp}{s1:Shared}{h':Heap}{x:Addr}{cls:Value}{args:List Value}(I:Inv (cxF P w K mg base N qual scope f cd A outer s H E) pins σ H1 s1)
  (hx:Heap.MadeExcOf s1.heap h' x cls args) (q:E cls none H1):(cxF P w K mg base N qual scope f cd A outer s H E).xe (.ref x) {s1 with heap:=h'}:=by
 have hn:=hx.new
 have hin:∀env∈(cxF P w K mg base N qual scope f cd A outer s H E).stack,∀b,env.frame=some b->b∈frs (cxF P w K mg base N qual scope f cd A outer s H E).stack:=fun env he b hb=>List.mem_filterMap.mpr ⟨env,he,hb⟩
 have hx1:H1 x=none:=by
  cases q:H1 x with
  | none=>rfl
  | some v=>
   obtain ⟨ob,e⟩:=(I.hok x v q).there
   rw [hn] at e;cases e
 refine wpAny_leaves_madeW (base:=W.hideAll s1.heap (frs (cxF P w K mg base N qual scope f cd A outer s H E).stack)) (h:=s1.heap) (s:={s1 with heap:=h'}) I.ok.frames rfl (fun b o q=>W.of_hideAll _ q) (W.funFrames_hide I.stack hin) hx fun h2 t f1 f2 f3 f4=>?_
 refine AE (s1:=s1) I (fun b o e _ hb=>W.hideAll_get _ e hb) f1 (fun b o e d=>f4 b o (hx.keeps b o e) d) (fun o e=>?_) hx1 q
 obtain ⟨o',e'⟩:=I.base.there x o e (by intro z;exact nomatch z)
 rw [hn] at e';cases e'
theorem bg:fo (CXf P w) (cxF P w K mg base N qual scope f cd A outer s H E) E:=by
 rintro pins σ H1 s1 e s2 I ⟨x,cls,a0,H2,B,rfl,os,bare,un,hok,hfl,hB,hx,hx2,q⟩
 have I2:Inv (cxF P w K mg base N qual scope f cd A outer s H E) pins σ H2 s2:=I.call' os un hok bare fun b hb=>absurd hb (by simp)
 refine wpAny_leaves_onW (s:=s2) I.ok.frames rfl hfl fun h2 f1 f2=>?_
 refine AE I2 (fun b o e hh hb=>hB b o e ?_ hb) f1 (fun b o e d=>f2 b o e d) (fun o e=>?_) hx2 q
 ·rcases hh with z | ⟨o0,z⟩
  ·exact .inl z
  ·obtain ⟨o1,e1⟩:=I.base.there b o0 z (by intro z;exact nomatch z)
   exact .inr ⟨o1,e1⟩
 ·obtain ⟨o1,e1⟩:=I.base.there x o e (by intro z;exact nomatch z)
  exact hx o1 e1
theorem sD:PassesOwn (model P w) (cxF P w K mg base N qual scope f cd A outer s H E).A (cxF P w K mg base N qual scope f cd A outer s H E).env (cxF P w K mg base N qual scope f cd A outer s H E).xe:=PassesOwn.leaving
structure ExC (K:W.Frag)(C:Addr):Prop where
 ex:∃(nm q:Str) (N:Addr) (bs bm:List Value) (hdct:Bool) (sn:List Str) (sub:List Value) (ab:Bool) (col:Option Bool) (dd:Option Addr) (k0 k1 k2 k3 k5:Option Value) (mN:Str->Option Value),
  ∀h,K.In h->h.get? C=some (excClassObj nm q C N bs bm hdct sn sub ab col dd k0 k1 k2 k3 k5 "ValueError.__new__")/\h.Ns N mN/\(∀n∈quietNames,mN n=none)/\OwnTailQ h [.type "ValueError",.type "Exception",.type "BaseException",.type "object"] bm
noncomputable def mK (es:Array DictEntry):Bool:=es.toList.all fun e=>match e.key with | .str _ _=>true | _=>false
theorem GS {K:W.Frag}{h:Heap}{N:Addr}{c:Value}{d:Option Addr}{es:Array DictEntry}{ep:Nat}{sl:Array (Option Value)}(X:K.In h)(l:K.lookup N=some ⟨c,d,.dict es ep,sl⟩)(k:mK es=true):h.Ns N (nsFind es):=by
 refine ⟨_,es,ep,X _ _ l,rfl,fun e he=>?_,fun _=>rfl⟩
 have z:=List.all_eq_true.mp k e (by simpa using he)
 split at z
 ·rename_i n t q;exact ⟨n,t,q⟩
 ·cases z
theorem HZ {K:W.Frag}{C N C0 N0:Addr}{nm q:Str}{bs:List Value}{hdct:Bool}{sn:List Str}{sub:List Value}{ab:Bool}{col:Option Bool}{dd:Option Addr}{k0 k1 k2 k3 k5:Option Value}
  {c1 c2 c0:Value} {d1 d2 dd0:Option Addr} {es es0:Array DictEntry} {ep ep0:Nat} {sl1 sl2 sl0:Array (Option Value)} {cd0:ClassData}
  (lC:K.lookup C=some (excClassObj nm q C N bs [.ref C0,.type "ValueError",.type "Exception",.type "BaseException",.type "object"] hdct sn sub ab col dd k0 k1 k2 k3 k5 "ValueError.__new__"))
  (lN:K.lookup N=some ⟨c1,d1,.dict es ep,sl1⟩) (kN:mK es=true) (iN:(quietNames.all fun n=>(nsFind es n).isNone)=true)
  (l0:K.lookup C0=some ⟨c0,dd0,.cls cd0,sl0⟩) (e0:cd0.ns=N0) (lN0:K.lookup N0=some ⟨c2,d2,.dict es0 ep0,sl2⟩) (kN0:mK es0=true) (iN0:(quietNames.all fun n=>(nsFind es0 n).isNone)=true):ExC K C:=
 ⟨nm,q,N,bs,_,hdct,sn,sub,ab,col,dd,k0,k1,k2,k3,k5,nsFind es,fun h X=>⟨X _ _ lC,GS X lN kN,fun n hn=>Option.isNone_iff_eq_none.mp (List.all_eq_true.mp iN n hn),.own (X _ _ l0) (e0▸GS X lN0 kN0) (fun n hn=>Option.isNone_iff_eq_none.mp (List.all_eq_true.mp iN0 n hn)) .base⟩⟩
noncomputable def CQ (E:XK)(C:Addr)(t:TA):TS:=fun _ σ H=>t σ H fun vs H1=>vs.length<=sizeLine/\E (.ref C) none H1
theorem aX {x:Str}{C:Addr}{e:Expr}{es:List Expr}{t:TA}{np cpos pos:Pos}(O:ExC K C)(hg:Gl (cxF P w K mg base N qual scope f cd A outer s H E) x)(hm:mg x=some (.ref C))
  (ha:PA (cxF P w K mg base N qual scope f cd A outer s H E) (e::es) t) (hdb:(x == ("__debug__":Str))=false:=by decide)
  (he:starEach (e::es) (cxF P w K mg base N qual scope f cd A outer s H E).env=(false,eval e (cxF P w K mg base N qual scope f cd A outer s H E).env)::starEach es (cxF P w K mg base N qual scope f cd A outer s H E).env:=by rfl)
  (hpl:(backTo cpos (starEach es (cxF P w K mg base N qual scope f cd A outer s H E).env)).any (·.1)=false:=by rfl) :
  PS (cxF P w K mg base N qual scope f cd A outer s H E) (.Raise (some (.Call (.Name x np) (e::es) [] cpos)) none pos) (CQ E C t):=by
 intro pins s1 σ H1 D I h
 obtain ⟨nm,q,N,bs,bm,hdct,sn,sub,ab,col,dd,k0,k1,k2,k3,k5,mN,O⟩:=O.ex
 obtain ⟨_,_,hni,T0⟩:=O _ I.kIn
 refine wpAny_Raise_call_subU (C:=C) (nm:=nm) (q:=q) (N:=N) (bs:=bs) (bm:=bm) (hdct:=hdct) (sn:=sn) (sub:=sub) (ab:=ab) (col:=col) (dd:=dd) (k0:=k0) (k1:=k1) (k2:=k2) (k3:=k3) (k5:=k5)
  PySem.F.excBase_ValueError (by decide +kernel) PySem.F.excBase_ValueError (mN:=mN) (T0.tail.hasType PySem.F.excBase_ValueError.hasBase) (I.ok.hd rfl) (by rw [he];show (false || (backTo cpos (starEach es _)).any (·.1))=false;rw [hpl];rfl) (hni _ (.head _)) (sP I hg hm ⟨rfl,?_⟩ hdb)
 have ha':=ha cpos pins s1 σ H1 _ I h
 rw [he] at ha' ⊢
 refine Calls.evalArgs_plain (wpAny_mono ha' (fun us s2 h2=>?_) fun _ _ y=>y)
 obtain ⟨vs,H2,I2,rv,hlen,qE⟩:=h2
 obtain ⟨a1,a2,_,a4⟩:=O _ I2.kIn
 exact ⟨rfl,by rw [←rv.length];exact hlen,a1,a2,a4.tail,fun h' e hx=>Bq I2 hx qE⟩
theorem Fun.okF {x qual:Str}{st:Stmt}{f:Addr}{fd:FuncData}{N ps:List Str}{k:Nat}{sp:Sp}(F:Fun K x qual st f fd)(S:ay N ps (aj st))(len:∀vs H Q E,sp vs H Q E->vs.length=ps.length)
  (hbody:∀(cdv:Value) (A:Around) (outer:List Env) (s:Shared) (H:Hp) (vs:List V) (Q:VK) (E:XK),dC k (A.deeper (envOfC qual (aj st) s.heap.objs.size f cdv))->sp vs H Q E->
   ∃t,PSs (cxF P w K mg base N qual (aj st) f cdv A outer s H E) (bN st) t/\t {nx:=fun _ H'=>Q .non H',rt:=Q} (kZ N vs) H):gP P w K mg base (CXf P w) (k+1) f fd ps sp:=by
 obtain ⟨oc,od,kV,doc,pm,an,cdv,ct,osl,rfl,lk,hcd⟩:=F.ex
 refine GN lk hcd S len fun A outer s H vs Q E hr hsp=>?_
 exact hbody cdv A outer s H vs Q E hr hsp
end
noncomputable abbrev XT:=Value->St->Hp->Prop
section
variable {X:Cx}{pins pins':List (Addr×Obj)}{σ:St}{H:Hp}{s:Shared}{E':XT}{e:Value}
noncomputable def Ks (y:Addr)(cls:Value):HO:=.ext fun h=>∃o vs,h.get? y=some o/\o.cls=cls/\o.data=.fields vs
end
section
variable {X:Cx}
noncomputable def Ku (K:W.Frag)(C:Addr)(i:Nat)(tb:XT->TS)(th:TS):TS:=fun D σ H=>
 tb (fun cls σ' H'=>W.exmOne K cls (.ref C)=some true/\∀y,H' y=none->
  th {nx:=fun σ H=>D.nx (σ.set i none) H,rt:=D.rt,bk:=fun σ H=>D.bk (σ.set i none) H,ct:=fun σ H=>D.ct (σ.set i none) H} (σ'.set i (some (.ref y))) (upd H' y (Ks y cls))) D σ H
noncomputable def Ia (sp:Sp)(dvs:List V)(E':XT)(t:TA):TE:=fun σ H Q=>t σ H fun vs H1=>sp (vs++dvs) H1 Q fun cls _ H'=>E' cls σ H'
end
end L2
namespace L2
open PySem PySem.W PySem.Spec PyProof.Rows
structure ExI (K:Frag)(C:Addr):Prop where
 ex:ExC K C
 ca:findIn K (.ref C) "__class__"=some (some (.builtin "object.__class__"))
 mo:mroIn K C (.type "object")=some true
end L2
namespace L2
open PySem PySem.Spec PyProof.Rows
theorem cZ {X:Cx}{x:Str}{v:V}{pos:Pos}(hg:Gl X x)(h:∃u,X.mg x=some u/\bA v u)(hd:(x == ("__debug__":Str))=false:=by decide):PE X (.Name x pos) (tC v):=
 let ⟨_,hm,r⟩:=h
 ED hg hm r hd
noncomputable def eqL:List V->List V->Bool
 | [],[]=>true
 | x::xs,y::ys=>eqV x y && eqL xs ys
 | _,_=>false
theorem sS:∀{xs ys:List V},eqL xs ys=true->xs.length=ys.length
 | [],[],_=>rfl
 | _::_,_::_,h=>by
  unfold eqL at h
  rw [Bool.and_eq_true] at h
  simp [sS h.2]
 | [],_::_,h=>by cases h
 | _::_,[],h=>by cases h
noncomputable def Ib (K:W.Frag):R2:=fun x y H Q=>∃a b xs ys,x=.ref a/\y=.ref b/\SqL K H a xs/\SqL K H b ys/\xs.all bY=true/\ys.all bY=true/\Q (.bl (eqL xs ys)) H
theorem sT:∀{xs ys:List V},xs.length=ys.length->(List.range xs.length).all (fun j=>eqV (xs.getD j .non) (ys.getD j .non))=eqL xs ys
 | [],[],_=>rfl
 | x::xs,y::ys,h=>by
  have ih:=sT (xs:=xs) (ys:=ys) (by simpa using h)
  rw [List.length_cons,List.range_succ_eq_map,List.all_cons,List.all_map]
  show (eqV x y && (List.range xs.length).all (fun j=>eqV (xs.getD j .non) (ys.getD j .non)))=(eqV x y && eqL xs ys)
  rw [ih]
 | [],_::_,h=>by simp at h
 | _::_,[],h=>by simp at h
theorem Ic {X:Cx}(hu:X.A.units < cLine):OpR X (compareOp .Eq) (Ib X.K):=by
 intro pins s σ H x y u v Q I rx ry h
 obtain ⟨a,b,xs,ys,rfl,rfl,ha,hb,fa,fb,q⟩:=h
 cases rx;cases ry
 obtain ⟨ia,ra,pa,za⟩:=I.list ha
 obtain ⟨ib,rb,pb,zb⟩:=I.list hb
 have la:=ra.length
 have lb:=rb.length
 by_cases hl:xs.length=ys.length
 ·refine PySem.SeqAt.eq_listAt (e:=fun j=>eqV (xs.getD j .non) (ys.getD j .non)) pa.isList pb.isList (by simp only [List.size_toArray];omega) hu (fun j h1 h2=>?_) ?_
  ·simp only [List.size_toArray] at h1 h2
   have hx:xs[j]?=some (xs.getD j .non):=by
    rw [List.getD_eq_getElem?_getD,List.getElem?_eq_getElem (by omega)];rfl
   have hy:ys[j]?=some (ys.getD j .non):=by
    rw [List.getD_eq_getElem?_getD,List.getElem?_eq_getElem (by omega)];rfl
   obtain ⟨u,eu,ru⟩:=ra.get hx
   obtain ⟨v,ev,rv⟩:=rb.get hy
   have e1:ia.toArray[j]=u:=by
    have:=List.getElem?_eq_some_iff.mp eu
    simpa using this.2
   have e2:ib.toArray[j]=v:=by
    have:=List.getElem?_eq_some_iff.mp ev
    simpa using this.2
   rw [e1,e2]
   exact qy ru rv (List.all_eq_true.mp fa _ (List.mem_of_getElem? hx)) (List.all_eq_true.mp fb _ (List.mem_of_getElem? hy))
  ·have e:(List.range ia.toArray.size).all (fun j=>eqV (xs.getD j .non) (ys.getD j .non))=eqL xs ys:=by
    rw [List.size_toArray,←la]
    exact sT hl
   rw [e]
   exact ⟨.bl (eqL xs ys),H,I,rfl,q⟩
 ·refine PySem.SeqAt.eq_list_lengthsAt pa.isList pb.isList (by simp only [List.size_toArray,bne_iff_ne,ne_eq];omega) hu ?_
  have e:eqL xs ys=false:=by
   cases z:eqL xs ys with
   | false=>rfl
   | true=>exact absurd (sS z) hl
  rw [e] at q
  exact ⟨.bl false,H,I,rfl,q⟩
noncomputable def Kv (K:W.Frag)(te:TE)(ts:TO):TE:=fun σ H Q=>te σ H fun x H1=>ts σ H1 fun k H2=>k=some (-1)/\∃a xs,x=.ref a/\SqL K H2 a xs/\∀p,H2 p=none->Q (.ref p) (upd H2 p (.lst xs.reverse))
end L2
namespace L2
theorem bP.of {ds:List Int}(l2:2<=ds.length)(l6:ds.length<=6)(b:∀i,i < ds.length->0<=ds.getD i 0/\ds.getD i 0<=500)(u:∀i,i+1 < ds.length->ds.getD i 0 < ds.getD (i+1) 0):bP ds:=by
 have get:∀i (h:i < ds.length),ds[i]=ds.getD i 0:=fun i h=>by rw [List.getD_eq_getElem?_getD,List.getElem?_eq_getElem h];rfl
 have up:∀k i,i+k+1 < ds.length->ds.getD i 0 < ds.getD (i+k+1) 0:=by
  intro k
  induction k with
  | zero=>intro i h;exact u i h
  | succ k ih=>
   intro i h
   have h1:=ih i (by omega)
   have h2:=u (i+k+1) (by omega)
   rw [show i+(k+1)+1=i+k+1+1 by omega]
   omega
 refine ⟨l2,l6,fun d hd=>?_,fun d hd=>?_,List.pairwise_iff_getElem.mpr fun i j hi hj hij=>?_⟩
 ·obtain ⟨i,hi,rfl⟩:=List.getElem_of_mem hd
  rw [get i hi];exact (b i hi).1
 ·obtain ⟨i,hi,rfl⟩:=List.getElem_of_mem hd
  rw [get i hi];exact (b i hi).2
 ·rw [get i hi,get j hj]
  have:=up (j - i - 1) i (by omega)
  rw [show i+(j - i - 1)+1=j by omega] at this
  exact this
end L2
namespace L2
end L2
namespace L2
open PySem PySem.W PySem.Spec PyProof.Rows
noncomputable def tJ:V->Option String
 | .non=>some "NoneType"
 | .bl _=>some "bool"
 | .int _=>some "int"
 | .str _=>some "str"
 | _=>none
def TyX (K:Frag)(H:Hp)(x:V)(T:String):Prop:=tJ x=some T\/(∃a xs,x=.ref a/\SqL K H a xs/\T="list")\/∃a xs,x=.ref a/\SqT K H a xs/\T="tuple"
noncomputable def i5:List String:=["NoneType","bool","int","str","list","tuple"]
noncomputable def xT (T n:String):Bool:=T == n || (T == "bool" && n == "int")
theorem AF {K:Frag}{T n:String}(hT:T∈i5)(hn:n∈i5):kitOne K (.type T) (.type n)=some (xT T n):=by
 simp only [i5,List.mem_cons,List.not_mem_nil,or_false] at hT hn
 rcases hT with rfl | rfl | rfl | rfl | rfl | rfl<;>rcases hn with rfl | rfl | rfl | rfl | rfl | rfl<;>with_unfolding_all rfl
theorem AG {K:Frag}{T:String}(hT:T∈i5):∀{ns:List String},(∀n∈ns,n∈i5)->kitAny K (.type T) (ns.map Value.type)=some (ns.any (xT T))
 | [],_=>rfl
 | n::r,h=>by
  have ih:=AG (K:=K) hT (ns:=r) fun m hm=>h m (List.mem_cons_of_mem _ hm)
  rw [List.map_cons,List.any_cons]
  unfold kitAny
  rw [AF hT (h n List.mem_cons_self)]
  cases e:xT T n with
  | true=>rfl
  | false=>rw [Bool.false_or];exact ih
section
variable {X:Cx}{pins:List (Addr×Obj)}{σ:St}{H:Hp}{s:Shared}
theorem vS {K:Frag}{x:V}{T:String}(h:TyX K H x T):T∈i5:=by
 rcases h with h | ⟨_,_,_,_,rfl⟩ | ⟨_,_,_,_,rfl⟩
 ·cases x<;>simp only [tJ,Option.some.injEq,reduceCtorEq] at h<;>subst h<;>decide
 ·decide
 ·decide
theorem xU (I:Inv X pins σ H s){x:V}{u:Value}{T:String}(rx:bA x u)(ty:TyX X.K H x T):∃φ:Heap->Prop,KitX X.K u (.type T) φ/\φ s.heap/\u≠.builtin "__main__.__loader__#opaque":=by
 rcases ty with h | ⟨a,xs,rfl,h,rfl⟩ | ⟨a,xs,rfl,h,rfl⟩
 ·cases x with
  | non=>cases rx;cases h;exact ⟨_,kitx_none,trivial,fun z=>nomatch z⟩
  | bl b=>cases rx;cases h;exact ⟨_,kitx_bool,trivial,fun z=>nomatch z⟩
  | int i=>obtain ⟨t,rfl⟩:=rx;cases h;exact ⟨_,kitx_int,trivial,fun z=>nomatch z⟩
  | str i=>obtain ⟨t,rfl⟩:=rx;cases h;exact ⟨_,kitx_str,trivial,fun z=>nomatch z⟩
  | _=>cases h
 ·cases rx
  obtain ⟨its,r,pl,hz⟩:=I.list h
  obtain ⟨o,ho,hc,_⟩:=pl.isList
  exact ⟨_,kitx_list,⟨o,ho,hc⟩,fun z=>nomatch z⟩
 ·cases rx
  obtain ⟨its,r,⟨o,ho,hc,_⟩,hz⟩:=I.tuple h
  exact ⟨_,kitx_tuple,⟨o,ho,hc⟩,fun z=>nomatch z⟩
noncomputable def JI (K:Frag):List V->Hp->VK->Prop:=fun xs H Q=>∃x n T,xs=[x,.ty n]/\TyX K H x T/\n∈i5/\Q (.bl (xT T n)) H
theorem gW:eG X (.builtin "isinstance") (JI X.K):=by
 intro pins s σ H xs us Q I r h
 obtain ⟨x,n,T,rfl,ty,hn,q⟩:=h
 obtain ⟨u,v,rfl,ru,rv⟩:=Aq r
 cases rv
 obtain ⟨φ,Z,p,ne⟩:=xU I ru ty
 exact kia_one Z I.kIn p (AF (vS ty) hn) ne fun tk=>⟨.bl _,H,I.tok tk,rfl,q⟩
noncomputable def JJ (K:Frag):List V->Hp->VK->Prop:=fun xs H Q=>∃(x:V) (tp:Addr) (ns:List String) (T:String),xs=[x,.ref tp]/\SqT K H tp (ns.map V.ty)/\TyX K H x T/\(∀n∈ns,n∈i5)/\Q (.bl (ns.any (xT T))) H
theorem AH:∀{ns:List String} {its:List Value},a8 (ns.map V.ty) its->its=ns.map Value.type
 | [],_,h=>by cases h;rfl
 | n::r,_,h=>by
  cases h with
  | cons a b=>rw [AH b];cases a;rfl
theorem qz:eG X (.builtin "isinstance") (JJ X.K):=by
 intro pins s σ H xs us Q I r h
 obtain ⟨x,tp,ns,T,rfl,ht,ty,hn,q⟩:=h
 obtain ⟨u,v,rfl,ru,rv⟩:=Aq r
 cases rv
 obtain ⟨φ,Z,p,ne⟩:=xU I ru ty
 obtain ⟨its,rt,⟨o,ho,hc,n,hd⟩,hz⟩:=I.tuple ht
 obtain rfl:=AH rt
 obtain ⟨c,d,dt,sl⟩:=o
 dsimp only at hc hd
 subst hc hd
 exact kia_tup Z I.kIn p ho (AG (vS ty) hn) ne fun tk=>⟨.bl _,H,I.tok tk,rfl,q⟩
end
inductive Dt where
 | flat (v:V)
 | lst (ds:List Dt)
 | tup (ds:List Dt)
inductive Rep (K:Frag)(H:Hp):Nat->V->Dt->Prop
 | flat {n:Nat} {v:V} (h:bY v=true):Rep K H n v (.flat v)
 | lst {n:Nat} {a:Addr} {xs:List V} {ds:List Dt} (hs:SqL K H a xs) (hb:xs.length<=100000) (hl:xs.length=ds.length) (hr:∀(i:Nat) x d,xs[i]?=some x->ds[i]?=some d->Rep K H n x d):Rep K H (n+1) (.ref a) (.lst ds)
 | tup {n:Nat} {a:Addr} {xs:List V} {ds:List Dt} (hs:SqT K H a xs) (hb:xs.length<=100000) (hl:xs.length=ds.length) (hr:∀(i:Nat) x d,xs[i]?=some x->ds[i]?=some d->Rep K H n x d):Rep K H (n+1) (.ref a) (.tup ds)
theorem av.tup {K:Frag}{H H':Hp}{a:Addr}{xs:List V}(e:av H H')(h:SqT K H a xs):SqT K H' a xs:=by
 rcases h with (h | ⟨o,h⟩) | h
 ·exact .inl (.inl (e _ _ h))
 ·exact .inl (.inr ⟨o,e _ _ h⟩)
 ·exact .inr h
theorem Rep.same {K:Frag}{H H':Hp}(s:av H H'){n:Nat}{x:V}{d:Dt}(h:Rep K H n x d):Rep K H' n x d:=by
 induction h with
 | flat h=>exact .flat h
 | lst hs hb hl _ ih=>exact .lst (s.seq hs) hb hl ih
 | tup hs hb hl _ ih=>exact .tup (s.tup hs) hb hl ih
theorem CS {P:Program}{w:World}{K:Frag}{mg:Str->Option Value}{base:Heap}{CX:CXT}{k:Nat}{f:Addr}{fd:FuncData}{ps:List Str}:gP P w K mg base CX k f fd ps (fun _ _ _ _=>False):=
 ⟨fun _ _ _ _ h=>h.elim,fun _ _ _ _ _ _ _ _ _ _ _ _ _ h=>h.elim⟩
theorem fq {α:Type}{xs:List α}{k:Nat}{v:α}(h:xs[k]?=some v):atI xs (k:Int)=some v:=Ax h
end L2
namespace L2
open PySem PySem.Spec PyProof.Rows
noncomputable abbrev Ld:=Str×Int×Int
noncomputable def ldV (x:Ld):List V:=[.str x.1,.int x.2.1,.int x.2.2]
def jm (K:W.Frag)(H:Hp)(as:List Addr)(ls:List Ld):Prop:=as.length=ls.length/\∀(i:Nat) a x,as[i]?=some a->ls[i]?=some x->SqT K H a (ldV x)
def eM (K:W.Frag)(H:Hp)(l:Addr)(ls:List Ld):Prop:=∃as:List Addr,SqL K H l (as.map V.ref)/\jm K H as ls
def hG (m:Int)(x:Ld):Prop:=(0<=x.2.1/\x.2.1 < m)/\(0<=x.2.2/\x.2.2 < m)
def zm (x:Ld):Prop:=x.1="men"\/x.1="coal"
theorem jm.same {K:W.Frag}{H H':Hp}{as:List Addr}{ls:List Ld}(s:av H H')(h:jm K H as ls):jm K H' as ls:=⟨h.1,fun i a x e1 e2=>s.tup (h.2 i a x e1 e2)⟩
theorem eM.same {K:W.Frag}{H H':Hp}{l:Addr}{ls:List Ld}(s:av H H')(h:eM K H l ls):eM K H' l ls:=by
 obtain ⟨as,a,b⟩:=h
 exact ⟨as,s.seq a,b.same s⟩
theorem jm.nil {K:W.Frag}{H:Hp}:jm K H [] []:=⟨rfl,fun i a x e _=>by simp at e⟩
theorem jm.app {K:W.Frag}{H:Hp}{as bs:List Addr}{ls ks:List Ld}(h:jm K H as ls)(g:jm K H bs ks):jm K H (as++bs) (ls++ks):=by
 refine ⟨by rw [List.length_append,List.length_append,h.1,g.1],fun i a x e1 e2=>?_⟩
 by_cases hi:i < as.length
 ·rw [List.getElem?_append_left hi] at e1
  rw [List.getElem?_append_left (by rw [←h.1];exact hi)] at e2
  exact h.2 i a x e1 e2
 ·rw [List.getElem?_append_right (by omega)] at e1
  rw [List.getElem?_append_right (by rw [←h.1];omega),←h.1] at e2
  exact g.2 _ a x e1 e2
theorem jm.one {K:W.Frag}{H:Hp}{a:Addr}{x:Ld}(h:SqT K H a (ldV x)):jm K H [a] [x]:=by
 refine ⟨rfl,fun i b y e1 e2=>?_⟩
 cases i with
 | zero=>cases e1;cases e2;exact h
 | succ i=>simp at e1
theorem SqT.rew {K:W.Frag}{H:Hp}{a l:Addr}{xs ys:List V}{o:HO}(h:SqT K H a xs)(hl:H l=some (.lst ys)):SqT K (upd H l o) a xs:=by
 rcases h with (h | ⟨o',h⟩) | h
 ·refine .inl (.inl ?_)
  rw [aG (fun e=>by rw [e,hl] at h;cases h)];exact h
 ·refine .inl (.inr ⟨o',?_⟩)
  rw [aG (fun e=>by rw [e,hl] at h;cases h)];exact h
 ·exact .inr h
theorem jm.rew {K:W.Frag}{H:Hp}{as:List Addr}{ls:List Ld}{l:Addr}{ys:List V}{o:HO}(h:jm K H as ls)(hl:H l=some (.lst ys)):jm K (upd H l o) as ls:=⟨h.1,fun i a x e1 e2=>(h.2 i a x e1 e2).rew hl⟩
theorem CT {r:Int}(h0:0<=r)(h1:r < 2):∃k:Str,(k="men"\/k="coal")/\atI [V.str "men",V.str "coal"] r=some (.str k):=by
 rcases (by omega:r=0\/r=1) with rfl | rfl
 ·exact ⟨"men",.inl rfl,rfl⟩
 ·exact ⟨"coal",.inr rfl,rfl⟩
theorem tK {J:It}{g:TG}{tc:TT}{te:TE}{cm:List (Option Nat)}{σ:St}{Q:VK}{H:Hp}(n:Nat)(Pv:Nat->List V->Hp->Prop)(h0:Pv 0 [] H)
  (hgo:∀i acc H,i < n->Pv i acc H->J.go i H) (hst:∀acc H,Pv n acc H->J.stop n H)
  (hs:∀i acc H,i < n->Pv i acc H->acc.length < sizeLine/\∀x H',J.yld i H x H'->∀M:List V->Hp->Prop,(∀acc' H',Pv (i+1) acc' H'->M acc' H')->g x (bZ cm σ) H' fun σ2 H2=>Wk (bZ cm σ) σ2/\tc σ2 H2 fun b H3=>if b=true then te σ2 H3 fun v H4=>M (acc++[v]) H4 else M acc H3)
  (hd:∀acc H,Pv n acc H->∀p,H p=none->Q (.ref p) (upd H p (.lst acc))):o8 J g tc te cm σ Q H:=by
 refine ⟨fun i m acc H=>m=n - i/\i<=n/\Pv i acc H,⟨n,by simp,Nat.zero_le _,h0⟩,?_⟩
 rintro i m acc H ⟨rfl,hi,p⟩
 by_cases hlt:i < n
 ·obtain ⟨hz,q⟩:=hs i acc H hlt p
  refine .inr ⟨hgo i acc H hlt p,hz,fun x H' y=>q x H' y (fun acc' H4=>∃m',m' < n - i/\m'=n - (i+1)/\i+1<=n/\Pv (i+1) acc' H4) fun acc' H4 q=>⟨n - (i+1),by omega,rfl,hlt,q⟩⟩
 ·have e:i=n:=by omega
  subst e
  exact .inl ⟨hst acc H p,hd acc H p⟩
theorem zp {σ:St}{j:Nat}{x:V}(hj:σ[j]?=some none):Wk σ (σ.set j (some x)):=by
 refine ⟨by simp,fun k v e=>?_⟩
 by_cases hk:j=k
 ·subst hk;rw [hj] at e;cases e
 ·rw [List.getElem?_set_ne hk];exact e
theorem wY {lo:Int}{n:Nat}{te:TE}{cm:List (Option Nat)}{σ:St}{H:Hp}{Q:VK}(Pv:Nat->List V->Hp->Prop)(h0:Pv 0 [] H){j:Nat}(hj:(bZ cm σ)[j]?=some none)
  (hs:∀i acc H,i < n->Pv i acc H->acc.length < sizeLine/\∀N:VK,(∀v H',Pv (i+1) (acc++[v]) H'->N v H')->te ((bZ cm σ).set j (some (.int (lo+i)))) H N)
  (hd:∀acc H,Pv n acc H->∀p,H p=none->Q (.ref p) (upd H p (.lst acc))):o8 (Itr lo n) (fm j) sC te cm σ Q H:=by
 refine tK n Pv h0 (fun i _ _ hi _=>hi) (fun _ _ _=>Nat.le_refl _) (fun i acc H hi p=>⟨(hs i acc H hi p).1,fun x H' y M hM=>?_⟩) hd
 obtain ⟨e,y⟩:=y
 subst e y
 refine ⟨zp hj,?_⟩
 unfold sC;dsimp only
 split
 ·exact (hs i acc H' hi p).2 _ fun v H4 q=>hM _ _ q
 ·rename_i z;exact absurd rfl z
theorem mL {K:W.Frag}{H:Hp}{a:Addr}{xs:List V}{n:Nat}(h:SqT K H a xs)(hb:xs.length<=100000)(hf:∀x∈xs,bY x=true):Rep K H (n+1) (.ref a) (.tup (xs.map Dt.flat)):=by
 refine .tup h hb (by rw [List.length_map]) fun i y d e1 e2=>?_
 rw [List.getElem?_map,e1] at e2
 cases e2
 exact .flat (hf y (List.mem_of_getElem? e1))
section
variable {X:Cx}{e:Expr}{te:TE}{p1 p2 pos1 pos2:Pos}
noncomputable def CU (K:W.Frag)(te:TE):TE:=fun σ H Q=>te σ H fun x H1=>∃(a:Addr) (ns:List Int),x=.ref a/\SqL K H1 a (ns.map V.int)/\ns.length < 64/\
 ∀(l:Addr) (ms:List Int),H1 l=none->ms.Pairwise (· < ·)->(∀k,k∈ms↔k∈ns)->Q (.ref l) (upd H1 l (.lst (ms.map V.int)))
theorem vT:∀{vs:List Value} {ms:List Int},IntsAre vs ms->a8 (ms.map V.int) vs
 | _,_,.nil=>.nil
 | _,_,.cons n t h=>.cons ⟨t,rfl⟩ (vT h)
theorem qA:∀{ms:List Int} {vs:List Value},a8 (ms.map V.int) vs->IntsAre vs ms
 | [],_,h=>by cases h;exact .nil
 | m::ms,_,h=>by
  cases h with
  | cons a b=>
   obtain ⟨t,rfl⟩:=a
   exact .cons m t (qA b)
end
section
variable {X:Cx}
theorem Inv.turnedL {pins:List (Addr×Obj)}{σ:St}{H:Hp}{s:Shared}{h':Heap}{t':Nat}{fp:List Addr}(I:Inv X pins σ H s)(k:∀b o,b∉fp->s.heap.get? b=some o->h'.get? b=some o)(hf:∀b∈fp,oS X pins H b) :
  Inv X pins σ H {s with heap:=h',toks:=t'}:=by
 have nit:∀b u,H b=some u->b∉fp:=fun b u e z=>by rw [(hf b z).1] at e;cases e
 refine I.step (g':=s.gens) (d':=s.drawn) (ch:=fp) (fun b hb=>⟨(hf b hb).2.2.2.1,(hf b hb).2.1,(hf b hb).2.2.2.2.1,(hf b hb).2.2.2.2.2⟩) (fun b o _ _ hc e _=>k b o hc e) (fun b o _ _ hc e _=>⟨o.slots,k b o hc e⟩) (fun _ _ _ _ n=>n)
  (fun b o hc e=>⟨o,k b o hc e⟩) (fun _ _ e=>e) (fun _ _ _ e=>e) (fun b ps e=>⟨#[],by rw [e];simp⟩) (fun m hm=>?_) (fun b u e=>?_) I.bare
 ·obtain ⟨o,es,ep,ho,r⟩:=hm
  exact ⟨o,es,ep,k _ o (fun z=>(hf _ z).2.1 rfl) ho,r⟩
 ·refine (I.hok b u e).stay (fun c v hc q=>k c v ?_ q) (fun _ q=>q) fun _ _ q=>q
  rcases hc with z | z
  ·exact z▸nit b u e
  ·exact nit c _ z
theorem Inv.handed {pins:List (Addr×Obj)}{σ:St}{H:Hp}{s:Shared}{h':Heap}{t':Nat}{fp:List Addr}{xs:List V}{us:List Value}{T:Addr}{n:Nat}(I:Inv X pins σ H s)(k:∀b o,b∉fp->s.heap.get? b=some o->h'.get? b=some o)(hf:∀b∈fp,oS X pins H b)
  (hT:s.heap.objs.size<=T) (hz:xs.length<=sizeLine) (r:a8 xs us) (e:h'.get? T=some {cls:=.type "tuple",data:=.seq us.toArray n}):Inv X pins σ (upd H T (.tup xs)) {s with heap:=h',toks:=t'}:=by
 have I1:Inv X pins σ H {s with heap:=h',toks:=t'}:=I.turnedL k hf
 have hn:H T=none:=I.hok.fresh hT
 obtain ⟨f0,f1,f2,f3,f4,f5⟩:=I.fpOk hT hn
 have h0:X.s₀.heap.objs.size<=T:=Nat.le_trans I.sz hT
 exact I1.track hn h0 f1 f4 f5 ⟨hz,us,r,⟨_,e,⟨rfl,_,rfl⟩,rfl⟩⟩
noncomputable def Ite (K:W.Frag)(a:Addr):It:=
 ⟨fun i H=>∃xs x,SqL K H a xs/\xs[i]?=some x,fun i H y H'=>∃t x,y=.ref t/\H t=none/\H'=upd H t (.tup [.int (i:Nat),x])/\∀xs,SqL K H a xs->xs[i]?=some x,fun i H=>∃xs,SqL K H a xs/\xs.length<=i⟩
theorem Br {P:Program}{w:World}{K:W.Frag}{elts:List Expr}{x1:Nat}{tpos:Pos}(a e it:Addr)(hne:e≠it):Cj P w K (.Tuple elts x1 tpos) (Ite K a) [e,it] e (fun i h=>(∃old,IsEnum h e it (i:Nat) old)/\h.IsListIter it a i) where
 mem:=by simp
 obj:=fun i h st b hb=>by
  obtain ⟨⟨old,h1⟩,o,h2,_,h3⟩:=st
  rcases List.mem_cons.mp hb with rfl | hb
  ·exact ⟨_,h1,fun v z=>by
    have z':Data.fields _=Data.cell v:=z
    cases z'⟩
  ·rw [List.mem_singleton] at hb
   subst hb
   exact ⟨o,h2,fun v z=>by rw [h3] at z;cases z⟩
 keep:=fun i h h' st k=>by
  obtain ⟨⟨old,h1⟩,h2⟩:=st
  exact ⟨⟨old,k e (by simp) _ h1⟩,h2.at fun o q=>k it (by simp) o q⟩
 item:=by
  intro X hP hw hK hc i pins s σ H E I hf st hg
  subst hP hw hK
  obtain ⟨xs,x,hq,hx⟩:=hg
  obtain ⟨its,rv,p,hz⟩:=I.list hq
  obtain ⟨u,hu,ru⟩:=rv.get hx
  obtain ⟨⟨old,h1⟩,h2⟩:=st
  have hel:e < s.heap.objs.size:=Heap.lt_size h1
  have hil:it < s.heap.objs.size:=by
   obtain ⟨o,q,_⟩:=h2
   exact Heap.lt_size q
  refine wpAny_pyNext_enum_item h1 h2 p.isList (x:=u) (by simpa using hu) hne fun h' g1 g2 g3 g4 g5=>?_
  have kf:∀b o,b∉[e,it]->s.heap.get? b=some o->h'.get? b=some o:=fun b o hb q=>g5 b o (fun z=>hb (by simp [z])) (fun z=>hb (by simp [z])) q
  have I1:Inv X pins σ (upd H s.heap.objs.size (.tup [.int (i:Nat),x])) {s with heap:=h',toks:=s.toks+1}:=I.handed (us:=[Value.int (i:Nat) s.toks,u]) kf hf (Nat.le_refl _) (by show 2<=sizeLine;decide) (.cons ⟨_,rfl⟩ (.cons ru .nil)) g3
  have hn:H s.heap.objs.size=none:=I.hok.fresh (Nat.le_refl _)
  have hf1:∀b∈[e,it],upd H s.heap.objs.size (.tup [.int (i:Nat),x]) b=none:=fun b hb=>by
   have hlt:b < s.heap.objs.size:=by
    rcases List.mem_cons.mp hb with rfl | hb
    ·exact hel
    ·rw [List.mem_singleton] at hb
     subst hb
     exact hil
   rw [aG (Nat.ne_of_lt hlt)]
   exact (hf b hb).1
  refine ⟨_,rfl,wpAny_letOwnedTupleGo_enum (s:={s with heap:=h',toks:=s.toks+1}) g1 fun h2' q1 q2=>?_⟩
  have I2:Inv X pins σ (upd H s.heap.objs.size (.tup [.int (i:Nat),x])) {s with heap:=h2',toks:=s.toks+1}:=I1.turnedL (s:={s with heap:=h',toks:=s.toks+1}) (t':=s.toks+1) (fp:=[e,it]) (fun b o hb q=>(q2.2 b (fun z=>hb (by simp [z]))).trans q) fun b hb=>⟨hf1 b hb,(hf b hb).2⟩
  refine ⟨.ref s.heap.objs.size,_,I2,rfl,⟨_,x,rfl,hn,rfl,fun ys hy=>by rw [I.list_inj hy hq];exact hx⟩,⟨⟨u,?_⟩,?_⟩,hf1⟩
  ·have:((i+1:Nat):Int)=(i:Int)+1:=by omega
   rw [this]
   exact q1
  ·exact g2.at fun o q=>(q2.2 it (Ne.symm hne)).trans q
 done:=by
  intro X hP hw hK hc i pins s σ H E I hf st hg
  subst hP hw hK
  obtain ⟨xs,hq,hx⟩:=hg
  obtain ⟨its,rv,p,hz⟩:=I.list hq
  have hl:=rv.length
  obtain ⟨⟨old,h1⟩,h2⟩:=st
  exact wpAny_pyNext_enum_end (I.ok.hd hc) h1 h2 p.isList (by simp;omega) fun h' eb=>⟨rfl,I.turnedL (t':=s.toks) (fun b o hb q=>eb b o (fun z=>hb (by simp [z])) q) hf⟩
 self:=fun _ _ _ _ _ st h=>by
  obtain ⟨⟨old,h1⟩,h2⟩:=st
  exact wpAny_pyIter_enum h1 h
noncomputable def GU (K:W.Frag)(te:TE):TI:=fun σ H R=>te σ H fun x H1=>∃a,x=.ref a/\(∃xs,SqL K H1 a xs)/\R (Ite K a) H1
theorem E2 {a:Expr}{te:TE}{p pos tpos:Pos}{elts:List Expr}{x1:Nat}(hg:Gl X "enumerate")(hm:X.mg "enumerate"=none)(hb:bootBuiltins "enumerate"=some (.type "enumerate"))(he:PE X a te)(hs:starEach [a] X.env=[(false,eval a X.env)]:=by rfl) :
  PI X (.Tuple elts x1 tpos) (.Call (.Name "enumerate" p) [a] [] pos) (GU X.K te):=by
 intro pins s σ H R I h
 refine Call_ (nS I hg hm hb (PyProof.Rows.callWith_type1 ?_ hs rfl))
 rw [hs]
 refine Calls.spliced_cons (thn (he pins s σ H _ I h) fun u s1 ⟨x,H1,I1,r1,l,ex,⟨xs,hq⟩,q⟩=>?_)
 subst ex
 cases r1
 refine Calls.spliced_nil ?_
 obtain ⟨its,rv,pl,hz⟩:=I1.list hq
 refine call_enumerate_list pl.isList fun h' h1 h2 h3 h4=>?_
 refine wpAny_pyIter_enum h1 ?_
 have hne:s1.heap.objs.size+1≠s1.heap.objs.size:=Nat.ne_of_gt (Nat.lt_succ_self _)
 refine ⟨s1.heap.objs.size+1,[s1.heap.objs.size+1,s1.heap.objs.size],_,_,H1,rfl,I1.kept (t':=s1.toks) h4,Br l _ _ hne,⟨⟨_,h1⟩,h2⟩,fun b hb=>?_,q⟩
 rcases List.mem_cons.mp hb with rfl | hb
 ·exact I1.fpOk (Nat.le_succ _) (I1.hok.fresh (Nat.le_succ _))
 ·rw [List.mem_singleton] at hb
  subst hb
  exact I1.fpOk (Nat.le_refl _) (I1.hok.fresh (Nat.le_refl _))
noncomputable def Itz (K:W.Frag)(a b:Addr):It:=
 ⟨fun i H=>∃xs ys x y,SqL K H a xs/\SqL K H b ys/\xs[i]?=some x/\ys[i]?=some y,fun i H v H'=>∃t x y,v=.ref t/\H t=none/\H'=upd H t (.tup [x,y])/\(∀xs,SqL K H a xs->xs[i]?=some x)/\∀ys,SqL K H b ys->ys[i]?=some y,
  fun i H=>∃xs ys,SqL K H a xs/\SqL K H b ys/\(xs.length<=i\/ys.length<=i)⟩
theorem CV {P:Program}{w:World}{K:W.Frag}{elts:List Expr}{x1:Nat}{tpos:Pos}(l1 l2 z TI TO i1 i2:Addr)(D:ZipApart z TI TO i1 i2 l1 l2) :
  Cj P w K (.Tuple elts x1 tpos) (Itz K l1 l2) [z,TI,TO,i1,i2] z (fun i h=>IsZip h z TI TO .none/\IsPair h TI (.ref i1) (.ref i2)/\(∃u v,IsPair h TO u v)/\h.IsListIter i1 l1 i/\h.IsListIter i2 l2 i) where
 mem:=by simp
 obj:=fun i h st b hb=>by
  obtain ⟨h1,h2,⟨u,v,h3⟩,⟨o4,h4,_,d4⟩,⟨o5,h5,_,d5⟩⟩:=st
  simp only [List.mem_cons,List.not_mem_nil,or_false] at hb
  rcases hb with rfl | rfl | rfl | rfl | rfl
  ·exact ⟨_,h1,fun v z=>by
    have z':Data.fields _=Data.cell v:=z
    cases z'⟩
  ·exact ⟨_,h2,fun v z=>by
    have z':Data.seq _ _=Data.cell v:=z
    cases z'⟩
  ·exact ⟨_,h3,fun v z=>by
    have z':Data.seq _ _=Data.cell v:=z
    cases z'⟩
  ·exact ⟨o4,h4,fun v z=>by rw [d4] at z;cases z⟩
  ·exact ⟨o5,h5,fun v z=>by rw [d5] at z;cases z⟩
 keep:=fun i h h' st k=>by
  obtain ⟨h1,h2,⟨u,v,h3⟩,h4,h5⟩:=st
  exact ⟨k z (by simp) _ h1,k TI (by simp) _ h2,⟨u,v,k TO (by simp) _ h3⟩,h4.at fun o q=>k i1 (by simp) o q,h5.at fun o q=>k i2 (by simp) o q⟩
 item:=by
  intro X hP hw hK hc i pins s σ H E I hf st hg
  subst hP hw hK
  obtain ⟨xs,ys,x,y,hq1,hq2,hx,hy⟩:=hg
  obtain ⟨its1,rv1,p1,hz1⟩:=I.list hq1
  obtain ⟨its2,rv2,p2,hz2⟩:=I.list hq2
  obtain ⟨u,hu,ru⟩:=rv1.get hx
  obtain ⟨v,hv,rv⟩:=rv2.get hy
  obtain ⟨h1,h2,⟨c1,c2,h3⟩,h4,h5⟩:=st
  have lt:∀b∈[z,TI,TO,i1,i2],b < s.heap.objs.size:=fun b hb=>by
   simp only [List.mem_cons,List.not_mem_nil,or_false] at hb
   rcases hb with rfl | rfl | rfl | rfl | rfl
   ·exact Heap.lt_size h1
   ·exact Heap.lt_size h2
   ·exact Heap.lt_size h3
   ·obtain ⟨o,q,_⟩:=h4;exact Heap.lt_size q
   ·obtain ⟨o,q,_⟩:=h5;exact Heap.lt_size q
  refine wpAny_pyNext_zip_item D h1 h2 h3 h4 h5 p1.isList p2.isList (x:=u) (y:=v) (by simpa using hu) (by simpa using hv) fun h' g1 g2 g3 g4 g5 g6 g7=>?_
  have kf:∀b o,b∉[z,TI,TO,i1,i2]->s.heap.get? b=some o->h'.get? b=some o:=fun b o hb q=>g7 b o (fun e=>hb (by simp [e])) (fun e=>hb (by simp [e])) (fun e=>hb (by simp [e])) (fun e=>hb (by simp [e])) q
  have I1:Inv X pins σ (upd H s.heap.objs.size (.tup [x,y])) {s with heap:=h',toks:=s.toks}:=I.handed (us:=[u,v]) kf hf (Nat.le_refl _) (by show 2<=sizeLine;decide) (.cons ru (.cons rv .nil)) g5
  have hn:H s.heap.objs.size=none:=I.hok.fresh (Nat.le_refl _)
  have hf1:∀b∈[z,TI,TO,i1,i2],upd H s.heap.objs.size (.tup [x,y]) b=none:=fun b hb=>by
   rw [aG (Nat.ne_of_lt (lt b hb))]
   exact (hf b hb).1
  refine ⟨_,rfl,wpAny_letOwnedTupleGo_zip (s:={s with heap:=h'}) g1 fun h2' q1 q2=>?_⟩
  have I2:Inv X pins σ (upd H s.heap.objs.size (.tup [x,y])) {s with heap:=h2',toks:=s.toks}:=I1.turnedL (s:={s with heap:=h',toks:=s.toks}) (t':=s.toks) (fp:=[z,TI,TO,i1,i2]) (fun b o hb q=>(q2.2 b (fun e=>hb (by simp [e]))).trans q) fun b hb=>⟨hf1 b hb,(hf b hb).2⟩
  have k2:∀b o,b≠z->h'.get? b=some o->h2'.get? b=some o:=fun b o hb q=>(q2.2 b hb).trans q
  have gTI:IsPair h' TI (.ref i1) (.ref i2):=g7 TI _ D.TIz D.TITO D.TIi1 D.TIi2 h2
  refine ⟨.ref s.heap.objs.size,_,I2,rfl,⟨_,x,y,rfl,hn,rfl,fun zs hz=>by rw [I.list_inj hz hq1];exact hx,fun zs hz=>by rw [I.list_inj hz hq2];exact hy⟩,⟨q1,k2 _ _ D.TIz gTI,⟨u,v,k2 _ _ D.TOz g2⟩,g3.at fun o q=>k2 _ _ D.i1z q,g4.at fun o q=>k2 _ _ D.i2z q⟩,hf1⟩
 done:=by
  intro X hP hw hK hc i pins s σ H E I hf st hg
  subst hP hw hK
  obtain ⟨xs,ys,hq1,hq2,hend⟩:=hg
  obtain ⟨its1,rv1,p1,hz1⟩:=I.list hq1
  obtain ⟨its2,rv2,p2,hz2⟩:=I.list hq2
  have hl1:=rv1.length
  have hl2:=rv2.length
  obtain ⟨h1,h2,⟨c1,c2,h3⟩,h4,h5⟩:=st
  refine wpAny_pyNext_zip_end (I.ok.hd hc) D h1 h2 h3 h4 h5 p1.isList p2.isList ?_ fun h' eb=>⟨rfl,I.turnedL (t':=s.toks) (fun b o hb q=>eb b o (fun e=>hb (by simp [e])) (fun e=>hb (by simp [e])) (fun e=>hb (by simp [e])) (fun e=>hb (by simp [e])) q) hf⟩
  rcases hend with e | e
  ·left;simp;omega
  ·right;simp;omega
 self:=fun _ _ _ _ _ st h=>wpAny_pyIter_zip st.1 h
noncomputable def JK (K:W.Frag)(ta tb:TE):TI:=fun σ H R=>ta σ H fun x H1=>tb σ H1 fun y H2=>∃a b,x=.ref a/\y=.ref b/\(∃xs,SqL K H2 a xs)/\(∃ys,SqL K H2 b ys)/\R (Itz K a b) H2
theorem Ie {a b:Expr}{ta tb:TE}{p pos tpos:Pos}{elts:List Expr}{x1:Nat}(hg:Gl X "zip")(hm:X.mg "zip"=none)(hb:bootBuiltins "zip"=some (.type "zip"))(ha:PE X a ta)(hb2:PE X b tb)(hs:starEach [a,b] X.env=[(false,eval a X.env),(false,eval b X.env)]:=by rfl)(hs2:starEach [b] X.env=[(false,eval b X.env)]:=by rfl) :
  PI X (.Tuple elts x1 tpos) (.Call (.Name "zip" p) [a,b] [] pos) (JK X.K ta tb):=by
 intro pins s σ H R I h
 refine Call_ (nS I hg hm hb (PyProof.Rows.callWith_type1 ?_ (by rw [hs,hs2]) (by rw [hs2];rfl)))
 rw [hs]
 refine Calls.spliced_cons (thn (ha pins s σ H _ I h) fun u s1 ⟨x,H1,I1,r1,q1⟩=>?_)
 refine Calls.spliced_cons (thn (hb2 pins s1 σ H1 _ I1 q1) fun v s2 ⟨y,H2,I2,r2,l1,l2,ex,ey,⟨xs,hq1⟩,⟨ys,hq2⟩,q⟩=>?_)
 subst ex ey
 cases r1
 cases r2
 refine Calls.spliced_nil ?_
 obtain ⟨its1,rv1,p1,hz1⟩:=I2.list hq1
 obtain ⟨its2,rv2,p2,hz2⟩:=I2.list hq2
 have a1:l1 < s2.heap.objs.size:=by obtain ⟨o,q,_⟩:=p1.isList;exact Heap.lt_size q
 have a2:l2 < s2.heap.objs.size:=by obtain ⟨o,q,_⟩:=p2.isList;exact Heap.lt_size q
 refine call_zip_2 p1.isList p2.isList fun h' h1 h2 h3 h4 h5 h6 h7=>?_
 refine wpAny_pyIter_zip h1 ?_
 have n0:∀l:Nat,l < s2.heap.objs.size->∀k:Nat,l≠s2.heap.objs.size+k:=fun l hl k=>by omega
 have n1:∀j k:Nat,j≠k->s2.heap.objs.size+j≠s2.heap.objs.size+k:=fun j k hjk=>by omega
 refine ⟨s2.heap.objs.size+4,[s2.heap.objs.size+4,s2.heap.objs.size+2,s2.heap.objs.size+3,s2.heap.objs.size+0,s2.heap.objs.size+1],_,_,H2,rfl,I2.kept (t':=s2.toks) h7,
  CV l1 l2 _ _ _ _ _ ⟨n1 2 4 (by decide),n1 3 4 (by decide),n1 0 4 (by decide),n1 1 4 (by decide),n1 2 3 (by decide),n1 2 0 (by decide),n1 2 1 (by decide),n1 3 0 (by decide),n1 3 1 (by decide),n1 0 1 (by decide),n0 _ a1 4,n0 _ a1 3,n0 _ a1 0,n0 _ a1 1,n0 _ a2 4,n0 _ a2 3,n0 _ a2 0,n0 _ a2 1⟩,⟨h1,h2,⟨_,_,h3⟩,h4,h5⟩,fun b hb=>?_,q⟩
 have hle:s2.heap.objs.size<=b:=by
  simp only [List.mem_cons,List.not_mem_nil,or_false] at hb
  rcases hb with rfl | rfl | rfl | rfl | rfl<;>exact Nat.le_add_right _ _
 exact I2.fpOk hle (I2.hok.fresh hle)
end
theorem xV {J:It}{g:TG}{tb:TS}{D:jU}{σ:St}{H:Hp}(n:Nat)(Pv:Nat->St->Hp->Prop)(h0:Pv 0 σ H)(hgo:∀i σ H,i < n->Pv i σ H->J.go i H)(hst:∀σ H,Pv n σ H->J.stop n H)
  (hs:∀i σ H,i < n->Pv i σ H->∀x H',J.yld i H x H'->g x σ H' fun σ2 H2=>tb {D with nx:=Pv (i+1),ct:=Pv (i+1),bk:=D.nx} σ2 H2) (hd:∀σ H,Pv n σ H->D.nx σ H):AB J g tb D σ H:=by
 refine ⟨fun i m σ H=>m=n - i/\i<=n/\Pv i σ H,⟨n,by simp,Nat.zero_le _,h0⟩,?_⟩
 rintro i m σ H ⟨rfl,hi,p⟩
 by_cases hlt:i < n
 ·exact .inr ⟨hgo i σ H hlt p,Pv (i+1),fun σ' H' q=>⟨n - (i+1),by omega,rfl,hlt,q⟩,fun x H' y=>hs i σ H hlt p x H' y⟩
 ·have e:i=n:=by omega
  subst e
  exact .inl ⟨hst σ H p,hd σ H p⟩
section
variable {X:Cx}
noncomputable def Ig (K:W.Frag):V->List V->Hp->VK->Prop:=fun x vs H Q=>∃(l:Addr) (ns:List Int) (k:Int),x=.ref l/\vs=[.int k]/\SqL K H l (ns.map V.int)/\k∈ns/\Q (.int (ns.idxOf k:Nat)) H
end
def aB (p:Addr)(H H':Hp):Prop:=∀b o,b≠p->H b=some o->H' b=some o
theorem aB.of {p:Addr}{H H':Hp}(s:av H H'):aB p H H':=fun b o _ e=>s b o e
theorem aB.trans {p:Addr}{H H1 H2:Hp}(a:aB p H H1)(b:aB p H1 H2):aB p H H2:=fun c o n e=>b c o n (a c o n e)
theorem aB.put {p:Addr}{H H':Hp}{o:HO}(s:aB p H H'):aB p H (upd H' p o):=fun b u n e=>by rw [aG n];exact s b u n e
theorem Rd.keep {p a:Addr}{H H':Hp}{u:HO}(s:aB p H H')(n:a≠p)(h:Rd H a u):Rd H' a u:=by
 rcases h with h | ⟨o,h⟩
 ·exact .inl (s _ _ n h)
 ·exact .inr ⟨o,s _ _ n h⟩
theorem SqT.keep {K:W.Frag}{p a:Addr}{H H':Hp}{xs ys:List V}(s:aB p H H')(hp:H p=some (.lst ys))(h:SqT K H a xs):SqT K H' a xs:=by
 rcases h with h | h
 ·refine .inl (h.keep s fun z=>?_)
  subst z
  rcases h with h | ⟨o,h⟩
  ·rw [hp] at h;cases h
  ·rw [hp] at h;cases h
 ·exact .inr h
theorem Rd.keepI {p a C dx:Addr}{H H':Hp}{fs:List (Str×V)}{u:HO}(s:aB p H H')(hp:H p=some (.ins C dx fs))(hu:∀C dx fs,u≠.ins C dx fs)(h:Rd H a u):Rd H' a u:=by
 refine h.keep s fun z=>?_
 subst z
 rcases h with h | ⟨o,h⟩
 ·rw [hp] at h;cases h;exact hu _ _ _ rfl
 ·rw [hp] at h;cases h
theorem SqL.keepI {K:W.Frag}{p a C dx:Addr}{H H':Hp}{xs:List V}{fs:List (Str×V)}(s:aB p H H')(hp:H p=some (.ins C dx fs))(h:SqL K H a xs):SqL K H' a xs:=by
 rcases h with h | h
 ·exact .inl (h.keepI s hp fun _ _ _ z=>HO.noConfusion z)
 ·exact .inr h
theorem SqT.keepI {K:W.Frag}{p a C dx:Addr}{H H':Hp}{xs:List V}{fs:List (Str×V)}(s:aB p H H')(hp:H p=some (.ins C dx fs))(h:SqT K H a xs):SqT K H' a xs:=by
 rcases h with h | h
 ·exact .inl (h.keepI s hp fun _ _ _ z=>HO.noConfusion z)
 ·exact .inr h
theorem eM.keepI {K:W.Frag}{p l C dx:Addr}{H H':Hp}{ls:List Ld}{fs:List (Str×V)}(s:aB p H H')(hp:H p=some (.ins C dx fs))(h:eM K H l ls):eM K H' l ls:=by
 obtain ⟨as,a,b⟩:=h
 exact ⟨as,a.keepI s hp,b.1,fun i a x e1 e2=>(b.2 i a x e1 e2).keepI s hp⟩
structure cJ (C:Addr)(H:Hp)(y kn wh:Addr)(ks:List Str)(ws:List Int)(m:Int):Prop where
 ob:∃dx,H y=some (.ins C dx [("kinds",.ref kn),("where",.ref wh),("many",.int m)])
 okn:H kn=some (.lst (ks.map V.str))
 owh:H wh=some (.lst (ws.map V.int))
theorem cJ.same {C:Addr}{H H':Hp}{y kn wh:Addr}{ks:List Str}{ws:List Int}{m:Int}(h:cJ C H y kn wh ks ws m)(s:av H H'):cJ C H' y kn wh ks ws m:=by
 obtain ⟨⟨dx,a⟩,b,c⟩:=h
 exact ⟨⟨dx,s _ _ a⟩,s _ _ b,s _ _ c⟩
theorem cJ.off {C:Addr}{H H':Hp}{p y kn wh:Addr}{ks:List Str}{ws:List Int}{m:Int}{ys:List V}(h:cJ C H y kn wh ks ws m)(s:aB p H H')(hp:H p=some (.lst ys))(n1:kn≠p)(n2:wh≠p):cJ C H' y kn wh ks ws m:=by
 obtain ⟨⟨dx,a⟩,b,c⟩:=h
 exact ⟨⟨dx,s _ _ (fun z=>by rw [z,hp] at a;cases a) a⟩,s _ _ n1 b,s _ _ n2 c⟩
theorem cJ.put {C:Addr}{H H':Hp}{y kn wh:Addr}{ks:List Str}{ws ws':List Int}{m:Int}(h:cJ C H y kn wh ks ws m)(s:aB wh H H')(n1:kn≠wh)(e:H' wh=some (.lst (ws'.map V.int))):cJ C H' y kn wh ks ws' m:=by
 obtain ⟨⟨dx,a⟩,b,c⟩:=h
 exact ⟨⟨dx,s _ _ (fun z=>by rw [z,c] at a;cases a) a⟩,s _ _ n1 b,e⟩
theorem CW {K:W.Frag}{l:Addr}{ls:List Ld}{te:TE}{cm:List (Option Nat)}{σ:St}{H:Hp}{Q:VK}(f:Ld->V)(hL:eM K H l ls)(hn:ls.length<=sizeLine)(hcm:bZ cm σ=[none,none,none])
  (he:∀x∈ls,∀N:VK,N (f x) H->te [some (.str x.1),some (.int x.2.1),some (.int x.2.2)] H N)
  (hd:∀p,H p=none->Q (.ref p) (upd H p (.lst (ls.map f)))):o8 (Itl K l) (Hx K 3 (xK (fm 0) (xK (fm 1) (xK (fm 2) Hw)))) sC te cm σ Q H:=by
 obtain ⟨as,hS,hlen,hT⟩:=hL
 refine tK ls.length (fun i acc H'=>H'=H/\acc=(ls.take i).map f) ⟨rfl,by simp⟩ ?_ ?_ ?_ ?_
 ·rintro i acc H' hi ⟨rfl,_⟩
  have ha:as[i]?=some as[i]:=List.getElem?_eq_getElem (by omega)
  exact ⟨_,.ref as[i],hS,by rw [List.getElem?_map,ha];rfl⟩
 ·rintro acc H' ⟨rfl,_⟩
  exact ⟨_,hS,by rw [List.length_map];omega⟩
 ·rintro i acc H' hi ⟨rfl,rfl⟩
  have ha:as[i]?=some as[i]:=List.getElem?_eq_getElem (by omega)
  have hx:ls[i]?=some ls[i]:=List.getElem?_eq_getElem hi
  refine ⟨by rw [List.length_map,List.length_take];omega,fun x H2 y M hM=>?_⟩
  obtain ⟨e,y⟩:=y
  subst e
  have hy:=y _ hS
  rw [List.getElem?_map,ha] at hy
  cases hy
  rw [hcm]
  refine ⟨_,_,rfl,hT i _ _ ha hx,rfl,_,_,rfl,_,_,rfl,_,_,rfl,rfl,⟨rfl,fun k v e=>?_⟩,?_⟩
  ·match k,e with
   | 0,e=>cases e
   | 1,e=>cases e
   | 2,e=>cases e
  ·unfold sC;dsimp only
   split
   ·refine he ls[i] (List.getElem_mem _) _ (hM _ _ ⟨rfl,?_⟩)
    rw [List.take_succ_eq_append_getElem hi,List.map_append];rfl
   ·rename_i z;exact absurd rfl z
 ·rintro acc H' ⟨rfl,rfl⟩ p hp
  rw [List.take_length]
  exact hd p hp
theorem wZ {n:Nat}{i:Int}(h0:0<=i)(h1:i < n):ixN n i=some i.toNat:=by
 unfold ixN
 rw [if_pos h0,if_pos h1]
theorem cN {ds:List Int}{i:Nat}(h:i < ds.length):ds.getD i 0∈ds:=by
 rw [List.getD_eq_getElem?_getD,List.getElem?_eq_getElem h]
 exact List.getElem_mem h
theorem jW {ds:List Int}{i:Nat}(h:i < ds.length):ds[i]?=some (ds.getD i 0):=by
 rw [List.getD_eq_getElem?_getD,List.getElem?_eq_getElem h];rfl
theorem vU {c:Int}(h0:0<=c)(h1:c < 2):atI [V.int 10,V.int 11] c=some (.int (10+c)):=by
 rcases (by omega:c=0\/c=1) with rfl | rfl<;>rfl
theorem Bs {ws:List Int}{k:Int}{i:Nat}(hi:i < ws.length)(he:ws.getD i 0=k)(hn:∀j,j < i->ws.getD j 0≠k):ws.idxOf k=i:=by
 have hm:k∈ws:=he▸cN hi
 have hlt:ws.idxOf k < ws.length:=List.idxOf_lt_length_iff.mpr hm
 have e1:ws.getD (ws.idxOf k) 0=k:=by
  rw [List.getD_eq_getElem?_getD,List.getElem?_eq_getElem hlt]
  exact List.getElem_idxOf hlt
 rcases Nat.lt_trichotomy (ws.idxOf k) i with h | h | h
 ·exact absurd e1 (hn _ h)
 ·exact h
 ·have:=ne_of_lt_idxOf (ns:=ws) (k:=k) h (by omega)
  rw [List.getD_eq_getElem?_getD,List.getElem?_eq_getElem hi] at he
  exact absurd he (by simpa using this)
section
variable {X:Cx}
theorem zq {tg iter elt:Expr}{ifs:List Expr}{scope:Scope}{pos spos py:Pos}{Nc:List Str}{cm:List (Option Nat)}{wi:TI}{g:TG}{tc:TT}{te:TE}{iy:Nat}{y:Str}(hN:X.N.Nodup)(hiy:X.N[iy]?=some y)(hly:X.env.scope.names.lookup y=some .local)
  (hsw:swapsWith (.ListComp elt [⟨tg,iter,ifs,0⟩] scope pos) (some (.Name y py)) spos.line X.env=pure true)
  (hc:X.calm=true) (hi:PI X tg iter wi) (hkind:scope.kind=.function) (hcell:∀y∈scope.names,y.2≠.cell) (hnames:∀y∈scope.names,y.2=.local->scope.names.lookup y.1=some .local)
  (hfree:∀y∈scope.names,y.2=.free->X.env.kindOf y.1=some .cell\/X.env.kindOf y.1=some .free) (hlen:cm.length=Nc.length)
  (hcm:∀(j:Nat) (x:Str) (i:Nat),Nc[j]?=some x->cm[j]?=some (some i)->X.N[i]?=some x/\scope.names.lookup x=some .free/\(X.env.kindOf x=some .cell\/X.env.kindOf x=some .free))
  (hg:∀C s₀ H₀ ex,PG (blk X Nc scope C s₀ H₀ ex) tg g) (ht:∀C s₀ H₀ ex,PIf (blk X Nc scope C s₀ H₀ ex) ifs tc) (he:∀C s₀ H₀ ex,PE (blk X Nc scope C s₀ H₀ ex) elt te)
  (hs:∀x,foldedSetIterable iter X.env x=pure x:=by intro _;rfl):PS X (.Assign [.Name y py] (.ListComp elt [⟨tg,iter,ifs,0⟩] scope pos) spos) (Cf (xP wi g tc te cm) (fm iy)):=by
 intro pins s σ H D0 I h
 rw [exec_Assign_Name_used _ _ _ _ hsw]
 refine wpAny_bind (wpAny_standAt (wpAny_bind ?_))
 show wpAny _ X.A (do let _ ←comprehension (.ListComp elt [⟨tg,iter,ifs,0⟩] scope pos) scope X.env _ (newList []) false (eval iter X.env) (some (assign (.Name y py) X.env))) _ _ s
 refine wpAny_bind (wpAny_mono (Q:=fun _ s'=>SP X pins D0 .next s') ?_ (fun _ s' hq=>wpAny_pure (wpAny_pure hq)) fun _ _ e=>e)
 have hfr:∀y∈scope.names,y.2=.free->∃c,X.env.cells.lookup y.1=some c:=fun y hy e=>I.ok.has y.1 (hfree y hy e)
 refine wpAny_comprehension_free (use:=some (assign (.Name y py) X.env)) (Q:=fun _ s'=>SP X pins D0 .next s') rfl hs (lH hfr) hkind hnames (thn (hi pins s σ H _ I h) fun v s1 h1=>thn h1 fun itv s2 h2=>?_)
 obtain ⟨it,fp,tn,J,H2,e,I2,T,st2,f2,W,⟨m0,w0⟩,turn⟩:=h2
 subst e
 refine wpAny_newObj_type (wpAny_newFunctionEnv hcell (by intro y hy;simp at hy) (fun h₁ hns₁ hsb₁=>?_) hkind)
 dsimp only at hns₁ hsb₁ ⊢
 have hk3:∀b u,s2.heap.get? b=some u->(s2.heap.push {cls:=.type "list",dict:=none,data:=.seq ([]:List Value).toArray}).get? b=some u:=fun b u q=>Heap.get?_push_of_some _ q
 have I3:Inv X pins σ H2 {s2 with heap:=s2.heap.push {cls:=.type "list",dict:=none,data:=.seq ([]:List Value).toArray},toks:=s2.toks}:=I2.kept hk3
 have hD3:(s2.heap.push {cls:=.type "list",dict:=none,data:=.seq ([]:List Value).toArray}).get? s2.heap.objs.size=some {cls:=.type "list",data:=.seq ([]:List Value).toArray}:=Heap.get?_push_size _ rfl
 have hCs:(s2.heap.push {cls:=.type "list",dict:=none,data:=.seq ([]:List Value).toArray}).objs.size=s2.heap.objs.size+1:=Heap.size_push _ _
 have hDn:H2 s2.heap.objs.size=none:=I2.hok.fresh (Nat.le_refl _)
 have st3:tn 0 (s2.heap.push {cls:=.type "list",dict:=none,data:=.seq ([]:List Value).toArray}):=T.keep _ _ _ st2 fun b _ o q=>hk3 b o q
 have fpD:∀b∈fp,b < s2.heap.objs.size:=fun b hb=>by
  obtain ⟨o,e,_⟩:=T.obj _ _ st2 b hb
  exact Heap.lt_size e
 have DX:oS X pins H2 s2.heap.objs.size:=I2.fpOk (Nat.le_refl _) hDn
 generalize hs3:s2.heap.push {cls:=.type "list",dict:=none,data:=.seq ([]:List Value).toArray}=h3 at *
 generalize hDg:s2.heap.objs.size=D at *
 have exX:∀b∈D::fp,oS X pins H2 b:=fun b hb=>by
  rcases List.mem_cons.mp hb with z | z
  ·rw [z];exact DX
  ·exact f2 b z
 have exC:∀b∈D::fp,b < h3.objs.size:=fun b hb=>by
  rcases List.mem_cons.mp hb with z | z
  ·rw [z,hCs];exact Nat.lt_succ_self _
  ·rw [hCs];exact Nat.lt_succ_of_lt (fpD b z)
 have exS:∀b∈D::fp,b∉frs X.stack:=fun b hb z=>by
  obtain ⟨_,n1,n2,_⟩:=exX b hb
  rcases List.mem_cons.mp (I2.stkSub b z) with y | y
  ·exact n1 y
  ·exact n2 y
 have clo:∀x c,(iW X.env.cells scope.names []).lookup x=some c->X.env.cells.lookup x=some c:=fun x c e=>oX (acc:=[]) (fun _ _ z=>by simp at z) e
 have keep1:∀b u,h3.get? b=some u->h₁.get? b=some u:=fun b u q=>
  (hsb₁.2 b (Nat.ne_of_lt (Heap.lt_size q))).trans (Heap.get?_push_of_some _ q)
 let s3:Shared:={s2 with heap:=h3}
 let X':Cx:=blk X Nc scope h3.objs.size s3 H2 (D::fp)
 have hX':X'=blk X Nc scope h3.objs.size s3 H2 (D::fp):=rfl
 have okX:X'.Ok:=by
  refine ⟨I3.ok.mod,hkind,I3.ok.glob,I3.ok.blt,Nat.le_refl _,fun x y c e1 e2=>I3.ok.inj x y c (clo x c e1) (clo y c e2),fun x hx=>?_,fun x c e=>(Bool.false_ne_true e).elim,I3.ok.hd,I3.ok.frames,.inl rfl,fun b hb=>⟨Nat.ne_of_lt (exC b hb),fun x c e=>(exX b hb).2.2.2.2.1 x c (clo x c e)⟩,
   I3.bs,?_,fun b o e hb=>?_,exS,I3.stack,I3.stkFree⟩
  ·have hx':scope.names.lookup x=some .free:=eA (env:=X.env) hcell hx
   have hmem:(x,NameKind.free)∈scope.names:=by
    have:∀(l:List (Str×NameKind)),l.lookup x=some .free->(x,NameKind.free)∈l:=by
     intro l
     induction l with
     | nil=>intro z;simp at z
     | cons a r ih=>
      obtain ⟨n,k⟩:=a
      intro z
      rw [List.lookup_cons] at z
      split at z
      ·rename_i y
       have yn:x=n:=by simpa using y
       cases z
       rw [yn];exact List.mem_cons_self
      ·exact List.mem_cons_of_mem _ (ih z)
    exact this _ hx'
   exact g9 hx' (hfr (x,.free) hmem rfl)
  ·exact Nat.le_trans I3.ok.bsz I3.sz
  ·rcases (exX b hb).2.2.2.1 with z | z
   ·exact I3.ok.noex b o e z
   ·exact absurd (Nat.lt_of_lt_of_le (Heap.lt_size (I3.ok.bs b o e).1) z) (Nat.lt_irrefl _)
 have hσl:(bZ cm σ).length=Nc.length:=by
  unfold bZ
  rw [List.length_map];exact hlen
 have I4:Inv X' [] (bZ cm σ) H2 {s2 with heap:=h₁,toks:=s2.toks+([]:List (Str×Value)).length}:=by
  refine ⟨okX,rfl,I3.bare,Un.kept keep1,⟨_,hns₁,fun j x v e1 e2 e3=>?_⟩,fun x c e=>?_,?_,fun x c e=>I3.freeC x c (clo x c e),(fun p hp=>absurd (show p∈([]:List (Addr×Obj)) from hp) (by simp)),I3.hok.kept keep1,hσl⟩
  ·have e2':∃i,cm[j]?=some (some i)/\σ[i]?=some (some v):=by
    unfold bZ at e2
    rw [List.getElem?_map] at e2
    cases q:cm[j]? with
    | none=>rw [q] at e2;simp at e2
    | some o=>
     rw [q] at e2
     cases o with
     | none=>simp at e2
     | some i=>
      refine ⟨i,rfl,?_⟩
      simp only [Option.map_some,Option.some.injEq] at e2
      cases q2:σ[i]? with
      | none=>rw [q2] at e2;simp at e2
      | some o2=>rw [q2] at e2;simp at e2;rw [e2]
   obtain ⟨i,ej,ei⟩:=e2'
   obtain ⟨n1,n2,n3⟩:=hcm j x i e1 ej
   obtain ⟨m,hn,hl⟩:=I3.loc
   have n3':Vis X.env.scope x:=by
    rcases n3 with z | z
    ·exact .inr (.inl z)
    ·exact .inr (.inr z)
   obtain ⟨u,r,l⟩:=hl i x v n1 ei n3'
   refine ⟨u,r,?_⟩
   rcases l with ⟨l,_⟩ | ⟨_,c,ec,ic⟩
   ·rcases n3 with z | z
    ·rw [l] at z;cases z
    ·rw [l] at z;cases z
   ·obtain ⟨c',ec'⟩:=g9 (cells:=X.env.cells) (acc:=[]) n2 ⟨c,ec⟩
    have hcc:=clo x c' ec'
    rw [ec] at hcc;cases hcc
    obtain ⟨oc,hoc,hdc⟩:=ic
    refine .inr ⟨?_,c,ec',oc,keep1 _ _ hoc,hdc⟩
    exact eo (env:=X.env) n2
  ·obtain ⟨v,oc,hoc,hdc⟩:=I3.cell x c (clo x c e)
   exact ⟨v,oc,keep1 _ _ hoc,hdc⟩
  ·exact I3.hok.fresh (Nat.le_refl _)
 have stat:∀{H':Hp} {pl:List (Addr×Obj)},(∀b∈fp,H' b=none)->(∀p∈pl,p.1=D)->∀b∈fp,oS X' pl H' b:=fun {H' pl} hn hpl b hb=>
  ⟨hn b hb,Nat.ne_of_lt (exC b (List.mem_cons_of_mem _ hb)),exS b (List.mem_cons_of_mem _ hb),.inl (List.mem_cons_of_mem _ hb),fun x c e=>(f2 b hb).2.2.2.2.1 x c (clo x c e),fun p hp z=>by
   have:p∈pl:=(List.mem_append.mp hp).elim (fun z=>absurd (show p∈([]:List (Addr×Obj)) from z) (by simp)) fun z=>z
   have e:=hpl p this
   rw [e] at z
   exact absurd (fpD b hb) (by rw [←z];exact Nat.lt_irrefl _)⟩
 have hDC:D≠h3.objs.size:=by rw [hCs];exact Nat.ne_of_lt (Nat.lt_succ_self _)
 have hDs:D∉frs X.stack:=exS D List.mem_cons_self
 have loop:∀s5:Shared,s5={s2 with heap:=h₁,toks:=s2.toks+([]:List (Str×Value)).length}->
   codeAny (model X.prog X.w) X.A (.compLoop (.ListComp elt [⟨tg,iter,ifs,0⟩] scope pos) 0 (.ref it) (.ref D) (compEnvC scope (iW X.env.cells scope.names []) h3.objs.size X.env))
    (compPost (model X.prog X.w) X.A X.xe (some (assign (.Name y py) X.env)) (fun _ s'=>SP X pins D0 .next s') (.ref D) h3.objs.size) s5:=by
  rintro s5 rfl
  refine codeAny_loop rfl (fun n s'=>∃i acc its k H',Inv X' [] (bZ cm σ) H' s'/\tn i s'.heap/\(∀b∈fp,H' b=none)/\s'.heap.get? D=some {cls:=.type "list",data:=.seq (List.toArray its) k}/\H' D=none/\a8 acc its/\acc.length<=sizeLine/\W i n acc H') (fun n s' hI=>?_) m0
   ⟨0,[],[],0,H2,I4,T.keep _ _ _ st3 fun b _ o q=>keep1 b o q,fun b hb=>(f2 b hb).1,keep1 _ _ hD3,hDn,.nil,Nat.zero_le _,w0⟩
  obtain ⟨i,acc,its,k,H5,J5,t5,fr5,d5,dn5,va5,ac5,w5⟩:=hI
  show wpAny _ X.A ((compTurn (.ListComp elt [⟨tg,iter,ifs,0⟩] scope pos) 0 (.ref it) (.ref D) (compEnvC scope (iW X.env.cells scope.names []) h3.objs.size X.env)).onRaise (fun x=>do noteFrame x (compEnvC scope (iW X.env.cells scope.names []) h3.objs.size X.env);theTreesLotGoes x)) _ _ s'
  refine wpAny_noted ?_
  rw [compTurn_list]
  have nocell:∀v,({cls:=.type "list",data:=.seq (List.toArray its) k}:Obj).data≠.cell v:=fun v z=>nomatch z
  have P5:Inv X' [(D,{cls:=.type "list",data:=.seq (List.toArray its) k})] (bZ cm σ) H5 s':=J5.pins_of fun p hp=>by
   have e:p=(D,{cls:=.type "list",data:=.seq (List.toArray its) k}):=by simpa using hp
   subst e
   exact ⟨d5,dn5,hDC,hDs,nocell⟩
  have pl1:∀p∈[((D,{cls:=.type "list",data:=.seq (List.toArray its) k}):Addr×Obj)],p.1=D:=fun p hp=>by
   have e:p=(D,{cls:=.type "list",data:=.seq (List.toArray its) k}):=by simpa using hp
   rw [e]
  rcases turn i n acc H5 w5 with ⟨stop,qn⟩ | ⟨go,hsz,step⟩
  ·refine wpAny_bind (wpAny_standAt (wpAny_bind (wpAny_mono (T.done X' rfl rfl rfl hc i _ s' _ H5 (fun _ _=>False) P5 (stat fr5 pl1) t5 stop) (fun r s6 ⟨hr,J6⟩=>?_) fun _ _ f=>f.elim)))
   subst hr
   refine wpAny_pure ?_
   obtain ⟨mC,hnC,_⟩:=J6.loc
   have hsb:Heap.SameBut h3.objs.size s6.heap s6.heap:=⟨rfl,fun _ _=>rfl⟩
   let h':Heap:=s6.heap
   have hCn:H5 h3.objs.size=none:=J6.free
   have toh:∀b u,b≠h3.objs.size->s6.heap.get? b=some u->h'.get? b=some u:=fun b u hb q=>(hsb.2 b hb).trans q
   have hok':HOk X.prog X.w H5 h':=fun a o e=>(J6.hok a o e).stay (fun b u hb q=>toh b u (by
    rintro rfl
    rcases hb with z | z
    ·rw [←z,hCn] at e;cases e
    ·rw [hCn] at z;cases z) q) (fun _ q=>q) fun _ _ q=>q
   have ltC:∀{b:Addr} {u:Obj},h3.get? b=some u->b≠h3.objs.size:=fun q=>Nat.ne_of_lt (Heap.lt_size q)
   have un':Un (frs X.stack) (D::fp) H2 H5 h3 h':=by
    have u:=J6.base
    refine ⟨fun b o e n hb hx=>toh b o (ltC e) (u.keep b o e n hb hx),fun b o e n hb hx=>?_,u.free,fun b o e hx=>?_,u.tups,u.frzs,u.tbls⟩
    ·obtain ⟨sl,q⟩:=u.slot b o e n hb hx
     exact ⟨sl,toh b _ (ltC e) q⟩
    ·obtain ⟨o',q⟩:=u.there b o e hx
     exact ⟨o',toh b _ (ltC e) q⟩
   have J7:Inv X pins σ H5 {s6 with heap:=h'}:=Inv.call' (s':={s6 with heap:=h'}) (ch:=D::fp) I3 J6.os un' hok' J6.bare fun b hb=>by
    obtain ⟨_,n1,n2,n3,n4,n5⟩:=exX b hb
    exact ⟨n3,n1,n4,n5⟩
   obtain ⟨dg,dg2,_⟩:=J6.pin (D,{cls:=.type "list",data:=.seq (List.toArray its) k}) (by simp)
   obtain ⟨_,n1,n2,n3,n4,n5⟩:=exX D List.mem_cons_self
   have n3':X.s₀.heap.objs.size<=D:=by
    have:=I2.sz
    rw [hDg] at this
    exact this
   have J8:=J7.track (o:=.lst acc) dg2 n3' n1 n4 n5 ⟨ac5,its,k,va5,toh _ _ hDC dg⟩
   obtain ⟨fc0,fc1,fc2,fc3,fc4,fc5⟩:=I3.fpOk (b:=h3.objs.size) (H':=upd H5 D (.lst acc)) (Nat.le_refl _) (by rw [aG (Ne.symm hDC)];exact hCn)
   refine wpAny_assign_Name (vK (s:=s6) (v:=.ref D) J8 hN hiy (.inl hly) rfl (fun s7 J9 hsa=>?_) (.inr hly))
   obtain ⟨aa,hsa,hwh⟩:=hsa
   have hca:h3.objs.size≠aa:=by
    rcases hwh with z | z
    ·rw [z];exact fc1
    ·exact (fc4 _ _ z).symm
   refine ⟨mC,hnC.sameBut hsa hca,fun h7 hs7=>?_⟩
   exact ⟨_,_,J9.turned (it:=h3.objs.size) (t':=s7.toks) (fun b o hb hu=>(hs7.2 b hb).trans hu) fc0 fc1 fc3 fc4 fc5,qn D dg2⟩
  ·refine wpAny_bind (wpAny_standAt (wpAny_bind (wpAny_mono (T.item X' rfl rfl rfl hc i _ s' _ H5 (fun _ _=>False) P5 (stat fr5 pl1) t5 go) (fun r s6 ⟨u,hr,h6⟩=>?_) fun _ _ f=>f.elim)))
   subst hr
   refine wpAny_bind (wpAny_mono h6 (fun _ s7 ⟨x,H7,J7,r7,y7,t7,fr7⟩=>?_) fun _ _ f=>f.elim)
   have P7:=J7.pinned (stat fr7 pl1) (T.obj _ _ t7)
   refine wpAny_bind (wpAny_mono (hg _ _ _ _ _ s7 _ H7 x u _ P7 r7 (step x H7 y7)) (fun _ s8 ⟨σ8,H8,J8,wk8,q8⟩=>?_) fun _ _ f=>f.elim)
   refine wpAny_bind (wpAny_mono (ht _ _ _ _ _ s8 σ8 H8 _ J8 q8) (fun b s9 ⟨H9,J9,q9⟩=>?_) fun _ _ f=>f.elim)
   have back:∀{Ha:Hp} {sa:Shared},Inv X' ([(D,{cls:=.type "list",data:=.seq (List.toArray its) k})]++qt fp s7.heap) σ8 Ha sa->
     Inv X' [] (bZ cm σ) Ha sa/\tn (i+1) sa.heap/\(∀b∈fp,Ha b=none)/\sa.heap.get? D=some {cls:=.type "list",data:=.seq (List.toArray its) k}/\Ha D=none:=fun {Ha sa} Ja=>by
    refine ⟨(Ja.weak wk8.1 wk8.2).pins_of fun p hp=>absurd hp (by simp),T.keep _ _ _ t7 fun b hb o e=>(Ja.pin (b,o) (List.mem_append_right _ (List.mem_append_right _ (fR hb e)))).1,fun b hb=>?_,?_⟩
    ·obtain ⟨o,e,d⟩:=T.obj _ _ t7 b hb
     exact (Ja.pin (b,o) (List.mem_append_right _ (List.mem_append_right _ (fR hb e)))).2.1
    ·obtain ⟨z1,z2,_⟩:=Ja.pin (D,{cls:=.type "list",data:=.seq (List.toArray its) k}) (by simp)
     exact ⟨z1,z2⟩
   cases b with
   | false=>
    simp only [Bool.false_eq_true,if_false] at q9 ⊢
    obtain ⟨m',hm,w'⟩:=q9
    obtain ⟨z0,z1,z2,z3,z4⟩:=back J9
    exact wpAny_pure ⟨rfl,m',hm,i+1,acc,its,k,H9,z0,z1,z2,z3,z4,va5,ac5,w'⟩
   | true=>
    simp only [if_true] at q9 ⊢
    refine wpAny_bind (wpAny_bind (wpAny_mono (he _ _ _ _ _ s9 σ8 H9 _ J9 q9) (fun y s10 ⟨v,H10,J10,rv,q10⟩=>wpAny_bind ?_) fun _ _ f=>f.elim))
    obtain ⟨m',hm,w'⟩:=q10
    obtain ⟨z0,z1,z2,z3,z4⟩:=back J10
    have hli:=va5.length
    refine call_meets F.slot_list_append ⟨_,z3,rfl⟩ F.entry_list_append (F.args_list_append_2 _ _) (PySem.list_append D its.toArray k y (by rw [List.size_toArray];omega)) ⟨z3,?_⟩
    obtain ⟨k',q⟩:∃k',(s10.heap.update D (Obj.mapSeq (·.push y))).get? D=some {cls:=.type "list",data:=.seq (List.toArray (its++[y])) k'}:=by
     have q:=PySem.IsL.update z3 (·.push y)
     have e:its.toArray.push y=(its++[y]).toArray:=by simp
     rw [e] at q
     exact ⟨_,q⟩
    refine wpAny_pure (wpAny_pure ⟨rfl,m',hm,i+1,acc++[v],its++[y],k',H10,z0.turned (it:=D) (fun b o hb hu=>(Heap.get?_update_other s10.heap (Obj.mapSeq (·.push y)) (Ne.symm hb)).trans hu) z4 hDC (.inl List.mem_cons_self) (fun x c e=>(exX D List.mem_cons_self).2.2.2.2.1 x c (clo x c e)) (fun p hp=>absurd (show p∈([]:List (Addr×Obj)) from hp) (by simp)),
     T.keep _ _ _ z1 fun b hb o e=>(Heap.get?_update_other s10.heap (Obj.mapSeq (·.push y)) (Nat.ne_of_gt (fpD b hb))).trans e,z2,q,z4,va5.append (.cons rv .nil),by rw [List.length_append,List.length_singleton];omega,w'⟩)
 exact codeAny_compStart_list (loop _ rfl) (T.self X.A 0 _ _ _ (T.keep _ _ _ st3 fun b _ o q=>keep1 b o q) (loop _ rfl))
end
theorem AI {X:Cx}{tg iter elt:Expr}{ifs:List Expr}{scope:Scope}{pos spos py:Pos}(Nc:List Str)(cm:List (Option Nat)){wi:TI}{g:TG}{tc:TT}{te:TE}{iy:Nat}{y:Str}(hN:X.N.Nodup)(hiy:X.N[iy]?=some y)(hly:X.env.scope.names.lookup y=some .local)
  (hi:PI X tg iter wi) (hg:∀C s₀ H₀ ex,PG (blk X Nc scope C s₀ H₀ ex) tg g) (ht:∀C s₀ H₀ ex,PIf (blk X Nc scope C s₀ H₀ ex) ifs tc) (he:∀C s₀ H₀ ex,PE (blk X Nc scope C s₀ H₀ ex) elt te)
  (hsw:swapsWith (.ListComp elt [⟨tg,iter,ifs,0⟩] scope pos) (some (.Name y py)) spos.line X.env=pure true:=by rfl)
  (hc:X.calm=true:=by rfl) (hkind:scope.kind=.function:=by rfl) (hcell:∀y∈scope.names,y.2≠.cell:=by decide +kernel) (hnames:∀y∈scope.names,y.2=.local->scope.names.lookup y.1=some .local:=by decide +kernel)
  (hfree:CL X scope=true:=by rfl) (hlen:cm.length=Nc.length:=by rfl) (hcm:JH X scope Nc cm=true:=by rfl)
  (hs:∀x,foldedSetIterable iter X.env x=pure x:=by intro _;rfl):PS X (.Assign [.Name y py] (.ListComp elt [⟨tg,iter,ifs,0⟩] scope pos) spos) (Cf (xP wi g tc te cm) (fm iy)):=by
 refine zq hN hiy hly hsw hc hi hkind hcell hnames (fun y hy e=>?_) hlen (fun j x i e1 e2=>?_) hg ht he hs
 ·have h:=List.all_eq_true.mp hfree y hy
  rw [e] at h
  simpa using h
 ·have hj:(Nc.zip cm)[j]?=some (x,some i):=by
   rw [List.getElem?_zip_eq_some];exact ⟨e1,e2⟩
  have h:=List.all_eq_true.mp hcm _ (List.mem_of_getElem? hj)
  simpa using h
theorem gP.calm {P:Program}{w:World}{K:W.Frag}{mg:Str->Option Value}{base:Heap}{k:Nat}{f:Addr}{fd:FuncData}{ps:List Str}{sp:Sp}(F:gP P w K mg base (CXf P w) k f fd ps sp)
  (h:∀vs H Q E,sp vs H Q E->sp vs H Q E0):gP P w K mg base CX0 k f fd ps sp:=by
 refine ⟨F.len,fun A outer s H args us vs Q E hr he hb hv hs=>?_⟩
 refine codeAny_mono (F.run A outer s H args us vs Q E0 hr he hb hv (h _ _ _ _ hs)) fun r s' q=>?_
 cases r with
 | ok fl=>cases fl<;>exact q
 | error e=>
  obtain ⟨x,cls,a0,H',B,_,_,_,_,_,_,_,_,_,z⟩:=q
  exact z.elim
def cG {α:Type}(f:α->List V)(K:W.Frag)(H:Hp)(as:List Addr)(ls:List α):Prop:=as.length=ls.length/\∀(i:Nat) a x,as[i]?=some a->ls[i]?=some x->SqT K H a (f x)
def jn {α:Type}(f:α->List V)(K:W.Frag)(H:Hp)(l:Addr)(ls:List α):Prop:=∃as:List Addr,SqL K H l (as.map V.ref)/\cG f K H as ls
section
variable {α:Type}{f:α->List V}{K:W.Frag}{H H':Hp}{as bs:List Addr}{ls ks:List α}{l p:Addr}
theorem cG.same (s:av H H')(h:cG f K H as ls):cG f K H' as ls:=⟨h.1,fun i a x e1 e2=>s.tup (h.2 i a x e1 e2)⟩
theorem jn.same (s:av H H')(h:jn f K H l ls):jn f K H' l ls:=by
 obtain ⟨as,a,b⟩:=h
 exact ⟨as,s.seq a,b.same s⟩
theorem cG.nil:cG f K H [] []:=⟨rfl,fun i a x e _=>by simp at e⟩
theorem cG.app (h:cG f K H as ls)(g:cG f K H bs ks):cG f K H (as++bs) (ls++ks):=by
 refine ⟨by rw [List.length_append,List.length_append,h.1,g.1],fun i a x e1 e2=>?_⟩
 by_cases hi:i < as.length
 ·rw [List.getElem?_append_left hi] at e1
  rw [List.getElem?_append_left (by rw [←h.1];exact hi)] at e2
  exact h.2 i a x e1 e2
 ·rw [List.getElem?_append_right (by omega)] at e1
  rw [List.getElem?_append_right (by rw [←h.1];omega),←h.1] at e2
  exact g.2 _ a x e1 e2
theorem cG.one {a:Addr}{x:α}(h:SqT K H a (f x)):cG f K H [a] [x]:=by
 refine ⟨rfl,fun i b y e1 e2=>?_⟩
 cases i with
 | zero=>cases e1;cases e2;exact h
 | succ i=>simp at e1
theorem cG.rew {ys:List V}{o:HO}(h:cG f K H as ls)(hl:H l=some (.lst ys)):cG f K (upd H l o) as ls:=⟨h.1,fun i a x e1 e2=>(h.2 i a x e1 e2).rew hl⟩
theorem cG.keep {ys:List V}(s:aB p H H')(hp:H p=some (.lst ys))(h:cG f K H as ls):cG f K H' as ls:=⟨h.1,fun i a x e1 e2=>(h.2 i a x e1 e2).keep s hp⟩
theorem cG.keepI {C dx:Addr}{fs:List (Str×V)}(s:aB p H H')(hp:H p=some (.ins C dx fs))(h:cG f K H as ls):cG f K H' as ls:=⟨h.1,fun i a x e1 e2=>(h.2 i a x e1 e2).keepI s hp⟩
theorem jn.keepI {C dx:Addr}{fs:List (Str×V)}(s:aB p H H')(hp:H p=some (.ins C dx fs))(h:jn f K H l ls):jn f K H' l ls:=by
 obtain ⟨as,a,b⟩:=h
 exact ⟨as,a.keepI s hp,b.keepI s hp⟩
end
noncomputable abbrev Cd:=Int×Int
noncomputable def cdV (x:Cd):List V:=[.int x.1,.int x.2]
def dM (x:Cd):Prop:=(1<=x.1/\x.1<=9)/\(1<=x.2/\x.2<=9)/\x.1≠x.2
end L2
namespace L2
open PySem PySem.Spec PyProof.Rows PySem.SeqAt
theorem sE {M:Model}{A:Around}{E:Value->Shared->Prop}{s:Shared}{β:Type}{c:β}{f:Nat->β->Sem (ForInStep β)}{Q:β->Shared->Prop}{n:Nat}(hn:n=2)
  (h:wpAny M A (f 0 c) (fun r s1=>match r with | .done b=>Q b s1 | .yield b=>wpAny M A (f 1 b) (fun r s2=>match r with | .done b=>Q b s2 | .yield b=>Q b s2) E s1) E s) :
  wpAny M A (forIn ([:n]:Std.Legacy.Range) c f) Q E s:=by
 subst hn
 rw [Std.Legacy.Range.forIn_eq_forIn_range']
 show wpAny M A (forIn [0,1] c f) Q E s
 rw [List.forIn_cons]
 refine wpAny_bind (wpAny_mono h ?_ (fun _ _ z=>z))
 intro r s1 h1
 cases r with
 | done b=>exact wpAny_pure h1
 | yield b=>
  show wpAny M A (forIn [1] b f) Q E s1
  rw [List.forIn_cons]
  refine wpAny_bind (wpAny_mono h1 ?_ (fun _ _ z=>z))
  intro r s2 h2
  cases r with
  | done b=>exact wpAny_pure h2
  | yield b=>
   show wpAny M A (forIn [] b f) Q E s2
   rw [List.forIn_nil]
   exact wpAny_pure h2
theorem w6 (l:Addr)(items:Array Value)(a b:Value)(n:Nat)(dd:Option Addr)(sl:Array (Option Value))(x:Value)(e0 e1:Bool)(he:(e0 || e1)=true)(hsz:items.size=2)(i0:items[0]?=some a)(i1:items[1]?=some b) :
  Meets (Builtin.«tuple.index» ⟨[.ref l,x],[]⟩)
   (fun A R s=>s.heap.get? l=some {cls:=.type "tuple",dict:=dd,data:=.seq items n,slots:=sl}/\EqAt A.in1 s a x e0/\EqAt A.in1 s b x e1/\R (.ok (.ret (.int (if e0=true then 0 else 1) s.toks))) {s with toks:=s.toks+1}):=
 .of_wp fun prog w A R s h=>by
  obtain ⟨hp,g,d,tk,os⟩:=s;obtain ⟨hl,h0,h1,h⟩:=h
  wp_walk using wpAny_loadPart' hl,sE (show min items.size items.size=2 by omega)
  rw [i0]
  refine wpAny_bind (h0 prog w _ _ ?_)
  cases e0 with
  | true=>
   wp_walk
   exact ⟨_,rfl,h⟩
  | false=>
   wp_walk
   rw [i1]
   refine wpAny_bind (h1 prog w _ _ ?_)
   have e1t:e1=true:=by simpa using he
   subst e1t
   wp_walk
   exact ⟨_,rfl,h⟩
section
variable {X:Cx}
noncomputable def AJ (K:W.Frag):V->List V->Hp->VK->Prop:=fun x vs H Q=>∃(l:Addr) (a b k:V),x=.ref l/\vs=[k]/\SqT K H l [a,b]/\bY a=true/\bY b=true/\bY k=true/\(eqV a k || eqV b k)=true/\Q (.int (if eqV a k=true then 0 else 1)) H
theorem Bt:MtR X "tuple.index" (AJ X.K):=by
 intro pins s σ H x vs v us Q I rx rv h
 obtain ⟨l,a,b,k,rfl,rfl,hq,fa,fb,fk,hk,q⟩:=h
 cases rx
 obtain ⟨u,rfl,ru⟩:=rv.one
 obtain ⟨its,r,pl,hz⟩:=I.tuple hq
 obtain ⟨u1,u2,rfl,r1,r2⟩:=r.two
 obtain ⟨⟨cls,dd,data,sl⟩,ho,hc,n,hd⟩:=id pl
 simp only at hc hd
 subst hc hd
 refine call_meets PySem.F.slot_tuple_index ⟨_,ho,rfl⟩ PySem.F.entry_tuple_index (PySem.F.args_tuple_index_2 _ _)
  (w6 l _ u1 u2 n dd sl u (eqV a k) (eqV b k) hk rfl rfl rfl) ⟨ho,qy r1 ru fa fk,qy r2 ru fb fk,?_⟩
 exact ⟨.int _,H,I.tok _,⟨_,rfl⟩,q⟩
noncomputable def JL (K:W.Frag):R2:=fun x y H Q=>∃a b xs ys,x=.ref a/\y=.ref b/\SqT K H a xs/\SqT K H b ys/\xs.all bY=true/\ys.all bY=true/\Q (.bl (!eqL xs ys)) H
theorem E3 {xs ys:List V}:((List.range (min xs.length ys.length)).all (fun j=>eqV (xs.getD j .non) (ys.getD j .non)) && xs.length == ys.length)=eqL xs ys:=by
 by_cases hl:xs.length=ys.length
 ·rw [show min xs.length ys.length=xs.length by omega,sT hl,hl]
  simp
 ·have e:eqL xs ys=false:=by
   cases z:eqL xs ys with
   | false=>rfl
   | true=>exact absurd (sS z) hl
  rw [e]
  simp [hl]
theorem Ih (hu:X.A.units < cLine):OpR X (compareOp .NotEq) (JL X.K):=by
 intro pins s σ H x y u v Q I rx ry h
 obtain ⟨a,b,xs,ys,rfl,rfl,ha,hb,fa,fb,q⟩:=h
 cases rx;cases ry
 obtain ⟨ia,ra,pa,za⟩:=I.tuple ha
 obtain ⟨ib,rb,pb,zb⟩:=I.tuple hb
 have la:=ra.length
 have lb:=rb.length
 refine RcNeAt.tuples (e:=fun j=>eqV (xs.getD j .non) (ys.getD j .non)) pa pb hu (fun j h1 h2=>?_) X.prog X.w _ _ ?_
 ·simp only [List.size_toArray] at h1 h2
  have hx:xs[j]?=some (xs.getD j .non):=by
   rw [List.getD_eq_getElem?_getD,List.getElem?_eq_getElem (by omega)];rfl
  have hy:ys[j]?=some (ys.getD j .non):=by
   rw [List.getD_eq_getElem?_getD,List.getElem?_eq_getElem (by omega)];rfl
  obtain ⟨u,eu,ru⟩:=ra.get hx
  obtain ⟨v,ev,rv⟩:=rb.get hy
  have e1:ia.toArray[j]=u:=by
   have:=List.getElem?_eq_some_iff.mp eu
   simpa using this.2
  have e2:ib.toArray[j]=v:=by
   have:=List.getElem?_eq_some_iff.mp ev
   simpa using this.2
  rw [e1,e2]
  exact qy ru rv (List.all_eq_true.mp fa _ (List.mem_of_getElem? hx)) (List.all_eq_true.mp fb _ (List.mem_of_getElem? hy))
 ·have e:=E3 (xs:=xs) (ys:=ys)
  simp only [List.size_toArray]
  rw [←la,←lb,e]
  exact ⟨.bl (!eqL xs ys),H,I,rfl,q⟩
end
end L2
namespace L2
open PySem PySem.Spec PyProof.Rows
inductive Eng where
 | no | wait (l r:Int) | armed (l r:Int) | other (l r s:Int) | used (l r:Int)
 deriving DecidableEq
noncomputable def nV:Eng->List V
 | .no=>[.str "not rung",.non,.non,.non]
 | .wait l r=>[.str "not repeated",.int l,.int r,.non]
 | .armed l r=>[.str "armed",.int l,.int r,.int r]
 | .other l r s=>[.str "repeated otherwise",.int l,.int r,.int s]
 | .used l r=>[.str "used up",.int l,.int r,.int r]
theorem Bu (e:Eng):∀x∈nV e,bY x=true:=by cases e<;>simp [nV,bY]
theorem aB.free {p x:Addr}{H H':Hp}(k:aB p H H')(n:x≠p)(h:H' x=none):H x=none:=by
 cases e:H x with
 | none=>rfl
 | some o=>have:=k x o n e;rw [h] at this;cases this
theorem Ii {ls:List Cd}{n:Nat}:(ls.map fun _=>false).getD n false=false:=by
 rw [List.getD_eq_getElem?_getD,List.getElem?_map]
 cases ls[n]?<;>rfl
structure br (C:Addr)(K:W.Frag)(H:Hp)(b cs fl st:Addr)(ls:List Cd)(fs:List Bool)(e:Eng):Prop where
 ob:∃dx,H b=some (.ins C dx [("codes",.ref cs),("failed",.ref fl),("state",.ref st)])
 oc:∃as:List Addr,H cs=some (.lst (as.map V.ref))/\cG cdV K H as ls
 of:H fl=some (.lst (fs.map V.bl))
 os:SqT K H st (nV e)
 nn:cs≠fl
 ln:fs.length=ls.length
theorem br.rows {C:Addr}{K:W.Frag}{H:Hp}{b cs fl st:Addr}{ls:List Cd}{fs:List Bool}{e:Eng}(h:br C K H b cs fl st ls fs e):jn cdV K H cs ls:=by
 obtain ⟨as,a,t⟩:=h.oc
 exact ⟨as,SqL.of a,t⟩
theorem br.same {C:Addr}{K:W.Frag}{H H':Hp}{b cs fl st:Addr}{ls:List Cd}{fs:List Bool}{e:Eng}(h:br C K H b cs fl st ls fs e)(s:av H H'):br C K H' b cs fl st ls fs e:=by
 obtain ⟨⟨dx,a⟩,⟨as,c,t⟩,f,g,n,l⟩:=h
 exact ⟨⟨dx,s _ _ a⟩,⟨as,s _ _ c,t.same s⟩,s _ _ f,s.tup g,n,l⟩
theorem br.state {C:Addr}{K:W.Frag}{H H':Hp}{b cs fl st st' dx:Addr}{ls:List Cd}{fs:List Bool}{e e':Eng}(h:br C K H b cs fl st ls fs e)(k:aB b H H')
  (a:H' b=some (.ins C dx [("codes",.ref cs),("failed",.ref fl),("state",.ref st')])) (g:SqT K H' st' (nV e')):br C K H' b cs fl st' ls fs e':=by
 obtain ⟨⟨dx0,a0⟩,⟨as,c,t⟩,f,_,n,l⟩:=h
 exact ⟨⟨dx,a⟩,⟨as,k _ _ (fun z=>by rw [z,a0] at c;cases c) c,t.keepI k a0⟩,k _ _ (fun z=>by rw [z,a0] at f;cases f) f,g,n,l⟩
theorem br.fail {C:Addr}{K:W.Frag}{H H':Hp}{b cs fl st:Addr}{ls:List Cd}{fs fs':List Bool}{e:Eng}(h:br C K H b cs fl st ls fs e)(k:aB fl H H')(g:H' fl=some (.lst (fs'.map V.bl)))(hl:fs'.length=fs.length):br C K H' b cs fl st ls fs' e:=by
 obtain ⟨⟨dx0,a0⟩,⟨as,c,t⟩,f,o,n,l⟩:=h
 exact ⟨⟨dx0,k _ _ (fun z=>by rw [z,f] at a0;cases a0) a0⟩,⟨as,k _ _ n c,t.keep k f⟩,g,o.keep k f,n,hl.trans l⟩
noncomputable def ft (ls:List Cd)(l:Int):Cd:=ls.getD l.toNat (0,0)
noncomputable def cC (ls:List Cd)(l:Int)(k:Str):Int:=if k="men" then (ft ls l).1 else (ft ls l).2
theorem pd {K:W.Frag}{H:Hp}{as:List Addr}{ls:List Cd}{l:Int}(t:cG cdV K H as ls)(h0:0<=l)(h1:l < ls.length):∃a,atI (as.map V.ref) l=some (.ref a)/\SqT K H a (cdV (ft ls l)):=by
 obtain ⟨n,rfl⟩:=Int.eq_ofNat_of_zero_le h0
 have hn:n < ls.length:=by omega
 have ha:as[n]?=some (as[n]'(by rw [t.1];exact hn)):=List.getElem?_eq_getElem _
 refine ⟨as[n]'(by rw [t.1];exact hn),fq (by rw [List.getElem?_map,ha];rfl),t.2 n _ _ ha ?_⟩
 rw [ft,Int.toNat_natCast,List.getD_eq_getElem?_getD,List.getElem?_eq_getElem hn];rfl
theorem km {fs:List Bool}{l:Int}(h0:0<=l)(h1:l < fs.length):atI (fs.map V.bl) l=some (.bl (fs.getD l.toNat false)):=by
 obtain ⟨n,rfl⟩:=Int.eq_ofNat_of_zero_le h0
 have hn:n < fs.length:=by omega
 refine fq ?_
 rw [List.getElem?_map,List.getElem?_eq_getElem hn,Int.toNat_natCast,List.getD_eq_getElem?_getD,List.getElem?_eq_getElem hn];rfl
section
variable {X:Cx}
theorem w8:eG X (.type "range") (fun xs H Q=>∃i j:Int,xs=[.int i,.int j]/\∀p,H p=none->Q (.ref p) (upd H p (.rng i j))):=by
 intro pins s σ H xs us Q I r h
 obtain ⟨i,j,rfl,q⟩:=h
 obtain ⟨u,v,rfl,⟨t,rfl⟩,⟨t',rfl⟩⟩:=a8.two r
 refine call_range_2 ?_
 exact ⟨.ref s.heap.objs.size,_,I.laid (o:=.rng i j) (fun b o e=>Heap.get?_push_of_some _ e) (Nat.le_refl _) ⟨_,_,_,Heap.get?_push_size _ rfl⟩,rfl,q _ I.fresh⟩
theorem tL (hc:X.calm=true):eG X (.type "list") (fun xs H Q=>∃(r:Addr) (lo:Int) (n:Nat),xs=[.ref r]/\H r=some (.rng lo (lo+n))/\n<=100000/\-100000<=lo/\lo<=100000/\∀p,H p=none->Q (.ref p) (upd H p (.lst (((List.range n).map fun (i:Nat)=>lo+(i:Int)).map V.int)))):=by
 intro pins s σ H xs us Q I rr h
 obtain ⟨r,lo,n,rfl,hr,hn,hl0,hl1,q⟩:=h
 obtain ⟨u,rfl,ru⟩:=oT rr
 cases ru
 obtain ⟨t,u,v,e⟩:=I.hok r _ hr
 have hsz:Builtin.Range.rangeSize lo (lo+n) 1=((n:Nat):Int):=by rw [rangeSize_one];split<;>omega
 refine call_list_range (I.ok.hd hc) (show IsRange s.heap r lo (lo+n) 1 t u v from e) (small_one (by omega) (by omega) (by omega) (by omega)) hsz (by omega) fun h' tk acc c' hk hS hacc=>?_
 have hv:a8 (((List.range n).map fun (i:Nat)=>lo+(i:Int)).map V.int) acc.toList:=by
  have:∀(m:Nat) (us:List Value) (k:Nat),us.length=m->(∀(j:Nat) v,us[j]?=some v->∃t,v=Value.int (lo+((k:Int)+j)) t)->a8 (((List.range' k m).map fun (i:Nat)=>lo+(i:Int)).map V.int) us:=by
   intro m
   induction m with
   | zero=>intro us k hl _;cases us with
    | nil=>exact .nil
    | cons=>simp at hl
   | succ m ih=>intro us k hl ha;cases us with
    | nil=>simp at hl
    | cons x r=>
     obtain ⟨t,e⟩:=ha 0 x rfl
     refine .cons ⟨t,by simpa using e⟩ (ih r (k+1) (by simpa using hl) fun j v hv=>?_)
     obtain ⟨t,e⟩:=ha (j+1) v (by simpa using hv)
     exact ⟨t,by rw [e];congr 1;push_cast;omega⟩
  rw [List.range_eq_range']
  refine this n acc.toList 0 (by simpa using hacc.1) fun j v hv=>?_
  obtain ⟨t,e⟩:=hacc.2 j v (by simpa using hv)
  exact ⟨t,by rw [e];congr 1;try omega⟩
 refine ⟨.ref s.heap.objs.size,_,I.laid (o:=.lst (((List.range n).map fun (i:Nat)=>lo+(i:Int)).map V.int)) hk (Nat.le_refl _) ⟨by rw [List.length_map,List.length_map,List.length_range];exact Nat.le_of_lt (Nat.lt_of_le_of_lt hn (by decide)),acc.toList,c',hv,by simpa using hS⟩,rfl,q _ I.fresh⟩
end
noncomputable def lvl (ds:List Int)(d:Int):Option Int:=if d∈ds then some (ds.idxOf d:Nat) else none
noncomputable def lvV:Option Int->V
 | none=>.non
 | some i=>.int i
theorem hJ {ds:List Int}(h:bP ds){i:Nat}{d:Int}(hi:i < ds.length)(e:ds.getD i 0=d):lvl ds d=some (i:Int):=by
 have hm:d∈ds:=e▸cN hi
 rw [lvl,if_pos hm]
 have hlt:=List.idxOf_lt_length_iff.mpr hm
 have e2:ds.getD (ds.idxOf d) 0=d:=by
  rw [List.getD_eq_getElem?_getD,List.getElem?_eq_getElem hlt]
  exact List.getElem_idxOf hlt
 have:ds.idxOf d=i:=by
  rcases Nat.lt_trichotomy (ds.idxOf d) i with z | z | z
  ·have:=h.lt z hi;omega
  ·exact z
  ·have:=h.lt z hlt;omega
 rw [this]
theorem xW {ds:List Int}{d:Int}(h:∀i,i < ds.length->ds.getD i 0≠d):lvl ds d=none:=by
 rw [lvl,if_neg fun hm=>?_]
 have hlt:=List.idxOf_lt_length_iff.mpr hm
 refine h _ hlt ?_
 rw [List.getD_eq_getElem?_getD,List.getElem?_eq_getElem hlt]
 exact List.getElem_idxOf hlt
noncomputable def a9 (ds:List Int)(p c:Int):Option Int:=if c=0 then lvl ds p else lvl ds (bS ds - p)
inductive Stp where
 | wind (c l:Int) | load (k c:Int) | unload (k c:Int)
noncomputable def JM (lv:Option Int)(x:List Int):Stp->Option (List Int)
 | .wind _ _=>none
 | .load k c=>match lv with | none=>none | some l=>if x.getD (k.toNat+1) 0=l/\¬10+c∈x.tail then some (x.set (k.toNat+1) (10+c)) else none
 | .unload k c=>match lv with | none=>none | some l=>if x.getD (k.toNat+1) 0=10+c then some (x.set (k.toNat+1) l) else none
noncomputable def Ij:Stp->Int
 | .wind c _=>c
 | .load _ c=>c
 | .unload _ c=>c
noncomputable def stK:Stp->Int
 | .wind _ _=>0
 | .load k _=>k
 | .unload k _=>k
noncomputable def after (ds dead:List Int)(x:List Int):Stp->Option (List Int)
 | .wind c l=>if l < 0\/(ds.length:Int)<=l\/l∈dead then none else some ((if c=0 then ds.getD l.toNat 0 else bS ds - ds.getD l.toNat 0)::x.tail)
 | s=>if stK s < 0\/(x.length:Int)<=stK s+1 then none else JM (a9 ds (x.getD 0 0) (Ij s)) x s
theorem JN {K:W.Frag}{H:Hp}{Q:VK}{a b:Addr}{xs ys:List V}(ha:SqT K H a xs)(hb:SqT K H b ys)(n0:xs≠[])(hn:xs.length+ys.length<=1000)(q:∀p H',av H H'->SqT K H' p (xs++ys)->Q (.ref p) H'):GP K (.ref a) (.ref b) H Q:=by
 refine ⟨a,b,xs,ys,rfl,rfl,ha,hb,n0,Nat.le_of_lt (cY hn),fun e=>?_,fun _ p hp=>q p _ ((av.refl H).lay hp) (SqT.of ag)⟩
 subst e
 exact q a H (av.refl H) (by rw [List.append_nil];exact ha)
theorem lJ {K:W.Frag}{H:Hp}{a:Addr}{xs:List Int}{n:Nat}(h:SqL K H a (xs.map V.int))(hb:xs.length<=100000):Rep K H (n+1) (.ref a) (.lst ((xs.map V.int).map Dt.flat)):=by
 refine .lst h (by rw [List.length_map];exact hb) (by simp) fun i y d e1 e2=>?_
 rw [List.getElem?_map,e1] at e2
 cases e2
 obtain ⟨z,rfl,_⟩:=kj e1
 exact .flat rfl
theorem Bv (a b i:Int):(Builtin.Range.rangePlace? a b 1 i).isSome=decide (a<=i/\i < b):=by
 unfold Builtin.Range.rangePlace?
 rw [Bool.eq_iff_iff]
 simp
theorem Bw (r:Addr)(a b x:Int)(t u v tx:Tok) :
  Meets (Builtin.«range.__contains__» ⟨[.ref r,.int x tx],[]⟩)
   (fun A R s=>s.heap.get? r=some {cls:=.type "range",data:=.fields #[.int a t,.int b u,.int 1 v]}/\R (.ok (.ret (.bool (decide (a<=x/\x < b))))) s):=
 .of_wp fun prog w A R s h=>by
  obtain ⟨hp,g,d,tk,os⟩:=s;obtain ⟨hl,h⟩:=h
  wp_walk using wpAny_loadPart' hl
  rw [Bv]
  exact ⟨_,rfl,h⟩
section
variable {X:Cx}
noncomputable def JO (neg:Bool):R2:=fun x y H Q=>∃(r:Addr) (lo hi i:Int),x=.int i/\y=.ref r/\H r=some (.rng lo hi)/\Q (.bl (if neg=true then !decide (lo<=i/\i < hi) else decide (lo<=i/\i < hi))) H
theorem w9:OpR X (compareOp .NotIn) (JO true):=by
 intro pins s σ H x y v u Q I rx ry h
 obtain ⟨r,lo,hi,i,rfl,rfl,hr,q⟩:=h
 obtain ⟨tx,rfl⟩:=rx
 cases ry
 obtain ⟨t,u,v,e⟩:=I.hok r _ hr
 exact PySem.SeqRoads2.notIn_meets ⟨_,e,rfl⟩ PySem.F.slot_range_contains PySem.F.entry_range_contains (PySem.F.args_range_contains_2 _ _) (Bw r lo hi i t u v tx) ⟨e,_,rfl,⟨.bl _,H,I,rfl,q⟩⟩
noncomputable def GV (K:W.Frag):R2:=fun x y H Q=>∃a b xs ys,x=.ref a/\y=.ref b/\SqT K H a xs/\SqT K H b ys/\xs.length+ys.length<=1000/\∀p H',av H H'->SqT K H' p (xs++ys)->Q (.ref p) H'
theorem E4:OpR X (binaryOp .Add) (GV X.K):=by
 intro pins s σ H x y v u Q I rx ry h
 obtain ⟨a,b,xs,ys,rfl,rfl,ha,hb,hz,q⟩:=h
 by_cases hx:xs=[]
 ·subst hx
  cases rx
  cases ry
  obtain ⟨its,r1,p1,_⟩:=I.tuple ha
  obtain ⟨its2,r2,p2,_⟩:=I.tuple hb
  have e1:=r1.zero
  subst e1
  obtain ⟨⟨cls,dd,data,sl⟩,ho,hc,n,hd⟩:=id p1
  obtain ⟨⟨cls2,dd2,data2,sl2⟩,ho2,hc2,n2,hd2⟩:=id p2
  simp only at hc hd hc2 hd2
  subst hc hd hc2 hd2
  exact concat_meets ⟨_,ho,rfl⟩ ⟨_,ho2,rfl⟩ noFill_tuple_add seq_tuple_add PySem.F.slot_tuple_add PySem.F.entry_tuple_add (PySem.F.args_tuple_add_2 _ _)
   (tuple_addW0 a b _ its2.toArray n n2 dd dd2 sl sl2 rfl) ⟨ho,ho2,⟨.ref b,H,I,rfl,q b H (av.refl H) hb⟩⟩
 ·exact Av pins s σ H _ _ v u Q I rx ry (JN ha hb hx hz q)
end
theorem CY:∀{xs ys:List Int},xs.Pairwise (· < ·)->ys.Pairwise (· < ·)->(∀k,k∈xs↔k∈ys)->xs=ys
 | [],[],_,_,_=>rfl
 | [],y::ys,_,_,h=>absurd ((h y).mpr List.mem_cons_self) (by simp)
 | x::xs,[],_,_,h=>absurd ((h x).mp List.mem_cons_self) (by simp)
 | x::xs,y::ys,hx,hy,h=>by
  obtain ⟨x1,x2⟩:=List.pairwise_cons.mp hx
  obtain ⟨y1,y2⟩:=List.pairwise_cons.mp hy
  have e:x=y:=by
   rcases List.mem_cons.mp ((h x).mp List.mem_cons_self) with e | e
   ·exact e
   ·rcases List.mem_cons.mp ((h y).mpr List.mem_cons_self) with e' | e'
    ·exact e'.symm
    ·have:=y1 x e
     have:=x1 y e'
     omega
  subst e
  rw [CY x2 y2 fun k=>?_]
  constructor
  ·intro hk
   rcases List.mem_cons.mp ((h k).mp (List.mem_cons_of_mem _ hk)) with e | e
   ·have:=x1 k hk
    omega
   ·exact e
  ·intro hk
   rcases List.mem_cons.mp ((h k).mpr (List.mem_cons_of_mem _ hk)) with e | e
   ·have:=y1 k hk
    omega
   ·exact e
structure Cl where
 (B Y S K W:Addr)
structure aI where
 place:Int
 gates:List Bool
 fs:List Bool
 e:Eng
 ws:List Int
structure Cfg where
 ds:List Int
 ls:List Cd
 slow:Int
 fast:Int
 goals:List Int
 ks:List Str
 N:Addr->Prop:=fun _=>False
structure SA where
 (dx ol b cs fl st y kn wh:Addr)
structure JP (rl:Addr)(A:SA):Prop where
 r1:A.ol≠rl
 r2:A.cs≠rl
 r3:A.fl≠rl
 r4:A.kn≠rl
 r5:A.wh≠rl
 o1:A.cs≠A.ol
 o2:A.fl≠A.ol
 o3:A.kn≠A.ol
 o4:A.wh≠A.ol
 f1:A.ol≠A.fl
 f2:A.kn≠A.fl
 f3:A.wh≠A.fl
 w1:A.ol≠A.wh
 w2:A.cs≠A.wh
 w3:A.fl≠A.wh
 w4:A.kn≠A.wh
structure Off (H:Hp)(rl:Addr)(N:Addr->Prop)(A:SA):Prop where
 al:∀p,N p->∃ys,H p=some (.lst ys)
 nr:∀p,N p->rl≠p
 no:∀p,N p->A.ol≠p
 nc:∀p,N p->A.cs≠p
 nf:∀p,N p->A.fl≠p
 nk:∀p,N p->A.kn≠p
 nw:∀p,N p->A.wh≠p
theorem Off.keep {H H':Hp}{rl q:Addr}{N:Addr->Prop}{A:SA}(h:Off H rl N A)(k:aB q H H')(hq:∀p,N p->q≠p):Off H' rl N A:=⟨fun p hp=>by
 obtain ⟨ys,e⟩:=h.al p hp
 exact ⟨ys,k _ _ (hq p hp).symm e⟩,h.nr,h.no,h.nc,h.nf,h.nk,h.nw⟩
theorem Off.same {H H':Hp}{rl:Addr}{N:Addr->Prop}{A:SA}(h:Off H rl N A)(k:av H H'):Off H' rl N A:=⟨fun p hp=>by
 obtain ⟨ys,e⟩:=h.al p hp
 exact ⟨ys,k _ _ e⟩,h.nr,h.no,h.nc,h.nf,h.nk,h.nw⟩
theorem Off.keepI {H H':Hp}{rl q C dx:Addr}{fs:List (Str×V)}{N:Addr->Prop}{A:SA}(h:Off H rl N A)(k:aB q H H')(hq:H q=some (.ins C dx fs)):Off H' rl N A:=h.keep k fun p hp z=>by
 obtain ⟨ys,e⟩:=h.al p hp
 rw [←z,hq] at e
 cases e
structure aQ (C:Cl)(K:W.Frag)(H:Hp)(rl:Addr)(g:Cfg)(s:Addr)(A:SA)(n:aI):Prop where
 ob:H s=some (.ins C.S A.dx [("place",.int n.place),("opened",.ref A.ol),("bells",.ref A.b),("yard",.ref A.y)])
 go:H A.ol=some (.lst (n.gates.map V.bl))
 be:br C.B K H A.b A.cs A.fl A.st g.ls n.fs n.e
 ya:cJ C.Y H A.y A.kn A.wh g.ks n.ws g.ds.length
 ap:JP rl A
 nn:Off H rl g.N A
def dF (C:Cl)(K:W.Frag)(H:Hp)(rl:Addr)(g:Cfg)(s:Addr)(n:aI):Prop:=∃A,aQ C K H rl g s A n
theorem br.off {C:Addr}{K:W.Frag}{H H':Hp}{p b cs fl st:Addr}{ls:List Cd}{fs:List Bool}{e:Eng}{ys:List V}(h:br C K H b cs fl st ls fs e)(s:aB p H H')(hp:H p=some (.lst ys))(n1:cs≠p)(n2:fl≠p):br C K H' b cs fl st ls fs e:=by
 obtain ⟨⟨dx,a⟩,⟨as,c,t⟩,f,g,n,l⟩:=h
 exact ⟨⟨dx,s _ _ (fun z=>by rw [z,hp] at a;cases a) a⟩,⟨as,s _ _ n1 c,t.keep s hp⟩,s _ _ n2 f,g.keep s hp,n,l⟩
theorem br.offI {C D dp:Addr}{K:W.Frag}{H H':Hp}{p b cs fl st:Addr}{ls:List Cd}{fs:List Bool}{e:Eng}{us:List (Str×V)}(h:br C K H b cs fl st ls fs e)(s:aB p H H')(hp:H p=some (.ins D dp us))(n1:b≠p):br C K H' b cs fl st ls fs e:=by
 obtain ⟨⟨dx,a⟩,⟨as,c,t⟩,f,g,n,l⟩:=h
 exact ⟨⟨dx,s _ _ n1 a⟩,⟨as,s _ _ (fun z=>by rw [z,hp] at c;cases c) c,t.keepI s hp⟩,s _ _ (fun z=>by rw [z,hp] at f;cases f) f,g.keepI s hp,n,l⟩
theorem cJ.offI {C D dp:Addr}{H H':Hp}{p y kn wh:Addr}{ks:List Str}{ws:List Int}{m:Int}{us:List (Str×V)}(h:cJ C H y kn wh ks ws m)(s:aB p H H')(hp:H p=some (.ins D dp us))(n1:y≠p):cJ C H' y kn wh ks ws m:=by
 obtain ⟨⟨dx,a⟩,b,c⟩:=h
 exact ⟨⟨dx,s _ _ n1 a⟩,s _ _ (fun z=>by rw [z,hp] at b;cases b) b,s _ _ (fun z=>by rw [z,hp] at c;cases c) c⟩
section
variable {C:Cl}{K:W.Frag}{H H':Hp}{rl s a w bk:Addr}{g:Cfg}{A:SA}{n n0:aI}
theorem aQ.same (h:aQ C K H rl g s A n)(e:av H H'):aQ C K H' rl g s A n:=⟨e _ _ h.ob,e _ _ h.go,h.be.same e,h.ya.same e,h.ap,h.nn.same e⟩
theorem aQ.keep {ys:List V}(h:aQ C K H rl g s A n)(e:aB rl H H')(hr:H rl=some (.lst ys)):aQ C K H' rl g s A n:=
 ⟨e _ _ (fun z=>by have:=h.ob;rw [z,hr] at this;cases this) h.ob,e _ _ h.ap.r1 h.go,h.be.off e hr h.ap.r2 h.ap.r3,h.ya.off e hr h.ap.r4 h.ap.r5,h.ap,h.nn.keep e h.nn.nr⟩
theorem aQ.at (h:aQ C K H rl g s A n):dF C K H rl g s n:=⟨A,h⟩
theorem dF.same (h:dF C K H rl g s n)(e:av H H'):dF C K H' rl g s n:=by
 obtain ⟨A,h⟩:=h
 exact ⟨A,h.same e⟩
theorem dF.keep {ys:List V}(h:dF C K H rl g s n)(e:aB rl H H')(hr:H rl=some (.lst ys)):dF C K H' rl g s n:=by
 obtain ⟨A,h⟩:=h
 exact ⟨A,h.keep e hr⟩
theorem aQ.gates (h:aQ C K H rl g s A n)(e:aB A.ol H H'){gs:List Bool}(hg:H' A.ol=some (.lst (gs.map V.bl))):aQ C K H' rl g s A {n with gates:=gs}:=
 ⟨e _ _ (fun z=>by have:=h.ob;rw [z,h.go] at this;cases this) h.ob,hg,h.be.off e h.go h.ap.o1 h.ap.o2,h.ya.off e h.go h.ap.o3 h.ap.o4,h.ap,h.nn.keep e h.nn.no⟩
structure Row where
 began:Int
 ended:Int
 deed:List V
 speed:Int
 sn:aI
def pf (C:Cl)(K:W.Frag)(H:Hp)(rl:Addr)(g:Cfg)(a:Addr)(r:Row):Prop:=∃dd s,SqT K H a [.int r.began,.int r.ended,.ref dd,.int r.speed,.ref s]/\SqT K H dd r.deed/\dF C K H rl g s r.sn
theorem pf.same {r:Row}(h:pf C K H rl g a r)(e:av H H'):pf C K H' rl g a r:=by
 obtain ⟨dd,s,h1,h2,h3⟩:=h
 exact ⟨dd,s,e.tup h1,e.tup h2,h3.same e⟩
theorem pf.keep {r:Row}{ys:List V}(h:pf C K H rl g a r)(e:aB rl H H')(hr:H rl=some (.lst ys)):pf C K H' rl g a r:=by
 obtain ⟨dd,s,h1,h2,h3⟩:=h
 exact ⟨dd,s,h1.keep e hr,h2.keep e hr,h3.keep e hr⟩
def qB (C:Cl)(K:W.Frag)(H:Hp)(rl:Addr)(g:Cfg)(as:List Addr)(rs:List Row):Prop:=as.length=rs.length/\∀(i:Nat) a r,as[i]?=some a->rs[i]?=some r->pf C K H rl g a r
theorem qB.same {as:List Addr}{rs:List Row}(h:qB C K H rl g as rs)(e:av H H'):qB C K H' rl g as rs:=⟨h.1,fun i a r e1 e2=>(h.2 i a r e1 e2).same e⟩
theorem qB.keep {as:List Addr}{rs:List Row}{ys:List V}(h:qB C K H rl g as rs)(e:aB rl H H')(hr:H rl=some (.lst ys)):qB C K H' rl g as rs:=⟨h.1,fun i a r e1 e2=>(h.2 i a r e1 e2).keep e hr⟩
theorem qB.push {as:List Addr}{rs:List Row}{r:Row}(h:qB C K H rl g as rs)(hr:pf C K H rl g a r):qB C K H rl g (as++[a]) (rs++[r]):=by
 refine ⟨by rw [List.length_append,List.length_append,h.1];rfl,fun i b x e1 e2=>?_⟩
 by_cases hi:i < as.length
 ·rw [List.getElem?_append_left hi] at e1
  rw [List.getElem?_append_left (by rw [←h.1];exact hi)] at e2
  exact h.2 i b x e1 e2
 ·rw [List.getElem?_append_right (by omega)] at e1
  rw [List.getElem?_append_right (by rw [←h.1];omega),←h.1] at e2
  have hz:i - as.length=0:=by
   have:=(List.getElem?_eq_some_iff.mp e1).1
   simp at this
   omega
  rw [hz] at e1 e2
  cases e1
  cases e2
  exact hr
noncomputable def ai (n0:aI)(rs:List Row):aI:=match rs.getLast? with | none=>n0 | some r=>r.sn
noncomputable def bC (rs:List Row):Int:=match rs.getLast? with | none=>0 | some r=>r.ended
structure BAt (C:Cl)(K:W.Frag)(H:Hp)(bk rl:Addr)(g:Cfg)(n0:aI)(rs:List Row):Prop where
 ob:∃dx f,H bk=some (.ins C.K dx [("first",.ref f),("most",.int 300),("rows",.ref rl)])/\dF C K H rl g f n0
 ro:∃as,H rl=some (.lst (as.map V.ref))/\qB C K H rl g as rs
theorem BAt.same {rs:List Row}(h:BAt C K H bk rl g n0 rs)(e:av H H'):BAt C K H' bk rl g n0 rs:=by
 obtain ⟨⟨dx,f,h1,h2⟩,as,h3,h4⟩:=h
 exact ⟨⟨dx,f,e _ _ h1,h2.same e⟩,as,e _ _ h3,h4.same e⟩
structure WAt (C:Cl)(K:W.Frag)(H:Hp)(w bk rl:Addr)(g:Cfg)(n0:aI)(rs:List Row):Prop where
 ob:∃dx dl gl,H w=some (.ins C.W dx [("depths",.ref dl),("slow",.int g.slow),("fast",.int g.fast),("goals",.ref gl),("log",.ref bk)])/\H dl=some (.lst (g.ds.map V.int))/\H gl=some (.lst (g.goals.map V.int))/\dl≠rl/\gl≠rl/\(∀p,g.N p->dl≠p)/\∀p,g.N p->gl≠p
 bo:BAt C K H bk rl g n0 rs
theorem WAt.same {rs:List Row}(h:WAt C K H w bk rl g n0 rs)(e:av H H'):WAt C K H' w bk rl g n0 rs:=by
 obtain ⟨⟨dx,dl,gl,h1,h2,h3,h4⟩,h5⟩:=h
 exact ⟨⟨dx,dl,gl,e _ _ h1,e _ _ h2,e _ _ h3,h4⟩,h5.same e⟩
theorem WAt.keep {rs rs':List Row}{ys:List V}(h:WAt C K H w bk rl g n0 rs)(e:aB rl H H')(hr:H rl=some (.lst ys))(hb:BAt C K H' bk rl g n0 rs'):WAt C K H' w bk rl g n0 rs':=by
 obtain ⟨⟨dx,dl,gl,h1,h2,h3,h4,h6⟩,h5⟩:=h
 exact ⟨⟨dx,dl,gl,e _ _ (fun z=>by rw [z,hr] at h1;cases h1) h1,e _ _ h4 h2,e _ _ h6.1 h3,h4,h6⟩,hb⟩
end
theorem ck {α:Type}(l:List α):l=[]\/∃l' a,l=l'++[a]:=by
 rcases List.eq_nil_or_concat l with h | ⟨l',a,h⟩
 ·exact .inl h
 ·exact .inr ⟨l',a,by rw [h,List.concat_eq_append]⟩
theorem qB.last {C:Cl}{K:W.Frag}{H:Hp}{rl:Addr}{g:Cfg}{as:List Addr}{rs:List Row}{r:Row}(h:qB C K H rl g as (rs++[r])):∃as' a,as=as'++[a]/\qB C K H rl g as' rs/\pf C K H rl g a r:=by
 have hl:=h.1
 rw [List.length_append,List.length_singleton] at hl
 rcases ck as with rfl | ⟨as',a,rfl⟩
 ·cases hl
 ·have hl':as'.length=rs.length:=by rw [List.length_append,List.length_singleton] at hl;omega
  refine ⟨as',a,rfl,⟨hl',fun i b x e1 e2=>?_⟩,?_⟩
  ·have hi:=(List.getElem?_eq_some_iff.mp e1).1
   exact h.2 i b x (by rw [List.getElem?_append_left hi];exact e1) (by rw [List.getElem?_append_left (by omega)];exact e2)
  ·refine h.2 as'.length a r ?_ ?_
   ·rw [List.getElem?_append_right (Nat.le_refl _)];simp
   ·rw [List.getElem?_append_right (by omega),hl'];simp
theorem vV {as:List Addr}{a:Addr}:atI ((as++[a]).map V.ref) (((as++[a]).map V.ref).length - 1:Int)=some (.ref a):=by
 rw [show ((((as++[a]).map V.ref).length:Int) - 1)=((as.length:Nat):Int) by rw [List.length_map,List.length_append];simp]
 exact fq (by rw [List.map_append,List.getElem?_append_right (by rw [List.length_map];exact Nat.le_refl _),List.length_map];simp)
theorem dw (rs:List Row)(r:Row):bC (rs++[r])=r.ended:=by simp [bC]
theorem fg (n0:aI)(rs:List Row)(r:Row):ai n0 (rs++[r])=r.sn:=by simp [ai]
theorem gn {H H':Hp}{x dx:Addr}{o1 o2:HO}(hx:H x=none)(hdx:H dx=none)(kp:aB x (upd (upd H dx o1) x o2) H'):av H H':=fun b o e=>kp b o (ak e hx) (by rw [aG (ak e hx),aG (ak e hdx)];exact e)
theorem fu {H:Hp}{x dx z:Addr}{o1 o2:HO}(h:upd (upd H dx o1) x o2 z=none):H z=none:=upn (upn h)
noncomputable def xX (ks:List Str)(ws:List Int):Bool:=(ks.zip ws).any fun p=>decide (p.1="men") && decide (p.2=10\/p.2=11)
theorem vW {ks:List Str}{ws:List Int}{i:Nat}(h:∀j k x,j < i->ks[j]?=some k->ws[j]?=some x->(decide (k="men") && decide (x=10\/x=11))=false)(hi:ks.length<=i\/ws.length<=i):xX ks ws=false:=by
 unfold xX
 rw [List.any_eq_false]
 intro p hp
 obtain ⟨j,hj⟩:=List.getElem?_of_mem hp
 rw [List.getElem?_zip_eq_some] at hj
 have h1:=(List.getElem?_eq_some_iff.mp hj.1).1
 have h2:=(List.getElem?_eq_some_iff.mp hj.2).1
 rw [h j p.1 p.2 (by omega) hj.1 hj.2]
 exact Bool.false_ne_true
theorem xY {ks:List Str}{ws:List Int}{i:Nat}{k:Str}{x:Int}(h1:ks[i]?=some k)(h2:ws[i]?=some x)(hk:k="men")(hx:x=10\/x=11):xX ks ws=true:=by
 unfold xX
 rw [List.any_eq_true]
 refine ⟨(k,x),List.mem_of_getElem? (i:=i) (by rw [List.getElem?_zip_eq_some];exact ⟨h1,h2⟩),?_⟩
 simp [hk,hx]
theorem vX (x:Int):inV (.int x) [.int 10,.int 11]=decide (x=10\/x=11):=by
 have:=o9 x [10,11]
 rw [show ([10,11]:List Int).map V.int=[V.int 10,V.int 11] from rfl] at this
 rw [this]
 simp
noncomputable def inC (ws:List Int)(c:Int):V:=if 10+c∈ws then .int (ws.idxOf (10+c):Nat) else .non
noncomputable def tM (ws:List Int)(lv:Int)(i:Nat):List Int:=((List.range i).filter fun j=>decide (ws.getD j 0=lv)).map fun (j:Nat)=>(j:Int)
noncomputable def fv (ws:List Int)(lv:Int):List Int:=tM ws lv ws.length
theorem Bx (ws:List Int)(lv:Int)(i:Nat):tM ws lv (i+1)=tM ws lv i++(if ws.getD i 0=lv then [(i:Int)] else []):=by
 unfold tM
 rw [List.range_succ,List.filter_append,List.map_append]
 by_cases h:ws.getD i 0=lv
 ·rw [if_pos h,List.filter_cons,if_pos (by simpa using h)];rfl
 ·rw [if_neg h,List.filter_cons,if_neg (by simpa using h)];rfl
theorem CZ (ws:List Int)(lv:Int)(i:Nat):(tM ws lv i).length<=i:=by
 unfold tM
 rw [List.length_map]
 exact Nat.le_trans (List.length_filter_le _ _) (by rw [List.length_range];exact Nat.le_refl _)
noncomputable def i6 (ds:List Int)(pl:Int):List Int:=((List.range ds.length).filter fun i=>decide (ds.getD i 0=pl\/ds.getD i 0=bS ds - pl)).map fun (i:Nat)=>(i:Int)
structure cH (g:Cfg):Prop where
 sh:bP g.ds
 lc:g.ls.length=g.ds.length
 gc:∀x∈g.ls,dM x
 s1:1<=g.slow
 sf:g.slow<=g.fast
 f5:g.fast<=500
 gk:g.goals.length=g.ks.length
 k30:g.ks.length<=30
noncomputable def bu (g:Cfg)(n:aI):Int:=if xX g.ks n.ws=true then g.slow else g.fast
theorem cH.speed {g:Cfg}(h:cH g)(n:aI):1<=bu g n/\bu g n<=500:=by
 have:=h.s1;have:=h.sf;have:=h.f5
 unfold bu;split<;>omega
inductive Dd where
 | ring (l s:Int) | rept (s:Int) | opn (l:Int) | sht (l:Int) | load (k c:Int) | unload (c:Int) | wind (c l:Int) (k:Str) | fail (l:Int)
noncomputable def ddV:Dd->List V
 | .ring l s=>[.str "ring",.int l,.int s]
 | .rept s=>[.str "repeat",.int s]
 | .opn l=>[.str "open",.int l]
 | .sht l=>[.str "shut",.int l]
 | .load k c=>[.str "load",.int k,.int c]
 | .unload c=>[.str "unload",.int c]
 | .wind c l k=>[.str "wind",.int c,.int l,.str k]
 | .fail l=>[.str "fail",.int l]
theorem xZ (d:Dd):∀x∈ddV d,bY x=true:=by
 cases d<;>intro x hx<;>simp only [ddV,List.mem_cons,List.not_mem_nil,or_false] at hx<;>rcases hx with h | h | h | h<;>(try subst h)<;>(try rfl)<;>simp_all [bY]
theorem E5 (d:Dd):(ddV d).length<=4:=by cases d<;>simp [ddV]
noncomputable def qC:Dd->Prop
 | .load _ c=>0<=c/\c < 2
 | .unload c=>0<=c/\c < 2
 | .wind c _ k=>(0<=c/\c < 2)/\(k="men"\/k="coal")
 | _=>True
inductive Rw where
 | lv | db | nc | nr | ch | na | ul | nt | ct | gs | ce | go
 deriving DecidableEq
def unk (l:Int)(m:Nat):Prop:=¬(0<=l/\l < m)
instance (l:Int) (m:Nat):Decidable (unk l m):=inferInstanceAs (Decidable (¬_))
noncomputable def hV (g:Cfg)(n:aI):Bool:=(i6 g.ds n.place).any fun x=>n.gates.getD x.toNat false
noncomputable def dD (g:Cfg)(n:aI):Dd->Option Rw
 | .ring l s=>if unk l g.ds.length then some .lv else if n.fs.getD l.toNat false=true then some .db else if s=(ft g.ls l).1\/s=(ft g.ls l).2 then none else some .nc
 | .rept s=>match n.e with | .wait _ _=>if 1<=s/\s<=9 then none else some .nc | _=>some .nr
 | .opn l=>if unk l g.ds.length then some .lv else if n.gates.getD l.toNat false=true then some .ch else none
 | .sht l=>if unk l g.ds.length then some .lv else if n.gates.getD l.toNat false=false then some .ch else none
 | .load k c=>if unk k n.ws.length then some .ul else match a9 g.ds n.place c with
  | none=>some .nt
  | some l=>if n.ws.getD k.toNat 0≠l then some .nt else if 10+c∈n.ws then some .ct else if n.gates.getD l.toNat false=true then none else some .gs
 | .unload c=>if ¬10+c∈n.ws then some .ce else match a9 g.ds n.place c with
  | none=>some .nt
  | some l=>if n.gates.getD l.toNat false=true then none else some .gs
 | .wind _ l k=>if unk l g.ds.length then some .lv else if hV g n=true then some .go else if n.e=.armed l (cC g.ls l k) then none else some .na
 | .fail l=>if unk l g.ds.length then some .lv else if n.fs.getD l.toNat false=true then some .ch else none
noncomputable def cK (ds:List Int)(c l:Int):Int:=if c=0 then ds.getD l.toNat 0 else bS ds - ds.getD l.toNat 0
noncomputable def tN (g:Cfg)(n:aI):Dd->Eng
 | .ring l s=>.wait l s
 | .rept s=>match n.e with | .wait l r=>if s=r then .armed l r else .other l r s | e=>e
 | .wind _ l k=>.used l (cC g.ls l k)
 | _=>n.e
noncomputable def aV (g:Cfg)(n:aI)(d:Dd):aI:=
 {place:=match d with | .wind c l _=>cK g.ds c l | _=>n.place
  gates:=match d with | .opn l=>n.gates.set l.toNat true | .sht l=>n.gates.set l.toNat false | _=>n.gates
  fs:=match d with | .fail l=>n.fs.set l.toNat true | _=>n.fs
  e:=tN g n d
  ws:=match d with | .load k c=>n.ws.set k.toNat (10+c) | .unload c=>n.ws.set (n.ws.idxOf (10+c)) ((a9 g.ds n.place c).getD (-1)) | _=>n.ws}
noncomputable def u7 (x:Int):Int:=if x < 0 then -x else x
noncomputable def hZ (way sp:Int):Int:=(way+sp - 1) / sp
noncomputable def cL (g:Cfg)(n:aI):Dd->Int
 | .wind c l _=>hZ (u7 (cK g.ds c l - n.place)) (bu g n)
 | _=>1
noncomputable def eH (g:Cfg)(n0:aI)(rs:List Row)(d:Dd):Row:=⟨bC rs,bC rs+cL g (ai n0 rs) d,ddV d,bu g (aV g (ai n0 rs) d),aV g (ai n0 rs) d⟩
structure bR (g:Cfg)(n:aI):Prop where
 gl:n.gates.length=g.ds.length
 fl:n.fs.length=g.ds.length
 wl:n.ws.length=g.ks.length
 wr:∀x∈n.ws,(0<=x/\x < g.ds.length)\/x=10\/x=11
 un:∀i j,i < n.ws.length->j < n.ws.length->10<=n.ws.getD i 0->n.ws.getD i 0=n.ws.getD j 0->i=j
 st:∃c,(c=0\/c=1)/\∃l,a9 g.ds n.place c=some l
 ew:∀l r,n.e=.wait l r\/n.e=.armed l r->0<=l/\l < g.ds.length/\(r=(ft g.ls l).1\/r=(ft g.ls l).2)
theorem mM (ws:List Int)(n i:Nat)(v:Int)(hi:i < ws.length):(ws.set n v).getD i 0=if n=i then v else ws.getD i 0:=by
 rw [List.getD_eq_getElem?_getD,List.getD_eq_getElem?_getD,List.getElem?_set]
 split
 ·rename_i e
  subst e
  rw [if_pos hi];rfl
 ·rfl
theorem yb {ds:List Int}{d l:Int}(h:lvl ds d=some l):0<=l/\l < ds.length/\ds.getD l.toNat 0=d:=by
 unfold lvl at h
 split at h
 ·rename_i hm
  cases h
  have hlt:=List.idxOf_lt_length_iff.mpr hm
  refine ⟨Int.natCast_nonneg _,by omega,?_⟩
  rw [Int.toNat_natCast,List.getD_eq_getElem?_getD,List.getElem?_eq_getElem hlt]
  exact List.getElem_idxOf hlt
 ·cases h
theorem dN {ds:List Int}{p c l:Int}(h:a9 ds p c=some l):0<=l/\l < ds.length/\ds.getD l.toNat 0=(if c=0 then p else bS ds - p):=by
 unfold a9 at h
 split at h
 ·rename_i e;rw [if_pos e];exact yb h
 ·rename_i e;rw [if_neg e];exact yb h
theorem By {ws:List Int}{k:Int}(h:k∈ws):ws.idxOf k < ws.length/\ws.getD (ws.idxOf k) 0=k:=by
 have hlt:=List.idxOf_lt_length_iff.mpr h
 refine ⟨hlt,?_⟩
 rw [List.getD_eq_getElem?_getD,List.getElem?_eq_getElem hlt]
 exact List.getElem_idxOf hlt
theorem yc {ws:List Int}{n:Nat}{v x:Int}(h:x∈ws.set n v):x∈ws\/x=v:=List.mem_or_eq_of_mem_set h
theorem zr {ds:List Int}(hs:bP ds){c l:Int}(hc:0<=c/\c < 2)(hl:0<=l/\l < ds.length):a9 ds (cK ds c l) c=some l:=by
 obtain ⟨k,rfl⟩:=Int.eq_ofNat_of_zero_le hl.1
 unfold a9 cK
 split
 ·exact hJ hs (by omega) (by rw [Int.toNat_natCast])
 ·exact hJ hs (by omega) (by rw [Int.toNat_natCast];omega)
theorem ifn {c:Prop}[Decidable c]{a:Rw}{x:Option Rw}(h:(if c then some a else x)=none):¬c/\x=none:=by
 split at h
 ·cases h
 ·rename_i n;exact ⟨n,h⟩
theorem ify {c:Prop}[Decidable c]{a:Rw}(h:(if c then none else some a)=none):c:=by
 split at h
 ·assumption
 ·cases h
theorem mO {l:Int}{m:Nat}(h:¬unk l m):0<=l/\l < m:=Decidable.not_not.mp h
theorem Dc {g:Cfg}{n:aI}{l s:Int}(h:dD g n (.ring l s)=none):(0<=l/\l < g.ds.length)/\n.fs.getD l.toNat false=false/\(s=(ft g.ls l).1\/s=(ft g.ls l).2):=by
 obtain ⟨h1,h⟩:=ifn h
 obtain ⟨h2,h⟩:=ifn h
 exact ⟨mO h1,by simpa using h2,ify h⟩
theorem yd {g:Cfg}{n:aI}{s:Int}(h:dD g n (.rept s)=none):∃l r,n.e=.wait l r/\1<=s/\s<=9:=by
 simp only [dD] at h
 split at h
 ·rename_i l r e;exact ⟨l,r,e,ify h⟩
 ·cases h
theorem E6 {g:Cfg}{n:aI}{l:Int}(h:dD g n (.opn l)=none):(0<=l/\l < g.ds.length)/\n.gates.getD l.toNat false=false:=by
 obtain ⟨h1,h⟩:=ifn h
 obtain ⟨h2,h⟩:=ifn h
 exact ⟨mO h1,by simpa using h2⟩
theorem E7 {g:Cfg}{n:aI}{l:Int}(h:dD g n (.sht l)=none):(0<=l/\l < g.ds.length)/\n.gates.getD l.toNat false=true:=by
 obtain ⟨h1,h⟩:=ifn h
 obtain ⟨h2,h⟩:=ifn h
 exact ⟨mO h1,by simpa using h2⟩
theorem De {g:Cfg}{n:aI}{l:Int}(h:dD g n (.fail l)=none):(0<=l/\l < g.ds.length)/\n.fs.getD l.toNat false=false:=by
 obtain ⟨h1,h⟩:=ifn h
 obtain ⟨h2,h⟩:=ifn h
 exact ⟨mO h1,by simpa using h2⟩
theorem ph {g:Cfg}{n:aI}{k c:Int}(h:dD g n (.load k c)=none):(0<=k/\k < n.ws.length)/\∃l,a9 g.ds n.place c=some l/\n.ws.getD k.toNat 0=l/\¬10+c∈n.ws/\n.gates.getD l.toNat false=true:=by
 obtain ⟨h1,h⟩:=ifn h
 refine ⟨mO h1,?_⟩
 cases e:a9 g.ds n.place c with
 | none=>rw [e] at h;cases h
 | some l=>
  rw [e] at h
  obtain ⟨h2,h⟩:=ifn h
  obtain ⟨h3,h⟩:=ifn h
  exact ⟨l,rfl,Decidable.not_not.mp h2,h3,ify h⟩
theorem ko {g:Cfg}{n:aI}{c:Int}(h:dD g n (.unload c)=none):10+c∈n.ws/\∃l,a9 g.ds n.place c=some l/\n.gates.getD l.toNat false=true:=by
 obtain ⟨h1,h⟩:=ifn h
 refine ⟨Decidable.not_not.mp h1,?_⟩
 cases e:a9 g.ds n.place c with
 | none=>rw [e] at h;cases h
 | some l=>rw [e] at h;exact ⟨l,rfl,ify h⟩
theorem lK {g:Cfg}{n:aI}{c l:Int}{k:Str}(h:dD g n (.wind c l k)=none):(0<=l/\l < g.ds.length)/\hV g n=false/\n.e=.armed l (cC g.ls l k):=by
 obtain ⟨h1,h⟩:=ifn h
 obtain ⟨h2,h⟩:=ifn h
 exact ⟨mO h1,by simpa using h2,ify h⟩
theorem bR.next {g:Cfg}{n:aI}{d:Dd}(hg:cH g)(h:bR g n)(ok:qC d)(hr:dD g n d=none):bR g (aV g n d):=by
 have hds:=hg.sh.l6
 cases d with
 | ring l s=>
  obtain ⟨h1,_,h3⟩:=Dc hr
  exact ⟨h.gl,h.fl,h.wl,h.wr,h.un,h.st,fun l' r e=>by
   simp only [aV,tN] at e
   rcases e with e | e
   ·cases e;exact ⟨h1.1,h1.2,h3⟩
   ·cases e⟩
 | rept s=>
  refine ⟨h.gl,h.fl,h.wl,h.wr,h.un,h.st,fun l' r e=>?_⟩
  simp only [aV,tN] at e
  obtain ⟨l0,r0,e0,_⟩:=yd hr
  rw [e0] at e
  simp only at e
  have:=h.ew l0 r0 (.inl e0)
  split at e
  ·rcases e with e | e
   ·cases e
   ·cases e;exact this
  ·rcases e with e | e<;>cases e
 | opn l=>exact ⟨by simp only [aV];rw [List.length_set];exact h.gl,h.fl,h.wl,h.wr,h.un,h.st,h.ew⟩
 | sht l=>exact ⟨by simp only [aV];rw [List.length_set];exact h.gl,h.fl,h.wl,h.wr,h.un,h.st,h.ew⟩
 | fail l=>exact ⟨h.gl,by simp only [aV];rw [List.length_set];exact h.fl,h.wl,h.wr,h.un,h.st,h.ew⟩
 | load k c=>
  obtain ⟨h1,l,hl,h3,h4,_⟩:=ph hr
  have hc:0<=c/\c < 2:=ok
  refine ⟨h.gl,h.fl,by simp only [aV];rw [List.length_set];exact h.wl,fun x hx=>?_,fun i j hi hj h10 e=>?_,h.st,h.ew⟩
  ·rcases yc hx with hx | rfl
   ·exact h.wr x hx
   ·omega
  ·simp only [aV,List.length_set] at hi hj h10 e
   rw [mM _ _ _ _ hi] at h10 e
   rw [mM _ _ _ _ hj] at e
   split at e<;>split at e
   ·omega
   ·exact absurd (e▸cN hj) h4
   ·exact absurd (e▸cN hi) h4
   ·rename_i n1 n2;rw [if_neg n1] at h10;exact h.un i j hi hj h10 e
 | unload c=>
  obtain ⟨h1,l,hl,_⟩:=ko hr
  obtain ⟨l0,l1,l2⟩:=dN hl
  refine ⟨h.gl,h.fl,by simp only [aV];rw [List.length_set];exact h.wl,fun x hx=>?_,fun i j hi hj h10 e=>?_,h.st,h.ew⟩
  ·simp only [aV,hl,Option.getD_some] at hx
   rcases yc hx with hx | rfl
   ·exact h.wr x hx
   ·exact .inl ⟨l0,l1⟩
  ·simp only [aV,List.length_set,hl,Option.getD_some] at hi hj h10 e
   rw [mM _ _ _ _ hi] at h10 e
   rw [mM _ _ _ _ hj] at e
   split at e
   ·rename_i n1;rw [if_pos n1] at h10;omega
   ·rename_i n1
    rw [if_neg n1] at h10
    split at e
    ·omega
    ·exact h.un i j hi hj h10 e
 | wind c l k=>
  obtain ⟨h1,_⟩:=lK hr
  refine ⟨h.gl,h.fl,h.wl,h.wr,h.un,⟨c,by have:=ok.1;omega,l,zr hg.sh ok.1 h1⟩,fun l' r e=>?_⟩
  simp only [aV,tN] at e
  rcases e with e | e<;>cases e
theorem bR.place {g:Cfg}{n:aI}(hg:cH g)(h:bR g n):0<=n.place/\n.place<=bS g.ds:=by
 obtain ⟨c,hc,l,hl⟩:=h.st
 obtain ⟨l0,l1,l2⟩:=dN hl
 have hm:g.ds.getD l.toNat 0∈g.ds:=cN (by omega)
 have:=hg.sh.lo _ hm
 have:=hg.sh.le_whole hm
 split at l2<;>omega
noncomputable def qD (fs:List Bool)(i:Nat):List Int:=((List.range i).filter fun j=>fs.getD j false).map fun (j:Nat)=>(j:Int)
noncomputable def c7 (fs:List Bool):List Int:=qD fs fs.length
theorem zt (fs:List Bool)(i:Nat):(qD fs i).length<=i:=by
 unfold qD
 rw [List.length_map]
 exact Nat.le_trans (List.length_filter_le _ _) (by rw [List.length_range];exact Nat.le_refl _)
theorem jX {fs:List Bool}{x:Int}:x∈c7 fs↔0<=x/\x < fs.length/\fs.getD x.toNat false=true:=by
 unfold c7 qD
 rw [List.mem_map]
 constructor
 ·rintro ⟨j,hj,rfl⟩
  rw [List.mem_filter,List.mem_range] at hj
  exact ⟨Int.natCast_nonneg _,by omega,by rw [Int.toNat_natCast];exact hj.2⟩
 ·rintro ⟨h0,h1,h2⟩
  refine ⟨x.toNat,?_,by omega⟩
  rw [List.mem_filter,List.mem_range]
  exact ⟨by omega,h2⟩
theorem ye (fs:List Bool):(c7 fs).Pairwise (· < ·):=by
 unfold c7 qD
 rw [List.pairwise_map]
 exact (List.pairwise_lt_range.sublist List.filter_sublist).imp fun h=>by omega
theorem av.keeps {H H1 H2:Hp}{p:Addr}(s:av H H1)(k:aB p H1 H2)(hp:H p=none):av H H2:=fun b o e=>k b o (ak e hp) (s b o e)
section
variable {C:Cl}{K:W.Frag}{H H':Hp}{rl s:Addr}{g:Cfg}{A:SA}{n:aI}
theorem aQ.ne_b (h:aQ C K H rl g s A n):s≠A.b:=fun z=>by
 obtain ⟨dx,hb⟩:=h.be.ob
 have:=h.ob
 rw [z,hb] at this
 injection this with this
 injection this with _ _ this
 injection this with this _
 injection this with this _
 exact absurd this (by decide)
theorem aQ.ne_y (h:aQ C K H rl g s A n):s≠A.y:=fun z=>by
 obtain ⟨dx,hb⟩:=h.ya.ob
 have:=h.ob
 rw [z,hb] at this
 injection this with this
 injection this with _ _ this
 injection this with this _
 injection this with this _
 exact absurd this (by decide)
theorem aQ.ne_by (h:aQ C K H rl g s A n):A.y≠A.b:=fun z=>by
 obtain ⟨dx,hb⟩:=h.ya.ob
 obtain ⟨dx2,hb2⟩:=h.be.ob
 rw [z,hb2] at hb
 injection hb with this
 injection this with _ _ this
 injection this with this _
 injection this with this _
 exact absurd this (by decide)
theorem aQ.bells {st':Addr}{e':Eng}(h:aQ C K H rl g s A n)(k:aB A.b H H')(hb:br C.B K H' A.b A.cs A.fl st' g.ls n.fs e'):aQ C K H' rl g s {A with st:=st'} {n with e:=e'}:=by
 obtain ⟨dx,hb0⟩:=h.be.ob
 refine ⟨k _ _ h.ne_b h.ob,k _ _ (fun z=>?_) h.go,hb,h.ya.offI k hb0 h.ne_by,⟨h.ap.r1,h.ap.r2,h.ap.r3,h.ap.r4,h.ap.r5,h.ap.o1,h.ap.o2,h.ap.o3,h.ap.o4,h.ap.f1,h.ap.f2,h.ap.f3,h.ap.w1,h.ap.w2,h.ap.w3,h.ap.w4⟩,⟨(h.nn.keepI k hb0).al,h.nn.nr,h.nn.no,h.nn.nc,h.nn.nf,h.nn.nk,h.nn.nw⟩⟩
 have:=h.go
 rw [z,hb0] at this
 cases this
theorem aQ.fail {fs':List Bool}(h:aQ C K H rl g s A n)(k:aB A.fl H H')(hf:H' A.fl=some (.lst (fs'.map V.bl)))(hl:fs'.length=n.fs.length):aQ C K H' rl g s A {n with fs:=fs'}:=by
 refine ⟨k _ _ (fun z=>?_) h.ob,k _ _ h.ap.f1 h.go,h.be.fail k hf hl,h.ya.off k h.be.of h.ap.f2 h.ap.f3,h.ap,h.nn.keep k h.nn.nf⟩
 have:=h.be.of
 rw [←z,h.ob] at this
 cases this
theorem aQ.spots {ws':List Int}(h:aQ C K H rl g s A n)(k:aB A.wh H H')(hw:H' A.wh=some (.lst (ws'.map V.int))):aQ C K H' rl g s A {n with ws:=ws'}:=by
 refine ⟨k _ _ (fun z=>?_) h.ob,k _ _ h.ap.w1 h.go,h.be.off k h.ya.owh h.ap.w2 h.ap.w3,h.ya.put k h.ap.w4 hw,h.ap,h.nn.keep k h.nn.nw⟩
 have:=h.ya.owh
 rw [←z,h.ob] at this
 cases this
theorem aQ.placed {pl:Int}(h:aQ C K H rl g s A n)(k:aB s H H')(hp:H' s=some (.ins C.S A.dx [("place",.int pl),("opened",.ref A.ol),("bells",.ref A.b),("yard",.ref A.y)])):aQ C K H' rl g s A {n with place:=pl}:=by
 refine ⟨hp,k _ _ (fun z=>?_) h.go,h.be.offI k h.ob h.ne_b.symm,h.ya.offI k h.ob h.ne_y.symm,h.ap,h.nn.keepI k h.ob⟩
 have:=h.go
 rw [z,h.ob] at this
 cases this
theorem aQ.own {p:Addr}{ys:List V}(h:aQ C K H rl g s A n)(hp:g.N p)(k:aB p H H')(e:H' p=some (.lst ys)):aQ C K H' rl g s A n:=by
 obtain ⟨zs,hz⟩:=h.nn.al p hp
 refine ⟨k _ _ (fun z=>by have:=h.ob;rw [z,hz] at this;cases this) h.ob,k _ _ (h.nn.no p hp) h.go,h.be.off k hz (h.nn.nc p hp) (h.nn.nf p hp),h.ya.off k hz (h.nn.nk p hp) (h.nn.nw p hp),h.ap,⟨fun q hq=>?_,h.nn.nr,h.nn.no,h.nn.nc,h.nn.nf,h.nn.nk,h.nn.nw⟩⟩
 by_cases e1:q=p
 ·subst e1;exact ⟨ys,e⟩
 ·obtain ⟨us,hu⟩:=h.nn.al q hq
  exact ⟨us,k _ _ e1 hu⟩
noncomputable def Cfg.plus (g:Cfg)(p:Addr):Cfg:={g with N:=fun q=>g.N q\/q=p}
theorem aQ.grow {p:Addr}{ys:List V}(h:aQ C K H rl g s A n)(hr:rl≠p)(hn:H p=none)(k:av H H')(e:H' p=some (.lst ys)):aQ C K H' rl (g.plus p) s A n:=by
 have h':=h.same k
 obtain ⟨_,⟨as,oc,_⟩,of,_⟩:=id h.be
 obtain ⟨_,okn,owh⟩:=id h.ya
 refine ⟨h'.ob,h'.go,h'.be,h'.ya,h'.ap,⟨fun q hq=>?_,fun q hq=>?_,fun q hq=>?_,fun q hq=>?_,fun q hq=>?_,fun q hq=>?_,fun q hq=>?_⟩⟩
 ·rcases hq with hq | rfl
  ·exact h'.nn.al q hq
  ·exact ⟨ys,e⟩
 ·rcases hq with hq | rfl
  ·exact h.nn.nr q hq
  ·exact hr
 ·rcases hq with hq | rfl
  ·exact h.nn.no q hq
  ·exact ak h.go hn
 ·rcases hq with hq | rfl
  ·exact h.nn.nc q hq
  ·exact ak oc hn
 ·rcases hq with hq | rfl
  ·exact h.nn.nf q hq
  ·exact ak of hn
 ·rcases hq with hq | rfl
  ·exact h.nn.nk q hq
  ·exact ak okn hn
 ·rcases hq with hq | rfl
  ·exact h.nn.nw q hq
  ·exact ak owh hn
end
section
variable {C:Cl}{K:W.Frag}{H H':Hp}{rl s w bk:Addr}{g:Cfg}{n n0:aI}{rs:List Row}
theorem WAt.rows (h:WAt C K H w bk rl g n0 rs):∃as:List Addr,H rl=some (.lst (as.map V.ref)):=by
 obtain ⟨as,hr,_⟩:=h.bo.ro
 exact ⟨as,hr⟩
theorem WAt.own {p:Addr}{ys:List V}(h:WAt C K H w bk rl g n0 rs)(hp:g.N p)(k:aB p H H')(e:H' p=some (.lst ys)):WAt C K H' w bk rl g n0 rs:=by
 obtain ⟨⟨dx,dl,gl,h1,h2,h3,h4,h5,h6,h7⟩,⟨dy,f,h8,A,h9⟩,as,h10,h11⟩:=h
 obtain ⟨zs,hz⟩:=h9.nn.al p hp
 refine ⟨⟨dx,dl,gl,k _ _ (fun z=>by rw [z,hz] at h1;cases h1) h1,k _ _ (h6 p hp) h2,k _ _ (h7 p hp) h3,h4,h5,h6,h7⟩,⟨dy,f,k _ _ (fun z=>by rw [z,hz] at h8;cases h8) h8,A,h9.own hp k e⟩,as,k _ _ (h9.nn.nr p hp) h10,h11.1,fun i a r e1 e2=>?_⟩
 obtain ⟨dd,s,u1,u2,A',u3⟩:=h11.2 i a r e1 e2
 exact ⟨dd,s,u1.keep k hz,u2.keep k hz,A',u3.own hp k e⟩
theorem WAt.grow {p:Addr}{ys:List V}(h:WAt C K H w bk rl g n0 rs)(hn:H p=none)(k:av H H')(e:H' p=some (.lst ys)):WAt C K H' w bk rl (g.plus p) n0 rs:=by
 obtain ⟨⟨dx,dl,gl,h1,h2,h3,h4,h5,h6,h7⟩,⟨dy,f,h8,A,h9⟩,as,h10,h11⟩:=h
 have hr:rl≠p:=ak h10 hn
 refine ⟨⟨dx,dl,gl,k _ _ h1,k _ _ h2,k _ _ h3,h4,h5,fun q hq=>?_,fun q hq=>?_⟩,⟨dy,f,k _ _ h8,A,h9.grow hr hn k e⟩,as,k _ _ h10,h11.1,fun i a r e1 e2=>?_⟩
 ·rcases hq with hq | rfl
  ·exact h6 q hq
  ·exact ak h2 hn
 ·rcases hq with hq | rfl
  ·exact h7 q hq
  ·exact ak h3 hn
 ·obtain ⟨dd,s,u1,u2,A',u3⟩:=h11.2 i a r e1 e2
  exact ⟨dd,s,k.tup u1,k.tup u2,A',u3.grow hr hn k e⟩
end
noncomputable def fh (ds:List Int)(ls:List Cd)(slow fast:Int)(lds:List Ld)(N:Addr->Prop):Cfg:=⟨ds,ls,slow,fast,lds.map (·.2.2),lds.map (·.1),N⟩
noncomputable def cE (ds:List Int)(ls:List Cd)(lds:List Ld):aI:=⟨ds.getD 0 0,ds.map fun _=>false,ls.map fun _=>false,.no,lds.map (·.2.1)⟩
theorem aQ.keepI {C:Cl}{K:W.Frag}{H H':Hp}{rl s x D dp:Addr}{g:Cfg}{A:SA}{n:aI}{us:List (Str×V)}(h:aQ C K H rl g s A n)(k:aB x H H')(hx:H x=some (.ins D dp us))(n1:s≠x)(n2:A.b≠x)(n3:A.y≠x):aQ C K H' rl g s A n:=by
 refine ⟨k _ _ n1 h.ob,k _ _ (fun z=>?_) h.go,h.be.offI k hx n2,h.ya.offI k hx n3,h.ap,h.nn.keepI k hx⟩
 have:=h.go
 rw [z,hx] at this
 cases this
theorem Ik {ds:List Int}{ls:List Cd}{slow fast:Int}{lds:List Ld}{N:Addr->Prop}(h1:bP ds)(h2:ls.length=ds.length)(h3:∀x∈ls,dM x)(h4:1<=slow/\slow<=fast/\fast<=500)(h5:lds.length<=30):cH (fh ds ls slow fast lds N):=
 ⟨h1,h2,h3,h4.1,h4.2.1,h4.2.2,by simp [fh],by simpa [fh] using h5⟩
theorem E8 {ds:List Int}{ls:List Cd}{slow fast:Int}{lds:List Ld}{N:Addr->Prop}(h1:bP ds)(h2:ls.length=ds.length)(h6:∀x∈lds,hG ds.length x):bR (fh ds ls slow fast lds N) (cE ds ls lds):=by
 have l2:=h1.l2
 have l6:=h1.l6
 refine ⟨by simp [fh,cE],by simp [fh,cE,h2],by simp [fh,cE],fun x hx=>?_,fun i j hi hj h10 e=>?_,⟨0,.inl rfl,0,?_⟩,fun l r e=>?_⟩
 ·simp only [cE,List.mem_map] at hx
  obtain ⟨y,hy,rfl⟩:=hx
  exact .inl (h6 y hy).1
 ·exfalso
  have hm:(cE ds ls lds).ws.getD i 0∈(cE ds ls lds).ws:=cN hi
  simp only [cE,List.mem_map] at hm
  obtain ⟨y,hy,e1⟩:=hm
  have:=(h6 y hy).1
  simp only [cE] at h10
  omega
 ·exact hJ h1 (i:=0) (by omega) rfl
 ·rcases e with e | e<;>cases e
end L2
namespace PySem
open PySem.Spec PyProof.Rows
section
variable {prog:Program}{w:World}{A:Around}{E:Value->Shared->Prop}{s:Shared}
theorem vY {it t:Addr}{items:Array Value}(hne:t≠it):∀(n i:Nat) (s:Shared) (Q:List Value->Shared->Prop),s.heap.IsListIter it t i->s.heap.IsList t items->i+n<=items.size->
  (∀h',Heap.IsListIter h' it t (i+n)->Heap.SameBut it s.heap h'->Q ((items.toList.drop i).take n) {s with heap:=h'})->wpAny (model prog w) A (draw (.ref it) n) Q E s
 | 0,i,s,Q,hit,_,_,hQ=>by
  show wpAny _ _ (pure []) Q E s
  exact wpAny_pure (by simpa using hQ s.heap hit (Heap.SameBut.refl ..))
 | n+1,i,s,Q,hit,ht,hle,hQ=>by
  have hlt:i < items.size:=by omega
  show wpAny _ _ (pyNext (.ref it) >>= _) Q E s
  refine wpAny_bind (wpAny_pyNext_list_item hit ht (x:=items[i]) (by simp [hlt]) fun h₁ hit₁ hs₁=>?_)
  refine wpAny_bind (wpAny_holding (vY hne n (i+1) _ _ hit₁ (ht.extBut hs₁.extBut hne) (by omega) fun h₂ hit₂ hs₂=>wpAny_pure ?_))
  have hd:items.toList.drop i=items[i]::items.toList.drop (i+1):=by simp [List.drop_eq_getElem_cons,hlt]
  have:=hQ h₂ (by rw [show i+(n+1)=i+1+n by omega];exact hit₂) (hs₁.trans hs₂)
  rw [hd,List.take_succ_cons] at this
  exact this
theorem qF {t:Addr}{items:Array Value}{Q:List Value->Shared->Prop}(hh:A.handled=none)(ht:s.heap.IsList t items)
  (hQ:∀h',Heap.ExtBut s.heap.objs.size s.heap h'->Q items.toList {s with heap:=h'}):wpAny (model prog w) A (unpackItems (.ref t) items.size none) Q E s:=by
 have hlt:t≠s.heap.objs.size:=by obtain ⟨o,ho,_⟩:=ht;exact Nat.ne_of_lt (Heap.lt_size ho)
 unfold unpackItems
 refine wpAny_bind ?_
 ·unfold notIterableAtAll
  refine wpAny_bind (wpAny_specialOf ht.typeIs slot_list_iter.lookup ?_)
  refine wpAny_pure ?_
  simp only [Bool.false_eq_true,if_false]
  refine wpAny_bind (wpAny_holding (wpAny_pyIter_list ht ?_))
  refine wpAny_bind (wpAny_holding (vY hlt items.size 0 _ _ ⟨_,Heap.get?_push_size _ rfl,rfl,rfl⟩ (ht.push _) (by omega) fun h₁ hit₁ hs₁=>?_))
  have hall:List.take items.size (List.drop 0 items.toList)=items.toList:=by
   rw [List.drop_zero];exact List.take_of_length_le (by simp)
  rw [hall]
  rw [if_neg (by simp)]
  have ht₁:Heap.IsList h₁ t items:=(ht.push _).extBut hs₁.extBut hlt
  refine wpAny_bind (wpAny_holding (wpAny_pyNext_list_end hh hit₁ ht₁ (by simp) fun h₂ he₂=>?_))
  simp only [Option.isSome_none,Bool.false_eq_true,if_false]
  refine wpAny_pure (hQ h₂ fun b o hb e=>he₂ b o hb (hs₁.extBut b o hb (Heap.get?_push_of_some _ e)))
theorem yf {t:Addr}{items:Array Value}{targets:List (Bool×(Value->Sem Unit))}{Q:Unit->Shared->Prop}(hh:A.handled=none)(ht:s.heap.IsList t items)
  (hn:targets.length=items.size) (hstar:targets.findIdx? (·.1)=none)
  (h:∀h',Heap.ExtBut s.heap.objs.size s.heap h'->wpAny (model prog w) A (assignInOrder (targets.map (·.2)) items.toList) Q E {s with heap:=h'}) :
  wpAny (model prog w) A (unpack (.ref t) targets) Q E s:=by
 unfold unpack
 rw [hn,hstar]
 exact wpAny_bind (wpAny_holding (qF hh ht h))
theorem pj {env:Env}{elts:List Expr}{x1}{pos:Pos}{t:Addr}{items:Array Value}{Q:Unit->Shared->Prop}(hh:A.handled=none)(ht:s.heap.IsList t items)
  (hn:(assignEach elts env).length=items.size) (hstar:(assignEach elts env).findIdx? (·.1)=none)
  (h:∀h',Heap.ExtBut s.heap.objs.size s.heap h'->wpAny (model prog w) A (assignInOrder ((assignEach elts env).map (·.2)) items.toList) Q E {s with heap:=h'}) :
  wpAny (model prog w) A (assign (.Tuple elts x1 pos) env (.ref t)) Q E s:=by
 rw [assign_Tuple]
 exact wpAny_bind (wpAny_standAt (yf hh ht hn hstar h))
end
end PySem
namespace L2
open PySem PySem.Spec PyProof.Rows PySem.SeqAt
section
variable {X:Cx}{pos:Pos}
noncomputable def GW (K:W.Frag)(n:Nat)(t:TGs):TG:=fun v σ H Q=>∃a xs,v=.ref a/\SqL K H a xs/\xs.length=n/\t xs σ H Q
theorem Il {es:List Expr}{k:Nat}{t:TGs}{n:Nat}(hc:X.calm=true)(h:PGs X es t)
  (hn:(assignEach es X.env).length=n:=by rfl) (hst:(assignEach es X.env).findIdx? (·.1)=none:=by rfl):PG X (.Tuple es k pos) (GW X.K n t):=by
 intro pins s σ H v u Q I r hw
 obtain ⟨a,xs,e1,hq,hl,hw⟩:=hw
 subst e1
 cases r
 obtain ⟨its,rv,ht,hz⟩:=I.list hq
 refine pj (I.ok.hd hc) ht.isList (by simp [hn,←hl,rv.length]) hst fun h' hx=>?_
 have I1:Inv X pins σ H {s with heap:=h'}:=I.kept (t':=s.toks) fun b o e=>hx b o (Nat.ne_of_lt (Heap.lt_size e)) e
 exact h pins _ σ H xs _ Q I1 (by simpa using rv) hw
noncomputable def Im (K:W.Frag):R2:=fun x y H Q=>∃a b xs ys,x=.ref a/\y=.ref b/\SqL K H a xs/\SqL K H b ys/\xs.all bY=true/\ys.all bY=true/\Q (.bl (!eqL xs ys)) H
theorem Io (hu:X.A.units < cLine):OpR X (compareOp .NotEq) (Im X.K):=by
 intro pins s σ H x y u v Q I rx ry h
 obtain ⟨a,b,xs,ys,rfl,rfl,ha,hb,fa,fb,q⟩:=h
 cases rx;cases ry
 obtain ⟨ia,ra,pa,za⟩:=I.list ha
 obtain ⟨ib,rb,pb,zb⟩:=I.list hb
 have la:=ra.length
 have lb:=rb.length
 by_cases hl:xs.length=ys.length
 ·refine RcNeAt.lists (e:=fun j=>eqV (xs.getD j .non) (ys.getD j .non)) pa.isList pb.isList (by simp only [List.size_toArray];omega) hu (fun j h1 h2=>?_) X.prog X.w _ _ ?_
  ·simp only [List.size_toArray] at h1 h2
   have hx:xs[j]?=some (xs.getD j .non):=by
    rw [List.getD_eq_getElem?_getD,List.getElem?_eq_getElem (by omega)];rfl
   have hy:ys[j]?=some (ys.getD j .non):=by
    rw [List.getD_eq_getElem?_getD,List.getElem?_eq_getElem (by omega)];rfl
   obtain ⟨u,eu,ru⟩:=ra.get hx
   obtain ⟨v,ev,rv⟩:=rb.get hy
   have e1:ia.toArray[j]=u:=by
    have:=List.getElem?_eq_some_iff.mp eu
    simpa using this.2
   have e2:ib.toArray[j]=v:=by
    have:=List.getElem?_eq_some_iff.mp ev
    simpa using this.2
   rw [e1,e2]
   exact qy ru rv (List.all_eq_true.mp fa _ (List.mem_of_getElem? hx)) (List.all_eq_true.mp fb _ (List.mem_of_getElem? hy))
  ·have e:(List.range ia.toArray.size).all (fun j=>eqV (xs.getD j .non) (ys.getD j .non))=eqL xs ys:=by
    rw [List.size_toArray,←la]
    exact sT hl
   rw [e]
   exact ⟨.bl (!eqL xs ys),H,I,rfl,q⟩
 ·refine RcNeAt.lists_lengths pa.isList pb.isList (by simp only [List.size_toArray,bne_iff_ne,ne_eq];omega) hu X.prog X.w _ _ ?_
  have e:eqL xs ys=false:=by
   cases he:eqL xs ys with
   | false=>rfl
   | true=>exact absurd (sS he) hl
  rw [e] at q
  exact ⟨.bl true,H,I,rfl,q⟩
end
end L2
namespace L2
open PySem PySem.Spec PyProof.Rows
inductive Run (g:Cfg)(n0:aI):List Row->Prop
 | nil:Run g n0 []
 | snoc {rs:List Row} {d:Dd} (h:Run g n0 rs) (ok:qC d) (hr:dD g (ai n0 rs) d=none):Run g n0 (rs++[eH g n0 rs d])
theorem yg {α:Type}{xs ys:List α}{a b:α}(h:xs++[a]=ys++[b]):xs=ys/\a=b:=by
 have:=List.append_inj' h rfl
 exact ⟨this.1,by simpa using this.2⟩
theorem Run.inv {g:Cfg}{n0:aI}{rs:List Row}{r:Row}(h:Run g n0 (rs++[r])):Run g n0 rs/\∃d,qC d/\dD g (ai n0 rs) d=none/\r=eH g n0 rs d:=by
 generalize e:rs++[r]=rs' at h
 cases h with
 | nil=>simp at e
 | @snoc rs2 d h ok hr=>
  obtain ⟨rfl,rfl⟩:=yg e
  exact ⟨h,d,ok,hr,rfl⟩
theorem Run.snap {g:Cfg}{n0:aI}{rs:List Row}(hg:cH g)(h0:bR g n0)(h:Run g n0 rs):bR g (ai n0 rs):=by
 induction h with
 | nil=>exact h0
 | snoc h ok hr ih=>
  rw [fg]
  exact ih.next hg ok hr
theorem Run.deeds {g:Cfg}{n0:aI}{rs:List Row}(h:Run g n0 rs):∀r∈rs,∃d,r.deed=ddV d:=by
 induction h with
 | nil=>intro r hr;cases hr
 | @snoc rs d h ok hr ih=>
  intro r hr
  rcases List.mem_append.mp hr with hr | hr
  ·exact ih r hr
  ·rw [List.mem_singleton] at hr
   subst hr
   exact ⟨d,rfl⟩
theorem u9 {w s:Int}(hw:0<=w)(hs:1<=s):0<=hZ w s:=Int.ediv_nonneg (by omega) (by omega)
theorem rH (x:Int):0<=u7 x:=by unfold u7;split<;>omega
theorem dz {g:Cfg}(hg:cH g)(n:aI)(d:Dd):0<=cL g n d:=by
 cases d<;>first | (simp only [cL];exact u9 (rH _) (hg.speed n).1) | (simp only [cL];decide)
theorem Run.now {g:Cfg}{n0:aI}{rs:List Row}(hg:cH g)(h:Run g n0 rs):0<=bC rs:=by
 induction h with
 | nil=>exact Int.le_refl 0
 | @snoc rs d h ok hr ih=>
  rw [dw]
  have:=dz hg (ai n0 rs) d
  show 0<=bC rs+_
  omega
def sU (K:W.Frag)(H:Hp)(a:Addr)(r:Row):Prop:=∃dd,SqT K H a [.int r.began,.int r.ended,.ref dd]/\SqT K H dd r.deed
def c8 (K:W.Frag)(H:Hp)(as:List Addr)(rs:List Row):Prop:=as.length=rs.length/\∀(i:Nat) a r,as[i]?=some a->rs[i]?=some r->sU K H a r
theorem c8.same {K:W.Frag}{H H':Hp}{as:List Addr}{rs:List Row}(h:c8 K H as rs)(e:av H H'):c8 K H' as rs:=⟨h.1,fun i a r e1 e2=>by
 obtain ⟨dd,h1,h2⟩:=h.2 i a r e1 e2
 exact ⟨dd,e.tup h1,e.tup h2⟩⟩
theorem c8.keep {K:W.Frag}{H H':Hp}{p:Addr}{ys:List V}{as:List Addr}{rs:List Row}(h:c8 K H as rs)(e:aB p H H')(hp:H p=some (.lst ys)):c8 K H' as rs:=⟨h.1,fun i a r e1 e2=>by
 obtain ⟨dd,h1,h2⟩:=h.2 i a r e1 e2
 exact ⟨dd,h1.keep e hp,h2.keep e hp⟩⟩
theorem c8.nil {K:W.Frag}{H:Hp}:c8 K H [] []:=⟨rfl,fun i a r e _=>by simp at e⟩
theorem c8.push {K:W.Frag}{H:Hp}{as:List Addr}{rs:List Row}{a:Addr}{r:Row}(h:c8 K H as rs)(hr:sU K H a r):c8 K H (as++[a]) (rs++[r]):=by
 refine ⟨by rw [List.length_append,List.length_append,h.1];rfl,fun i b x e1 e2=>?_⟩
 by_cases hi:i < as.length
 ·rw [List.getElem?_append_left hi] at e1
  rw [List.getElem?_append_left (by rw [←h.1];exact hi)] at e2
  exact h.2 i b x e1 e2
 ·rw [List.getElem?_append_right (by omega)] at e1
  rw [List.getElem?_append_right (by rw [←h.1];omega),←h.1] at e2
  have hz:i - as.length=0:=by
   have:=(List.getElem?_eq_some_iff.mp e1).1
   simp at this
   omega
  rw [hz] at e1 e2
  cases e1
  cases e2
  exact hr
theorem c8.last {K:W.Frag}{H:Hp}{as:List Addr}{rs:List Row}{r:Row}(h:c8 K H as (rs++[r])):∃as' a,as=as'++[a]/\c8 K H as' rs/\sU K H a r:=by
 have hl:=h.1
 rw [List.length_append,List.length_singleton] at hl
 rcases ck as with rfl | ⟨as',a,rfl⟩
 ·cases hl
 ·have hl':as'.length=rs.length:=by rw [List.length_append,List.length_singleton] at hl;omega
  refine ⟨as',a,rfl,⟨hl',fun i b x e1 e2=>?_⟩,?_⟩
  ·have hi:=(List.getElem?_eq_some_iff.mp e1).1
   exact h.2 i b x (by rw [List.getElem?_append_left hi];exact e1) (by rw [List.getElem?_append_left (by omega)];exact e2)
  ·refine h.2 as'.length a r ?_ ?_
   ·rw [List.getElem?_append_right (Nat.le_refl _)];simp
   ·rw [List.getElem?_append_right (by omega),hl'];simp
theorem WAt.off {C:Cl}{K:W.Frag}{H:Hp}{w bk rl:Addr}{g:Cfg}{n0:aI}{rs:List Row}(h:WAt C K H w bk rl g n0 rs)(p:Addr)(hp:g.N p):rl≠p:=by
 obtain ⟨dx,f,_,A,hA⟩:=h.bo.ob
 exact hA.nn.nr p hp
section
variable {X:Cx}
noncomputable def Ip (C:Addr)(m:Str)(sp:Sp)(dvs:List V)(E':XT)(ta:TE)(t:TA):TE:=fun σ H Q=>vL C m sp dvs (fun cls _ H'=>E' cls σ H') ta t σ H Q
end
end L2
namespace PySem
open Sem (wp)
open Builtin PySem.Spec PyProof.Rows PySem.SeqAt
theorem qG:fillsNumberSlot (.type "tuple") "mul"=pure false:=
 fillsNumberSlot_seq (id:="tuple.__mul__") (r:=some (.builtin "tuple.__rmul__")) F.slot_tuple_mul.lookup (by decide +kernel) F.slot_tuple_rmul.lookup (by decide +kernel)
theorem xa:seqRepeat? (.type "tuple")=pure (some (.builtin "tuple.__mul__")):=by
 unfold seqRepeat?
 rw [seqSlot_of (T:="tuple") (name:="__mul__") (id:="tuple.__mul__") F.slot_tuple_mul.lookup (by decide +kernel),seqSlot_of (T:="tuple") (name:="__rmul__") (id:="tuple.__rmul__") F.slot_tuple_rmul.lookup (by decide +kernel)]
 rfl
theorem kq (a:Int)(t:Tok)(l:Addr)(items:Array Value)(n:Nat)(dd:Option Addr)(sl:Array (Option Value)) :
  Meets (Builtin.«int.__rmul__» ⟨[.int a t,.ref l],[]⟩) (fun _ R s=>s.heap.get? l=some {cls:=.type "tuple",dict:=dd,data:=.seq items n,slots:=sl}/\R (.ok (.ret Value.notImplemented)) s):=
 .of_wp fun prog w A R s h=>by obtain ⟨hp,g,d,tk,os⟩:=s;obtain ⟨hl,h⟩:=h;wp_walk;exact ⟨_,rfl,h⟩
theorem zu (l:Addr)(items:Array Value)(n:Nat)(dd:Option Addr)(sl:Array (Option Value))(x:Int)(u:Tok)(h2:2<=x)(h3:x<=100)(hz:items.size=1) :
  Meets (Builtin.«tuple.__mul__» ⟨[.ref l,.int x u],[]⟩) (fun A R s=>s.heap.get? l=some {cls:=.type "tuple",dict:=dd,data:=.seq items n,slots:=sl}/\
   R (.ok (.ret (.ref s.heap.objs.size))) {s with heap:=s.heap.push {cls:=.type "tuple",data:=.seq ((List.replicate x.toNat items).foldl (·++·) #[])}}):=
 .of_wp fun prog w A R s h=>by
  obtain ⟨hp,g,d,tk,os⟩:=s;obtain ⟨hl,h⟩:=h
  have c1:¬(decide (x < -(2 ^ 63)) || decide (x≥2 ^ 63))=true:=by simp;omega
  have c2:¬(items.isEmpty || x == 1)=true:=by
   simp only [Array.isEmpty,Bool.or_eq_true,beq_iff_eq,decide_eq_true_eq];omega
  have c3:¬(decide (x<=0) || items.isEmpty)=true:=by
   simp only [Array.isEmpty,Bool.or_eq_true,beq_iff_eq,decide_eq_true_eq];omega
  have c4:¬((items.size:Int) * x > (2 ^ 63 - 1) / 8):=by rw [hz];omega
  have c5:¬Builtin.Tuple.tupleTooMany ((items.size:Int) * x)=true:=by
   simp only [Builtin.Tuple.tupleTooMany,decide_eq_true_eq,hz,sizeLine_eq];omega
  have c6:¬((List.foldl (fun x1 x2=>x1++x2) #[] (List.replicate x.toNat items)).size > sizeLine):=by
   have f0:∀(m:Nat) (b:Array Value),(List.foldl (fun x1 x2=>x1++x2) b (List.replicate m items)).size=b.size+m:=fun m=>by
    induction m with
    | zero=>intro b;rfl
    | succ m ih=>intro b;rw [List.replicate_succ,List.foldl_cons,ih,Array.size_append,hz];omega
   rw [f0,sizeLine_eq]
   show ¬(0+x.toNat > _)
   omega
  wp_walk using wpAny_loadPart' hl
  rw [if_neg c1]
  wp_walk using wpAny_loadPart' hl
  rw [if_neg c4]
  wp_walk using wpAny_loadPart' hl
  rw [if_neg c5]
  wp_walk using wpAny_loadPart' hl
  exact ⟨_,rfl,h⟩
theorem lL {M:Model}{A:Around}{E:Value->Shared->Prop}{s:Shared}{β:Type}{c:β}{f:Nat->β->Sem (ForInStep β)}{Q:β->Shared->Prop} :
  ∀(l:List Nat) (j:Nat) (hj:j < l.length) (hno:∀i (hi:i < l.length),i < j->∀Q',Q' (.yield c) s->wpAny M A (f l[i] c) Q' E s) (hit:wpAny M A (f l[j] c) (fun r s1=>match r with | .done b=>Q b s1 | .yield _=>False) E s),wpAny M A (forIn l c f) Q E s
 | [],j,hj,_,_=>absurd hj (Nat.not_lt_zero _)
 | x::l,0,hj,_,hit=>by
  rw [List.forIn_cons]
  refine wpAny_bind (wpAny_mono hit ?_ (fun _ _ z=>z))
  intro r s1 h1
  cases r with
  | done b=>exact wpAny_pure h1
  | yield b=>exact h1.elim
 | x::l,j+1,hj,hno,hit=>by
  rw [List.forIn_cons]
  refine wpAny_bind (hno 0 (Nat.succ_pos _) (Nat.succ_pos _) _ ?_)
  exact lL l j (by simpa using hj) (fun i hi hij=>hno (i+1) (by simpa using hi) (by omega)) hit
theorem tO {M:Model}{A:Around}{E:Value->Shared->Prop}{s:Shared}{β:Type}{c:β}{f:Nat->β->Sem (ForInStep β)}{Q:β->Shared->Prop}{n:Nat}(j:Nat)(hj:j < n)
  (h:(∀i,i < j->∀Q',Q' (.yield c) s->wpAny M A (f i c) Q' E s)/\wpAny M A (f j c) (fun r s1=>match r with | .done b=>Q b s1 | .yield _=>False) E s) :
  wpAny M A (forIn ([:n]:Std.Legacy.Range) c f) Q E s:=by
 rw [Std.Legacy.Range.forIn_eq_forIn_range']
 have hl:([:n]:Std.Legacy.Range).size=n:=by simp [Std.Legacy.Range.size]
 refine lL _ j (by simp [hl];exact hj) (fun i hi hij Q' q=>?_) ?_
 ·have:=h.1 i hij Q' q
  simpa using this
 ·have:=h.2
  simpa using this
theorem va (l:Addr)(items:Array Value)(n:Nat)(dd:Option Addr)(sl:Array (Option Value))(x:Value)(e:Value->Bool)(j:Nat)(hj:j < items.size)
  (hit:e items[j]=true) (hno:∀m (hm:m < items.size),m < j->e items[m]=false) :
  Meets (Builtin.«tuple.index» ⟨[.ref l,x],[]⟩)
   (fun A R s=>s.heap.get? l=some {cls:=.type "tuple",dict:=dd,data:=.seq items n,slots:=sl}/\(∀y,y∈items->EqAt A.in1 s y x (e y))/\R (.ok (.ret (.int j s.toks))) {s with toks:=s.toks+1}):=
 .of_wp fun prog w A R s h=>by
  obtain ⟨hp,g,d,tk,os⟩:=s;obtain ⟨hl,he,h⟩:=h
  wp_walk using wpAny_loadPart' hl,tO j (show j < min items.size items.size by omega)
  refine ⟨fun i hi Q' q=>?_,?_⟩
  ·have hm:i < items.size:=by omega
   simp only [getElem?_pos items i hm]
   refine wpAny_bind (he _ (Array.getElem_mem hm) prog w _ _ ?_)
   rw [hno i hm hi,if_neg Bool.false_ne_true]
   exact wpAny_pure q
  ·simp only [getElem?_pos items j hj]
   refine wpAny_bind (he _ (Array.getElem_mem hj) prog w _ _ ?_)
   rw [hit,if_pos rfl]
   wp_walk
   exact ⟨_,rfl,h⟩
section
variable {prog:Program}{w:World}{A:Around}{E:Value->Shared->Prop}{s:Shared}
theorem vb {l:Addr}{vs:List Value}{Q:List Value->Shared->Prop}(hl:IsTup s.heap l vs.toArray)
  (h:Q vs {s with heap:=(s.heap.push (seqObj "list" #[] 0)).update s.heap.objs.size (Obj.mapSeq (·++vs.toArray))}) (hsz:vs.length<=sizeLine:=by size_fits) :
  wpAny (model prog w) A (collect (.ref l)) Q E s:=by
 obtain ⟨o,ho,hc,n,hd⟩:=id hl
 unfold collect
 refine wpAny_bind (wpAny_runValue (codeAny_builtin entry_proto_collect' ?_))
 show wpAny _ _ (do again (.builtin "list.__iadd__" ⟨[←newList [],.ref l],[]⟩)) _ _ s
 refine wpAny_bind (wpAny_newList (wpAny_pure ⟨Code.quiet_builtin _ (by decide +kernel),codeAny_builtin entry_list_iadd' ?_⟩))
 show wpAny _ _ (Builtin.List.listExtendWith (.ref s.heap.objs.size) (.ref l) (.ref s.heap.objs.size)) _ _ {s with heap:=s.heap.push (seqObj "list" #[] 0)}
 unfold Builtin.List.listExtendWith
 have ho':(s.heap.push (seqObj "list" #[] 0)).get? l=some o:=Heap.get?_push_of_some _ ho
 refine wpAny_bind (wpAny_typeOf (T:="tuple") ⟨o,ho',hc⟩ ?_)
 have ht:(Value.type "tuple" == Value.type "tuple")=true:=by rfl
 rw [if_pos (by rw [ht];simp)]
 refine wpAny_bind (listItems_at ho' hd ?_)
 refine wpAny_bind (listItems_at (xs:=#[]) (n:=0) (Heap.get?_push_size _ rfl) rfl ?_)
 rw [if_neg (by simp)]
 refine wpAny_bind (listUpdate_at (xs:=#[]) (n:=0) (Heap.get?_push_size _ rfl) rfl ?_ (Nat.zero_le _) (by show (#[]++vs.toArray).size<=sizeLine+1;simp only [Array.size_append,List.size_toArray,List.length_nil];omega))
 refine wpAny_pure ?_
 show wpAny (model prog w) A (do
   let o ←load s.heap.objs.size
   match o.data with
   | .seq xs _=>pure xs.toList
   | _=>unsupported "internal:collect") Q E {s with heap:=(s.heap.push (seqObj "list" #[] 0)).update s.heap.objs.size (Obj.mapSeq (·++vs.toArray))}
 refine wpAny_bind (wpAny_load (get?_update_seq (Heap.get?_push_size _ rfl) _) ?_)
 show wpAny _ _ (pure ((#[]:Array Value)++vs.toArray).toList) Q E _
 rw [show ((#[]:Array Value)++vs.toArray).toList=vs by simp]
 exact wpAny_pure h
theorem xc {l:Addr}{vs:List Value}{ns:List Int}{Q:Value->Shared->Prop}(hl:IsTup s.heap l vs.toArray)(hI:IntsAre vs ns)(h64:vs.length < 64)
  (h:∀(out:Array Value) (ns':List Int),IntsAre out.toList ns'->ns'.Perm ns->ns'.Pairwise (·<=·)->Q (.ref (s.heap.objs.size+1)) {s with heap:=sortedAll s.heap vs out}) :
  wpAny (model prog w) A (call (.builtin "sorted") [.ref l]) Q E s:=by
 refine Calls.call_function_entry kind_sorted plain_sorted entry_sorted (args_sorted1 _) ?_
 unfold Builtin.«sorted»
 refine wpAny_bind (m:=checkCount "sorted" 1 1 _) (wpAny_pure ?_)
 refine wpAny_bind (vb hl ?_ (by rw [sizeLine_eq];omega))
 refine wpAny_bind (wpAny_newList ?_)
 have hsz:((s.heap.push (seqObj "list" #[] 0)).update s.heap.objs.size (Obj.mapSeq (·++vs.toArray))).objs.size=s.heap.objs.size+1:=by
  rw [Heap.size_update,size_push']
 have hoL:(((s.heap.push (seqObj "list" #[] 0)).update s.heap.objs.size (Obj.mapSeq (·++vs.toArray))).push (seqObj "list" vs.toArray 0)).get? (s.heap.objs.size+1)=some (seqObj "list" vs.toArray 0):=by
  rw [←hsz];exact Heap.get?_push_size _ rfl
 show wpAny _ _ _ _ _ {s with heap:=((s.heap.push (seqObj "list" #[] 0)).update s.heap.objs.size (Obj.mapSeq (·++vs.toArray))).push (seqObj "list" vs.toArray 0)}
 rw [hsz]
 refine wpAny_bind (wpAny_holding (wpAny_call_entry slot_list_sort ⟨_,hoL,rfl⟩ entry_list_sort (list_sort_tree hoL hI h64 fun out ns' a1 a2 a3=>⟨_,rfl,?_⟩) (args_list_sort _)))
 exact wpAny_pure ⟨_,rfl,h out ns' a1 a2 a3⟩
end
end PySem
namespace L2
open PySem PySem.Spec PyProof.Rows PySem.SeqAt
section
variable {X:Cx}
noncomputable def GX (K:W.Frag):R2:=fun x y H Q=>∃l k v,x=.ref l/\y=.int k/\SqT K H l [v]/\2<=k/\k<=100/\∀p,H p=none->Q (.ref p) (upd H p (.tup (List.replicate k.toNat v)))
theorem Df {α:Type}(n:Nat)(x:α):(List.replicate n [x]).flatten=List.replicate n x:=by
 induction n with
 | zero=>rfl
 | succ n ih=>rw [List.replicate_succ,List.replicate_succ,List.flatten_cons,ih];rfl
theorem yh {v:V}{u:Value}(r:bA v u):∀n,a8 (List.replicate n v) (List.replicate n u)
 | 0=>.nil
 | n+1=>.cons r (yh r n)
theorem E9:OpR X (binaryOp .Mult) (GX X.K):=by
 intro pins s σ H x y v u Q I rx ry h
 obtain ⟨l,k,z,rfl,rfl,hS,h1,h2,q⟩:=h
 cases rx
 obtain ⟨t,rfl⟩:=ry
 obtain ⟨its,r,ht,hz⟩:=I.tuple hS
 obtain ⟨w,rfl,rw1⟩:=r.one
 obtain ⟨⟨cls,dd,data,sl⟩,ho,hc,n,hd⟩:=id ht
 simp only at hc hd
 subst hc hd
 have e:List.foldl (fun x1 x2=>x1++x2) #[] (List.replicate k.toNat [w].toArray)=(List.replicate k.toNat w).toArray:=by
  have:=vQ [w] k.toNat []
  rw [List.nil_append,Df] at this
  exact this
 refine wpAny_binaryOp_repeat_ref (T:="tuple") (U:="int") (by decide) ⟨_,ho,rfl⟩ (fun s'=>typeIs_int s' k t) qG F.fills_int_mul F.slot_int_rmul xa F.slot_int_index.lookup
  (call_meets F.slot_int_rmul (typeIs_int s k t) F.entry_int_rmul (F.args_int_rmul_2 _ _) (kq k t l [w].toArray n dd sl)
   ⟨ho,rfl,⟨_,ho,rfl⟩,call_meets F.slot_tuple_mul ⟨_,ho,rfl⟩ F.entry_tuple_mul (F.args_tuple_mul_2 _ _) (zu l [w].toArray n dd sl k t h1 h2 rfl) ⟨ho,?_⟩⟩)
 rw [e]
 refine ⟨.ref s.heap.objs.size,_,I.laid (t':=s.toks) (o:=.tup (List.replicate k.toNat z)) (fun b ob q=>Heap.get?_push_of_some _ q) (Nat.le_refl _) ?_,rfl,q _ (I.hok.fresh (Nat.le_refl _))⟩
 exact ⟨by rw [List.length_replicate,sizeLine_eq];omega,_,yh rw1 _,g0.new _ _⟩
noncomputable def AK:V->List V->Hp->VK->Prop:=fun x vs H Q=>∃(l:Addr) (ns:List Int) (k:Int),x=.ref l/\vs=[.int k]/\H l=some (.tup (ns.map V.int))/\k∈ns/\Q (.int (ns.idxOf k:Nat)) H
theorem Bz:MtR X "tuple.index" AK:=by
 intro pins s σ H x vs v us Q I rx rv h
 obtain ⟨l,ns,k,rfl,rfl,hq,hk,q⟩:=h
 cases rx
 obtain ⟨u,rfl,t,rfl⟩:=rv.one
 obtain ⟨its,r,pl,hz⟩:=I.tuple (SqT.of hq)
 have hi:IntsAre its ns:=qA r
 obtain ⟨⟨cls,dd,data,sl⟩,ho,hc,n,hd⟩:=id pl
 simp only at hc hd
 subst hc hd
 have hlen:=hi.length
 have hj:ns.idxOf k < ns.length:=List.idxOf_lt_length_iff.mpr hk
 refine call_meets PySem.F.slot_tuple_index ⟨_,ho,rfl⟩ PySem.F.entry_tuple_index (PySem.F.args_tuple_index_2 _ _)
  (va l its.toArray n dd sl (.int k t) (isInt k) (ns.idxOf k) (by simpa [hlen] using hj) ?_ ?_) ⟨ho,fun y hy=>(eq_isInt k t hi y (by simpa using hy)).at _ _,?_⟩
 ·show isInt k its[ns.idxOf k]=true
  rw [isInt_at k hi _ (by omega) hj]
  simpa using List.getElem_idxOf hj
 ·intro j hjs hlt
  show isInt k its[j]=false
  rw [isInt_at k hi j (by simpa using hjs) (by omega)]
  exact ne_of_lt_idxOf hlt _
 ·exact ⟨.int (ns.idxOf k:Nat),H,I.tok _,⟨_,rfl⟩,q⟩
noncomputable def JQ (r:V->List V->Hp->VK->Prop)(to:TE)(t:TA):TE:=fun σ H Q=>to σ H fun x H1=>(∃a xs,x=.ref a/\H1 a=some (.tup xs))/\t σ H1 fun xs H2=>r x xs H2 Q
theorem Iq {o e:Expr}{es:List Expr}{to:TE}{t:TA}{name:Str}{apos cpos:Pos}{id:String}{r:V->List V->Hp->VK->Prop}(pa:PlainAttrs "tuple")(slot:Slot "tuple" name id)(hty:typeOf (.builtin id)=pure (.type "method_descriptor"))(hm:MtR X id r)(ho:PE X o to)(ha:PA X (e::es) t)
  (hbase:attributeBase o name X.env (eval o X.env)=eval o X.env:=by rfl)
  (hfew:((backTo cpos (starEach (e::es) X.env)).all (fun x=>!x.1) && (backToKw cpos (keywordEach [] X.env)).all (fun x=>x.1.isSome)
   && decide ((e::es).length+([]:List Keyword).length+(if ([]:List Keyword).isEmpty then 0 else 1) < 30))=true:=by rfl)
  (hline:(apos.endLine == cpos.line)=true:=by rfl) (hs:starEach (e::es) X.env=(false,eval e X.env)::starEach es X.env:=by rfl) (hplain:(backTo cpos (starEach es X.env)).any (·.1)=false:=by rfl) :
  PE X (.Call (.Attribute o name apos) (e::es) [] cpos) (JQ r to t):=by
 intro pins s σ H Q I h
 refine wpAny_Call_method_late hbase hfew hline rfl (thn (ho pins s σ H _ I h) fun v s1 ⟨x,H1,I1,r1,ty,q1⟩=>?_)
 obtain ⟨a,xs,rfl,hH⟩:=ty
 cases r1
 obtain ⟨_,its,_,ob,e1,⟨c1,_⟩,d1⟩:=I1.hok a _ hH
 refine ⟨"tuple",id,pa,slot,hty,⟨ob,e1,c1⟩,fun b eb=>?_,?_⟩
 ·cases eb;exact ⟨ob,e1,d1⟩
 have hA:=ha cpos pins s1 σ H1 _ I1 q1
 rw [hs] at hA ⊢
 refine Calls.callWith_builtin (by show (false || (backTo cpos (starEach es X.env)).any (·.1))=false;rw [hplain]<;>rfl) (Calls.evalArgs_plain ?_)
 exact thn hA fun us s2 ⟨vs,H2,I2,r2,q2⟩=>hm pins s2 σ H2 (.ref a) vs (.ref a) us Q I2 rfl r2 q2
end
section
variable {X:Cx}
noncomputable def Dg (K:W.Frag):List V->Hp->VK->Prop:=fun xs H Q=>∃(a:Addr) (ns:List Int),xs=[.ref a]/\SqT K H a (ns.map V.int)/\ns.length < 64/\∀(l:Addr) (ms:List Int),H l=none->ms.Perm ns->ms.Pairwise (·<=·)->Q (.ref l) (upd H l (.lst (ms.map V.int)))
theorem zw:eG X (.builtin "sorted") (Dg X.K):=by
 intro pins s σ H xs us Q I r h
 obtain ⟨a,ns,rfl,hS,hn,q⟩:=h
 obtain ⟨u,rfl,ru⟩:=oT r
 cases ru
 obtain ⟨its,rv,pl,hz⟩:=I.tuple hS
 have hI:IntsAre its ns:=qA rv
 have hlen:its.length=ns.length:=hI.length
 refine xc pl hI (by omega) fun out ms a1 a2 a3=>?_
 obtain ⟨c,hc⟩:=sortedAll_at s.heap its out
 have hml:ms.length=ns.length:=a2.length_eq
 have J:=I.laid (a:=s.heap.objs.size+1) (o:=.lst (ms.map V.int)) (t':=s.toks) (h':=sortedAll s.heap its out) (fun b o e=>sortedAll_old e) (Nat.le_succ _) (show dE X.prog X.w _ _ _ (.lst (ms.map V.int)) from ⟨by rw [List.length_map,hml];exact Nat.le_of_lt (cY (by omega)),out.toList,c,vT a1,by rw [Array.toArray_toList];exact hc⟩)
 exact ⟨.ref (s.heap.objs.size+1),_,J,rfl,q _ ms (I.hok.fresh (Nat.le_succ _)) a2 a3⟩
end
end L2
namespace L2
open PySem PySem.Spec PyProof.Rows
def fP {α:Type}(P:Addr->α->Prop)(as:List Addr)(xs:List α):Prop:=as.length=xs.length/\∀(i:Nat) a x,as[i]?=some a->xs[i]?=some x->P a x
section
variable {α:Type}{P Q:Addr->α->Prop}{as:List Addr}{xs:List α}{a:Addr}{x:α}
theorem fP.imp (h:fP P as xs)(f:∀a x,P a x->Q a x):fP Q as xs:=⟨h.1,fun i a x e1 e2=>f _ _ (h.2 i a x e1 e2)⟩
theorem fP.nil:fP P [] []:=⟨rfl,fun i a r e _=>by simp at e⟩
theorem fP.push (h:fP P as xs)(hr:P a x):fP P (as++[a]) (xs++[x]):=by
 refine ⟨by rw [List.length_append,List.length_append,h.1];rfl,fun i b y e1 e2=>?_⟩
 by_cases hi:i < as.length
 ·rw [List.getElem?_append_left hi] at e1
  rw [List.getElem?_append_left (by rw [←h.1];exact hi)] at e2
  exact h.2 i b y e1 e2
 ·rw [List.getElem?_append_right (by omega)] at e1
  rw [List.getElem?_append_right (by rw [←h.1];omega),←h.1] at e2
  have hz:i - as.length=0:=by
   have:=(List.getElem?_eq_some_iff.mp e1).1
   simp at this
   omega
  rw [hz] at e1 e2
  cases e1
  cases e2
  exact hr
theorem fP.last (h:fP P as (xs++[x])):∃as' a,as=as'++[a]/\fP P as' xs/\P a x:=by
 have hl:=h.1
 rw [List.length_append,List.length_singleton] at hl
 rcases ck as with rfl | ⟨as',a,rfl⟩
 ·cases hl
 ·have hl':as'.length=xs.length:=by rw [List.length_append,List.length_singleton] at hl;omega
  refine ⟨as',a,rfl,⟨hl',fun i b y e1 e2=>?_⟩,?_⟩
  ·have hi:=(List.getElem?_eq_some_iff.mp e1).1
   exact h.2 i b y (by rw [List.getElem?_append_left hi];exact e1) (by rw [List.getElem?_append_left (by omega)];exact e2)
  ·refine h.2 as'.length a x ?_ ?_
   ·rw [List.getElem?_append_right (Nat.le_refl _)];simp
   ·rw [List.getElem?_append_right (by omega),hl'];simp
end
def ie (K:W.Frag)(H:Hp)(a:Addr)(x:aI×Int):Prop:=∃gt lt ht dt:Addr,SqT K H a [.int x.1.place,.ref gt,.ref lt,.ref ht,.ref dt,.int x.2]/\SqT K H gt (x.1.gates.map V.bl)/\H lt=some (.tup (x.1.ws.map V.int))/\SqT K H ht (nV x.1.e)/\SqT K H dt ((c7 x.1.fs).map V.int)
theorem ie.same {K:W.Frag}{H H':Hp}{a:Addr}{x:aI×Int}(h:ie K H a x)(s:av H H'):ie K H' a x:=by
 obtain ⟨gt,lt,ht,dt,h1,h2,h3,h4,h5⟩:=h
 exact ⟨gt,lt,ht,dt,s.tup h1,s.tup h2,s _ _ h3,s.tup h4,s.tup h5⟩
theorem ie.keep {K:W.Frag}{H H':Hp}{a p:Addr}{ys:List V}{x:aI×Int}(h:ie K H a x)(s:aB p H H')(hp:H p=some (.lst ys)):ie K H' a x:=by
 obtain ⟨gt,lt,ht,dt,h1,h2,h3,h4,h5⟩:=h
 exact ⟨gt,lt,ht,dt,h1.keep s hp,h2.keep s hp,s _ _ (fun z=>by rw [z,hp] at h3;cases h3) h3,h4.keep s hp,h5.keep s hp⟩
noncomputable def ig (n0:aI)(rs:List Row):List (aI×Int):=(n0,0)::rs.map fun r=>(r.sn,r.ended)
theorem nW (n0:aI)(rs:List Row)(r:Row):ig n0 (rs++[r])=ig n0 rs++[(r.sn,r.ended)]:=by simp [ig]
theorem zx (n0:aI)(rs:List Row):(ig n0 rs).getLast?=some (ai n0 rs,bC rs):=by
 rcases ck rs with rfl | ⟨rs',r,rfl⟩
 ·rfl
 ·rw [nW,List.getLast?_concat,fg,dw]
theorem vZ (n0:aI)(rs:List Row):(ig n0 rs).length=rs.length+1:=by simp [ig]
theorem Dh {K:W.Frag}{H:Hp}{as:List Addr}{n0:aI}{rs:List Row}(h:fP (ie K H) as (ig n0 rs)):∃as' a,as=as'++[a]/\ie K H a (ai n0 rs,bC rs):=by
 have hl:=zx n0 rs
 rcases ck (ig n0 rs) with e | ⟨l,x,e⟩
 ·rw [e] at hl;cases hl
 ·rw [e,List.getLast?_concat] at hl
  cases hl
  rw [e] at h
  obtain ⟨as',a,ea,_,ha⟩:=h.last
  exact ⟨as',a,ea,ha⟩
theorem mP {as:List Addr}{a:Addr}:atI ((as++[a]).map V.ref) (-1)=some (.ref a):=by
 rw [List.map_append]
 exact Cy _ _
structure dW (K:W.Frag)(H:Hp)(p dl cl ll:Addr)(g:Cfg)(lds:List Ld):Prop where
 ob:H p=some (.lst [.ref dl,.ref cl,.int g.slow,.int g.fast,.ref ll])
 od:H dl=some (.lst (g.ds.map V.int))
 oc:∃as:List Addr,H cl=some (.lst (as.map V.ref))/\cG cdV K H as g.ls
 ol:∃as:List Addr,H ll=some (.lst (as.map V.ref))/\jm K H as lds
 ek:g.ks=lds.map (·.1)
theorem dW.same {K:W.Frag}{H H':Hp}{p dl cl ll:Addr}{g:Cfg}{lds:List Ld}(h:dW K H p dl cl ll g lds)(s:av H H'):dW K H' p dl cl ll g lds:=by
 obtain ⟨h1,h2,⟨as,h3,h4⟩,⟨bs,h5,h6⟩,h7⟩:=h
 exact ⟨s _ _ h1,s _ _ h2,⟨as,s _ _ h3,h4.same s⟩,⟨bs,s _ _ h5,h6.same s⟩,h7⟩
def bD (a b c:Addr)(H H':Hp):Prop:=∀d o,d≠a->d≠b->d≠c->H d=some o->H' d=some o
theorem bD.of {a b c:Addr}{H H':Hp}(s:av H H'):bD a b c H H':=fun d o _ _ _ e=>s d o e
theorem bD.a {a b c:Addr}{H H':Hp}(s:aB a H H'):bD a b c H H':=fun d o n _ _ e=>s d o n e
theorem bD.b {a b c:Addr}{H H':Hp}(s:aB b H H'):bD a b c H H':=fun d o _ n _ e=>s d o n e
theorem bD.c {a b c:Addr}{H H':Hp}(s:aB c H H'):bD a b c H H':=fun d o _ _ n e=>s d o n e
theorem bD.trans {a b c:Addr}{H H1 H2:Hp}(s:bD a b c H H1)(t:bD a b c H1 H2):bD a b c H H2:=fun d o n m k e=>t d o n m k (s d o n m k e)
theorem av.keeps3 {a b c:Addr}{H H1 H2:Hp}(s:av H H1)(k:bD a b c H1 H2)(ha:H a=none)(hb:H b=none)(hc:H c=none):av H H2:=fun d o e=>k d o (ak e ha) (ak e hb) (ak e hc) (s d o e)
structure yi (C:Cl)(K:W.Frag)(H:Hp)(w bk rl sl wl:Addr)(g:Cfg)(n0:aI)(rs:List Row):Prop where
 wk:WAt C K H w bk rl g n0 rs
 st:∃as:List Addr,H sl=some (.lst (as.map V.ref))/\fP (ie K H) as (ig n0 rs)
 ro:∃as:List Addr,H wl=some (.lst (as.map V.ref))/\c8 K H as rs
 ns:g.N sl
 nw:g.N wl
 ne:sl≠wl
 run:Run g n0 rs
theorem yi.same {C:Cl}{K:W.Frag}{H H':Hp}{w bk rl sl wl:Addr}{g:Cfg}{n0:aI}{rs:List Row}(h:yi C K H w bk rl sl wl g n0 rs)(s:av H H'):yi C K H' w bk rl sl wl g n0 rs:=by
 obtain ⟨h1,⟨as,h2,h3⟩,⟨bs,h4,h5⟩,h6,h7,h8,h9⟩:=h
 exact ⟨h1.same s,⟨as,s _ _ h2,h3.imp fun a x q=>q.same s⟩,⟨bs,s _ _ h4,h5.same s⟩,h6,h7,h8,h9⟩
noncomputable def vc (K:W.Frag)(H:Hp)(n:aI)(t:Int):Dd->V->Prop
 | .rept s,v=>∃(p:Addr) (l r:Int),v=.ref p/\n.e=.wait l r/\SqT K H p [.bl (decide (s=r)),.int r,.int s]
 | _,v=>v=.int t
theorem AL {K:W.Frag}{l:Addr}{ls:List Ld}{te:TE}{cm:List (Option Nat)}{σ:St}{H:Hp}{Q:VK}{j:Nat}(f:Ld->V)(hL:eM K H l ls)(hn:ls.length<=sizeLine)(hj:(bZ cm σ)[j]?=some none)
  (he:∀a x,SqT K H a (ldV x)->∀N:VK,N (f x) H->te ((bZ cm σ).set j (some (.ref a))) H N)
  (hd:∀p,H p=none->Q (.ref p) (upd H p (.lst (ls.map f)))):o8 (Itl K l) (fm j) sC te cm σ Q H:=by
 obtain ⟨as,hS,hlen,hT⟩:=hL
 refine tK ls.length (fun i acc H'=>H'=H/\acc=(ls.take i).map f) ⟨rfl,by simp⟩ ?_ ?_ ?_ ?_
 ·rintro i acc H' hi ⟨rfl,_⟩
  have ha:as[i]?=some as[i]:=List.getElem?_eq_getElem (by omega)
  exact ⟨_,.ref as[i],hS,by rw [List.getElem?_map,ha];rfl⟩
 ·rintro acc H' ⟨rfl,_⟩
  exact ⟨_,hS,by rw [List.length_map];omega⟩
 ·rintro i acc H' hi ⟨rfl,rfl⟩
  have ha:as[i]?=some as[i]:=List.getElem?_eq_getElem (by omega)
  have hx:ls[i]?=some ls[i]:=List.getElem?_eq_getElem hi
  refine ⟨by rw [List.length_map,List.length_take];omega,fun x H2 y M hM=>?_⟩
  obtain ⟨e,y⟩:=y
  subst e
  have hy:=y _ hS
  rw [List.getElem?_map,ha] at hy
  cases hy
  refine ⟨zp hj,?_⟩
  unfold sC;dsimp only
  split
  ·refine he as[i] ls[i] (hT i _ _ ha hx) _ (hM _ _ ⟨rfl,?_⟩)
   rw [List.take_succ_eq_append_getElem hi,List.map_append];rfl
  ·rename_i z;exact absurd rfl z
 ·rintro acc H' ⟨rfl,rfl⟩ p hp
  rw [List.take_length]
  exact hd p hp
theorem Ir {n:Nat}(h:0 < n):ixN n (-1)=some (n - 1):=by
 unfold ixN
 rw [if_neg (by omega),if_pos (by omega)]
 congr 1
 omega
end L2
namespace L2
open PySem PySem.Spec PyProof.Rows PySem.SeqAt
theorem BA (fs:List Bool)(n i:Nat)(v:Bool):(fs.set n v).getD i false=if n=i/\i < fs.length then v else fs.getD i false:=by
 rw [List.getD_eq_getElem?_getD,List.getD_eq_getElem?_getD,List.getElem?_set]
 by_cases e:n=i
 ·subst e
  by_cases h:n < fs.length
  ·rw [if_pos rfl,if_pos h,if_pos ⟨rfl,h⟩];rfl
  ·rw [if_pos rfl,if_neg h,if_neg (fun z=>h z.2),List.getElem?_eq_none (by omega)]
 ·rw [if_neg e,if_neg (fun z=>e z.1)]
theorem BB {fs:List Bool}{l:Int}{ms:List Int}(h0:0<=l)(h1:l < fs.length)(h2:fs.getD l.toNat false=false)(hp:ms.Perm (c7 fs++[l]))(hs:ms.Pairwise (·<=·)):ms=c7 (fs.set l.toNat true):=by
 have hl:¬l∈c7 fs:=fun z=>by rw [(jX.mp z).2.2] at h2;cases h2
 have hnd:(c7 fs++[l]).Nodup:=by
  rw [List.nodup_append]
  refine ⟨(ye fs).imp fun h=>by omega,by simp,fun a ha b hb e=>?_⟩
  rw [List.mem_singleton] at hb
  subst hb e
  exact hl ha
 have hn:ms.Nodup:=hp.nodup_iff.mpr hnd
 have hu:ms.Pairwise (· < ·):=(hs.and hn).imp fun ⟨x,y⟩=>by omega
 refine CY hu (ye _) fun k=>?_
 rw [hp.mem_iff,List.mem_append,List.mem_singleton,jX,jX,List.length_set,BA]
 constructor
 ·rintro (⟨a,b,c⟩ | rfl)
  ·refine ⟨a,b,?_⟩
   split
   ·rfl
   ·exact c
  ·exact ⟨h0,h1,by rw [if_pos ⟨rfl,by omega⟩]⟩
 ·rintro ⟨a,b,c⟩
  split at c
  ·rename_i e
   exact .inr (by omega)
  ·exact .inl ⟨a,b,c⟩
theorem BC (fs:List Bool):(c7 fs).length<=fs.length:=zt fs fs.length
theorem pk {α:Type}(f:α->V)(xs:List α)(n:Nat)(v:α):(xs.map f).set n (f v)=(xs.set n v).map f:=(List.map_set ..).symm
section
variable {X:Cx}
noncomputable def GY:R2:=fun x y H Q=>∃a b xs ys,x=.ref a/\y=.ref b/\H a=some (.tup xs)/\H b=some (.tup ys)/\xs.length+ys.length<=1000/\∀p H',av H H'->H' p=some (.tup (xs++ys))->Q (.ref p) H'
theorem Fb:OpR X (binaryOp .Add) GY:=by
 intro pins s σ H x y v u Q I rx ry h
 obtain ⟨a,b,xs,ys,rfl,rfl,ha,hb,hz,q⟩:=h
 by_cases hx:xs=[]
 ·subst hx
  cases rx
  cases ry
  obtain ⟨its,r1,p1,_⟩:=I.tuple (SqT.of ha)
  obtain ⟨its2,r2,p2,_⟩:=I.tuple (SqT.of hb)
  have e1:=r1.zero
  subst e1
  obtain ⟨⟨cls,dd,data,sl⟩,ho,hc,n,hd⟩:=id p1
  obtain ⟨⟨cls2,dd2,data2,sl2⟩,ho2,hc2,n2,hd2⟩:=id p2
  simp only at hc hd hc2 hd2
  subst hc hd hc2 hd2
  exact concat_meets ⟨_,ho,rfl⟩ ⟨_,ho2,rfl⟩ noFill_tuple_add seq_tuple_add PySem.F.slot_tuple_add PySem.F.entry_tuple_add (PySem.F.args_tuple_add_2 _ _)
   (tuple_addW0 a b _ its2.toArray n n2 dd dd2 sl sl2 rfl) ⟨ho,ho2,⟨.ref b,H,I,rfl,q b H (av.refl H) hb⟩⟩
 ·refine Av pins s σ H _ _ v u Q I rx ry ⟨a,b,xs,ys,rfl,rfl,SqT.of ha,SqT.of hb,hx,by rw [sizeLine_eq];omega,fun e=>q a H (av.refl H) (by rw [e,List.append_nil];exact ha),fun _ p hp=>q p _ ((av.refl H).lay hp) ag⟩
end
end L2
namespace L2
open PySem PySem.Spec PyProof.Rows
def onI (x:V)(P:Int->Prop):Prop:=match x with | .int i=>P i | _=>False
def onB (x:V)(P:Bool->Prop):Prop:=match x with | .bl i=>P i | _=>False
def onR (x:V)(P:Addr->Prop):Prop:=match x with | .ref i=>P i | _=>False
def onO (x:Option (Option V))(P:V->Prop):Prop:=match x with | some (some v)=>P v | _=>False
def onC (xs:List V)(P:V->List V->Prop):Prop:=match xs with | v::r=>P v r | []=>False
def onN (xs:List V)(P:Prop):Prop:=match xs with | []=>P | _=>False
theorem Fc (i:Int)(P:Int->Prop):onI (.int i) P=P i:=rfl
theorem Iu (i:Bool)(P:Bool->Prop):onB (.bl i) P=P i:=rfl
theorem Fd (i:Addr)(P:Addr->Prop):onR (.ref i) P=P i:=rfl
theorem Di (v:V)(P:V->Prop):onO (some (some v)) P=P v:=rfl
theorem Dj (v:V)(r:List V)(P:V->List V->Prop):onC (v::r) P=P v r:=rfl
theorem Fe (P:Prop):onN [] P=P:=rfl
theorem xg {x:V}{P:Int->Prop}:(∃i,x=.int i/\P i)↔onI x P:=by cases x<;>simp [onI]
theorem sV {x:V}{P:Bool->Prop}:(∃i,x=.bl i/\P i)↔onB x P:=by cases x<;>simp [onB]
theorem xh {x:V}{P:Addr->Prop}:(∃i,x=.ref i/\P i)↔onR x P:=by cases x<;>simp [onR]
theorem fz {x:V}{P:Addr->Prop}(h:onR x P):∃i,x=.ref i/\P i:=xh.mpr h
theorem nX {x:V}{P:Int->Prop}(h:onI x P):∃i,x=.int i/\P i:=xg.mpr h
theorem Ff {x:Option (Option V)}{P:V->Prop}:(∃v,x=some (some v)/\P v)↔onO x P:=by
 rcases x with _ | _ | v<;>simp [onO]
theorem Fg {xs:List V}{P:V->List V->Prop}:(∃v r,xs=v::r/\P v r)↔onC xs P:=by
 cases xs with
 | nil=>exact ⟨fun ⟨_,_,e,_⟩=>(List.cons_ne_nil _ _ e.symm).elim,fun h=>False.elim h⟩
 | cons v r=>exact ⟨fun ⟨_,_,e,h⟩=>by cases e;exact h,fun h=>⟨v,r,rfl,h⟩⟩
theorem Fh {xs:List V}{P:Prop}:(xs=[]/\P)↔onN xs P:=by cases xs<;>simp [onN]
theorem Kw {α β:Type}(f:α->β)(a:α)(l:List α):List.map f (a::l)=f a::List.map f l:=rfl
theorem Kx {α β:Type}(f:α->β):List.map f ([]:List α)=[]:=rfl
theorem Ky {α:Type}(a:α)(l m:List α):(a::l)++m=a::(l++m):=rfl
theorem Kz {α:Type}(m:List α):([]:List α)++m=m:=rfl
theorem JR {α:Type}(a:α)(l:List α):(a::l)[0]?=some a:=rfl
theorem JS {α:Type}(a:α)(l:List α)(n:Nat):(a::l)[n+1]?=l[n]?:=rfl
theorem JT {α:Type}(a b:α)(l:List α):(a::l).set 0 b=b::l:=rfl
theorem JU {α:Type}(a b:α)(l:List α)(n:Nat):(a::l).set (n+1) b=a::l.set n b:=rfl
theorem KA {α:Type}(a:α)(n:Nat):List.replicate (n+1) a=a::List.replicate n a:=rfl
theorem KC {α:Type}(a:α):List.replicate 0 a=[]:=rfl
theorem Iv (N:List Str)(vs:List V):L2.kZ N vs=vs.map some++List.replicate (N.length - vs.length) none:=rfl
theorem σN (cm:List (Option Nat))(σ:St):bZ (none::cm) σ=none::bZ cm σ:=rfl
theorem σS (i:Nat)(cm:List (Option Nat))(σ:St):bZ (some i::cm) σ=(σ[i]?).getD none::bZ cm σ:=rfl
theorem σ0 (σ:St):bZ [] σ=[]:=rfl
theorem JV {α:Type}(a b:α):(some a).getD b=a:=rfl
theorem KG {α:Type}(a:α)(l:List α):(a::l).length=l.length+1:=rfl
theorem KH {α:Type}:([]:List α).length=0:=rfl
theorem JW {A B:Prop}:(if true=true then A else B)=A:=rfl
theorem JX {A B:Prop}:(if false=true then A else B)=B:=rfl
theorem KJ {p:Prop}[Decidable p]{A B:Prop}(h:if p then A else B):if decide p=true then A else B:=by
 by_cases e:p
 ·rw [if_pos e] at h;rw [if_pos (decide_eq_true e)];exact h
 ·rw [if_neg e] at h;rw [if_neg (by simp [e])];exact h
section
variable {α β:Type}
theorem ceq {f g:α->β->Prop}(h:∀x y,f x y↔g x y):f=g:=funext fun x=>funext fun y=>propext (h x y)
noncomputable def Dk (i:Nat):TE:=fun σ H Q=>onO σ[i]? fun v=>Q v H
theorem Fi (i:Nat):Ho i=Dk i:=funext fun σ=>funext fun H=>funext fun Q=>propext Ff
noncomputable def tB' (t:TE):TT:=fun σ H Q=>t σ H fun x H1=>onB x fun c=>Q c H1
theorem GZ (t:TE):tB t=tB' t:=funext fun σ=>funext fun H=>funext fun Q=>congrArg (t σ H) (ceq fun _ _=>sV)
theorem Dl (t:TE):lD t=tB' t:=GZ t
noncomputable def zy (g:Int->Int->V):R2:=fun x y H Q=>onI x fun i=>onI y fun j=>Q (g i j) H
theorem two_iff {x y:V}{P:Int->Int->Prop}:(∃i j,x=.int i/\y=.int j/\P i j)↔onI x fun i=>onI y fun j=>P i j:=⟨fun ⟨i,j,e,f,h⟩=>by subst e f;exact h,fun h=>let ⟨i,e,h⟩:=nX h;let ⟨j,f,h⟩:=nX h;⟨i,j,e,f,h⟩⟩
theorem tP (g:Int->Int->V):rI0 g=zy g:=funext fun x=>funext fun y=>ceq fun _ _=>two_iff
noncomputable def rI' (C:Int->Int->Prop)(g:Int->Int->V):R2:=fun x y H Q=>onI x fun i=>onI y fun j=>C i j/\Q (g i j) H
theorem Dm (C:Int->Int->Prop)(g:Int->Int->V):rI C g=rI' C g:=funext fun x=>funext fun y=>ceq fun _ _=>two_iff
noncomputable def rU' (g:Int->V):V->Hp->VK->Prop:=fun x H Q=>onI x fun i=>Q (g i) H
theorem JY (g:Int->V):rU g=rU' g:=funext fun x=>ceq fun _ _=>xg
def eqP (x y:V)(P:Bool->Prop):Prop:=match x,y with
 | .int i,.int j=>P (decide (i=j))
 | .str i,.str j=>P (decide (i=j))
 | .bl i,.bl j=>P (decide (i=j))
 | x,y=>uW x y=true/\P (decide (x=y))
theorem AM {x y:V}{P:Bool->Prop}:(uW x y=true/\P (decide (x=y)))↔eqP x y P:=by
 cases x<;>cases y<;>simp [eqP,uW]
theorem Fj (i j:Int)(P:Bool->Prop):eqP (.int i) (.int j) P=P (decide (i=j)):=rfl
theorem Fk (i j:Str)(P:Bool->Prop):eqP (.str i) (.str j) P=P (decide (i=j)):=rfl
theorem Iw (i j:Bool)(P:Bool->Prop):eqP (.bl i) (.bl j) P=P (decide (i=j)):=rfl
noncomputable def Iy:R2:=fun x y H Q=>eqP x y fun b=>Q (.bl b) H
theorem Iz:rEq=Iy:=funext fun x=>funext fun y=>ceq fun H Q=>AM (P:=fun b=>Q (.bl b) H)
noncomputable def KL:R2:=fun x y H Q=>eqP x y fun b=>Q (.bl (!b)) H
noncomputable def mZ (p:Int->Int->Prop)[d:∀i j,Decidable (p i j)](ta tb:TE):TT:=fun σ H Q=>ta σ H fun x H1=>tb σ H1 fun y H2=>onI x fun i=>onI y fun j=>if p i j then Q true H2 else Q false H2
theorem zz {p:Prop}[Decidable p]{Q:Bool->Prop}:Q (decide p)=if p then Q true else Q false:=by
 by_cases h:p
 ·rw [if_pos h,decide_eq_true h]
 ·rw [if_neg h,decide_eq_false h]
theorem sW (p:Int->Int->Prop)[d:∀i j,Decidable (p i j)](ta tb:TE):lD (tOp (rI0 fun i j=>.bl (decide (p i j))) ta tb)=mZ p ta tb:=by
 funext σ H Q
 refine congrArg (ta σ H) (funext fun x=>funext fun H1=>congrArg (tb σ H1) (ceq fun y H2=>?_))
 cases x<;>cases y<;>simp [rI0,onI,zz (Q:=fun b=>Q b H2)]
theorem IA (ta tb:TE):lD (tOp (rI0 fun i j=>.bl (decide (i < j))) ta tb)=mZ (fun i j=>i < j) ta tb:=sW _ ta tb
theorem IB (ta tb:TE):lD (tOp (rI0 fun i j=>.bl (decide (i<=j))) ta tb)=mZ (fun i j=>i<=j) ta tb:=sW _ ta tb
theorem IC (ta tb:TE):lD (tOp (rI0 fun i j=>.bl (decide (j < i))) ta tb)=mZ (fun i j=>j < i) ta tb:=sW _ ta tb
theorem ID (ta tb:TE):lD (tOp (rI0 fun i j=>.bl (decide (j<=i))) ta tb)=mZ (fun i j=>j<=i) ta tb:=sW _ ta tb
def eqT (x y:V)(Y N:Prop):Prop:=match x,y with
 | .int i,.int j=>if i=j then Y else N
 | .str i,.str j=>if i=j then Y else N
 | .bl i,.bl j=>if i=j then Y else N
 | x,y=>uW x y=true/\if x=y then Y else N
theorem Fl (i j:Int)(Y N:Prop):eqT (.int i) (.int j) Y N=if i=j then Y else N:=rfl
theorem Fm (i j:Str)(Y N:Prop):eqT (.str i) (.str j) Y N=if i=j then Y else N:=rfl
theorem IE (i j:Bool)(Y N:Prop):eqT (.bl i) (.bl j) Y N=if i=j then Y else N:=rfl
theorem AN {x y:V}{Q:Bool->Prop}:(uW x y=true/\Q (decide (x=y)))↔eqT x y (Q true) (Q false):=by
 rw [zz (Q:=Q)]
 cases x<;>cases y<;>simp [eqT,uW]
def neT (x y:V)(Y N:Prop):Prop:=match x,y with
 | .int i,.int j=>if ¬i=j then Y else N
 | .str i,.str j=>if ¬i=j then Y else N
 | .bl i,.bl j=>if ¬i=j then Y else N
 | x,y=>uW x y=true/\if ¬x=y then Y else N
theorem Fn (i j:Int)(Y N:Prop):neT (.int i) (.int j) Y N=if ¬i=j then Y else N:=rfl
theorem Fo (i j:Str)(Y N:Prop):neT (.str i) (.str j) Y N=if ¬i=j then Y else N:=rfl
theorem IF (i j:Bool)(Y N:Prop):neT (.bl i) (.bl j) Y N=if ¬i=j then Y else N:=rfl
theorem Fp {x y:V}{Y N:Prop}:eqT x y N Y↔neT x y Y N:=by
 have h:∀(p:Prop) [Decidable p],(if p then N else Y)=if ¬p then Y else N:=fun p _=>by by_cases e:p<;>simp [e]
 cases x<;>cases y<;>first | exact iff_of_eq (h _) | exact and_congr Iff.rfl (iff_of_eq (h _))
noncomputable def IG (ta tb:TE):TT:=fun σ H Q=>ta σ H fun x H1=>tb σ H1 fun y H2=>eqT x y (Q true H2) (Q false H2)
noncomputable def IH (ta tb:TE):TT:=fun σ H Q=>ta σ H fun x H1=>tb σ H1 fun y H2=>neT x y (Q true H2) (Q false H2)
theorem Fq (ta tb:TE):lD (tOp rEq ta tb)=IG ta tb:=by
 funext σ H Q
 refine congrArg (ta σ H) (funext fun x=>funext fun H1=>congrArg (tb σ H1) (ceq fun y H2=>?_))
 refine Iff.trans ?_ (AN (Q:=fun b=>Q b H2))
 exact ⟨fun ⟨a,k,e,q⟩=>⟨a,by cases e;exact q⟩,fun ⟨a,q⟩=>⟨a,_,rfl,q⟩⟩
theorem Fs (ta tb:TE):lD (tOp rNe ta tb)=IH ta tb:=by
 funext σ H Q
 refine congrArg (ta σ H) (funext fun x=>funext fun H1=>congrArg (tb σ H1) (ceq fun y H2=>?_))
 refine Iff.trans (Iff.trans ?_ (AN (Q:=fun b=>Q (!b) H2))) Fp
 exact ⟨fun ⟨a,k,e,q⟩=>⟨a,by cases e;exact q⟩,fun ⟨a,q⟩=>⟨a,_,rfl,q⟩⟩
noncomputable def rJ (K:W.Frag)(n:Nat)(t:TGs):TG:=fun v σ H Q=>onR v fun a=>∃xs,SqT K H a xs/\xs.length=n/\t xs σ H Q
theorem pw {x:V}{γ:Type}{P:Addr->γ->Prop}:(∃a z,x=.ref a/\P a z)↔onR x fun a=>∃z,P a z:=by cases x<;>simp [onR]
theorem AO (K:W.Frag)(n:Nat)(t:TGs):Hx K n t=rJ K n t:=funext fun v=>funext fun σ=>ceq fun _ _=>pw
noncomputable def zB (K:W.Frag)(n:Nat)(t:TGs):TG:=fun v σ H Q=>onR v fun a=>∃xs,SqL K H a xs/\xs.length=n/\t xs σ H Q
theorem Dn (K:W.Frag)(n:Nat)(t:TGs):GW K n t=zB K n t:=funext fun v=>funext fun σ=>ceq fun _ _=>pw
noncomputable def qH (t:TG)(u:TGs):TGs:=fun vs σ H Q=>onC vs fun v r=>t v σ H fun σ' H'=>u r σ' H' Q
theorem pz (t:TG)(u:TGs):xK t u=qH t u:=funext fun v=>funext fun σ=>ceq fun _ _=>Fg
noncomputable def AQ:TGs:=fun vs σ H Q=>onN vs (Q σ H)
theorem AR:Hw=AQ:=funext fun v=>funext fun σ=>ceq fun _ _=>Fh
noncomputable def AS (K:W.Frag):R2:=fun x y H Q=>onR x fun p=>onI y fun i=>∃xs,SqL K H p xs/\∃v,atI xs i=some v/\Q v H
theorem Ft (K:W.Frag):HK K=AS K:=funext fun x=>funext fun y=>ceq fun H Q=>⟨fun ⟨p,xs,i,v,e,f,h1,h2,h3⟩=>by subst e f;exact ⟨xs,h1,v,h2,h3⟩,fun h=>let ⟨p,e,h⟩:=fz h;let ⟨i,f,xs,h1,v,h2,h3⟩:=nX h;⟨p,xs,i,v,e,f,h1,h2,h3⟩⟩
noncomputable def rK (K:W.Frag):R2:=fun x y H Q=>onR x fun p=>onI y fun i=>∃xs,SqT K H p xs/\∃v,atI xs i=some v/\Q v H
theorem Fu (K:W.Frag):HL K=rK K:=funext fun x=>funext fun y=>ceq fun H Q=>⟨fun ⟨p,xs,i,v,e,f,h1,h2,h3⟩=>by subst e f;exact ⟨xs,h1,v,h2,h3⟩,fun h=>let ⟨p,e,h⟩:=fz h;let ⟨i,f,xs,h1,v,h2,h3⟩:=nX h;⟨p,xs,i,v,e,f,h1,h2,h3⟩⟩
noncomputable def zC (ta tb:TE):TE:=fun σ H Q=>ta σ H fun x H1=>onB x fun c=>if c=true then tb σ H1 Q else Q (.bl false) H1
theorem Dp (ta tb:TE):Gy ta tb=zC ta tb:=funext fun σ=>funext fun H=>funext fun Q=>congrArg (ta σ H) (ceq fun _ _=>sV)
noncomputable def Dq (ta tb:TE):TE:=fun σ H Q=>ta σ H fun x H1=>onB x fun c=>if c=true then Q (.bl true) H1 else tb σ H1 Q
theorem Fv (ta tb:TE):Ji ta tb=Dq ta tb:=funext fun σ=>funext fun H=>funext fun Q=>congrArg (ta σ H) (ceq fun _ _=>sV)
noncomputable def zD (ta:TE):TE:=fun σ H Q=>ta σ H fun x H1=>onB x fun c=>Q (.bl (!c)) H1
theorem Dr (ta:TE):Gz ta=zD ta:=funext fun σ=>funext fun H=>funext fun Q=>congrArg (ta σ H) (ceq fun _ _=>sV)
noncomputable def Ds (K:W.Frag)(ta:TE)(f:Str):TE:=fun σ H Q=>ta σ H fun x H1=>onR x fun a=>∃C dx fs,H1 a=some (.ins C dx fs)/\Cls K C/\aS K C f/\∃v,fs.lookup f=some v/\Q v H1
theorem Fw (K:W.Frag)(ta:TE)(f:Str):Jv K ta f=Ds K ta f:=funext fun σ=>funext fun H=>funext fun Q=>congrArg (ta σ H) (ceq fun x H1=>by cases x<;>simp [onR])
noncomputable def Du (K:W.Frag)(ta tv:TE)(f:Str):TS:=fun D σ H=>tv σ H fun y H1=>ta σ H1 fun x H2=>onR x fun a=>∃C dx fs,H2 a=some (.ins C dx fs)/\Cls K C/\aS K C f/\fs.length < 1000/\D.nx σ (upd H2 a (.ins C dx (ba f y fs)))
theorem Fx (K:W.Frag)(ta tv:TE)(f:Str):Jw K ta tv f=Du K ta tv f:=funext fun D=>funext fun σ=>funext fun H=>congrArg (tv σ H) (funext fun y=>funext fun H1=>congrArg (ta σ H1) (ceq fun x H2=>by cases x<;>simp [onR]))
noncomputable def xi (C:Addr)(m:Str)(sp:Sp)(dvs:List V)(E:XK)(ta:TE)(t:TA):TE:=fun σ H Q=>ta σ H fun x H1=>onR x fun a=>∃dx fs,H1 a=some (.ins C dx fs)/\fs.lookup m=none/\t σ H1 fun vs H2=>sp (.ref a::(vs++dvs)) H2 Q E
theorem yj (C:Addr)(m:Str)(sp:Sp)(dvs:List V)(E:XK)(ta:TE)(t:TA):vL C m sp dvs E ta t=xi C m sp dvs E ta t:=funext fun σ=>funext fun H=>funext fun Q=>congrArg (ta σ H) (ceq fun x H1=>by cases x<;>simp [onR])
noncomputable def tQ:V->List V->Hp->VK->Prop:=fun x vs H Q=>onR x fun l=>onC vs fun y r=>onN r (∃xs,H l=some (.lst xs)/\xs.length < sizeLine/\Q .non (upd H l (.lst (xs++[y]))))
theorem zE:AA=tQ:=funext fun x=>funext fun vs=>ceq fun H Q=>⟨fun ⟨l,xs,y,e,f,h⟩=>by subst e f;exact ⟨xs,h⟩,fun h=>by
 obtain ⟨l,rfl,z⟩:=fz h
 match vs,z with
 | [v],⟨xs,z⟩=>exact ⟨l,xs,v,rfl,rfl,z⟩⟩
noncomputable def zF (t:TE):TO:=fun σ H Q=>t σ H fun x H1=>onI x fun i=>Q (some i) H1
theorem Dv (t:TE):GO t=zF t:=funext fun σ=>funext fun H=>funext fun Q=>congrArg (t σ H) (ceq fun _ _=>xg)
noncomputable def zG (K:W.Frag)(tl:TE):TI:=fun σ H R=>tl σ H fun x H1=>onR x fun a=>(∃xs,SqL K H1 a xs)/\R (Itl K a) H1
theorem Dw (K:W.Frag)(tl:TE):GD K tl=zG K tl:=funext fun σ=>funext fun H=>funext fun R=>congrArg (tl σ H) (ceq fun _ _=>xh)
noncomputable def zH (ta:TA):TI:=fun σ H R=>ta σ H fun vs H1=>onC vs fun v r=>onN r (onI v fun j=>-(2 ^ 62)<=j/\j < 2 ^ 62/\R (Itr 0 j.toNat) H1)
theorem Dx (ta:TA):GF ta=zH ta:=funext fun σ=>funext fun H=>funext fun R=>congrArg (ta σ H) (ceq fun vs H1=>by
 rcases vs with _ | ⟨y,_ | ⟨z,vs⟩⟩<;>(try cases y)<;>simp [onI,onC,onN])
noncomputable def Fy (K:W.Frag):List V->Hp->VK->Prop:=fun vs H Q=>onC vs fun v r=>onN r (onR v fun p=>∃ys,(SqL K H p ys\/SqT K H p ys)/\Q (.int ys.length) H)
theorem Fz (K:W.Frag)(t:TA):tCB (fun xs H Q=>∃p ys,xs=[.ref p]/\(SqL K H p ys\/SqT K H p ys)/\Q (.int ys.length) H) t=tCB (Fy K) t:=by
 refine congrArg (fun r=>tCB r t) (funext fun vs=>ceq fun H Q=>?_)
 rcases vs with _ | ⟨y,_ | ⟨z,vs⟩⟩<;>(try cases y)<;>simp [Fy,onR,onC,onN]
noncomputable def sX (K:W.Frag):List V->Hp->VK->Prop:=fun vs H Q=>onC vs fun v r=>onN r (onR v fun p=>∃ys,(SqL K H p ys\/SqT K H p ys)/\∀l,H l=none->Q (.ref l) (upd H l (.lst ys)))
theorem zI (K:W.Frag)(t:TA):tCB (fun xs H Q=>∃p ys,xs=[.ref p]/\(SqL K H p ys\/SqT K H p ys)/\∀l,H l=none->Q (.ref l) (upd H l (.lst ys))) t=tCB (sX K) t:=by
 refine congrArg (fun r=>tCB r t) (funext fun vs=>ceq fun H Q=>?_)
 rcases vs with _ | ⟨y,_ | ⟨z,vs⟩⟩<;>(try cases y)<;>simp [sX,onR,onC,onN]
noncomputable def zJ:V->V->V->Hp->(Hp->Prop)->Prop:=fun o i v H Q=>onR o fun p=>onI i fun k=>∃xs,H p=some (.lst xs)/\∃j,ixN xs.length k=some j/\Q (upd H p (.lst (xs.set j v)))
theorem Dy:GQ=zJ:=funext fun o=>funext fun i=>funext fun v=>ceq fun H Q=>⟨fun ⟨p,xs,k,j,e,f,h1,h2,h3⟩=>by subst e f;exact ⟨xs,h1,j,h2,h3⟩,fun h=>let ⟨p,e,h⟩:=fz h;let ⟨k,f,xs,h1,j,h2,h3⟩:=nX h;⟨p,xs,k,j,e,f,h1,h2,h3⟩⟩
theorem KO {p:Prop}[Decidable p]{A B:Prop}(h:if ¬p then A else B):if (!decide p)=true then A else B:=by
 by_cases e:p
 ·rw [if_neg (fun z=>z e)] at h;rw [if_neg (by simp [e])];exact h
 ·rw [if_pos e] at h;rw [if_pos (by simp [e])];exact h
noncomputable def tU1 (f:Int->V)(ta:TE):TE:=fun σ H Q=>ta σ H fun x H1=>onI x fun i=>Q (f i) H1
theorem Dz {k:Int}(hk:0 < k)(ta:TE)(g:Int->Int->V):tOp (rI (fun _ j=>0 < j) g) ta (tC (.int k))=tU1 (fun i=>g i k) ta:=funext fun σ=>funext fun H=>funext fun Q=>congrArg (ta σ H) (ceq fun x H1=>by
 cases x<;>simp [rI,tC,onI,hk])
theorem DA {k:Int}(h1:0 < k)(h2:k < 1073741824)(ta:TE)(g:Int->Int->V):tOp (rI Cn g) ta (tC (.int k))=tU1 (fun i=>g i k) ta:=funext fun σ=>funext fun H=>funext fun Q=>congrArg (ta σ H) (ceq fun x H1=>by
 have hc:∀i,Cn i k:=fun i=>by unfold Cn;omega
 cases x<;>simp [rI,tC,onI,hc])
theorem DB {k:Int}(h1:-4294967296 < k)(h2:k < 4294967296)(ta:TE)(g:Int->Int->V):tOp (rI tu g) ta (tC (.int k))=tU1 (fun i=>g i k) ta:=funext fun σ=>funext fun H=>funext fun Q=>congrArg (ta σ H) (ceq fun x H1=>by
 have hc:∀i,tu i k:=fun i=>by unfold tu;omega
 cases x<;>simp [rI,tC,onI,hc])
theorem BD {k:Int}(h1:-4294967296 < k)(h2:k < 4294967296)(tb:TE)(g:Int->Int->V):tOp (rI tu g) (tC (.int k)) tb=tU1 (fun i=>g k i) tb:=funext fun σ=>funext fun H=>funext fun Q=>congrArg (tb σ H) (ceq fun x H1=>by
 have hc:∀i,tu k i:=fun i=>by unfold tu;omega
 cases x<;>simp [rI,onI,hc])
noncomputable def DC (K:W.Frag):V->Option Int->Option Int->Hp->VK->Prop:=fun x lo hi H Q=>onR x fun a=>∃xs,SqL K H a xs/\∀p,H p=none->Q (.ref p) (upd H p (.lst (oV xs lo hi)))
theorem FA (K:W.Frag):JC K=DC K:=funext fun x=>funext fun lo=>funext fun hi=>ceq fun _ _=>pw
noncomputable def DD (K:W.Frag):V->Option Int->Option Int->Hp->VK->Prop:=fun x lo hi H Q=>onR x fun a=>∃xs,SqT K H a xs/\¬(HT.sIx xs.length 0 lo=0/\HT.sIx xs.length xs.length hi=xs.length)/\∀p,H p=none->Q (.ref p) (upd H p (.tup (oV xs lo hi)))
theorem FC (K:W.Frag):Jz K=DD K:=funext fun x=>funext fun lo=>funext fun hi=>ceq fun _ _=>pw
noncomputable def DE:R2:=fun x y H Q=>onR x fun l=>onR y fun b=>∃xs,H l=some (.lst xs)/\∃zs,H b=some (.lst zs)/\xs.length+zs.length<=sizeLine/\∀p,H p=none->Q (.ref p) (upd H p (.lst (xs++zs)))
theorem FD:JE=DE:=funext fun x=>funext fun y=>ceq fun H Q=>⟨fun ⟨l,b,xs,zs,e,f,h1,h2,h3⟩=>by subst e f;exact ⟨xs,h1,zs,h2,h3⟩,fun h=>let ⟨l,e,h⟩:=fz h;let ⟨b,f,xs,h1,zs,h2,h3⟩:=fz h;⟨l,b,xs,zs,e,f,h1,h2,h3⟩⟩
noncomputable def zK:R2:=fun x y H Q=>onR x fun a=>onR y fun b=>∃xs,H a=some (.tup xs)/\∃ys,H b=some (.tup ys)/\xs.length+ys.length<=1000/\∀p H',av H H'->H' p=some (.tup (xs++ys))->Q (.ref p) H'
theorem DF:GY=zK:=funext fun x=>funext fun y=>ceq fun H Q=>⟨fun ⟨l,b,xs,zs,e,f,h1,h2,h3⟩=>by subst e f;exact ⟨xs,h1,zs,h2,h3⟩,fun h=>let ⟨l,e,h⟩:=fz h;let ⟨b,f,xs,h1,zs,h2,h3⟩:=fz h;⟨l,b,xs,zs,e,f,h1,h2,h3⟩⟩
noncomputable def zL (K:W.Frag):R2:=fun x y H Q=>onR x fun a=>onR y fun b=>∃xs,SqT K H a xs/\∃ys,SqT K H b ys/\xs.length+ys.length<=1000/\∀p H',av H H'->SqT K H' p (xs++ys)->Q (.ref p) H'
theorem DG (K:W.Frag):GV K=zL K:=funext fun x=>funext fun y=>ceq fun H Q=>⟨fun ⟨l,b,xs,zs,e,f,h1,h2,h3⟩=>by subst e f;exact ⟨xs,h1,zs,h2,h3⟩,fun h=>let ⟨l,e,h⟩:=fz h;let ⟨b,f,xs,h1,zs,h2,h3⟩:=fz h;⟨l,b,xs,zs,e,f,h1,h2,h3⟩⟩
noncomputable def zM (K:W.Frag)(neg:Bool):R2:=fun x y H Q=>onR y fun p=>∃xs,(SqL K H p xs\/SqT K H p xs)/\bY x=true/\xs.all bY=true/\Q (.bl (if neg=true then !inV x xs else inV x xs)) H
theorem DH (K:W.Frag)(neg:Bool):rIn K neg=zM K neg:=funext fun x=>funext fun y=>ceq fun H Q=>by cases y<;>simp [rIn,zM,onR]
theorem JZ {b c:Bool}:(if true=true then b else c)=b:=rfl
theorem J0 {b c:Bool}:(if false=true then b else c)=c:=rfl
noncomputable def zN (ta:TA):TI:=fun σ H R=>ta σ H fun vs H1=>onC vs fun v r=>onC r fun u r2=>onN r2 (onI v fun i=>onI u fun j=>(-(2 ^ 62)<=i/\i < 2 ^ 62/\-(2 ^ 62)<=j/\j < 2 ^ 62)/\R (Itr i (j - i).toNat) H1)
theorem v3 {vs:List V}{P:Int->Int->Prop}:(∃i j,vs=[.int i,.int j]/\P i j)↔onC vs fun v r=>onC r fun u r2=>onN r2 (onI v fun i=>onI u fun j=>P i j):=by
 constructor
 ·rintro ⟨i,j,rfl,h⟩;exact h
 ·intro h
  rcases vs with _ | ⟨y,_ | ⟨z,_ | ⟨u,vs⟩⟩⟩
  ·exact h.elim
  ·exact h.elim
  ·cases y<;>cases z<;>first | exact ⟨_,_,rfl,h⟩ | exact h.elim
  ·exact h.elim
theorem DJ (ta:TA):GG ta=zN ta:=funext fun σ=>funext fun H=>funext fun R=>congrArg (ta σ H) (ceq fun vs H1=>v3)
noncomputable def J1 (K:W.Frag)(tl:TE):TI:=fun σ H R=>tl σ H fun x H1=>onR x fun a=>(∃xs,SqT K H1 a xs)/\R (Itt K a) H1
noncomputable def zO (K:W.Frag)(te:TE):TI:=fun σ H R=>te σ H fun x H1=>onR x fun a=>(∃xs,SqL K H1 a xs)/\R (Ite K a) H1
theorem DK (K:W.Frag)(te:TE):GU K te=zO K te:=funext fun σ=>funext fun H=>funext fun R=>congrArg (te σ H) (ceq fun _ _=>xh)
noncomputable def DL (K:W.Frag)(ta tb:TE):TI:=fun σ H R=>ta σ H fun x H1=>tb σ H1 fun y H2=>onR x fun a=>onR y fun b=>(∃xs,SqL K H2 a xs)/\(∃ys,SqL K H2 b ys)/\R (Itz K a b) H2
theorem FE (K:W.Frag)(ta tb:TE):JK K ta tb=DL K ta tb:=funext fun σ=>funext fun H=>funext fun R=>congrArg (ta σ H) (funext fun x=>funext fun H1=>congrArg (tb σ H1) (ceq fun y H2=>⟨fun ⟨a,b,e,f,h⟩=>by subst e f;exact h,fun h=>let ⟨a,e,h⟩:=fz h;let ⟨b,f,h⟩:=fz h;⟨a,b,e,f,h⟩⟩))
noncomputable def sY:V->List V->Hp->VK->Prop:=fun x vs H Q=>onR x fun l=>onN vs (∃xs,H l=some (.lst xs)/\Q .non (upd H l (.lst [])))
theorem BE:zi=sY:=funext fun x=>funext fun vs=>ceq fun H Q=>by cases vs<;>cases x<;>simp [zi,sY,onR,onN]
noncomputable def AU:V->List V->Hp->VK->Prop:=fun x vs H Q=>onR x fun l=>onN vs (∃xs,H l=some (.lst xs)/\∃y,xs[xs.length - 1]?=some y/\Q y (upd H l (.lst xs.dropLast)))
theorem FG:HN=AU:=funext fun x=>funext fun vs=>ceq fun H Q=>by cases vs<;>cases x<;>simp [HN,AU,onR,onN]
noncomputable def DM:V->List V->Hp->VK->Prop:=fun x vs H Q=>onR x fun l=>onC vs fun v r=>onN r (onR v fun b=>∃xs,H l=some (.lst xs)/\∃zs,H b=some (.lst zs)/\xs.length+zs.length<=sizeLine/\Q .non (upd H l (.lst (xs++zs))))
noncomputable def FH:List V->Hp->VK->Prop:=fun vs H Q=>onC vs fun v r=>onN r (onI v fun i=>Q (.int (if i < 0 then -i else i)) H)
theorem FI (t:TA):tCB (fun xs H Q=>∃i,xs=[.int i]/\Q (.int (if i < 0 then -i else i)) H) t=tCB FH t:=by
 refine congrArg (fun r=>tCB r t) (funext fun vs=>ceq fun H Q=>?_)
 rcases vs with _ | ⟨y,_ | ⟨z,vs⟩⟩<;>(try cases y)<;>simp [FH,onI,onC,onN]
noncomputable def DN:List V->Hp->VK->Prop:=fun vs H Q=>onC vs fun v r=>onC r fun u r2=>onN r2 (onI v fun i=>onI u fun j=>Q (.int (if j < i then j else i)) H)
theorem DO (t:TA):tCB (fun xs H Q=>∃i j,xs=[.int i,.int j]/\Q (.int (if j < i then j else i)) H) t=tCB DN t:=by
 refine congrArg (fun r=>tCB r t) (funext fun vs=>ceq fun H Q=>?_)
 exact v3
noncomputable def xk (K:W.Frag):List V->Hp->VK->Prop:=fun vs H Q=>onC vs fun v r=>onN r (onR v fun p=>∃ys,(SqL K H p ys/\∀l,H l=none->Q (.ref l) (upd H l (.tup ys)))\/(SqT K H p ys/\Q (.ref p) H))
theorem BF (K:W.Frag)(t:TA):tCB (fun xs H Q=>∃p ys,xs=[.ref p]/\((SqL K H p ys/\∀l,H l=none->Q (.ref l) (upd H l (.tup ys)))\/(SqT K H p ys/\Q (.ref p) H))) t=tCB (xk K) t:=by
 refine congrArg (fun r=>tCB r t) (funext fun vs=>ceq fun H Q=>?_)
 rcases vs with _ | ⟨y,_ | ⟨z,vs⟩⟩<;>(try cases y)<;>simp [xk,onR,onC,onN]
def FJ (v:V)(P:Int->Prop):Prop:=match v with | .int i=>P i | .bl k=>P (if k=true then 1 else 0) | _=>False
theorem DP (i:Int)(P:Int->Prop):FJ (.int i) P=P i:=rfl
theorem FK (k:Bool)(P:Int->Prop):FJ (.bl k) P=P (if k=true then 1 else 0):=rfl
noncomputable def AV:List V->Hp->VK->Prop:=fun vs H Q=>onC vs fun v r=>onN r (FJ v fun i=>Q (.int i) H)
theorem DQ (t:TA):tCB (fun xs H Q=>(∃i,xs=[.int i]/\Q (.int i) H)\/∃k,xs=[.bl k]/\Q (.int (if k=true then 1 else 0)) H) t=tCB AV t:=by
 refine congrArg (fun r=>tCB r t) (funext fun vs=>ceq fun H Q=>?_)
 rcases vs with _ | ⟨y,_ | ⟨z,vs⟩⟩<;>(try cases y)<;>simp [AV,onC,onN,FJ]
noncomputable def DR (ta:TE):TT:=fun σ H Q=>ta σ H fun x H1=>if x=.non then Q true H1 else Q false H1
theorem DS (ta:TE):lD (tOp (fun x y H Q=>y=.non/\Q (.bl (decide (x=.non))) H) ta (tC .non))=DR ta:=funext fun σ=>funext fun H=>funext fun Q=>congrArg (ta σ H) (ceq fun x H1=>by
 refine Iff.trans ?_ (iff_of_eq (zz (p:=x=.non) (Q:=fun b=>Q b H1)))
 exact ⟨fun ⟨_,k,e,q⟩=>by cases e;exact q,fun q=>⟨rfl,_,rfl,q⟩⟩)
noncomputable def zP (ta:TE):TT:=fun σ H Q=>ta σ H fun x H1=>if ¬x=.non then Q true H1 else Q false H1
theorem FL {p:Prop}[Decidable p]{Q:Bool->Prop}:Q (!decide p)=if ¬p then Q true else Q false:=by
 by_cases h:p
 ·rw [if_neg (fun z=>z h),decide_eq_true h];rfl
 ·rw [if_pos h,decide_eq_false h];rfl
theorem BG (ta:TE):lD (tOp (fun x y H Q=>y=.non/\Q (.bl (!decide (x=.non))) H) ta (tC .non))=zP ta:=funext fun σ=>funext fun H=>funext fun Q=>congrArg (ta σ H) (ceq fun x H1=>by
 refine Iff.trans ?_ (iff_of_eq (FL (p:=x=.non) (Q:=fun b=>Q b H1)))
 exact ⟨fun ⟨_,k,e,q⟩=>by cases e;exact q,fun q=>⟨rfl,_,rfl,q⟩⟩)
theorem qI {K:W.Frag}{l:Addr}{ls:List Ld}{te:TE}{cm:List (Option Nat)}{σ:St}{H:Hp}{Q:VK}(f:Ld->V)(hL:eM K H l ls)(hn:ls.length<=sizeLine)(hcm:bZ cm σ=[none,none,none])
  (he:∀x∈ls,∀N:VK,N (f x) H->te [some (.str x.1),some (.int x.2.1),some (.int x.2.2)] H N)
  (hd:∀p,H p=none->Q (.ref p) (upd H p (.lst (ls.map f)))):o8 (Itl K l) (rJ K 3 (qH (fm 0) (qH (fm 1) (qH (fm 2) AQ)))) sC te cm σ Q H:=by
 rw [←AO,←AR,←pz,←pz,←pz]
 exact CW f hL hn hcm he hd
noncomputable def zQ (K:W.Frag):R2:=fun x y H Q=>onR x fun l=>onI y fun k=>∃v,SqT K H l [v]/\2<=k/\k<=100/\∀p,H p=none->Q (.ref p) (upd H p (.tup (List.replicate k.toNat v)))
theorem DT (K:W.Frag):GX K=zQ K:=funext fun x=>funext fun y=>ceq fun H Q=>⟨fun ⟨l,k,v,e,f,h⟩=>by subst e f;exact ⟨v,h⟩,fun h=>let ⟨l,e,h⟩:=fz h;let ⟨k,f,v,h⟩:=nX h;⟨l,k,v,e,f,h⟩⟩
noncomputable def J2:R2:=fun x y H Q=>onR x fun l=>onI y fun k=>∃xs,H l=some (.lst xs)/\-(2 ^ 63)<=k/\k < 2 ^ 63/\xs.length * k.toNat<=sizeLine/\∀p,H p=none->Q (.ref p) (upd H p (.lst (List.replicate k.toNat xs).flatten))
theorem onI.mono {x:V}{P Q:Int->Prop}(h:∀i,P i->Q i)(p:onI x P):onI x Q:=by cases x<;>first | exact h _ p | exact p
theorem onO.mono {x:Option (Option V)}{P Q:V->Prop}(h:∀i,P i->Q i)(p:onO x P):onO x Q:=by
 rcases x with _ | _ | v
 ·exact p
 ·exact p
 ·exact h _ p
end
noncomputable def DU (i j:Nat)(ta:TA):TS:=fun D σ H=>ta σ H fun vs H1=>onC vs fun v r=>onC r fun w r2=>onN r2 (D.nx ((σ.set i (some v)).set j (some w)) H1)
theorem FN {vs:List V}{P:V->V->Prop}:(∃v w,vs=[v,w]/\P v w)↔onC vs fun v r=>onC r fun w r2=>onN r2 (P v w):=by
 constructor
 ·rintro ⟨v,w,rfl,h⟩;exact h
 ·intro h
  rcases vs with _ | ⟨y,_ | ⟨z,_ | ⟨u,vs⟩⟩⟩
  ·exact h.elim
  ·exact h.elim
  ·exact ⟨_,_,rfl,h⟩
  ·exact h.elim
theorem FO (i j:Nat)(ta:TA):Jp i j ta=DU i j ta:=funext fun D=>funext fun σ=>funext fun H=>congrArg (ta σ H) (ceq fun vs H1=>FN)
noncomputable def AW (K:W.Frag):R2:=fun x y H Q=>onR x fun a=>onR y fun b=>∃xs,SqL K H a xs/\∃ys,SqL K H b ys/\xs.all bY=true/\ys.all bY=true/\Q (.bl (!eqL xs ys)) H
theorem FP (K:W.Frag):Im K=AW K:=funext fun x=>funext fun y=>ceq fun H Q=>by cases x<;>cases y<;>simp [Im,AW,onR]
noncomputable def AX (K:W.Frag):R2:=fun x y H Q=>onR x fun a=>onR y fun b=>∃xs,SqL K H a xs/\∃ys,SqL K H b ys/\xs.all bY=true/\ys.all bY=true/\Q (.bl (eqL xs ys)) H
theorem FQ (K:W.Frag):Ib K=AX K:=funext fun x=>funext fun y=>ceq fun H Q=>by cases x<;>cases y<;>simp [Ib,AX,onR]
theorem AY {xs:List V}:eqL xs []=decide (xs=[]):=by cases xs<;>simp [eqL]
theorem J3 {b:Bool}{A B:Prop}(h:if b=false then A else B):if (!b)=true then A else B:=by cases b<;>exact h
noncomputable def i7 (fs:List Bool):List Int:=((List.range fs.length).filter fun j=>!fs.getD j false).map fun (j:Nat)=>(j:Int)
theorem BH {fs:List Bool}{x:Int}(h:x∈i7 fs):0<=x/\x < fs.length/\fs.getD x.toNat false=false:=by
 unfold i7 at h
 rw [List.mem_map] at h
 obtain ⟨j,hj,rfl⟩:=h
 rw [List.mem_filter,List.mem_range] at hj
 exact ⟨Int.natCast_nonneg _,by omega,by rw [Int.toNat_natCast];simpa using hj.2⟩
theorem BI {g:Cfg}{n:aI}(hs:bP g.ds)(h:∀c,c=0\/c=1->∀l,a9 g.ds n.place c=some l->n.gates.getD l.toNat false=false):hV g n=false:=by
 unfold hV
 rw [List.any_eq_false]
 intro x hx
 unfold i6 at hx
 rw [List.mem_map] at hx
 obtain ⟨i,hi,rfl⟩:=hx
 rw [List.mem_filter,List.mem_range] at hi
 obtain ⟨h1,h2⟩:=hi
 rw [Bool.not_eq_true]
 rcases of_decide_eq_true h2 with e | e
 ·exact h 0 (.inl rfl) i (by unfold a9;rw [if_pos rfl];exact hJ hs h1 e)
 ·exact h 1 (.inr rfl) i (by unfold a9;rw [if_neg (by decide)];exact hJ hs h1 e)
theorem cH.cd {g:Cfg}(hg:cH g){l:Int}(h0:0<=l)(h1:l < g.ds.length):dM (ft g.ls l):=by
 have hl:=hg.lc
 have hi:l.toNat < g.ls.length:=by omega
 unfold ft
 rw [List.getD_eq_getElem?_getD,List.getElem?_eq_getElem hi]
 exact hg.gc _ (List.getElem_mem hi)
theorem bR.code {g:Cfg}{n:aI}(hg:cH g)(hn:bR g n){l r:Int}(h:n.e=.wait l r\/n.e=.armed l r):1<=r/\r<=9:=by
 obtain ⟨h0,h1,h2⟩:=hn.ew l r h
 obtain ⟨⟨a,b⟩,⟨c,d⟩,_⟩:=hg.cd h0 h1
 rcases h2 with rfl | rfl<;>exact ⟨by assumption,by assumption⟩
theorem AZ {x y:V}{b:Bool}:atI [x,y] (if b=true then 1 else 0)=some (if b=true then y else x):=by cases b<;>rfl
theorem nY {g:Cfg}{n:aI}{l:Int}(h0:0<=l)(h1:l < g.ds.length)(h:n.gates.getD l.toNat false=false):dD g n (.opn l)=none:=(if_neg (fun z=>z ⟨h0,h1⟩)).trans (if_neg (by rw [h];decide))
theorem kr {g:Cfg}{n:aI}{l:Int}(h0:0<=l)(h1:l < g.ds.length)(h:n.gates.getD l.toNat false=true):dD g n (.sht l)=none:=(if_neg (fun z=>z ⟨h0,h1⟩)).trans (if_neg (by rw [h];decide))
theorem rL {g:Cfg}{n:aI}{l s:Int}(h0:0<=l)(h1:l < g.ds.length)(h:n.fs.getD l.toNat false=false)(hs:s=(ft g.ls l).1\/s=(ft g.ls l).2):dD g n (.ring l s)=none:=(if_neg (fun z=>z ⟨h0,h1⟩)).trans ((if_neg (by rw [h];decide)).trans (if_pos hs))
theorem yk {g:Cfg}{n:aI}{l:Int}(h0:0<=l)(h1:l < g.ds.length)(h:n.fs.getD l.toNat false=false):dD g n (.fail l)=none:=(if_neg (fun z=>z ⟨h0,h1⟩)).trans (if_neg (by rw [h];decide))
theorem rM {g:Cfg}{n:aI}{l r s:Int}(h:n.e=.wait l r)(h1:1<=s)(h2:s<=9):dD g n (.rept s)=none:=by
 simp only [dD,h]
 exact if_pos ⟨h1,h2⟩
theorem rN {g:Cfg}{n:aI}{c l:Int}{k:Str}(h0:0<=l)(h1:l < g.ds.length)(h:hV g n=false)(he:n.e=.armed l (cC g.ls l k)):dD g n (.wind c l k)=none:=(if_neg (fun z=>z ⟨h0,h1⟩)).trans ((if_neg (by rw [h];decide)).trans (if_pos he))
theorem vd {g:Cfg}{n:aI}{c l:Int}(h:10+c∈n.ws)(hl:a9 g.ds n.place c=some l)(ho:n.gates.getD l.toNat false=true):dD g n (.unload c)=none:=by
 refine (if_neg (fun z=>z h)).trans ?_
 rw [hl]
 exact if_pos ho
theorem yl {g:Cfg}{n:aI}{k c l:Int}(h0:0<=k)(h1:k < n.ws.length)(hl:a9 g.ds n.place c=some l)(hk:n.ws.getD k.toNat 0=l)(hc:¬10+c∈n.ws)(ho:n.gates.getD l.toNat false=true):dD g n (.load k c)=none:=by
 refine (if_neg (fun z=>z ⟨h0,h1⟩)).trans ?_
 rw [hl]
 exact (if_neg (fun z=>z hk)).trans ((if_neg hc).trans (if_pos ho))
theorem G0 {pl:Int}{ds:List Int}{c:Int}:(a9 ds pl c).getD (-1) < 0->a9 ds pl c=none:=by
 intro h
 cases e:a9 ds pl c with
 | none=>rfl
 | some l=>rw [e] at h;have:=(dN e).1;simp only [Option.getD_some] at h;omega
theorem DV {pl:Int}{ds:List Int}{c:Int}:¬(a9 ds pl c).getD (-1) < 0->∃l,a9 ds pl c=some l/\(a9 ds pl c).getD (-1)=l:=by
 intro h
 cases e:a9 ds pl c with
 | none=>rw [e] at h;exact absurd (by decide) h
 | some l=>exact ⟨l,rfl,rfl⟩
theorem J4 (e:Eng):(∃l r,e=.wait l r)\/(∃l r,e=.armed l r)\/∃(w:Str) (x y z:V),nV e=[.str w,x,y,z]/\¬w="not repeated"/\¬w="armed":=by
 cases e with
 | no=>exact .inr (.inr ⟨_,_,_,_,rfl,by decide,by decide⟩)
 | wait l r=>exact .inl ⟨l,r,rfl⟩
 | armed l r=>exact .inr (.inl ⟨l,r,rfl⟩)
 | other l r s=>exact .inr (.inr ⟨_,_,_,_,rfl,by decide,by decide⟩)
 | used l r=>exact .inr (.inr ⟨_,_,_,_,rfl,by decide,by decide⟩)
theorem DW {ws:List Int}{lv x:Int}(h:x∈fv ws lv):0<=x/\x < ws.length/\ws.getD x.toNat 0=lv:=by
 unfold fv tM at h
 rw [List.mem_map] at h
 obtain ⟨j,hj,rfl⟩:=h
 rw [List.mem_filter,List.mem_range] at hj
 exact ⟨Int.natCast_nonneg _,by omega,by rw [Int.toNat_natCast];exact of_decide_eq_true hj.2⟩
theorem ie.un {K:W.Frag}{H:Hp}{a:Addr}{n:aI}{t:Int}(h:ie K H a (n,t)):∃gt lt ht dt:Addr,SqT K H a [.int n.place,.ref gt,.ref lt,.ref ht,.ref dt,.int t]/\SqT K H gt (n.gates.map V.bl)/\H lt=some (.tup (n.ws.map V.int))/\SqT K H ht (nV n.e)/\SqT K H dt ((c7 n.fs).map V.int):=h
structure lA (C:Cl)(K:W.Frag)(H0 H:Hp)(p dl cl ll w bk rl sl wl:Addr)(g:Cfg)(lds:List Ld)(n0:aI)(rs:List Row):Prop where
 su:dW K H0 p dl cl ll g lds
 sa:av H0 H
 fr:H0 rl=none
 fs:H0 sl=none
 fw:H0 wl=none
 da:yi C K H w bk rl sl wl g n0 rs
 cg:cH g
 c0:bR g n0
section
variable {C:Cl}{K:W.Frag}{H0 H H':Hp}{p dl cl ll w bk rl sl wl:Addr}{g:Cfg}{lds:List Ld}{n0:aI}{rs rs':List Row}
theorem lA.same (h:lA C K H0 H p dl cl ll w bk rl sl wl g lds n0 rs)(s:av H H'):lA C K H0 H' p dl cl ll w bk rl sl wl g lds n0 rs:=⟨h.su,h.sa.trans s,h.fr,h.fs,h.fw,h.da.same s,h.cg,h.c0⟩
theorem lA.setup (h:lA C K H0 H p dl cl ll w bk rl sl wl g lds n0 rs):dW K H p dl cl ll g lds:=h.su.same h.sa
theorem lA.snap (h:lA C K H0 H p dl cl ll w bk rl sl wl g lds n0 rs):bR g (ai n0 rs):=h.da.run.snap h.cg h.c0
theorem lA.to (h:lA C K H0 H p dl cl ll w bk rl sl wl g lds n0 rs)(k:bD rl sl wl H H')(d:yi C K H' w bk rl sl wl g n0 rs'):lA C K H0 H' p dl cl ll w bk rl sl wl g lds n0 rs':=⟨h.su,h.sa.keeps3 k h.fr h.fs h.fw,h.fr,h.fs,h.fw,d,h.cg,h.c0⟩
end
theorem FR (d:Dd):∃w:Str,atI (ddV d) 0=some (.str w)/\¬w="take back":=by
 cases d<;>exact ⟨_,rfl,by decide⟩
theorem FT {d:Dd}(h:∀s,d≠.rept s):∃w:Str,atI (ddV d) 0=some (.str w)/\¬w="repeat":=by
 cases d<;>first | exact ⟨_,rfl,by decide⟩ | exact absurd rfl (h _)
theorem vc.int {K:W.Frag}{H:Hp}{n:aI}{t:Int}{d:Dd}{v:V}(h:vc K H n t d v)(hr:∀s,d≠.rept s):v=.int t:=by
 cases d<;>first | exact h | exact absurd rfl (hr _)
theorem vc.same {K:W.Frag}{H H':Hp}{n:aI}{t:Int}{d:Dd}{v:V}(h:vc K H n t d v)(s:av H H'):vc K H' n t d v:=by
 cases d<;>first | exact h | (obtain ⟨p,l,r,e,f,z⟩:=h;exact ⟨p,l,r,e,f,s.tup z⟩)
theorem vc.keep {K:W.Frag}{H H':Hp}{n:aI}{t:Int}{d:Dd}{v:V}{p:Addr}{ys:List V}(h:vc K H n t d v)(s:aB p H H')(hp:H p=some (.lst ys)):vc K H' n t d v:=by
 cases d<;>first | exact h | (obtain ⟨p,l,r,e,f,z⟩:=h;exact ⟨p,l,r,e,f,z.keep s hp⟩)
theorem FU {as:List Addr}{a b:Addr}:atI ((as++[a]++[b]).map V.ref) (-2)=some (.ref a):=by
 have hl:((as++[a]++[b]).map V.ref).length=as.length+2:=by simp
 unfold atI ixN
 rw [hl,if_neg (by omega),if_pos (by omega)]
 rw [show ((-2:Int)+((as.length+2:Nat):Int)).toNat=as.length by omega]
 show ((as++[a]++[b]).map V.ref)[as.length]?=_
 simp
structure ym (ds:List Int)(ls:List Cd)(slow fast:Int)(lds:List Ld):Prop where
 sh:bP ds
 ln:ls.length=ds.length
 gd:∀x∈ls,dM x
 sp:1<=slow/\slow<=fast/\fast<=500
 l30:lds.length<=30
 gl:∀x∈lds,hG (ds.length:Nat) x
theorem ym.cfg {ds:List Int}{ls:List Cd}{slow fast:Int}{lds:List Ld}(h:ym ds ls slow fast lds)(N:Addr->Prop):cH (fh ds ls slow fast lds N):=Ik h.sh h.ln h.gd h.sp h.l30
theorem ym.snap {ds:List Int}{ls:List Cd}{slow fast:Int}{lds:List Ld}(h:ym ds ls slow fast lds)(N:Addr->Prop):bR (fh ds ls slow fast lds N) (cE ds ls lds):=E8 h.sh h.ln h.gl
noncomputable def Ka (K:W.Frag):R2:=fun x y H Q=>onR x fun a=>onR y fun b=>∃xs,SqL K H a xs/\∃ys,SqL K H b ys/\xs.length≠ys.length/\Q (.bl false) H
def DI (K:W.Frag)(x:Str)(st:Stmt):Prop:=∃f fd,W.nsIn K mainGlobals x=some (some (.ref f))/\Fun K x x st f fd
theorem DI.mk {K:W.Frag}{x:Str}{st:Stmt}{f:Addr}{oc:Value}{od an:Option Addr}{osl:Array (Option Value)}{kV doc pm cdv ct:Value}(a:W.nsIn K mainGlobals x=some (some (.ref f)))(l:K.lookup f=some ⟨oc,od,.func (W.fnOf x x (di st) (bN st) (aj st) .none kV doc pm an cdv ct),osl⟩)
  (c:W.codeIn K cdv x=true) (k:W.keepIn K (.ref f)=true):DI K x st:=⟨f,_,a,zj l c k⟩
def MI (K:W.Frag)(C:Addr)(m q:Str)(st:Stmt):Prop:=∃f fd,yY K C m f/\Fun K m q st f fd
theorem MI.mk {K:W.Frag}{C:Addr}{m q:Str}{st:Stmt}{f:Addr}{oc:Value}{od an:Option Addr}{osl:Array (Option Value)}{kV doc pm cdv ct:Value}(a:W.findIn K (.ref C) m=some (some (.ref f)))(fn:W.isFn K (.ref f)=true)(l:K.lookup f=some ⟨oc,od,.func (W.fnOf m q (di st) (bN st) (aj st) .none kV doc pm an cdv ct),osl⟩)
  (c:W.codeIn K cdv q=true) (k:W.keepIn K (.ref f)=true):MI K C m q st:=⟨f,_,⟨a,fn,k⟩,zj l c k⟩
def II (K:W.Frag)(C:Addr)(q:Str)(st:Stmt):Prop:=∃f fd,Mk K C f/\Fun K "__init__" q st f fd
theorem II.mk {K:W.Frag}{C:Addr}{q:Str}{st:Stmt}{f:Addr}{oc:Value}{od an:Option Addr}{osl:Array (Option Value)}{kV doc pm cdv ct:Value}(a:W.findIn K (.ref C) "__init__"=some (some (.ref f)))(fn:W.isFn K (.ref f)=true)(mk:W.makesIn K C=true)(kc:W.keepIn K (.ref C)=true)(l:K.lookup f=some ⟨oc,od,.func (W.fnOf "__init__" q (di st) (bN st) (aj st) .none kV doc pm an cdv ct),osl⟩)
  (c:W.codeIn K cdv q=true) (k:W.keepIn K (.ref f)=true):II K C q st:=⟨f,_,⟨mk,a,fn,kc⟩,zj l c k⟩
def C0I (K:W.Frag)(C0:Addr):Prop:=∃(c0 c2:Value) (dd0 d2:Option Addr) (cd0:ClassData) (sl0 sl2:Array (Option Value)) (es0:Array DictEntry) (ep0:Nat),K.lookup C0=some ⟨c0,dd0,.cls cd0,sl0⟩/\K.lookup cd0.ns=some ⟨c2,d2,.dict es0 ep0,sl2⟩/\mK es0=true/\(quietNames.all fun n=>(nsFind es0 n).isNone)=true
theorem C0I.mk {K:W.Frag}{C0 N0:Addr}{c0 c2:Value}{dd0 d2:Option Addr}{cd0:ClassData}{sl0 sl2:Array (Option Value)}{es0:Array DictEntry}{ep0:Nat}(l0:K.lookup C0=some ⟨c0,dd0,.cls cd0,sl0⟩)(e0:cd0.ns=N0)(lN0:K.lookup N0=some ⟨c2,d2,.dict es0 ep0,sl2⟩)(kN0:mK es0=true)(iN0:(quietNames.all fun n=>(nsFind es0 n).isNone)=true):C0I K C0:=
 ⟨c0,c2,dd0,d2,cd0,sl0,sl2,es0,ep0,l0,e0▸lN0,kN0,iN0⟩
def XI (K:W.Frag)(C0 C:Addr):Prop:=C0I K C0->ExI K C
theorem XI.mk {K:W.Frag}{C N C0:Addr}{nm q:Str}{bs:List Value}{hdct:Bool}{sn:List Str}{sub:List Value}{ab:Bool}{col:Option Bool}{dd:Option Addr}{k0 k1 k2 k3 k5:Option Value}{c1:Value}{d1:Option Addr}{es:Array DictEntry}{ep:Nat}{sl1:Array (Option Value)}
  (lC:K.lookup C=some (excClassObj nm q C N bs [.ref C0,.type "ValueError",.type "Exception",.type "BaseException",.type "object"] hdct sn sub ab col dd k0 k1 k2 k3 k5 "ValueError.__new__"))
  (lN:K.lookup N=some ⟨c1,d1,.dict es ep,sl1⟩) (kN:mK es=true) (iN:(quietNames.all fun n=>(nsFind es n).isNone)=true) (ca:W.findIn K (.ref C) "__class__"=some (some (.builtin "object.__class__"))) (mo:W.mroIn K C (.type "object")=some true):XI K C0 C:=by
 rintro ⟨c0,c2,dd0,d2,cd0,sl0,sl2,es0,ep0,l0,lN0,kN0,iN0⟩
 exact ⟨HZ lC lN kN iN l0 rfl lN0 kN0 iN0,ca,mo⟩
def NI (K:W.Frag)(x:Str)(a:Addr):Prop:=W.nsIn K mainGlobals x=some (some (.ref a))
def KI (K:W.Frag)(x:Str)(v:Int):Prop:=∃tk,W.nsIn K mainGlobals x=some (some (.int v tk))
theorem KI.mk {K:W.Frag}{x:Str}{v:Int}{tk:Tok}(h:W.nsIn K mainGlobals x=some (some (.int v tk))):KI K x v:=⟨tk,h⟩
theorem KI.txt {K:W.Frag}{h:Heap}{mg:Str->Option Value}{x:Str}{v:Int}(X:K.In h)(G:h.Ns mainGlobals mg)(k:KI K x v):∃u,mg x=some u/\bA (.int v) u:=let ⟨_,k⟩:=k;⟨_,W.mg_of X G k,⟨_,rfl⟩⟩
theorem pA {H H1:Hp}{p:Addr}{o:HO}(e:upd H p o=H1)(h:H p=none):av H H1:=e▸(av.refl H).lay h
theorem i8 {H H1:Hp}{p:Addr}{o:HO}(e:upd H p o=H1):H1 p=some o:=e▸ag
theorem seg {X:Cx}{b:List Stmt}{R:TS->Prop}(j:Nat){t:TS}(h:PSs X (b.drop j) t)(k:∀t',PSs X (b.drop j) t'->t'=t->∃u,PSs X b u/\R u):∃u,PSs X b u/\R u:=k t h rfl
theorem ku {t t':TS}(e:t=t'){D:jU}{σ:St}{H:Hp}(h:t' D σ H):t D σ H:=e▸h
theorem aM {N P:List Str}{sc:Scope}(kind:sc.kind=.function:=by rfl)(co:sc.isCoroutine=false:=by rfl)(gen:sc.isGenerator=false:=by rfl)(nd:N.Nodup:=by decide +kernel)(pre:N.take P.length=P:=by rfl)(par:∀x∈P,sc.names.lookup x=some .local\/sc.names.lookup x=some .cell:=by decide +kernel)(nofree:∀y∈sc.names,y.2≠.free:=by decide +kernel):ay N P sc:=⟨kind,co,gen,nd,pre,par,nofree⟩
section
variable {K:W.Frag}{x qual:Str}{st:Stmt}{f:Addr}{fd:FuncData}{ps:List Str}
theorem Fun.b0 (F:Fun K x qual st f fd)(hl:ps.length=0:=by rfl)(h:∀(kV doc pm:Value) (an:Option Addr) (cdv ct:Value),bindArgs (W.fnOf x qual (di st) (bN st) (aj st) .none kV doc pm an cdv ct) ⟨[],[]⟩=pure (ps.zip []):=by intros;rfl):dI K fd ps []:=F.binds fun kV doc pm an cdv ct us e=>match us,e.trans hl with | [],_=>h kV doc pm an cdv ct
theorem Fun.b1 (F:Fun K x qual st f fd)(hl:ps.length=1:=by rfl)(h:∀(kV doc pm:Value) (an:Option Addr) (cdv ct:Value) (a0:Value), bindArgs (W.fnOf x qual (di st) (bN st) (aj st) .none kV doc pm an cdv ct) ⟨[a0],[]⟩=pure (ps.zip [a0]):=by intros;rfl):dI K fd ps []:=F.binds fun kV doc pm an cdv ct us e=>match us,e.trans hl with | [a0],_=>h kV doc pm an cdv ct a0
theorem Fun.b2 (F:Fun K x qual st f fd)(hl:ps.length=2:=by rfl)(h:∀(kV doc pm:Value) (an:Option Addr) (cdv ct:Value) (a0 a1:Value), bindArgs (W.fnOf x qual (di st) (bN st) (aj st) .none kV doc pm an cdv ct) ⟨[a0,a1],[]⟩=pure (ps.zip [a0,a1]):=by intros;rfl):dI K fd ps []:=F.binds fun kV doc pm an cdv ct us e=>match us,e.trans hl with | [a0,a1],_=>h kV doc pm an cdv ct a0 a1
theorem Fun.b3 (F:Fun K x qual st f fd)(hl:ps.length=3:=by rfl)(h:∀(kV doc pm:Value) (an:Option Addr) (cdv ct:Value) (a0 a1 a2:Value), bindArgs (W.fnOf x qual (di st) (bN st) (aj st) .none kV doc pm an cdv ct) ⟨[a0,a1,a2],[]⟩=pure (ps.zip [a0,a1,a2]):=by intros;rfl):dI K fd ps []:=F.binds fun kV doc pm an cdv ct us e=>match us,e.trans hl with | [a0,a1,a2],_=>h kV doc pm an cdv ct a0 a1 a2
theorem Fun.b4 (F:Fun K x qual st f fd)(hl:ps.length=4:=by rfl)(h:∀(kV doc pm:Value) (an:Option Addr) (cdv ct:Value) (a0 a1 a2 a3:Value), bindArgs (W.fnOf x qual (di st) (bN st) (aj st) .none kV doc pm an cdv ct) ⟨[a0,a1,a2,a3],[]⟩=pure (ps.zip [a0,a1,a2,a3]):=by intros;rfl):dI K fd ps []:=F.binds fun kV doc pm an cdv ct us e=>match us,e.trans hl with | [a0,a1,a2,a3],_=>h kV doc pm an cdv ct a0 a1 a2 a3
theorem Fun.b5 (F:Fun K x qual st f fd)(hl:ps.length=5:=by rfl)(h:∀(kV doc pm:Value) (an:Option Addr) (cdv ct:Value) (a0 a1 a2 a3 a4:Value), bindArgs (W.fnOf x qual (di st) (bN st) (aj st) .none kV doc pm an cdv ct) ⟨[a0,a1,a2,a3,a4],[]⟩=pure (ps.zip [a0,a1,a2,a3,a4]):=by intros;rfl):dI K fd ps []:=F.binds fun kV doc pm an cdv ct us e=>match us,e.trans hl with | [a0,a1,a2,a3,a4],_=>h kV doc pm an cdv ct a0 a1 a2 a3 a4
theorem Fun.b6 (F:Fun K x qual st f fd)(hl:ps.length=6:=by rfl)(h:∀(kV doc pm:Value) (an:Option Addr) (cdv ct:Value) (a0 a1 a2 a3 a4 a5:Value), bindArgs (W.fnOf x qual (di st) (bN st) (aj st) .none kV doc pm an cdv ct) ⟨[a0,a1,a2,a3,a4,a5],[]⟩=pure (ps.zip [a0,a1,a2,a3,a4,a5]):=by intros;rfl):dI K fd ps []:=F.binds fun kV doc pm an cdv ct us e=>match us,e.trans hl with | [a0,a1,a2,a3,a4,a5],_=>h kV doc pm an cdv ct a0 a1 a2 a3 a4 a5
end
theorem dC.dn {j k:Nat}{A:Around}(r:dC k A)(h:j<=k:=by decide):dC j A:=r.mono h
theorem ao {X:Cx}{a b:Expr}{ta tb:TE}{pos:Pos}{r:R2}(hr:IxR X r)(ha:PE X a ta)(hb:PE X b tb)(hs:Ay b:=by intro _ _;rfl):PE X (.Subscript a b pos) (tOp r ta tb):=JA hr ha hb hs
theorem orL {α:Type}{a b:α}{p:Prop}(h:a=b:=by rfl):a=b\/p:=.inl h
noncomputable def paF (b e sp tk:Int):Int:=if e - b<=sp * tk/\b - e<=sp * tk then e else if sp * tk < e - b then b+sp * tk else b - sp * tk
noncomputable def tR (t:Int)(x:Int×Int)(r:Row):Int×Int:=if r.began<=t then (paF x.2 r.sn.place r.speed (t - r.began),r.sn.place) else x
noncomputable def kv (n0:aI)(rs:List Row)(t:Int):Int×Int:=rs.foldl (tR t) (n0.place,n0.place)
noncomputable def xl (n0:aI)(rs:List Row)(t:Int):Int:=(kv n0 rs t).1
noncomputable def lM (t:Int)(x:List Int)(r:Row):List Int:=if r.ended<=t then r.sn.ws else x
noncomputable def cQ (n0:aI)(rs:List Row)(t:Int):List Int:=rs.foldl (lM t) n0.ws
theorem gQ (n0:aI)(rs:List Row)(r:Row)(t:Int):kv n0 (rs++[r]) t=tR t (kv n0 rs t) r:=by simp [kv]
theorem dX (n0:aI)(rs:List Row)(r:Row)(t:Int):cQ n0 (rs++[r]) t=lM t (cQ n0 rs t) r:=by simp [cQ]
theorem xm (n0:aI)(rs:List Row)(t:Int){i:Nat}(hi:i < rs.length):cQ n0 (rs.take (i+1)) t=lM t (cQ n0 (rs.take i) t) rs[i]:=by
 rw [List.take_succ_eq_append_getElem hi,dX]
theorem BJ {w s:Int}(hw:0<=w)(hs:1<=s):hZ w s<=w:=by
 unfold hZ
 by_cases h0:w=0
 ·subst h0
  rw [Int.ediv_eq_zero_of_lt (by omega) (by omega)]
  exact Int.le_refl _
 ·refine Int.ediv_le_of_le_mul (by omega) ?_
  have:=Int.mul_nonneg (show 0<=w - 1 by omega) (show 0<=s - 1 by omega)
  rw [Int.sub_mul,Int.mul_sub,Int.mul_sub] at this
  omega
theorem BK {w s:Int}(hs:1<=s):w<=s * hZ w s:=by
 unfold hZ
 have h1:=Int.mul_ediv_add_emod (w+s - 1) s
 have h2:=Int.emod_lt_of_pos (w+s - 1) (show 0 < s by omega)
 omega
theorem FV (x:Int):x<=u7 x/\-x<=u7 x:=by unfold u7;split<;>omega
theorem DY {g:Cfg}(hg:cH g){c l:Int}(hl:0<=l/\l < g.ds.length):0<=cK g.ds c l/\cK g.ds c l<=500:=by
 have hm:g.ds.getD l.toNat 0∈g.ds:=cN (by omega)
 have h1:=hg.sh.lo _ hm
 have h2:=hg.sh.le_whole hm
 have h3:bS g.ds<=500:=hg.sh.hi _ hg.sh.whole_mem
 unfold cK;split<;>omega
theorem lO {g:Cfg}{n:aI}{d:Dd}(h:∀c l k,d≠.wind c l k):(aV g n d).place=n.place:=by
 cases d<;>first | rfl | exact absurd rfl (h _ _ _)
theorem v5 {g:Cfg}{n m:aI}(h:m.ws=n.ws):bu g m=bu g n:=by unfold bu;rw [h]
theorem v7 {g:Cfg}(hg:cH g){n:aI}(hn:bR g n){d:Dd}(hr:dD g n d=none):cL g n d<=500:=by
 cases d with
 | wind c l k=>
  obtain ⟨hl,_⟩:=lK hr
  have h1:=DY hg (c:=c) hl
  have h2:=hn.place hg
  have h3:bS g.ds<=500:=hg.sh.hi _ hg.sh.whole_mem
  have h4:=BJ (rH (cK g.ds c l - n.place)) (hg.speed n).1
  have h5:u7 (cK g.ds c l - n.place)<=500:=by unfold u7;split<;>omega
  show hZ _ _<=500
  omega
 | _=>show (1:Int)<=500;decide
theorem sZ {b e sp tk:Int}(h:e - b<=sp * tk/\b - e<=sp * tk):paF b e sp tk=e:=by unfold paF;rw [if_pos h]
theorem FW {g:Cfg}(hg:cH g){n:aI}{d:Dd}{tk:Int}(h0:0<=tk)(h:cL g n d<=tk):paF n.place (aV g n d).place (bu g (aV g n d)) tk=(aV g n d).place:=by
 have s1:=(hg.speed (aV g n d)).1
 have h2:=Int.mul_nonneg (show 0<=bu g (aV g n d) by omega) h0
 refine sZ ?_
 cases d with
 | wind c l k=>
  have e:bu g (aV g n (.wind c l k))=bu g n:=v5 rfl
  have h3:=BK (w:=u7 (cK g.ds c l - n.place)) (s:=bu g n) (hg.speed n).1
  have h4:=Int.mul_le_mul_of_nonneg_left h (show 0<=bu g n by have:=(hg.speed n).1;omega)
  have h5:=FV (cK g.ds c l - n.place)
  rw [e]
  show cK g.ds c l - n.place<=_/\n.place - cK g.ds c l<=_
  have h6:bu g n * cL g n (.wind c l k)=bu g n * hZ (u7 (cK g.ds c l - n.place)) (bu g n):=rfl
  omega
 | _=>rw [lO (fun _ _ _ z=>by cases z)];omega
theorem Run.mem {g:Cfg}{n0:aI}{rs:List Row}(hg:cH g)(h0:bR g n0)(h:Run g n0 rs):bC rs<=500 * rs.length/\∀r∈rs,1<=r.speed/\r.speed<=500/\0<=r.began/\r.began<=r.ended/\r.ended<=bC rs:=by
 induction h with
 | nil=>exact ⟨by show (0:Int)<=_;simp,fun r hr=>by cases hr⟩
 | @snoc rs d h ok hr ih=>
  have h1:=dz hg (ai n0 rs) d
  have h2:=v7 hg (h.snap hg h0) hr
  have h3:=h.now hg
  have h4:=hg.speed (aV g (ai n0 rs) d)
  rw [dw]
  refine ⟨?_,fun r hm=>?_⟩
  ·show bC rs+cL g (ai n0 rs) d<=_
   have:=ih.1
   rw [List.length_append,List.length_singleton]
   omega
  ·show _/\_/\_/\_/\_<=bC rs+cL g (ai n0 rs) d
   rcases List.mem_append.mp hm with hm | hm
   ·have:=ih.2 r hm
    omega
   ·rw [List.mem_singleton] at hm
    subst hm
    show 1<=bu g _/\bu g _<=500/\0<=bC rs/\bC rs<=bC rs+_/\bC rs+_<=_
    omega
theorem Run.behind {g:Cfg}{n0:aI}{rs:List Row}(hg:cH g)(h:Run g n0 rs){t:Int}(ht:bC rs<=t):kv n0 rs t=((ai n0 rs).place,(ai n0 rs).place)/\cQ n0 rs t=(ai n0 rs).ws:=by
 induction h with
 | nil=>exact ⟨rfl,rfl⟩
 | @snoc rs d h ok hr ih=>
  have h1:=dz hg (ai n0 rs) d
  rw [dw] at ht
  have ht':bC rs+cL g (ai n0 rs) d<=t:=ht
  obtain ⟨i1,i2⟩:=ih (by omega)
  rw [gQ,dX,i1,i2,fg]
  have hb:(eH g n0 rs d).began<=t:=by show bC rs<=t;omega
  unfold tR lM
  rw [if_pos hb,if_pos ht]
  refine ⟨?_,rfl⟩
  show (paF (ai n0 rs).place (aV g (ai n0 rs) d).place (bu g (aV g (ai n0 rs) d)) (t - bC rs),_)=_
  rw [FW hg (by omega) (by omega)]
  rfl
noncomputable def gu (n0:aI)(rs:List Row)(k:Nat):aI:=ai n0 (rs.take k)
theorem Run.mid {g:Cfg}{n0:aI}{rs:List Row}(hg:cH g)(h0:bR g n0)(h:Run g n0 rs){t:Int}{k:Nat}{r:Row}(e:rs[k]?=some r)(hb:r.began<=t)(ht:t < r.ended) :
  xl n0 rs t=paF (gu n0 rs k).place r.sn.place (bu g (gu n0 rs k)) (t - r.began)/\cQ n0 rs t=(gu n0 rs k).ws:=by
 induction h with
 | nil=>simp at e
 | @snoc rs d h ok hr ih=>
  have hk:=(List.getElem?_eq_some_iff.mp e).1
  rw [List.length_append,List.length_singleton] at hk
  by_cases hl:k < rs.length
  ·rw [List.getElem?_append_left hl] at e
   have hm:=(h.mem hg h0).2 r (List.mem_of_getElem? e)
   have h1:=dz hg (ai n0 rs) d
   have nb:¬(eH g n0 rs d).began<=t:=by show ¬bC rs<=t;omega
   have ne:¬(eH g n0 rs d).ended<=t:=by show ¬bC rs+cL g (ai n0 rs) d<=t;omega
   obtain ⟨i1,i2⟩:=ih e
   unfold xl gu
   rw [gQ,dX,List.take_append_of_le_length (by omega)]
   unfold tR lM
   rw [if_neg nb,if_neg ne]
   exact ⟨i1,i2⟩
  ·have hk':k=rs.length:=by omega
   subst hk'
   rw [List.getElem?_append_right (Nat.le_refl _),Nat.sub_self] at e
   cases e
   have hb':bC rs<=t:=hb
   obtain ⟨i1,i2⟩:=h.behind hg hb'
   unfold xl gu
   rw [gQ,dX,List.take_append_of_le_length (Nat.le_refl _),List.take_length,i1,i2]
   unfold tR lM
   rw [if_pos hb,if_neg (by omega)]
   refine ⟨?_,rfl⟩
   show paF (ai n0 rs).place (aV g (ai n0 rs) d).place (bu g (aV g (ai n0 rs) d)) (t - bC rs)=paF (ai n0 rs).place (aV g (ai n0 rs) d).place (bu g (ai n0 rs)) (t - bC rs)
   have tk0:0<=t - bC rs:=by omega
   by_cases hw:∃c l k,d=.wind c l k
   ·obtain ⟨c,l,k,rfl⟩:=hw
    rw [show bu g (aV g (ai n0 rs) (.wind c l k))=bu g (ai n0 rs) from v5 rfl]
   ·have hp:(aV g (ai n0 rs) d).place=(ai n0 rs).place:=lO fun c l k z=>hw ⟨c,l,k,z⟩
    rw [hp]
    have s1:=Int.mul_nonneg (show 0<=bu g (aV g (ai n0 rs) d) by have:=(hg.speed (aV g (ai n0 rs) d)).1;omega) tk0
    have s2:=Int.mul_nonneg (show 0<=bu g (ai n0 rs) by have:=(hg.speed (ai n0 rs)).1;omega) tk0
    rw [sZ (by omega),sZ (by omega)]
theorem BL (n0:aI)(rs:List Row){k:Nat}(hk:k<=rs.length):(ig n0 rs)[k]?=some (gu n0 rs k,bC (rs.take k)):=by
 cases k with
 | zero=>simp [ig,gu,ai,bC]
 | succ k=>
  have hk':k < rs.length:=hk
  unfold gu
  rw [List.take_succ_eq_append_getElem hk',fg,dw]
  show (rs.map _)[k]?=_
  rw [List.getElem?_map,List.getElem?_eq_getElem hk']
  rfl
theorem Run.take {g:Cfg}{n0:aI}{rs:List Row}(h:Run g n0 rs)(k:Nat):Run g n0 (rs.take k):=by
 induction h with
 | nil=>rw [List.take_nil];exact .nil
 | @snoc rs d h ok hr ih=>
  by_cases hk:k<=rs.length
  ·rw [List.take_append_of_le_length hk];exact ih
  ·rw [List.take_of_length_le (by rw [List.length_append,List.length_singleton];omega)]
   exact .snoc h ok hr
theorem Run.snapAt {g:Cfg}{n0:aI}{rs:List Row}(hg:cH g)(h0:bR g n0)(h:Run g n0 rs)(k:Nat):bR g (gu n0 rs k):=(h.take k).snap hg h0
termination_by rs.length
decreasing_by all_goals (subst_vars;simp)
theorem BM (n0:aI)(rs:List Row){k:Nat}{r:Row}(e:rs[k]?=some r):gu n0 rs (k+1)=r.sn:=by
 obtain ⟨hk,rfl⟩:=List.getElem?_eq_some_iff.mp e
 unfold gu
 rw [List.take_succ_eq_append_getElem hk,fg]
section
variable {X:Cx}
noncomputable def Kb (K:W.Frag)(C:Addr)(tb:XT->TS)(th:TS):TS:=fun D σ H=>
 tb (fun cls σ' H'=>W.exmOne K cls (.ref C)=some true/\th D σ' H') D σ H
end
theorem KP {A B:Prop}(h:B):if true=false then A else B:=by rw [if_neg (by decide)];exact h
theorem KQ {A B:Prop}(h:A):if false=false then A else B:=by rw [if_pos rfl];exact h
theorem Run.zero {g:Cfg}{n0:aI}{rs:List Row}(hg:cH g)(h0:n0.e=.no)(h:Run g n0 rs):kv n0 rs 0=(n0.place,if rs=[] then n0.place else (kv n0 rs 0).2)/\cQ n0 rs 0=n0.ws/\(rs≠[]->1<=bC rs):=by
 induction h with
 | nil=>exact ⟨rfl,rfl,fun z=>absurd rfl z⟩
 | @snoc rs d h ok hr ih=>
  obtain ⟨i1,i2,i3⟩:=ih
  have tn:=dz hg (ai n0 rs) d
  rw [gQ,dX,dw,if_neg (by simp)]
  by_cases e:rs=[]
  ·subst e
   have hnw:∀c l k,d≠.wind c l k:=fun c l k z=>by
    subst z
    have:=(lK hr).2.2
    rw [show (ai n0 []).e=n0.e from rfl,h0] at this
    cases this
   have ht:cL g (ai n0 []) d=1:=by cases d<;>first | rfl | exact absurd rfl (hnw _ _ _)
   have hp:(aV g (ai n0 []) d).place=n0.place:=lO hnw
   have e1:(eH g n0 [] d).ended=1:=by show 0+cL g (ai n0 []) d=1;omega
   have e2:(eH g n0 [] d).sn.place=n0.place:=hp
   unfold tR lM
   rw [if_pos (show (eH g n0 [] d).began<=0 from Int.le_refl _),e1,if_neg (by decide),e2]
   refine ⟨?_,i2,fun _=>by decide⟩
   show (paF n0.place n0.place (eH g n0 [] d).speed 0,n0.place)=(n0.place,n0.place)
   rw [sZ (by rw [Int.mul_zero];omega)]
  ·have h1:=i3 e
   have nb:¬(eH g n0 rs d).began<=0:=by show ¬bC rs<=0;omega
   have ne:¬(eH g n0 rs d).ended<=0:=by show ¬bC rs+cL g (ai n0 rs) d<=0;omega
   unfold tR lM
   rw [if_neg nb,if_neg ne]
   refine ⟨?_,i2,fun _=>by show 1<=bC rs+cL g (ai n0 rs) d;omega⟩
   rw [i1]
section
variable {X:Cx}
noncomputable def Kc (K:W.Frag):List V->Hp->VK->Prop:=fun xs H Q=>∃(p:Addr) (ns:List Int),xs=[.ref p]/\SqT K H p (ns.map V.int)/\Q (.int ns.sum) H
end
theorem Run.deedAt {g:Cfg}{n0:aI}{rs:List Row}(h:Run g n0 rs){k:Nat}{r:Row}(e:rs[k]?=some r):∃d,qC d/\dD g (gu n0 rs k) d=none/\r=eH g n0 (rs.take k) d:=by
 obtain ⟨hk,rfl⟩:=List.getElem?_eq_some_iff.mp e
 have h1:=h.take (k+1)
 rw [List.take_succ_eq_append_getElem hk] at h1
 obtain ⟨_,d,a,b,c⟩:=h1.inv
 exact ⟨d,a,b,c⟩
section
variable (P:Program)(w:World)(K:W.Frag)(mg:Str->Option Value)(base:Heap)(CX:CXT)(k:Nat)
def KD (x:Str)(sp:Sp):Prop:=∃f fd ps,mg x=some (.ref f)/\W.keepIn K (.ref f)=true/\dI K fd ps []/\gP P w K mg base CX k f fd ps sp
def KM (C:Addr)(m:Str)(sp:Sp):Prop:=∃f fd ps,Cls K C/\yY K C m f/\dI K fd ps []/\gP P w K mg base CX k f fd ps sp
def KN (C:Addr)(sp:Sp):Prop:=∃f fd ps,Mk K C f/\dI K fd ps []/\gP P w K mg base CX k f fd ps sp
def FF (x q:Str)(st:Stmt)(ps:List Str)(sp:Sp):Prop:=∀f fd,Fun K x q st f fd->gP P w K mg base CX k f fd ps sp
end
section
variable {P:Program}{w:World}{K:W.Frag}{mg:Str->Option Value}{base:Heap}{CX:CXT}{k:Nat}{x q m:Str}{st:Stmt}{ps N:List Str}{sp:Sp}{f C:Addr}{fd:FuncData}
theorem KD.mk (b:mg x=some (.ref f))(F:Fun K x q st f fd)(c:dI K fd ps [])(t:FF P w K mg base CX k x q st ps sp):KD P w K mg base CX k x sp:=⟨f,fd,ps,b,F.kp,c,t f fd F⟩
theorem KM.mk (d:Cls K C)(b:yY K C m f)(F:Fun K m q st f fd)(c:dI K fd ps [])(t:FF P w K mg base CX k m q st ps sp):KM P w K mg base CX k C m sp:=⟨f,fd,ps,d,b,c,t f fd F⟩
theorem KN.mk (b:Mk K C f)(F:Fun K "__init__" q st f fd)(c:dI K fd ps [])(t:FF P w K mg base CX k "__init__" q st ps sp):KN P w K mg base CX k C sp:=⟨f,fd,ps,b,c,t f fd F⟩
theorem fk0 (S:ay N ps (aj st))(h:∀vs H Q E,sp vs H Q E->vs.length=ps.length/\∀(cdv:Value) (A:Around) (outer:List Env) (s:Shared) (f:Addr),dC k (A.deeper (envOfC q (aj st) s.heap.objs.size f cdv))->
   ∃t,PSs (nU CX0 P w K mg base N q (aj st) f cdv A outer s H E).nox (bN st) t/\t {nx:=fun _ H'=>Q .non H',rt:=Q} (kZ N vs) H):FF P w K mg base CX0 (k+1) x q st ps sp:=
 fun f _ F=>F.ok S (fun vs H Q E y=>(h vs H Q E y).1) fun cdv A outer s H vs Q E hr y=>(h vs H Q E y).2 cdv A outer s f hr
theorem fkF (S:ay N ps (aj st))(h:∀vs H Q E,sp vs H Q E->vs.length=ps.length/\∀(cdv:Value) (A:Around) (outer:List Env) (s:Shared) (f:Addr),dC k (A.deeper (envOfC q (aj st) s.heap.objs.size f cdv))->
   ∃t,PSs (cxF P w K mg base N q (aj st) f cdv A outer s H E) (bN st) t/\t {nx:=fun _ H'=>Q .non H',rt:=Q} (kZ N vs) H):FF P w K mg base (CXf P w) (k+1) x q st ps sp:=
 fun f _ F=>F.okF S (fun vs H Q E y=>(h vs H Q E y).1) fun cdv A outer s H vs Q E hr y=>(h vs H Q E y).2 cdv A outer s f hr
theorem FF.calm (F:FF P w K mg base (CXf P w) k x q st ps sp)(h:∀vs H Q E,sp vs H Q E->sp vs H Q E0):FF P w K mg base CX0 k x q st ps sp:=fun f fd y=>(F f fd y).calm h
end
section
variable {X:Cx}{CX:CXT}{k:Nat}{C:Addr}{sp:Sp}{E:XK}{x m:Str}{p pos apos:Pos}{e o:Expr}{es:List Expr}{ta:TE}{t:TA}
theorem dc (D:KD X.prog X.w X.K X.mg X.base CX k x sp)(hr:dC k X.A)(hx:fo CX X E)(ha:PA X (e::es) t)(hg:Gl X x:=by rfl)(hdb:(x == ("__debug__":Str))=false:=by decide)
  (he:starEach (e::es) X.env=(false,eval e X.env)::starEach es X.env:=by rfl) (hpl:(backTo pos (starEach es X.env)).any (·.1)=false:=by rfl):PE X (.Call (.Name x p) (e::es) [] pos) (Ar sp [] E t):=
 let ⟨_,_,_,a,b,c,F⟩:=D;EM F hr hg a b c .nil hx ha hdb he hpl
theorem dc0 (D:KD X.prog X.w X.K X.mg X.base CX0 k x sp)(hr:dC k X.A)(ha:PA X (e::es) t)(hg:Gl X x:=by rfl)(hdb:(x == ("__debug__":Str))=false:=by decide)
  (he:starEach (e::es) X.env=(false,eval e X.env)::starEach es X.env:=by rfl) (hpl:(backTo pos (starEach es X.env)).any (·.1)=false:=by rfl):PE X (.Call (.Name x p) (e::es) [] pos) (Ar sp [] E0 t):=dc D hr bj ha hg hdb he hpl
theorem dm {pl:Sem Bool}(he:PE X o ta)(D:KM X.prog X.w X.K X.mg X.base CX k C m sp)(hr:dC k X.A)(hx:fo CX X E)(ha:PA X (e::es) t)
  (hst:starEach (e::es) X.env=(false,eval e X.env)::starEach es X.env:=by rfl) (hpl:(backTo pos (starEach es X.env)).any (·.1)=false:=by rfl)
  (ht:eval (.Call (.Attribute o m apos) (e::es) [] pos) X.env=(do
   let ov ←eval o X.env
   standAt apos.atName
   let (f,first) ←holding [ov] (getMethod ov m pl)
   callWith pos f first (backTo pos (starEach (e::es) X.env)) (backToKw pos (keywordEach [] X.env))):=by rfl) :
  PE X (.Call (.Attribute o m apos) (e::es) [] pos) (vL C m sp [] E ta t):=let ⟨_,_,_,a,b,c,F⟩:=D;EN he a b F hr c .nil hx ha hst hpl ht
theorem dm0 {pl:Sem Bool}(he:PE X o ta)(D:KM X.prog X.w X.K X.mg X.base CX k C m sp)(hr:dC k X.A)(hx:fo CX X E)
  (ht:eval (.Call (.Attribute o m apos) [] [] pos) X.env=(do
   let ov ←eval o X.env
   standAt apos.atName
   let (f,first) ←holding [ov] (getMethod ov m pl)
   callWith pos f first (backTo pos (starEach [] X.env)) (backToKw pos (keywordEach [] X.env))):=by rfl) :
  PE X (.Call (.Attribute o m apos) [] [] pos) (vL C m sp [] E ta uX):=let ⟨_,_,_,a,b,c,F⟩:=D;Cu he a b F hr c .nil hx ht
theorem dn (D:KN X.prog X.w X.K X.mg X.base CX k C sp)(hr:dC (k+1) X.A)(hm:X.mg x=some (.ref C))(hx:fo CX X E)(ha:PA X (e::es) t)(hg:Gl X x:=by rfl)(hdb:(x == ("__debug__":Str))=false:=by decide)
  (he:starEach (e::es) X.env=(false,eval e X.env)::starEach es X.env:=by rfl) (hpl:(backTo pos (starEach es X.env)).any (·.1)=false:=by rfl):PE X (.Call (.Name x p) (e::es) [] pos) (Ct C sp [] E t):=
 let ⟨_,_,_,a,c,F⟩:=D;EO a F hr hg hm c .nil hx ha hdb he hpl
variable {pins:List (Addr×Obj)}{E':XT}
end
section
variable {X:Cx}{a b e o l value:Expr}{es jT:List Expr}{ta tb te tl tv:TE}{t:TA}{pos p:Pos}{tg:Expr}{f:Str}
theorem pv' (i:Nat){x:Str}{pos:Pos}(hN:X.N[i]?=some x:=by rfl)(hv:Vis X.env.scope x:=by first | exact Or.inl rfl | exact Or.inr (Or.inl rfl) | exact Or.inr (Or.inr rfl))(hd:(x == ("__debug__":Str))=false:=by decide)
  (hcd:(x == ("__classdict__":Str))=false:=by decide):PE X (.Name x pos) (Dk i):=Fi i▸pv i hN hv hd hcd
theorem az (he:PE X e ta)(hb:attributeBase e f X.env (eval e X.env)=eval e X.env:=by rfl):PE X (.Attribute e f pos) (Ds X.K ta f):=Fw X.K ta f▸HG he hb
theorem bG {pos':Pos}(ha:PE X o ta)(hv:PE X value tv)(hs:swapsWith value (some (.Attribute o f pos')) pos.line X.env=pure false):PS X (.Assign [.Attribute o f pos'] value pos) (Du X.K ta tv f):=Fx X.K ta tv f▸HH ha hv hs
theorem aU:OpR X (binaryOp .Add) (zy fun i j=>.int (i+j)):=tP _▸HB
theorem dG:OpR X (binaryOp .Sub) (zy fun i j=>.int (i - j)):=tP _▸HC
theorem td:OpR X (binaryOp .Mult) (rI' tu fun i j=>.int (i * j)):=Dm _ _▸yV
theorem BN:OpR X (binaryOp .FloorDiv) (rI' GR fun i j=>.int (i / j)):=Dm _ _▸CI
theorem pB:OpR X (binaryOp .Mod) (rI' (fun _ j=>0 < j) fun i j=>.int (i % j)):=Dm _ _▸Co
theorem jo:OpR X (compareOp .Eq) (Iy):=Iz▸GH
theorem zR:OpR X (compareOp .Lt) (zy fun i j=>.bl (decide (i < j))):=tP _▸GI
theorem DZ:OpR X (compareOp .LtE) (zy fun i j=>.bl (decide (i<=j))):=tP _▸GJ
theorem Ea:OpR X (compareOp .GtE) (zy fun i j=>.bl (decide (j<=i))):=tP _▸GK
theorem ky:OpR X (compareOp .In) (zM X.K false):=DH _ _▸Bl
theorem gi:OpR X (compareOp .NotIn) (zM X.K true):=DH _ _▸wN
theorem A1:OpR X (binaryOp .Add) (DE):=FD▸HQ
theorem Eb:OpR X (binaryOp .Add) (zL X.K):=DG _▸E4
theorem yo:OpR X (binaryOp .Add) (zK):=DF▸Fb
theorem Ec:OpR X (binaryOp .Mult) (zQ X.K):=DT _▸E9
theorem FX (hu:X.A.units < cLine):OpR X (compareOp .Eq) (AX X.K):=FQ _▸Ic hu
theorem xn (hu:X.A.units < cLine):OpR X (compareOp .NotEq) (AW X.K):=FP _▸Io hu
theorem dY:UnR X (unaryOp .USub) (rU' fun i=>.int (-i)):=JY _▸HD
theorem au:IxR X (AS X.K):=Ft _▸Az
theorem aq:IxR X (rK X.K):=Fu _▸Cz
theorem Ed:SlR X (DC X.K):=FA _▸EU
theorem A2:SlR X (DD X.K):=FC _▸HJ
theorem jY:Hv X zJ:=Dy▸CB
theorem dO:MtM X "list.append" tQ:=zE▸Bm
theorem xo:MtM X "list.pop" AU:=FG▸HP
theorem v8:MtM X "list.clear" sY:=BE▸CG
theorem bU (h:PE X e te)(he:∀bS,isTrue e X.env bS=(do let v ←bS;standAt e.pos;holding [v] (truthy v)):=by intro _;rfl):PT X e (tB' te):=GZ te▸Hr h he
theorem dq {op:CmpOp}{r:R2}(ho:OpR X (compareOp op) r)(ha:PE X a ta)(hb:PE X b tb)(hm:behindInMarks op b=false):PT X (.Compare a [op] [b] pos) (tB' (tOp r ta tb)):=Dl (tOp r ta tb)▸gO ho ha hb hm
theorem bw (ha:PE X a ta)(hb:PE X b tb)(hm:behindInMarks .Eq b=false:=by exact bV _):PT X (.Compare a [.Eq] [b] pos) (IG ta tb):=Fq ta tb▸gO GH ha hb hm
theorem i9 (ha:PE X a ta)(hb:PE X b tb)(hm:behindInMarks .NotEq b=false:=by exact bV _):PT X (.Compare a [.NotEq] [b] pos) (IH ta tb):=Fs ta tb▸gO Js ha hb hm
theorem lP (ha:PE X a ta)(hb:PE X b tb)(hm:behindInMarks .Lt b=false:=by exact bV _):PT X (.Compare a [.Lt] [b] pos) (mZ (fun i j=>i < j) ta tb):=IA ta tb▸gO GI ha hb hm
theorem G1 (ha:PE X a ta)(hb:PE X b tb)(hm:behindInMarks .LtE b=false:=by exact bV _):PT X (.Compare a [.LtE] [b] pos) (mZ (fun i j=>i<=j) ta tb):=IB ta tb▸gO GJ ha hb hm
theorem v9 (ha:PE X a ta)(hb:PE X b tb)(hm:behindInMarks .Gt b=false:=by exact bV _):PT X (.Compare a [.Gt] [b] pos) (mZ (fun i j=>j < i) ta tb):=IC ta tb▸gO Jt ha hb hm
theorem Ee (ha:PE X a ta)(hb:PE X b tb)(hm:behindInMarks .GtE b=false:=by exact bV _):PT X (.Compare a [.GtE] [b] pos) (mZ (fun i j=>j<=i) ta tb):=ID ta tb▸gO GK ha hb hm
theorem xp (ha:PE X a ta)(hb:PE X b (tC .non))(hm:behindInMarks .Is b=false:=by exact bV _):PT X (.Compare a [.Is] [b] pos) (DR ta):=DS ta▸gO HE ha hb hm
theorem A3 (ha:PE X a ta)(hb:PE X b (tC .non))(hm:behindInMarks .IsNot b=false:=by exact bV _):PT X (.Compare a [.IsNot] [b] pos) (zP ta):=BG ta▸gO EI ha hb hm
theorem cu {k:Int}(ha:PE X a ta)(hb:PE X b (tC (.int k)))(hk:0 < k:=by decide):PE X (.BinOp a .Mod b pos) (tU1 (fun i=>.int (i % k)) ta):=Dz hk ta (fun i j=>.int (i % j))▸aO Co ha hb
theorem kz {k:Int}(ha:PE X a ta)(hb:PE X b (tC (.int k)))(h1:0 < k:=by decide)(h2:k < 1073741824:=by decide):PE X (.BinOp a .FloorDiv b pos) (tU1 (fun i=>.int (i / k)) ta):=DA h1 h2 ta (fun i j=>.int (i / j))▸aO EH ha hb
theorem tf {k:Int}(ha:PE X a ta)(hb:PE X b (tC (.int k)))(h1:-4294967296 < k:=by decide)(h2:k < 4294967296:=by decide):PE X (.BinOp a .Mult b pos) (tU1 (fun i=>.int (i * k)) ta):=DB h1 h2 ta (fun i j=>.int (i * j))▸aO yV ha hb
theorem lQ {k:Int}(ha:PE X a (tC (.int k)))(hb:PE X b tb)(h1:-4294967296 < k:=by decide)(h2:k < 4294967296:=by decide):PE X (.BinOp a .Mult b pos) (tU1 (fun i=>.int (k * i)) tb):=BD h1 h2 tb (fun i j=>.int (i * j))▸aO yV ha hb
theorem fA {k:Nat}{t:TGs}{n:Nat}(hc:X.calm=true)(h:PGs X es t)(hn:(assignEach es X.env).length=n:=by rfl)(hst:(assignEach es X.env).findIdx? (·.1)=none:=by rfl):PG X (.Tuple es k pos) (rJ X.K n t):=AO X.K n t▸Hy hc h hn hst
theorem A4 {k:Nat}{t:TGs}{n:Nat}(hc:X.calm=true)(h:PGs X es t)(hn:(assignEach es X.env).length=n:=by rfl)(hst:(assignEach es X.env).findIdx? (·.1)=none:=by rfl):PG X (.Tuple es k pos) (zB X.K n t):=Dn X.K n t▸Il hc h hn hst
theorem aH {t:TG}{u:TGs}(h1:PG X e t)(h2:PGs X es u)(hs:(assignEach (e::es) X.env).map (·.2)=assign e X.env::(assignEach es X.env).map (·.2):=by rfl):PGs X (e::es) (qH t u):=pz t u▸Ce h1 h2 hs
theorem c9:PGs X [] AQ:=AR▸EE
theorem cA (hl:PE X l tl):PI X tg l (zG X.K tl):=Dw X.K tl▸EF hl
theorem bq (hg:Gl X "range")(hm:X.mg "range"=none)(ha:PA X [a] t)(hs:starEach [a] X.env=[(false,eval a X.env)]:=by rfl):PI X tg (.Call (.Name "range" p) [a] [] pos) (zH t):=Dx t▸Ba hg hm ha hs
theorem tS (hg:Gl X "range")(hm:X.mg "range"=none)(ha:PA X [a,b] t)(hs:starEach [a,b] X.env=[(false,eval a X.env),(false,eval b X.env)]:=by rfl)(hs2:starEach [b] X.env=[(false,eval b X.env)]:=by rfl):PI X tg (.Call (.Name "range" p) [a,b] [] pos) (zN t):=DJ t▸Bb hg hm ha hs hs2
theorem yp {tpos:Pos}{elts:List Expr}{x1:Nat}(hg:Gl X "enumerate")(hm:X.mg "enumerate"=none)(hb:bootBuiltins "enumerate"=some (.type "enumerate"))(he:PE X a te)(hs:starEach [a] X.env=[(false,eval a X.env)]:=by rfl):PI X (.Tuple elts x1 tpos) (.Call (.Name "enumerate" p) [a] [] pos) (zO X.K te):=DK X.K te▸E2 hg hm hb he hs
theorem FY {tpos:Pos}{elts:List Expr}{x1:Nat}(hg:Gl X "zip")(hm:X.mg "zip"=none)(hb:bootBuiltins "zip"=some (.type "zip"))(ha:PE X a ta)(hb2:PE X b tb)(hs:starEach [a,b] X.env=[(false,eval a X.env),(false,eval b X.env)]:=by rfl)(hs2:starEach [b] X.env=[(false,eval b X.env)]:=by rfl):PI X (.Tuple elts x1 tpos) (.Call (.Name "zip" p) [a,b] [] pos) (DL X.K ta tb):=FE X.K ta tb▸Ie hg hm hb ha hb2 hs hs2
theorem ja (ha:PE X a ta)(hb:PE X (.BoolOp .And (b::jT) pos) tb):PE X (.BoolOp .And (a::b::jT) pos) (zC ta tb):=Dp ta tb▸Hs ha hb
theorem IJ (ha:PE X a ta)(hb:PE X (.BoolOp .Or (b::jT) pos) tb):PE X (.BoolOp .Or (a::b::jT) pos) (Dq ta tb):=Fv ta tb▸Jj ha hb
theorem FZ (ha:PE X a ta):PE X (.UnaryOp .Not a pos) (zD ta):=Dr ta▸Ht ha
theorem pC (h:PE X e te):PO X (some e) (zF te):=Dv te▸ET h
theorem qJ {r r':List V->Hp->VK->Prop}(h:∀t,tCB r t=tCB r' t):r=r':=funext fun vs=>funext fun H=>funext fun Q=>congrFun (congrFun (congrFun (h fun σ H Q=>Q vs H) []) H) Q
theorem ax:eG X (.builtin "len") (Fy X.K):=qJ (Fz X.K)▸wO
theorem bW:eG X (.type "list") (sX X.K):=qJ (zI X.K)▸wQ
theorem wa:eG X (.builtin "abs") FH:=qJ FI▸Cq
theorem nZ (hc:X.calm=true):eG X (.builtin "min") DN:=qJ DO▸Bf hc
theorem lR:eG X (.type "tuple") (xk X.K):=qJ (BF X.K)▸uZ
theorem eQ:eG X (.type "int") AV:=qJ DQ▸Bg
theorem dm' {CX:CXT}{k:Nat}{C:Addr}{sp:Sp}{E:XK}{m:Str}{apos:Pos}{pl:Sem Bool}(he:PE X o ta)(D:KM X.prog X.w X.K X.mg X.base CX k C m sp)(hr:dC k X.A)(hx:fo CX X E)(ha:PA X (e::es) t)
  (hst:starEach (e::es) X.env=(false,eval e X.env)::starEach es X.env:=by rfl) (hpl:(backTo pos (starEach es X.env)).any (·.1)=false:=by rfl)
  (ht:eval (.Call (.Attribute o m apos) (e::es) [] pos) X.env=(do
   let ov ←eval o X.env
   standAt apos.atName
   let (f,first) ←holding [ov] (getMethod ov m pl)
   callWith pos f first (backTo pos (starEach (e::es) X.env)) (backToKw pos (keywordEach [] X.env))):=by rfl) :
  PE X (.Call (.Attribute o m apos) (e::es) [] pos) (xi C m sp [] E ta t):=yj C m sp [] E ta t▸dm he D hr hx ha hst hpl ht
theorem dP {CX:CXT}{k:Nat}{C:Addr}{sp:Sp}{E:XK}{m:Str}{apos:Pos}{pl:Sem Bool}(he:PE X o ta)(D:KM X.prog X.w X.K X.mg X.base CX k C m sp)(hr:dC k X.A)(hx:fo CX X E)
  (ht:eval (.Call (.Attribute o m apos) [] [] pos) X.env=(do
   let ov ←eval o X.env
   standAt apos.atName
   let (f,first) ←holding [ov] (getMethod ov m pl)
   callWith pos f first (backTo pos (starEach [] X.env)) (backToKw pos (keywordEach [] X.env))):=by rfl) :
  PE X (.Call (.Attribute o m apos) [] [] pos) (xi C m sp [] E ta uX):=yj C m sp [] E ta uX▸dm0 he D hr hx ht
theorem Ga {i j:Nat}{x y:Str}{px py pt:Pos}{kt k2 pt2}(hc:X.calm=true)(hN:X.N.Nodup)(hi:X.N[i]?=some x)(hj:X.N[j]?=some y)(hij:i≠j)
  (hx:X.env.scope.names.lookup x=some .local) (hy:X.env.scope.names.lookup y=some .local) (ha:PA X [a,b] t)
  (hw:swappedStores [.Tuple [.Name x px,.Name y py] kt pt] (.Tuple [a,b] k2 pt2) X.env=pure (some [x,y]))
  (hs:swapsWithSole [.Tuple [.Name x px,.Name y py] kt pt] (.Tuple [a,b] k2 pt2) pos.line X.env=pure false:=by rfl) :
  PS X (.Assign [.Tuple [.Name x px,.Name y py] kt pt] (.Tuple [a,b] k2 pt2) pos) (DU i j t):=FO i j t▸Hz hc hN hi hj hij hx hy ha hw hs
variable {e1 e2 e3 e4:Expr}{t1 t2 t3 t4:TE}
theorem pa1 (h1:PE X e1 t1)(s1:starEach [e1] X.env=(false,eval e1 X.env)::starEach [] X.env:=by rfl):PA X [e1] (kY t1 uX):=dU h1 g8 s1
theorem pa2 (h1:PE X e1 t1)(h2:PE X e2 t2)(s1:starEach [e1,e2] X.env=(false,eval e1 X.env)::starEach [e2] X.env:=by rfl)(s2:starEach [e2] X.env=(false,eval e2 X.env)::starEach [] X.env:=by rfl):PA X [e1,e2] (kY t1 (kY t2 uX)):=dU h1 (pa1 h2 s2) s1
theorem pa3 (h1:PE X e1 t1)(h2:PE X e2 t2)(h3:PE X e3 t3)(s1:starEach [e1,e2,e3] X.env=(false,eval e1 X.env)::starEach [e2,e3] X.env:=by rfl)(s2:starEach [e2,e3] X.env=(false,eval e2 X.env)::starEach [e3] X.env:=by rfl)(s3:starEach [e3] X.env=(false,eval e3 X.env)::starEach [] X.env:=by rfl):PA X [e1,e2,e3] (kY t1 (kY t2 (kY t3 uX))):=dU h1 (pa2 h2 h3 s2 s3) s1
theorem pa4 (h1:PE X e1 t1)(h2:PE X e2 t2)(h3:PE X e3 t3)(h4:PE X e4 t4)(s1:starEach [e1,e2,e3,e4] X.env=(false,eval e1 X.env)::starEach [e2,e3,e4] X.env:=by rfl)(s2:starEach [e2,e3,e4] X.env=(false,eval e2 X.env)::starEach [e3,e4] X.env:=by rfl)(s3:starEach [e3,e4] X.env=(false,eval e3 X.env)::starEach [e4] X.env:=by rfl)(s4:starEach [e4] X.env=(false,eval e4 X.env)::starEach [] X.env:=by rfl):PA X [e1,e2,e3,e4] (kY t1 (kY t2 (kY t3 (kY t4 uX)))):=dU h1 (pa3 h2 h3 h4 s2 s3 s4) s1
end
abbrev Xm (K:W.Frag)(a b:Addr)(v:Bool):Prop:=W.exmOne K (.ref a) (.ref b)=some v
abbrev Kt (K:W.Frag)(a b:Addr)(v:Bool):Prop:=W.kitOne K (.ref a) (.ref b)=some v
theorem fgo {K:W.Frag}{H:Hp}{a:Addr}{f:Str}{C:Addr}{dx:Addr}{fs:List (Str×V)}{v:V}{q:V->Prop}(h:H a=some (.ins C dx fs))(c:Cls K C)(n:aS K C f)(l:fs.lookup f=some v)(k:q v) :
  ∃C dx fs,H a=some (.ins C dx fs)/\Cls K C/\aS K C f/\∃v,fs.lookup f=some v/\q v:=⟨_,_,_,h,c,n,_,l,k⟩
theorem mgo {H:Hp}{a C:Addr}{m:Str}{dx:Addr}{fs:List (Str×V)}{q:Prop}(h:H a=some (.ins C dx fs))(l:fs.lookup m=none)(k:q) :
  ∃dx fs,H a=some (.ins C dx fs)/\fs.lookup m=none/\q:=⟨_,_,h,l,k⟩
section
variable {X:Cx}
noncomputable def IK (K:W.Frag):V->List V->Hp->VK->Prop:=fun x vs H Q=>onR x fun l=>onC vs fun y r=>onN r (onI y fun k=>∃ns:List Int,SqL K H l (ns.map V.int)/\Q (.int (ns.count k:Nat)) H)
theorem yq {k:Int}{its:List Value}{ns:List Int}(h:IntsAre its ns):its.countP (isInt k)=ns.count k:=by
 induction h with
 | nil=>rfl
 | @cons n t vs ns h ih=>
  rw [List.countP_cons,List.count_cons,ih]
  rfl
theorem yr:MtR X "list.count" (IK X.K):=by
 intro pins s σ H x vs v us Q I rx rv h
 obtain ⟨l,rfl,h⟩:=fz h
 match vs,h with
 | [y],h=>
  obtain ⟨k,rfl,ns,hq,q⟩:=nX (show onI y _ from h)
  cases rx
  obtain ⟨u,rfl,t,rfl⟩:=rv.one
  obtain ⟨its,r,pl,hz⟩:=I.list hq
  have hi:IntsAre its ns:=ze r
  obtain ⟨⟨cls,dd,data,sl⟩,ho,hc,n,hd⟩:=id pl.isList
  simp only at hc hd
  subst hc hd
  refine call_meets PySem.F.slot_list_count ⟨_,ho,rfl⟩ PySem.F.entry_list_count (PySem.F.args_list_count_2 _ _)
   (PySem.SeqAt.list_countAt l its.toArray n dd sl (.int k t) (isInt k)) ⟨ho,fun y hy=>(eq_isInt k t hi y (by simpa using hy)).at _ _,?_⟩
  have e:its.toArray.toList.countP (isInt k)=ns.count k:=yq hi
  rw [e]
  exact ⟨.int (ns.count k:Nat),H,I.tok _,⟨_,rfl⟩,q⟩
end
end L2
namespace K38
open PySem L2
noncomputable abbrev tT:List Str:=["number","many"]
noncomputable abbrev ng:List Str:=["level","many"]
noncomputable abbrev pD:List Str:=["number","many"]
noncomputable abbrev nh:List Str:=["loads","many"]
noncomputable abbrev rO:List Str:=["self","loads","many"]
noncomputable abbrev rP:List Str:=["self","number","cage"]
noncomputable abbrev tU:List Str:=["self","cage","level"]
noncomputable abbrev pE:List Str:=["self"]
noncomputable abbrev lS:List Str:=["self","cage"]
noncomputable abbrev lg:List Str:=["self","level"]
noncomputable abbrev jb:List Str:=["self"]
noncomputable abbrev rQ:List Str:=["self"]
noncomputable abbrev ni:List Str:=["number"]
noncomputable abbrev nj:List Str:=["codes","many"]
noncomputable abbrev pF:List Str:=["self","codes"]
noncomputable abbrev pG:List Str:=["self","level","strokes"]
noncomputable abbrev lT:List Str:=["self","strokes"]
noncomputable abbrev pH:List Str:=["self","level"]
noncomputable abbrev rR:List Str:=["self","level","kind"]
noncomputable abbrev pI:List Str:=["self"]
noncomputable abbrev lU:List Str:=["depths"]
noncomputable abbrev pJ:List Str:=["depths"]
noncomputable abbrev nq:List Str:=["depths","place"]
noncomputable abbrev tV:List Str:=["depths","depth"]
noncomputable abbrev nu:List Str:=["depths","cage","level"]
noncomputable abbrev tW:List Str:=["depths","place"]
noncomputable abbrev lV:List Str:=["slow","fast"]
noncomputable abbrev pK:List Str:=["way","speed"]
noncomputable abbrev lh:List Str:=["self","place","opened","bells","yard"]
noncomputable abbrev lj:List Str:=["self"]
noncomputable abbrev rS:List Str:=["self","first","most"]
noncomputable abbrev pL:List Str:=["self","deed","ticks","speed","standing"]
noncomputable abbrev nv:List Str:=["self"]
noncomputable abbrev tX:List Str:=["self"]
noncomputable abbrev ny:List Str:=["self"]
noncomputable abbrev lp:List Str:=["self","tick"]
noncomputable abbrev ij:List Str:=["self","tick"]
noncomputable abbrev pM:List Str:=["self","depths","codes","slow","fast","loads"]
noncomputable abbrev pN:List Str:=["self","level","strokes"]
noncomputable abbrev lW:List Str:=["self","strokes"]
noncomputable abbrev pO:List Str:=["self","level"]
noncomputable abbrev jc:List Str:=["self","level"]
noncomputable abbrev jd:List Str:=["self","level"]
noncomputable abbrev je:List Str:=["self","word","level","wanted"]
noncomputable abbrev pP:List Str:=["self","number","cage"]
noncomputable abbrev lX:List Str:=["self","cage"]
noncomputable abbrev pQ:List Str:=["self","cage","level","kind"]
noncomputable abbrev jf:List Str:=["self"]
noncomputable abbrev nA:List Str:=["self","deed","ticks","standing"]
noncomputable abbrev ik:List Str:=["self","standing"]
noncomputable abbrev jZ:List Str:=["self","cage"]
noncomputable abbrev eI:List Str:=["self","level"]
noncomputable abbrev rT:List Str:=["self"]
noncomputable abbrev nB:List Str:=["self"]
noncomputable abbrev gM:List Str:=["self","place"]
noncomputable abbrev nC:List Str:=["self"]
noncomputable abbrev j0:List Str:=["self","tick"]
noncomputable abbrev lq:List Str:=["self","cage"]
noncomputable abbrev j1:List Str:=["self","level"]
noncomputable abbrev wc:List Str:=["_law_found"]
noncomputable abbrev Ef:List Str:=["_law_script","_law_k"]
noncomputable abbrev yt:List Str:=["_law_cell","_law_k","_law_span"]
noncomputable abbrev we:List Str:=["_law_script","_law_k"]
noncomputable abbrev pR:List Str:=["_law_found","_law_due"]
noncomputable abbrev tY:List Str:=["_law_cell"]
noncomputable abbrev wg:List Str:=["_law_cell","_law_many"]
noncomputable abbrev wj:List Str:=["_law_cell","_law_many","_law_most"]
noncomputable abbrev wm:List Str:=["_law_script"]
noncomputable abbrev wo:List Str:=["_law_script","_law_most"]
noncomputable abbrev yu:List Str:=["_law_setup_here"]
noncomputable abbrev Eg:List Str:=["_law_depths_here","_law_cage","_law_place"]
noncomputable abbrev yv:List Str:=["_law_row","_law_k","_law_value"]
noncomputable abbrev wq:List Str:=["_law_way","_law_speed_here"]
noncomputable abbrev wt:List Str:=["_law_setup_here","_law_lying"]
noncomputable abbrev wu:List Str:=["_law_setup_here"]
noncomputable abbrev wx:List Str:=["_law_heard_here","_law_deed"]
noncomputable abbrev yw:List Str:=["_law_setup_here","_law_state","_law_deed"]
noncomputable abbrev yx:List Str:=["_law_works","_law_deed"]
noncomputable abbrev j4:List Str:=["_law_setup_here","_law_state","_law_rest"]
noncomputable abbrev j5:List Str:=["_law_setup_here","_law_state","_law_rest"]
noncomputable abbrev nD:List Str:=["_law_setup_here","_law_states","_law_cell"]
noncomputable abbrev yy:List Str:=["_law_works","_law_setup_here","_law_states","_law_rows","_law_deed"]
noncomputable abbrev yz:List Str:=["_law_works","_law_many","_law_levels"]
noncomputable abbrev tZ:List Str:=["_law_depths_here","_law_elder","_law_newer","_law_deed","_law_place"]
noncomputable abbrev lY:List Str:=["_law_found","_law_many","_law_levels"]
noncomputable abbrev Eh:List Str:=["_law_script"]
noncomputable def top (i:Nat):Stmt:=PySem.Challenge.pw_cagebells_k38_whole_one_place_each.main.body.getD i (.Pass ⟨0,0,0,0⟩)
noncomputable abbrev n8:Stmt:=top 23
theorem yA:ay ["number","many"] tT (aj n8):=aM
noncomputable abbrev jq:Stmt:=top 24
theorem t6:ay ["level","many"] ng (aj jq):=aM
noncomputable abbrev kA:Stmt:=top 25
theorem ve:ay ["number","many"] pD (aj kA):=aM
noncomputable abbrev jr:Stmt:=top 30
theorem fB:ay ["loads","many","kind","level","goal"] nh (aj jr):=aM
noncomputable abbrev lZ:Stmt:=aN (top 31) 0
theorem xq:ay ["self","loads","many"] rO (aj lZ):=aM
noncomputable abbrev l3:Stmt:=aN (top 31) 1
theorem xr:ay ["self","number","cage"] rP (aj l3):=aM
noncomputable abbrev n9:Stmt:=aN (top 31) 2
theorem rV:ay ["self","cage","level","number"] tU (aj n9):=aM
noncomputable abbrev kB:Stmt:=aN (top 31) 3
theorem vf:ay ["self"] pE (aj kB):=aM
noncomputable abbrev il:Stmt:=aN (top 31) 4
theorem gv:ay ["self","cage","number","spot"] lS (aj il):=aM
noncomputable abbrev gw:Stmt:=aN (top 31) 5
theorem qK:ay ["self","level"] lg (aj gw):=aM
noncomputable abbrev fC:Stmt:=aN (top 31) 6
theorem eR:ay ["self","kind","spot"] jb (aj fC):=aM
noncomputable abbrev l4:Stmt:=aN (top 31) 7
theorem pS:ay ["self","other"] rQ (aj l4):=aM
noncomputable abbrev js:Stmt:=top 35
theorem t8:ay ["number"] ni (aj js):=aM
noncomputable abbrev jt:Stmt:=top 36
theorem ip:ay ["codes","many","men","coal"] nj (aj jt):=aM
noncomputable abbrev kC:Stmt:=aN (top 37) 0
theorem vg:ay ["self","codes"] pF (aj kC):=aM
noncomputable abbrev kD:Stmt:=aN (top 37) 1
theorem vh:ay ["self","level","strokes"] pG (aj kD):=aM
noncomputable abbrev iq:Stmt:=aN (top 37) 2
theorem eN:ay ["self","strokes","level","rung","alike"] lT (aj iq):=aM
noncomputable abbrev kE:Stmt:=aN (top 37) 4
theorem vi:ay ["self","level"] pH (aj kE):=aM
noncomputable abbrev l5:Stmt:=aN (top 37) 6
theorem pT:ay ["self","level","kind","code"] rR (aj l5):=aM
noncomputable abbrev kF:Stmt:=aN (top 37) 7
theorem nE:ay ["self","other"] pI (aj kF):=aM
noncomputable abbrev ir:Stmt:=top 42
theorem gx:ay ["depths","depth","level"] lU (aj ir):=aM
noncomputable abbrev kG:Stmt:=top 43
theorem vj:ay ["depths"] pJ (aj kG):=aM
noncomputable abbrev ju:Stmt:=top 44
theorem t9:ay ["depths","place"] nq (aj ju):=aM
noncomputable abbrev oa:Stmt:=top 45
theorem rW:ay ["depths","depth","level"] tV (aj oa):=aM
noncomputable abbrev jv:Stmt:=top 46
theorem ua:ay ["depths","cage","level"] nu (aj jv):=aM
noncomputable abbrev oe:Stmt:=top 47
theorem rX:ay ["depths","place","stands"] tW (aj oe):=aM
noncomputable abbrev iu:Stmt:=top 50
theorem sF:ay ["slow","fast"] lV (aj iu):=aM
noncomputable abbrev kH:Stmt:=top 51
theorem vk:ay ["way","speed"] pK (aj kH):=aM
noncomputable abbrev gy:Stmt:=aN (top 53) 0
theorem qL:ay ["self","place","opened","bells","yard"] lh (aj gy):=aM
noncomputable abbrev gz:Stmt:=aN (top 53) 1
theorem qM:ay ["self"] lj (aj gz):=aM
noncomputable abbrev l7:Stmt:=aN (top 54) 0
theorem xt:ay ["self","first","most"] rS (aj l7):=aM
noncomputable abbrev kI:Stmt:=aN (top 54) 1
theorem nG:ay ["self","deed","ticks","speed","standing","began"] pL (aj kI):=aM
noncomputable abbrev jw:Stmt:=aN (top 54) 2
theorem ub:ay ["self"] nv (aj jw):=aM
noncomputable abbrev og:Stmt:=aN (top 54) 3
theorem yB:ay ["self"] tX (aj og):=aM
noncomputable abbrev jx:Stmt:=aN (top 54) 4
theorem uc:ay ["self"] ny (aj jx):=aM
noncomputable abbrev gA:Stmt:=aN (top 54) 7
theorem bT:ay ["self","tick","spots","began","ended","deed","speed","standing"] lp (aj gA):=aM
noncomputable abbrev eT:Stmt:=aN (top 54) 8
theorem mU:ay ["self","tick"] ij (aj eT):=aM
noncomputable abbrev kJ:Stmt:=aN (top 57) 0
theorem jy:ay ["self","depths","codes","slow","fast","loads","shut","first"] pM (aj kJ):=aM
noncomputable abbrev kK:Stmt:=aN (top 57) 1
theorem nH:ay ["self","level","strokes","standing"] pN (aj kK):=aM
noncomputable abbrev iw:Stmt:=aN (top 57) 2
theorem gB:ay ["self","strokes","standing","answer"] lW (aj iw):=aM
noncomputable abbrev kL:Stmt:=aN (top 57) 3
theorem nI:ay ["self","level","standing"] pO (aj kL):=aM
noncomputable abbrev fD:Stmt:=aN (top 57) 4
theorem oh:ay ["self","level"] jc (aj fD):=aM
noncomputable abbrev fE:Stmt:=aN (top 57) 5
theorem oi:ay ["self","level"] jd (aj fE):=aM
noncomputable abbrev fF:Stmt:=aN (top 57) 6
theorem ix:ay ["self","word","level","wanted","standing"] je (aj fF):=aM
noncomputable abbrev kM:Stmt:=aN (top 57) 7
theorem jz:ay ["self","number","cage","standing","level"] pP (aj kM):=aM
noncomputable abbrev iz:Stmt:=aN (top 57) 8
theorem gC:ay ["self","cage","standing","level"] lX (aj iz):=aM
noncomputable abbrev kO:Stmt:=aN (top 57) 9
theorem eJ:ay ["self","cage","level","kind","standing","gate","end","ticks"] pQ (aj kO):=aM
noncomputable abbrev fG:Stmt:=aN (top 57) 10
theorem oj:ay ["self"] jf (aj fG):=aM
noncomputable abbrev jA:Stmt:=aN (top 57) 11
theorem ud:ay ["self","deed","ticks","standing"] nA (aj jA):=aM
noncomputable abbrev eU:Stmt:=aN (top 57) 12
theorem mV:ay ["self","standing"] ik (aj eU):=aM
noncomputable abbrev fS:Stmt:=aN (top 57) 13
theorem pU:ay ["self","cage"] jZ (aj fS):=aM
noncomputable abbrev cU:Stmt:=aN (top 57) 14
theorem iX:ay ["self","level"] eI (aj cU):=aM
noncomputable abbrev l8:Stmt:=aN (top 57) 15
theorem xu:ay ["self"] rT (aj l8):=aM
noncomputable abbrev jB:Stmt:=aN (top 57) 21
theorem ue:ay ["self"] nB (aj jB):=aM
noncomputable abbrev eB:Stmt:=aN (top 57) 23
theorem l9:ay ["self","place"] gM (aj eB):=aM
noncomputable abbrev jC:Stmt:=aN (top 57) 24
theorem uf:ay ["self"] nC (aj jC):=aM
noncomputable abbrev fT:Stmt:=aN (top 57) 25
theorem pV:ay ["self","tick"] j0 (aj fT):=aM
noncomputable abbrev gD:Stmt:=aN (top 57) 26
theorem qN:ay ["self","cage"] lq (aj gD):=aM
noncomputable abbrev fU:Stmt:=aN (top 57) 27
theorem pW:ay ["self","level"] j1 (aj fU):=aM
noncomputable abbrev qO:Stmt:=top 59
theorem zS:ay ["_law_found"] wc (aj qO):=aM
noncomputable abbrev zT:Stmt:=top 60
theorem Gb:ay ["_law_script","_law_k"] Ef (aj zT):=aM
noncomputable abbrev ug:Stmt:=top 61
theorem j6:ay ["_law_cell","_law_k","_law_span","_law_rest","_law_turn","_law_one"] yt (aj ug):=aM
noncomputable abbrev qP:Stmt:=top 62
theorem om:ay ["_law_script","_law_k","_law_cell","_law_one"] we (aj qP):=aM
noncomputable abbrev ma:Stmt:=top 63
theorem qQ:ay ["_law_found","_law_due","_law_alike","_law_k"] pR (aj ma):=aM
noncomputable abbrev oo:Stmt:=top 64
theorem cF:ay ["_law_cell","_law_many","_law_shape","_law_gap","_law_made_here","_law_last","_law_k","_law_span"] tY (aj oo):=aM
noncomputable abbrev qR:Stmt:=top 65
theorem kP:ay ["_law_cell","_law_many","_law_made_here","_law_k","_law_men"] wg (aj qR):=aM
noncomputable abbrev qS:Stmt:=top 66
theorem iA:ay ["_law_cell","_law_many","_law_most","_law_made_here","_law_count","_law_k","_law_kind"] wj (aj qS):=aM
noncomputable abbrev j7:Stmt:=top 67
theorem eV:ay ["_law_script","_law_depths_here","_law_codes_here","_law_cell","_law_slow","_law_fast"] wm (aj j7):=aM
noncomputable abbrev qT:Stmt:=top 68
theorem iB:ay ["_law_script","_law_most","_law_depths_here","_law_codes_here","_law_slow","_law_fast"] wo (aj qT):=aM
noncomputable abbrev uh:Stmt:=top 69
theorem fi:ay ["_law_setup_here","_law_depths_here","_law_codes_here","_law_slow","_law_fast","_law_loads_here","_law_handed","_law_works"] yu (aj uh):=aM
noncomputable abbrev zU:Stmt:=top 70
theorem xv:ay ["_law_depths_here","_law_cage","_law_place","_law_deep","_law_k"] Eg (aj zU):=aM
noncomputable abbrev ui:Stmt:=top 71
theorem BO:ay ["_law_row","_law_k","_law_value"] yv (aj ui):=aM
noncomputable abbrev qU:Stmt:=top 72
theorem oq:ay ["_law_way","_law_speed_here","_law_ticks"] wq (aj qU):=aM
noncomputable abbrev qV:Stmt:=top 73
theorem uj:ay ["_law_setup_here","_law_lying","_law_k"] wt (aj qV):=aM
noncomputable abbrev qW:Stmt:=top 74
theorem ot:ay ["_law_setup_here","_law_many","_law_lying"] wu (aj qW):=aM
noncomputable abbrev qX:Stmt:=top 75
theorem uk:ay ["_law_heard_here","_law_deed","_law_word"] wx (aj qX):=aM
noncomputable abbrev um:Stmt:=top 76
theorem bI:ay ["_law_setup_here","_law_state","_law_deed","_law_place","_law_gates","_law_lying","_law_heard_here","_law_dead","_law_clock","_law_ended","_law_level","_law_deep","_law_goal"] yw (aj um):=aM
noncomputable abbrev uo:Stmt:=top 77
theorem BP:ay ["_law_works","_law_deed"] yx (aj uo):=aM
noncomputable abbrev fV:Stmt:=top 78
theorem bH:ay ["_law_setup_here","_law_state","_law_rest","_law_depths_here","_law_codes_here","_law_heard_here","_law_live","_law_level","_law_cage","_law_kind"] j4 (aj fV):=aM
noncomputable abbrev de:Stmt:=top 79
theorem cv:ay ["_law_setup_here","_law_state","_law_rest","_law_cage","_law_level","_law_waits"] j5 (aj de):=aM
noncomputable abbrev bK:Stmt:=top 80
theorem fH:ay ["_law_setup_here","_law_states","_law_cell","_law_state","_law_rest","_law_level"] nD (aj bK):=aM
noncomputable abbrev uq:Stmt:=top 81
theorem qY:ay ["_law_works","_law_setup_here","_law_states","_law_rows","_law_deed","_law_told","_law_heard_here"] yy (aj uq):=aM
noncomputable abbrev ur:Stmt:=top 82
theorem gX:ay ["_law_works","_law_many","_law_levels","_law_spots","_law_seen","_law_at_here","_law_number","_law_cage"] yz (aj ur):=aM
noncomputable abbrev ou:Stmt:=top 83
theorem rY:ay ["_law_depths_here","_law_elder","_law_newer","_law_deed","_law_place","_law_k"] tZ (aj ou):=aM
noncomputable abbrev iC:Stmt:=top 84
theorem lr:ay ["_law_found","_law_many","_law_levels","_law_spot"] lY (aj iC):=aM
noncomputable abbrev uu:Stmt:=top 85
theorem dQ:ay ["_law_script","_law_setup_here","_law_levels","_law_many","_law_works","_law_states","_law_rows","_law_k","_law_deed","_law_elder","_law_j","_law_began","_law_ended","_law_tick","_law_newer"] Eh (aj uu):=aM
structure Adr where
 aY:Addr
 dR:Addr
 md:Addr
 iD:Addr
 gY:Addr
 gZ:Addr
 me:Addr
 j8:Addr
 mf:Addr
 fj:Addr
 fI:Addr
 iE:Addr
 j9:Addr
 ka:Addr
 iF:Addr
 gp:Addr
 qZ:Addr
 mh:Addr
 iG:Addr
 BQ:Addr
 dZ:Addr
 bB:Addr
 du:Addr
 mi:Addr
 bb:Addr
 xw:Addr
 pX:Addr
structure Txt (P:Program)(w:World)(K:W.Frag)(mg:Str->Option Value)(base:Heap)(Z:Adr):Prop where
 bQ:mg "len"=none
 eC:mg "list"=none
 rZ:mg "enumerate"=none
 Kd:mg "zip"=none
 cb:mg "range"=none
 G2:mg "abs"=none
 bE:mg "isinstance"=none
 nJ:mg "int"=none
 zV:mg "bool"=none
 pY:mg "tuple"=none
 G3:mg "str"=none
 Ei:mg "min"=none
 Ej:mg "sorted"=none
 xx:∃u,mg "MOST_LOADS"=some u/\bA (.int 30) u
 rd:∃u,mg "FEWEST_STROKES"=some u/\bA (.int 1) u
 uv:∃u,mg "MOST_STROKES"=some u/\bA (.int 9) u
 sG:∃u,mg "FEWEST_LEVELS"=some u/\bA (.int 2) u
 vm:∃u,mg "MOST_LEVELS"=some u/\bA (.int 6) u
 rf:∃u,mg "GREATEST_DEPTH"=some u/\bA (.int 500) u
 rg:∃u,mg "GREATEST_SPEED"=some u/\bA (.int 500) u
 xy:∃u,mg "MOST_DEEDS"=some u/\bA (.int 300) u
 Gc:∃u,mg "KINDS"=some u/\bA (.ref Z.xw) u
 Gd:∀H,SqT K H Z.xw [.str "men",.str "coal"]
 Ge:∃o,K.lookup Z.xw=some o/\o.cls=.type "tuple"/\o.dict=none
 gR:∃u,mg "CAGE_SPOTS"=some u/\bA (.ref Z.pX) u
 gS:∀H,SqT K H Z.pX [.int 10,.int 11]
 uw:mg "UnknownLevel"=some (.ref Z.aY)
 vn:mg "UnknownLoad"=some (.ref Z.dR)
 ux:mg "BadLoads"=some (.ref Z.md)
 ow:mg "NotThere"=some (.ref Z.iD)
 yC:mg "CageTaken"=some (.ref Z.gY)
 r6:mg "CageEmpty"=some (.ref Z.gZ)
 ox:mg "BadCodes"=some (.ref Z.me)
 zW:mg "DeadBell"=some (.ref Z.j8)
 yD:mg "NoCode"=some (.ref Z.mf)
 vo:mg "NothingRung"=some (.ref Z.fj)
 uy:mg "NoChange"=some (.ref Z.fI)
 zX:mg "NotArmed"=some (.ref Z.iE)
 mj:mg "BadDepths"=some (.ref Z.j9)
 yE:mg "BadSpeeds"=some (.ref Z.ka)
 zY:mg "BookFull"=some (.ref Z.iF)
 vp:mg "NothingDone"=some (.ref Z.gp)
 Ek:mg "NoTick"=some (.ref Z.qZ)
 zZ:mg "GateOpen"=some (.ref Z.mh)
 z5:mg "GateShut"=some (.ref Z.iG)
 G4:mg "CageError"=some (.ref Z.BQ)
 El:mg "Yard"=some (.ref Z.dZ)
 A5:mg "Bells"=some (.ref Z.bB)
 uz:mg "Standing"=some (.ref Z.du)
 IL:mg "Book"=some (.ref Z.mi)
 Gf:mg "Works"=some (.ref Z.bb)
 cD:Cls K Z.dZ
 gj:aS K Z.dZ "kinds"
 bL:aS K Z.dZ "where"
 gT:aS K Z.dZ "many"
 bt:Cls K Z.bB
 cI:aS K Z.bB "codes"
 cO:aS K Z.bB "failed"
 bz:aS K Z.bB "state"
 aK:Cls K Z.du
 cw:aS K Z.du "place"
 cf:aS K Z.du "opened"
 cx:aS K Z.du "bells"
 aW:aS K Z.du "yard"
 cR:Cls K Z.mi
 jD:aS K Z.mi "first"
 pZ:aS K Z.mi "most"
 bO:aS K Z.mi "rows"
 aT:Cls K Z.bb
 cz:aS K Z.bb "depths"
 nK:aS K Z.bb "slow"
 nL:aS K Z.bb "fast"
 ml:aS K Z.bb "goals"
 aZ:aS K Z.bb "log"
 uA:ExC K Z.aY
 Em:ExI K Z.aY
 vq:ExC K Z.dR
 Ex:ExI K Z.dR
 uB:ExC K Z.md
 IM:ExI K Z.md
 oy:ExC K Z.iD
 IP:ExI K Z.iD
 yF:ExC K Z.gY
 G5:ExI K Z.gY
 r8:ExC K Z.gZ
 G6:ExI K Z.gZ
 oz:ExC K Z.me
 IQ:ExI K Z.me
 z6:ExC K Z.j8
 IS:ExI K Z.j8
 yG:ExC K Z.mf
 Ke:ExI K Z.mf
 vt:ExC K Z.fj
 Ey:ExI K Z.fj
 uC:ExC K Z.fI
 IT:ExI K Z.fI
 z7:ExC K Z.iE
 IU:ExI K Z.iE
 mm:ExC K Z.j9
 G7:ExI K Z.j9
 yH:ExC K Z.ka
 G8:ExI K Z.ka
 z8:ExC K Z.iF
 IV:ExI K Z.iF
 vv:ExC K Z.gp
 Ez:ExI K Z.gp
 En:ExC K Z.qZ
 Kf:ExI K Z.qZ
 z9:ExC K Z.mh
 IW:ExI K Z.mh
 Aa:ExC K Z.iG
 IX:ExI K Z.iG
structure G9 (K:W.Frag)(C0 C1 C2 C3 C4 C5 C6 C7 C8 C9 C10 C11 C12 C13 C14 C15 C16 C17 C18 C19 C20 C21 C22 C23 C24:Addr)(ta_KINDS:Addr)(tk_KINDS_0 tk_KINDS_1:Tok)(tn_KINDS:Nat)(ts_KINDS:Array (Option Value))(ta_CAGE_SPOTS:Addr)(tk_CAGE_SPOTS_0 tk_CAGE_SPOTS_1:Tok)(to_CAGE_SPOTS:Option Addr)(tn_CAGE_SPOTS:Nat)(ts_CAGE_SPOTS:Array (Option Value)):Prop where
 z_len:W.nsIn K mainGlobals "len"=some none
 z_list:W.nsIn K mainGlobals "list"=some none
 z_enumerate:W.nsIn K mainGlobals "enumerate"=some none
 z_zip:W.nsIn K mainGlobals "zip"=some none
 z_range:W.nsIn K mainGlobals "range"=some none
 z_abs:W.nsIn K mainGlobals "abs"=some none
 z_isinstance:W.nsIn K mainGlobals "isinstance"=some none
 z_int:W.nsIn K mainGlobals "int"=some none
 z_bool:W.nsIn K mainGlobals "bool"=some none
 z_tuple:W.nsIn K mainGlobals "tuple"=some none
 z_str:W.nsIn K mainGlobals "str"=some none
 z_min:W.nsIn K mainGlobals "min"=some none
 z_sorted:W.nsIn K mainGlobals "sorted"=some none
 m0:NI K "UnknownLevel" C0
 m1:NI K "UnknownLoad" C1
 m2:NI K "BadLoads" C2
 m3:NI K "NotThere" C3
 m4:NI K "CageTaken" C4
 m5:NI K "CageEmpty" C5
 m6:NI K "BadCodes" C6
 m7:NI K "DeadBell" C7
 m8:NI K "NoCode" C8
 m9:NI K "NothingRung" C9
 m10:NI K "NoChange" C10
 m11:NI K "NotArmed" C11
 m12:NI K "BadDepths" C12
 m13:NI K "BadSpeeds" C13
 m14:NI K "BookFull" C14
 m15:NI K "NothingDone" C15
 m16:NI K "NoTick" C16
 m17:NI K "GateOpen" C17
 m18:NI K "GateShut" C18
 m19:NI K "CageError" C19
 m20:NI K "Yard" C20
 m21:NI K "Bells" C21
 m22:NI K "Standing" C22
 m23:NI K "Book" C23
 m24:NI K "Works" C24
 n_MOST_LOADS:KI K "MOST_LOADS" 30
 n_FEWEST_STROKES:KI K "FEWEST_STROKES" 1
 n_MOST_STROKES:KI K "MOST_STROKES" 9
 n_FEWEST_LEVELS:KI K "FEWEST_LEVELS" 2
 n_MOST_LEVELS:KI K "MOST_LEVELS" 6
 n_GREATEST_DEPTH:KI K "GREATEST_DEPTH" 500
 n_GREATEST_SPEED:KI K "GREATEST_SPEED" 500
 n_MOST_DEEDS:KI K "MOST_DEEDS" 300
 n_KINDS:W.nsIn K mainGlobals "KINDS"=some (some (.ref ta_KINDS))
 lt_KINDS:K.lookup ta_KINDS=some ⟨.type "tuple",none,.seq #[.str "men" tk_KINDS_0,.str "coal" tk_KINDS_1] tn_KINDS,ts_KINDS⟩
 n_CAGE_SPOTS:W.nsIn K mainGlobals "CAGE_SPOTS"=some (some (.ref ta_CAGE_SPOTS))
 lt_CAGE_SPOTS:K.lookup ta_CAGE_SPOTS=some ⟨.type "tuple",to_CAGE_SPOTS,.seq #[.int 10 tk_CAGE_SPOTS_0,.int 11 tk_CAGE_SPOTS_1] tn_CAGE_SPOTS,ts_CAGE_SPOTS⟩
 cl20:Cls K C20
 na20_kinds:aS K C20 "kinds"
 na20_where:aS K C20 "where"
 na20_many:aS K C20 "many"
 cl21:Cls K C21
 na21_codes:aS K C21 "codes"
 na21_failed:aS K C21 "failed"
 na21_state:aS K C21 "state"
 cl22:Cls K C22
 na22_place:aS K C22 "place"
 na22_opened:aS K C22 "opened"
 na22_bells:aS K C22 "bells"
 na22_yard:aS K C22 "yard"
 cl23:Cls K C23
 na23_first:aS K C23 "first"
 na23_most:aS K C23 "most"
 na23_rows:aS K C23 "rows"
 cl24:Cls K C24
 na24_depths:aS K C24 "depths"
 na24_slow:aS K C24 "slow"
 na24_fast:aS K C24 "fast"
 na24_goals:aS K C24 "goals"
 na24_log:aS K C24 "log"
 l0:C0I K C19
 x0:XI K C19 C0
 x1:XI K C19 C1
 x2:XI K C19 C2
 x3:XI K C19 C3
 x4:XI K C19 C4
 x5:XI K C19 C5
 x6:XI K C19 C6
 x7:XI K C19 C7
 x8:XI K C19 C8
 x9:XI K C19 C9
 x10:XI K C19 C10
 x11:XI K C19 C11
 x12:XI K C19 C12
 x13:XI K C19 C13
 x14:XI K C19 C14
 x15:XI K C19 C15
 x16:XI K C19 C16
 x17:XI K C19 C17
 x18:XI K C19 C18
 d0:DI K "is_known" n8
 d1:DI K "check_level" jq
 d2:DI K "check_load" kA
 d3:DI K "check_loads" jr
 d4:II K C20 "Yard.__init__" lZ
 d5:MI K C20 "into" "Yard.into" l3
 d6:MI K C20 "out" "Yard.out" n9
 d7:MI K C20 "spots" "Yard.spots" kB
 d8:MI K C20 "in_cage" "Yard.in_cage" il
 d9:MI K C20 "at_level" "Yard.at_level" gw
 d10:MI K C20 "men_aboard" "Yard.men_aboard" fC
 d11:MI K C20 "twin" "Yard.twin" l4
 d12:DI K "are_strokes" js
 d13:DI K "check_codes" jt
 d14:II K C21 "Bells.__init__" kC
 d15:MI K C21 "ring" "Bells.ring" kD
 d16:MI K C21 "repeat" "Bells.repeat" iq
 d17:MI K C21 "fail" "Bells.fail" kE
 d18:MI K C21 "use" "Bells.use" l5
 d19:MI K C21 "twin" "Bells.twin" kF
 d20:DI K "check_depths" ir
 d21:DI K "drum_whole" kG
 d22:DI K "other_place" ju
 d23:DI K "level_at" oa
 d24:DI K "wound_place" jv
 d25:DI K "gates_by" oe
 d26:DI K "check_speeds" iu
 d27:DI K "wind_ticks" kH
 d28:II K C22 "Standing.__init__" gy
 d29:MI K C22 "twin" "Standing.twin" gz
 d30:II K C23 "Book.__init__" l7
 d31:MI K C23 "write" "Book.write" kI
 d32:MI K C23 "strike" "Book.strike" jw
 d33:MI K C23 "now" "Book.now" og
 d34:MI K C23 "latest" "Book.latest" jx
 d35:MI K C23 "spots_at" "Book.spots_at" gA
 d36:MI K C23 "refuse_tick" "Book.refuse_tick" eT
 d37:II K C24 "Works.__init__" kJ
 d38:MI K C24 "ring" "Works.ring" kK
 d39:MI K C24 "repeat" "Works.repeat" iw
 d40:MI K C24 "fail" "Works.fail" kL
 d41:MI K C24 "open_gate" "Works.open_gate" fD
 d42:MI K C24 "shut_gate" "Works.shut_gate" fE
 d43:MI K C24 "turn_gate" "Works.turn_gate" fF
 d44:MI K C24 "load" "Works.load" kM
 d45:MI K C24 "unload" "Works.unload" iz
 d46:MI K C24 "wind" "Works.wind" kO
 d47:MI K C24 "take_back" "Works.take_back" fG
 d48:MI K C24 "write" "Works.write" jA
 d49:MI K C24 "speed_with" "Works.speed_with" eU
 d50:MI K C24 "level_of" "Works.level_of" fS
 d51:MI K C24 "refuse_shut_gate" "Works.refuse_shut_gate" cU
 d52:MI K C24 "now" "Works.now" l8
 d53:MI K C24 "cages" "Works.cages" jB
 d54:MI K C24 "both_places" "Works.both_places" eB
 d55:MI K C24 "spots" "Works.spots" jC
 d56:MI K C24 "spots_at" "Works.spots_at" fT
 d57:MI K C24 "in_cage" "Works.in_cage" gD
 d58:MI K C24 "at_level" "Works.at_level" fU
 d59:DI K "_law_whole" qO
 d60:DI K "_law_at" zT
 d61:DI K "_law_draw" ug
 d62:DI K "_law_mixed" qP
 d63:DI K "_law_same" ma
 d64:DI K "_law_depths" oo
 d65:DI K "_law_codes" qR
 d66:DI K "_law_loads" qS
 d67:DI K "_law_shaft" j7
 d68:DI K "_law_setup" qT
 d69:DI K "_law_made" uh
 d70:DI K "_law_by" zU
 d71:DI K "_law_swap" ui
 d72:DI K "_law_lasts" qU
 d73:DI K "_law_speed" qV
 d74:DI K "_law_first" qW
 d75:DI K "_law_heard" qX
 d76:DI K "_law_next" um
 d77:DI K "_law_call" uo
 d78:DI K "_law_towards_wind" fV
 d79:DI K "_law_towards_load" de
 d80:DI K "_law_good_deed" bK
 d81:DI K "_law_done" uq
 d82:DI K "_law_once" ur
 d83:DI K "_law_passed" ou
 d84:DI K "_law_good_spots" iC
 d85:DI K "law" uu
set_option hygiene false in
local macro_rules | `(tactic| walk_at "r0") => `(tactic| ((try dsimp only [Jk, Jn, tB', tOp, tUn, Dk, tCB, kY, uX, Ar, zy, rI', rU', Iy, KL, Jl, Jm, tC, GA, GB, Cf, fm, rJ, zB, qH, AQ, AS, rK, Jg, tOr, Jh, zC, Dq, zD, tIf, Jy, Jx, tBM, JQ, tQ, tSl, As, zF, DC, DD, DE, zH, zN, zG, J1, EY, CN, zM, sC, CQ, Ku, Kb, Ia, AX, AW, Ka, J2, zQ, zK, AK, Dg, Kv, CU, Ds, Du, xi, Ip, Ct, zO, DL, DM, AU, JO, zL, Ig, AJ, JL, JD, sY, Jo, zJ, mZ, IG, IH, tU1, DR, zP, Fy, sX, FH, DN, xk, AV, Kc, DU, Fc, Iu, Fd, Di, Dj, Fe, Fj, Fk, Iw, Fl, Fm, IE, Fn, Fo, IF, DP, FK, Kw, Kx, Ky, Kz, JR, JS, JT, JU, KA, KC, Iv, σN, σS, σ0, JV, KG, KH, JW, JX, JZ, J0, HX, Cn, tu, Kr, Nat.reduceAdd, Nat.reduceSub, Int.reducePow, Int.reduceToNat, Nat.reducePow, Int.reduceNeg, Bool.not_true, Bool.not_false]); (try first | refine L2.KJ ?_ | refine L2.KO ?_ | refine L2.J3 ?_)))
set_option hygiene false in
local macro_rules | `(tactic| k_upd) => `(tactic| (repeat ((first | with_reducible refine L2.KP ?_ | with_reducible refine L2.KQ ?_ | with_reducible refine L2.ku ze1 ?_ | with_reducible refine L2.ku ze2 ?_ | with_reducible refine L2.ku ze3 ?_ | with_reducible refine L2.ku ze4 ?_ | with_reducible refine L2.ku ze5 ?_ | with_reducible refine L2.ku ze6 ?_ | with_reducible refine L2.ku ze7 ?_ | with_reducible refine L2.ku ze8 ?_ | with_reducible refine L2.ku ze9 ?_ | with_reducible refine L2.ku ze10 ?_ | with_reducible refine L2.ku ze11 ?_ | with_reducible refine L2.ku ze12 ?_ | with_reducible refine L2.ku ze13 ?_ | with_reducible refine L2.ku ze14 ?_ | with_reducible refine L2.ku ze15 ?_ | with_reducible refine L2.ku ze16 ?_ | with_reducible refine L2.ku ze17 ?_ | with_reducible refine L2.ku ze18 ?_ | with_reducible refine L2.ku ze19 ?_); walk_at "r0")))
set_option hygiene false in
local macro_rules | `(tactic| k_mem) => `(tactic| (walk_at "r0"; k_upd))
set_option hygiene false in
local macro_rules | `(tactic| k_all) => `(tactic| refine ⟨rfl, fun zv zA zo zs zf hr => ?_⟩)
section
variable {P:Program}{w:World}{K:W.Frag}{mg:Str->Option Value}{base:Heap}{Z:Adr}
variable (T:Txt P w K mg base Z)
inductive mn (K:W.Frag)(Z:Adr)(vs:List V)(H:Hp)(Q:VK)(E:XK):Prop | mk (n m:Int):vs=[.int n,.int m]->(Q (.bl (decide (0<=n/\n < m))) H)->mn K Z vs H Q E
include T in
theorem yI:FF P w K mg base CX0 1 "is_known" "is_known" n8 tT (mn K Z):=fk0 yA fun vs H Q E h=>by
 obtain ⟨n,m,rfl,q⟩:=h
 k_all
 refine ⟨_,ah (aw (ja (cB Ea (pv' 0) af (bV _)) (lB (cB zR (pv' 0) (pv' 1) (bV _))))),?_⟩
 k_mem
 split
 ·rename_i h0
  rw [show decide (0<=n/\n < m)=decide (n < m) by simp [h0]] at q
  k_upd
  exact q
 ·rename_i h0
  rw [show decide (0<=n/\n < m)=false by simp;omega] at q
  k_upd
  exact q
variable (eW:KD P w K mg base CX0 1 "is_known" (mn K Z))
inductive kQ (K:W.Frag)(Z:Adr)(vs:List V)(H:Hp)(Q:VK)(E:XK):Prop | mk (x dx l:Addr) (ls:List Ld) (m:Int):vs=[.ref x,.ref l,.int m]->H x=some (.ins Z.dZ dx [])->eM K H l ls->ls.length<=1000->(∀(kn wh:Addr) (H':Hp),H kn=none->H wh=none->kn≠wh->aB x H H'->cJ Z.dZ H' x kn wh (ls.map (·.1)) (ls.map (·.2.1)) m->Q .non H')->kQ K Z vs H Q E
include T in
theorem xA:FF P w K mg base CX0 1 "__init__" "Yard.__init__" lZ rO (kQ K Z):=fk0 xq fun vs H Q E h=>by
 obtain ⟨x,dx,l,ls,m,rfl,hx,hL,hn,q⟩:=h
 k_all
 refine ⟨_,ae (bG (pv' 0) (mY ["kind","level","goal"] [none,none,none] (cA (pv' 1)) (fun _ _ _ _=>(show PG _ _ (rJ K 3 _) from fA (n:=3) rfl (aH (aF (i:=0) (show (["kind","level","goal"]:List Str).Nodup by decide +kernel) rfl orL) (aH (aF (i:=1) (show (["kind","level","goal"]:List Str).Nodup by decide +kernel) rfl orL) (aH (aF (i:=2) (show (["kind","level","goal"]:List Str).Nodup by decide +kernel) rfl orL) c9))))) (fun _ _ _ _=>gh) (fun _ _ _ _=>(pv' 0))) rfl) (ae (bG (pv' 0) (mY ["kind","level","goal"] [none,none,none] (cA (pv' 1)) (fun _ _ _ _=>(show PG _ _ (rJ K 3 _) from fA (n:=3) rfl (aH (aF (i:=0) (show (["kind","level","goal"]:List Str).Nodup by decide +kernel) rfl orL) (aH (aF (i:=1) (show (["kind","level","goal"]:List Str).Nodup by decide +kernel) rfl orL) (aH (aF (i:=2) (show (["kind","level","goal"]:List Str).Nodup by decide +kernel) rfl orL) c9))))) (fun _ _ _ _=>gh) (fun _ _ _ _=>(pv' 1))) rfl) (ah (bG (pv' 0) (pv' 2) rfl))),?_⟩
 k_mem
 obtain ⟨as,hS,hT⟩:=id hL
 refine ⟨⟨_,hS⟩,?_⟩
 refine qI (fun x=>V.str x.1) hL (by rw [sizeLine_eq];omega) rfl (fun x hx N hN=>by k_mem;exact hN) fun kn hkn=>?_
 k_mem
 have k1:L2.aB x H (upd (upd H kn (HO.lst (ls.map fun x=>V.str x.1))) x (HO.ins Z.dZ dx (ba "kinds" (.ref kn) []))):=(aB.of ((av.refl H).lay hkn)).put
 have hx1:upd (upd H kn (HO.lst (ls.map fun x=>V.str x.1))) x (HO.ins Z.dZ dx (ba "kinds" (.ref kn) [])) x=some (HO.ins Z.dZ dx [("kinds",.ref kn)]):=ag
 have nx:kn≠x:=fun z=>by rw [z,hx] at hkn;cases hkn
 have hk1:upd (upd H kn (HO.lst (ls.map fun x=>V.str x.1))) x (HO.ins Z.dZ dx (ba "kinds" (.ref kn) [])) kn=some (HO.lst (ls.map fun x=>V.str x.1)):=by rw [aG nx,ag]
 refine ⟨_,_,_,upo hx hkn,T.cD,T.gj,by decide,⟨_,hS.keepI k1 hx⟩,?_⟩
 generalize upd (upd H kn (HO.lst (ls.map fun x=>V.str x.1))) x (HO.ins Z.dZ dx (ba "kinds" (.ref kn) []))=H1 at *
 refine qI (fun x=>V.int x.2.1) (hL.keepI k1 hx) (by rw [sizeLine_eq];omega) rfl (fun x hx N hN=>by k_mem;exact hN) fun wh hwh=>?_
 have nxw:wh≠x:=fun z=>by rw [z,hx1] at hwh;cases hwh
 have nkw:kn≠wh:=fun z=>by rw [z,hwh] at hk1;cases hk1
 refine ⟨_,_,_,upo hx1 hwh,T.cD,T.bL,by show 1 < 1000;decide,_,_,_,ag,T.cD,T.gT,Nat.lt_of_le_of_lt (lE _ _ _) (by show 2 < 1000;decide),?_⟩
 refine q kn wh _ hkn ?_ nkw (((k1.trans (aB.of ((av.refl H1).lay hwh))).put).put) ⟨⟨dx,?_⟩,?_,?_⟩
 ·cases e:H wh with
  | none=>rfl
  | some o=>have:=k1 wh o nxw e;rw [hwh] at this;cases this
 ·rw [ag];rfl
 ·rw [aG nx,aG nx,aG nkw,hk1,List.map_map];rfl
 ·rw [aG nxw,aG nxw,ag,List.map_map];rfl
variable (jg:KN P w K mg base CX0 1 Z.dZ (kQ K Z))
inductive jE (K:W.Frag)(Z:Adr)(vs:List V)(H:Hp)(Q:VK)(E:XK):Prop | mk (y kn wh:Addr) (ks:List Str) (ws:List Int) (m:Int):vs=[.ref y]->cJ Z.dZ H y kn wh ks ws m->(∀p,H p=none->Q (.ref p) (upd H p (.lst (ws.map V.int))))->jE K Z vs H Q E
include T in
theorem vw:FF P w K mg base CX0 1 "spots" "Yard.spots" kB pE (jE K Z):=fk0 vf fun vs H Q E h=>by
 obtain ⟨y,kn,wh,ks,ws,m,rfl,hy,q⟩:=h
 k_all
 refine ⟨_,ah (aw (bh bW (by rfl) T.eC cW (pa1 (az (pv' 0))))),?_⟩
 obtain ⟨⟨dx,hob⟩,hkn,hwh⟩:=id hy
 k_mem
 refine fgo hob T.cD T.bL rfl ?_
 k_mem
 exact ⟨_,.inl (SqL.of hwh),q⟩
variable (dj:KM P w K mg base CX0 1 Z.dZ "spots" (jE K Z))
def Gg (y:Addr)(c:Int)(ws:List Int)(H:Hp)(i:Nat)(σ:St)(H':Hp):Prop:=av H H'/\(∃t u,σ=[some (.ref y),some (.int c),t,u])/\∀j,j < i->ws.getD j 0≠10+c
inductive gE (K:W.Frag)(Z:Adr)(vs:List V)(H:Hp)(Q:VK)(E:XK):Prop | mk (y kn wh:Addr) (ks:List Str) (ws:List Int) (m c:Int):vs=[.ref y,.int c]->cJ Z.dZ H y kn wh ks ws m->0<=c->c < 2->(∀H',av H H'->Q (inC ws c) H')->gE K Z vs H Q E
include T in
theorem sH:FF P w K mg base CX0 1 "in_cage" "Yard.in_cage" il lS (gE K Z):=fk0 gv fun vs H Q E h=>by
 obtain ⟨y,kn,wh,ks,ws,m,c,rfl,hy,h0,h1,q⟩:=h
 k_all
 refine seg 1 (ah (aw en)) fun zt1 zh1 ze1=>?_
 refine ⟨_,ae (cy PassesOwn.never rfl (yp (by rfl) T.rZ o7 (az (pv' 0))) (fA rfl (aH (aF (i:=2) gv.nd rfl orL) (aH (aF (i:=3) gv.nd rfl orL) c9))) (ah (aJ (bw (pv' 3) (ao aq (cZ (by rfl) T.gR) (pv' 1))) (ah (aw (pv' 2))) (aA)))) zh1,?_⟩
 obtain ⟨⟨dx,hob⟩,hkn,hwh⟩:=id hy
 k_mem
 refine fgo hob T.cD T.bL rfl ?_
 k_mem
 refine ⟨⟨_,SqL.of hwh⟩,?_⟩
 k_upd
 refine xV ws.length (Gg y c ws H) ⟨av.refl H,⟨_,_,rfl⟩,fun j hj=>absurd hj (Nat.not_lt_zero _)⟩ ?_ ?_ ?_ ?_
 ·rintro i σ H' hi ⟨s1,_,_⟩
  k_upd
  exact ⟨_,_,s1.seq (SqL.of hwh),by rw [List.getElem?_map,jW hi];rfl⟩
 ·rintro σ H' ⟨s1,_,_⟩
  k_upd
  exact ⟨_,s1.seq (SqL.of hwh),by rw [List.length_map];exact Nat.le_refl _⟩
 ·rintro i σ H' hi ⟨s1,⟨t,u,rfl⟩,hj⟩ x H2 ⟨tp,z,rfl,htp,rfl,hz⟩
  have e:=hz _ (s1.seq (SqL.of hwh))
  rw [List.getElem?_map,jW hi] at e
  cases e
  k_mem
  refine ⟨_,SqT.of ag,rfl,?_⟩
  k_mem
  refine ⟨_,T.gS _,_,vU h0 h1,?_⟩
  k_mem
  split
  ·rename_i h
   have e:=Bs hi h hj
   have q':=q _ (s1.lay (o:=HO.tup [V.int ↑i,V.int (ws.getD i 0)]) htp)
   rw [inC,if_pos (h▸cN hi),e] at q'
   k_upd
   exact q'
  ·rename_i h
   k_upd
   refine ⟨s1.lay htp,⟨_,_,rfl⟩,fun j hj'=>?_⟩
   by_cases e:j=i
   ·rw [e];exact h
   ·exact hj j (by omega)
 ·rintro σ H' ⟨s1,⟨t,u,rfl⟩,hj⟩
  k_mem
  have q':=q _ s1
  rw [inC,if_neg] at q'
  ·k_upd
   exact q'
  ·intro hm
   have hlt:=List.idxOf_lt_length_iff.mpr hm
   refine hj _ hlt ?_
   rw [List.getD_eq_getElem?_getD,List.getElem?_eq_getElem hlt]
   exact List.getElem_idxOf hlt
variable (cq:KM P w K mg base CX0 1 Z.dZ "in_cage" (gE K Z))
def Eo (y:Addr)(ks:List Str)(ws:List Int)(H:Hp)(i:Nat)(σ:St)(H':Hp):Prop:=av H H'/\(∃t u,σ=[some (.ref y),t,u])/\∀j k x,j < i->ks[j]?=some k->ws[j]?=some x->(decide (k="men") && decide (x=10\/x=11))=false
inductive eX (K:W.Frag)(Z:Adr)(vs:List V)(H:Hp)(Q:VK)(E:XK):Prop | mk (y kn wh:Addr) (ks:List Str) (ws:List Int) (m:Int):vs=[.ref y]->cJ Z.dZ H y kn wh ks ws m->ks.length=ws.length->(∀H',av H H'->Q (.bl (xX ks ws)) H')->eX K Z vs H Q E
include T in
theorem oA:FF P w K mg base CX0 1 "men_aboard" "Yard.men_aboard" fC jb (eX K Z):=fk0 eR fun vs H Q E h=>by
 obtain ⟨y,kn,wh,ks,ws,m,rfl,hy,hlen,q⟩:=h
 k_all
 refine seg 1 (ah (aw eF)) fun zt1 zh1 ze1=>?_
 refine ⟨_,ae (cy PassesOwn.never rfl (FY (by rfl) T.Kd HW (az (pv' 0)) (az (pv' 0))) (fA rfl (aH (aF (i:=1) eR.nd rfl orL) (aH (aF (i:=2) eR.nd rfl orL) c9))) (ah (aJ (eP (bw (pv' 1) aC) (eL (dq ky (pv' 2) (cZ (by rfl) T.gR) (by rfl)))).pt (ah (aw eF)) (aA)))) zh1,?_⟩
 obtain ⟨⟨dx,hob⟩,hkn,hwh⟩:=id hy
 k_mem
 refine fgo hob T.cD T.gj rfl (fgo hob T.cD T.bL rfl ?_)
 k_mem
 refine ⟨⟨_,SqL.of hkn⟩,⟨_,SqL.of hwh⟩,?_⟩
 k_upd
 refine xV ws.length (Eo y ks ws H) ⟨av.refl H,⟨_,_,rfl⟩,fun j _ _ hj=>absurd hj (Nat.not_lt_zero _)⟩ ?_ ?_ ?_ ?_
 ·rintro i σ H' hi ⟨s1,_,_⟩
  have hk:ks[i]?=some ks[i]:=List.getElem?_eq_getElem (by omega)
  k_upd
  exact ⟨_,_,_,_,s1.seq (SqL.of hkn),s1.seq (SqL.of hwh),by rw [List.getElem?_map,hk];rfl,by rw [List.getElem?_map,jW hi];rfl⟩
 ·rintro σ H' ⟨s1,_,_⟩
  k_upd
  exact ⟨_,_,s1.seq (SqL.of hkn),s1.seq (SqL.of hwh),.inr (by rw [List.length_map];exact Nat.le_refl _)⟩
 ·rintro i σ H' hi ⟨s1,⟨t,u,rfl⟩,hj⟩ x H2 ⟨tp,z1,z2,rfl,htp,rfl,hz1,hz2⟩
  have hk:ks[i]?=some ks[i]:=List.getElem?_eq_getElem (by omega)
  have hw:ws[i]?=some ws[i]:=List.getElem?_eq_getElem hi
  have e:=hz1 _ (s1.seq (SqL.of hkn))
  rw [List.getElem?_map,hk] at e
  cases e
  have e:=hz2 _ (s1.seq (SqL.of hwh))
  rw [List.getElem?_map,hw] at e
  cases e
  k_mem
  refine ⟨_,SqT.of ag,rfl,?_⟩
  k_mem
  have no:(decide (ks[i]=Str.ofString "men") && decide (ws[i]=10\/ws[i]=11))=false->Eo y ks ws H (i+1) [some (V.ref y),some (V.str ks[i]),some (V.int ws[i])] (upd H' tp (HO.tup [V.str ks[i],V.int ws[i]])):=fun hn=>by
   refine ⟨s1.lay htp,⟨_,_,rfl⟩,fun j k x hj' e1 e2=>?_⟩
   by_cases e:j=i
   ·subst e
    rw [hk] at e1;rw [hw] at e2
    cases e1;cases e2
    exact hn
   ·exact hj j k x (by omega) e1 e2
  k_upd
  split
  ·rename_i h1
   k_upd
   refine ⟨_,.inr (T.gS _),rfl,rfl,?_⟩
   rw [vX]
   k_mem
   split
   ·rename_i h2
    have q':=q _ (s1.lay (o:=HO.tup [V.str ks[i],V.int ws[i]]) htp)
    rw [xY hk hw h1 h2] at q'
    k_upd
    exact q'
   ·rename_i h2
    exact no (by simp [h2])
  ·rename_i h1
   exact no (by simp [h1])
 ·rintro σ H' ⟨s1,⟨t,u,rfl⟩,hj⟩
  k_mem
  have q':=q _ s1
  rw [vW hj (.inr (Nat.le_refl _))] at q'
  k_upd
  exact q'
variable (jh:KM P w K mg base CX0 1 Z.dZ "men_aboard" (eX K Z))
inductive iH (K:W.Frag)(Z:Adr)(vs:List V)(H:Hp)(Q:VK)(E:XK):Prop | mk (n:Int):vs=[.int n]->(Q (.bl (decide (1<=n/\n<=9))) H)->iH K Z vs H Q E
include T in
theorem uD:FF P w K mg base CX0 1 "are_strokes" "are_strokes" js ni (iH K Z):=fk0 t8 fun vs H Q E h=>by
 obtain ⟨n,rfl,q⟩:=h
 k_all
 refine ⟨_,ah (aw (ja (cB Ea (pv' 0) (cZ (by rfl) T.rd) (bV _)) (lB (cB DZ (pv' 0) (cZ (by rfl) T.uv) (bV _))))),?_⟩
 k_mem
 split
 ·rename_i h0
  rw [show decide (1<=n/\n<=9)=decide (n<=9) by simp [h0]] at q
  k_upd
  exact q
 ·rename_i h0
  rw [show decide (1<=n/\n<=9)=false by simp;omega] at q
  k_upd
  exact q
variable (eK:KD P w K mg base CX0 1 "are_strokes" (iH K Z))
inductive jF (K:W.Frag)(Z:Adr)(vs:List V)(H:Hp)(Q:VK)(E:XK):Prop | mk (x dx l:Addr) (ls:List Cd):vs=[.ref x,.ref l]->H x=some (.ins Z.bB dx [])->jn cdV K H l ls->ls.length<=1000->(∀(cs fl st:Addr) (H':Hp),H cs=none->H fl=none->aB x H H'->br Z.bB K H' x cs fl st ls (ls.map fun _=>false) .no->Q .non H')->jF K Z vs H Q E
include T in
theorem vx:FF P w K mg base CX0 1 "__init__" "Bells.__init__" kC pF (jF K Z):=fk0 vg fun vs H Q E h=>by
 obtain ⟨x,dx,l,ls,rfl,hx,hL,hn,q⟩:=h
 k_all
 refine seg 2 (ah (bG (pv' 0) (aP (pa4 aC en en en)) rfl)) fun zt2 zh2 ze2=>?_
 refine seg 1 (ae (bG (pv' 0) (mY ["code"] [none] (cA (pv' 1)) (fun _ _ _ _=>(aF (i:=0) (show (["code"]:List Str).Nodup by decide +kernel) rfl orL)) (fun _ _ _ _=>gh) (fun _ _ _ _=>eF)) rfl) zh2) fun zt1 zh1 ze1=>?_
 refine ⟨_,ae (bG (pv' 0) (bh bW (by rfl) T.eC cW (pa1 (pv' 1))) rfl) zh1,?_⟩
 obtain ⟨as,hS,hT⟩:=id hL
 k_mem
 refine ⟨_,.inl hS,fun cs hcs=>?_⟩
 k_upd
 refine ⟨_,_,_,upo hx hcs,T.bt,T.cI,by decide,?_⟩
 have nx:cs≠x:=fun z=>by rw [z,hx] at hcs;cases hcs
 have k1:L2.aB x H (upd (upd H cs (HO.lst (as.map V.ref))) x (HO.ins Z.bB dx (ba "codes" (.ref cs) []))):=(aB.of ((av.refl H).lay hcs)).put
 have hx1:upd (upd H cs (HO.lst (as.map V.ref))) x (HO.ins Z.bB dx (ba "codes" (.ref cs) [])) x=some (HO.ins Z.bB dx [("codes",.ref cs)]):=ag
 have hc1:upd (upd H cs (HO.lst (as.map V.ref))) x (HO.ins Z.bB dx (ba "codes" (.ref cs) [])) cs=some (HO.lst (as.map V.ref)):=by rw [aG nx,ag]
 generalize upd (upd H cs (HO.lst (as.map V.ref))) x (HO.ins Z.bB dx (ba "codes" (.ref cs) []))=H1 at *
 k_upd
 refine ⟨⟨_,hS.keepI k1 hx⟩,?_⟩
 refine rG (fun _=>true) (fun _=>V.bl false) (hS.keepI k1 hx) (by rw [List.length_map,hT.1,sizeLine_eq];omega) rfl (fun y _ N hN=>by k_mem;exact hN) (fun y _ _ N hN=>by k_mem;exact hN) fun fl hfl=>?_
 k_mem
 have ef:((as.map V.ref).filter fun _=>true).map (fun _=>V.bl false)=(ls.map fun _=>false).map V.bl:=by
  rw [List.filter_eq_self.mpr (by simp),List.map_map,List.map_map]
  refine List.ext_getElem (by simp [hT.1]) fun i h1 h2=>by simp
 rw [ef]
 have nfx:fl≠x:=fun z=>by rw [z,hx1] at hfl;cases hfl
 have nfc:cs≠fl:=fun z=>by rw [←z,hc1] at hfl;cases hfl
 k_upd
 refine ⟨_,_,_,upo hx1 hfl,T.bt,T.cO,by show 1 < 1000;decide,?_⟩
 have k2:L2.aB x H1 (upd (upd H1 fl (HO.lst ((ls.map fun _=>false).map V.bl))) x (HO.ins Z.bB dx (ba "failed" (.ref fl) [("codes",.ref cs)]))):=(aB.of ((av.refl H1).lay hfl)).put
 have hx2:upd (upd H1 fl (HO.lst ((ls.map fun _=>false).map V.bl))) x (HO.ins Z.bB dx (ba "failed" (.ref fl) [("codes",.ref cs)])) x=some (HO.ins Z.bB dx [("codes",.ref cs),("failed",.ref fl)]):=by rw [ag];rfl
 have hf2:upd (upd H1 fl (HO.lst ((ls.map fun _=>false).map V.bl))) x (HO.ins Z.bB dx (ba "failed" (.ref fl) [("codes",.ref cs)])) fl=some (HO.lst ((ls.map fun _=>false).map V.bl)):=by rw [aG nfx,ag]
 generalize upd (upd H1 fl (HO.lst ((ls.map fun _=>false).map V.bl))) x (HO.ins Z.bB dx (ba "failed" (.ref fl) [("codes",.ref cs)]))=H2 at *
 k_upd
 refine ⟨by decide,fun st hst=>⟨_,_,_,upo hx2 hst,T.bt,T.bz,by show 2 < 1000;decide,?_⟩⟩
 have nsx:st≠x:=fun z=>by rw [z,hx2] at hst;cases hst
 have k3:L2.aB x H2 (upd (upd H2 st (HO.tup [V.str (Str.ofString "not rung"),V.non,V.non,V.non])) x (HO.ins Z.bB dx (ba "state" (.ref st) [("codes",.ref cs),("failed",.ref fl)]))):=(aB.of ((av.refl H2).lay hst)).put
 refine q cs fl st _ hcs (k1.free nfx hfl) ((k1.trans k2).trans k3) ⟨⟨dx,by rw [ag];rfl⟩,⟨as,k3 _ _ nx (k2 _ _ nx hc1),?_⟩,k3 _ _ nfx hf2,SqT.of (by rw [aG nsx,ag];rfl),nfc,by rw [List.length_map]⟩
 exact hT.keepI ((k1.trans k2).trans k3) hx
variable (gU:KN P w K mg base CX0 1 Z.bB (jF K Z))
def IY (a:Addr)(ds:List Int)(H:Hp)(i:Nat)(σ:St)(H':Hp):Prop:=H'=H/\(∃t,σ=[some (.ref a),t,none])/\∀j,j < i->0<=ds.getD j 0/\ds.getD j 0<=500
def IZ (a:Addr)(ds:List Int)(H:Hp)(i:Nat)(σ:St)(H':Hp):Prop:=H'=H/\(∃t u,σ=[some (.ref a),t,u])/\∀j,j < i->ds.getD j 0 < ds.getD (j+1) 0
inductive gF (K:W.Frag)(Z:Adr)(vs:List V)(H:Hp)(Q:VK)(E:XK):Prop | mk (a:Addr) (ds:List Int):vs=[.ref a]->SqL K H a (ds.map V.int)->ds.length<=100000->((bP ds->Q .non H))->((¬bP ds->E (.ref Z.j9) none H))->gF K Z vs H Q E
include T in
theorem sI:FF P w K mg base (CXf P w) 1 "check_depths" "check_depths" ir lU (gF K Z):=fkF gx fun vs H Q E h=>by
 obtain ⟨a,ds,rfl,hS,hl,q1,q2⟩:=h
 k_all
 refine seg 2 (ah (cy sD rfl (tS (by rfl) T.cb (pa2 af (aE ax (by rfl) T.bQ a7 (pa1 (pv' 0))))) (aF (i:=2) gx.nd rfl orL) (ah (aJ (G1 (ao au (pv' 0) (pv' 2)) (ao au (pv' 0) (aO dG (pv' 2) af))) (ah (aX T.mm (by rfl) T.mj (pa1 aC))) (aA))))) fun zt2 zh2 ze2=>?_
 refine seg 1 (ae (cy sD rfl (cA (pv' 0)) (aF (i:=1) gx.nd rfl orL) (ah (aJ (iZ (lP (pv' 1) af) (fQ (v9 (pv' 1) (cZ (by rfl) T.rf)))).pt (ah (aX T.mm (by rfl) T.mj (pa1 aC))) (aA)))) zh2) fun zt1 zh1 ze1=>?_
 refine ⟨_,ae (aJ (iZ (lP (aE ax (by rfl) T.bQ a7 (pa1 (pv' 0))) (cZ (by rfl) T.sG)) (fQ (v9 (aE ax (by rfl) T.bQ a7 (pa1 (pv' 0))) (cZ (by rfl) T.vm)))).pt (ah (aX T.mm (by rfl) T.mj (pa1 aC))) (aA)) zh1,?_⟩
 k_mem
 refine ⟨_,.inl hS,?_⟩
 rw [List.length_map]
 k_upd
 split
 ·k_upd
  exact ⟨by decide,q2 fun h=>by have:=h.l2;omega⟩
 ·k_upd
  refine ⟨_,.inl hS,?_⟩
  rw [List.length_map]
  k_upd
  split
  ·k_upd
   exact ⟨by decide,q2 fun h=>by have:=h.l6;omega⟩
  ·k_upd
   refine ⟨⟨_,hS⟩,?_⟩
   k_upd
   refine ff (ds.map V.int) (IY a ds H) ⟨rfl,⟨_,rfl⟩,fun j h=>absurd h (Nat.not_lt_zero _)⟩ (fun i σ H' _ ⟨e,_⟩=>by rw [e];exact hS) ?_ ?_
   ·rintro i x σ H' hx ⟨rfl,⟨t,rfl⟩,hj⟩
    obtain ⟨d,rfl,hd,hmem⟩:=kj hx
    have hi:i < ds.length:=(List.getElem?_eq_some_iff.mp hd).1
    have hdg:ds.getD i 0=d:=by rw [List.getD_eq_getElem?_getD,hd];rfl
    k_mem
    split
    ·k_upd
     exact ⟨by decide,q2 fun h=>by have:=h.lo d hmem;omega⟩
    ·split
     ·k_upd
      exact ⟨by decide,q2 fun h=>by have:=h.hi d hmem;omega⟩
     ·k_upd
      refine ⟨rfl,⟨_,rfl⟩,fun j hj'=>?_⟩
      by_cases e:j=i
      ·rw [e,hdg];omega
      ·exact hj j (by omega)
   ·rintro σ H' ⟨rfl,⟨t,rfl⟩,hb⟩
    rw [List.length_map] at hb
    k_mem
    refine ⟨_,.inl hS,⟨by decide,by decide,by rw [List.length_map];omega,by rw [List.length_map];omega⟩,?_⟩
    k_upd
    refine bF (IZ a ds H') ⟨rfl,⟨_,_,rfl⟩,fun j h=>absurd h (Nat.not_lt_zero _)⟩ ?_ ?_
    ·rintro i σ H' hi ⟨rfl,⟨t,u,rfl⟩,hj⟩
     rw [List.length_map] at hi
     k_mem
     refine ⟨_,hS,_,cX (by omega) (by omega),_,hS,_,cX (by omega) (by omega),?_⟩
     k_mem
     rw [show (1+(i:Int)).toNat=i+1 by omega,show (1+(i:Int) - 1).toNat=i by omega]
     k_upd
     split
     ·k_upd
      refine ⟨by decide,q2 fun h=>?_⟩
      have:=h.lt (i:=i) (j:=i+1) (by omega) (by omega)
      omega
     ·k_upd
      refine ⟨rfl,⟨_,_,rfl⟩,fun j hj'=>?_⟩
      by_cases e:j=i
      ·rw [e];omega
      ·exact hj j (by omega)
    ·rintro σ H' ⟨rfl,⟨t,u,rfl⟩,hu⟩
     rw [List.length_map] at hu
     k_mem
     exact q1 (bP.of (by omega) (by omega) hb fun i hi=>hu i (by omega))
variable (mq:KD P w K mg base (CXf P w) 1 "check_depths" (gF K Z))
inductive jG (K:W.Frag)(Z:Adr)(vs:List V)(H:Hp)(Q:VK)(E:XK):Prop | mk (a:Addr) (ds:List Int):vs=[.ref a]->SqL K H a (ds.map V.int)->0 < ds.length->Q (.int (bS ds)) H->jG K Z vs H Q E
include T in
theorem vy:FF P w K mg base CX0 1 "drum_whole" "drum_whole" kG pJ (jG K Z):=fk0 vj fun vs H Q E h=>by
 obtain ⟨a,ds,rfl,hS,hl,q⟩:=h
 k_all
 refine ⟨_,ah (aw (ao au (pv' 0) (aO dG (aE ax (by rfl) T.bQ a7 (pa1 (pv' 0))) af))),?_⟩
 k_mem
 refine ⟨_,.inl hS,_,hS,_,cX (by rw [List.length_map];omega) (by rw [List.length_map];omega),?_⟩
 rw [List.length_map,show ((ds.length:Int) - 1).toNat=ds.length - 1 by omega]
 k_upd
 exact q
variable (p6:KD P w K mg base CX0 1 "drum_whole" (jG K Z))
def Ep (a:Addr)(ds:List Int)(d:Int)(H:Hp)(i:Nat)(σ:St)(H':Hp):Prop:=H'=H/\(∃t,σ=[some (.ref a),some (.int d),t])/\∀j,j < i->ds.getD j 0≠d
inductive mr (K:W.Frag)(Z:Adr)(vs:List V)(H:Hp)(Q:VK)(E:XK):Prop | mk (a:Addr) (ds:List Int) (d:Int):vs=[.ref a,.int d]->SqL K H a (ds.map V.int)->ds.length<=100000->((∀i:Nat,i < ds.length->ds.getD i 0=d->Q (.int i) H))->(((∀i,i < ds.length->ds.getD i 0≠d)->Q .non H))->mr K Z vs H Q E
include T in
theorem yJ:FF P w K mg base CX0 1 "level_at" "level_at" oa tV (mr K Z):=fk0 rW fun vs H Q E h=>by
 obtain ⟨a,ds,d,rfl,hS,hl,q1,q2⟩:=h
 k_all
 refine seg 1 (ah (aw en)) fun zt1 zh1 ze1=>?_
 refine ⟨_,ae (cy PassesOwn.never rfl (bq (by rfl) T.cb (pa1 (aE ax (by rfl) T.bQ a7 (pa1 (pv' 0))))) (aF (i:=2) rW.nd rfl orL) (ah (aJ (bw (ao au (pv' 0) (pv' 2)) (pv' 1)) (ah (aw (pv' 2))) (aA)))) zh1,?_⟩
 k_mem
 refine ⟨_,.inl hS,by omega,by rw [List.length_map];omega,bF (Ep a ds d H) ⟨rfl,⟨_,rfl⟩,fun _ h=>absurd h (Nat.not_lt_zero _)⟩ ?_ ?_⟩
 ·rintro i σ H' hi ⟨rfl,⟨t,rfl⟩,hj⟩
  rw [List.length_map] at hi
  have hi':i < ds.length:=by omega
  k_mem
  refine ⟨_,hS,_,by rw [Int.zero_add];exact dJ hi',?_⟩
  k_mem
  split
  ·rename_i he
   rw [Int.zero_add]
   k_upd
   exact q1 i hi' he
  ·rename_i he
   k_upd
   refine ⟨rfl,⟨_,rfl⟩,fun j hj'=>?_⟩
   by_cases e:j=i
   ·rw [e];exact he
   ·exact hj j (by omega)
 ·rintro σ H' ⟨rfl,⟨t,rfl⟩,hj⟩
  k_mem
  refine q2 fun i hi=>hj i ?_
  rw [List.length_map]
  omega
variable (uE:KD P w K mg base CX0 1 "level_at" (mr K Z))
inductive gG (K:W.Frag)(Z:Adr)(vs:List V)(H:Hp)(Q:VK)(E:XK):Prop | mk (sl fa:Int):vs=[.int sl,.int fa]->(if 1<=sl/\sl<=fa/\fa<=500 then Q .non H else E (.ref Z.ka) none H)->gG K Z vs H Q E
include T in
theorem sJ:FF P w K mg base (CXf P w) 1 "check_speeds" "check_speeds" iu lV (gG K Z):=fkF sF fun vs H Q E h=>by
 obtain ⟨sl,fa,rfl,q⟩:=h
 k_all
 refine ⟨_,ah (aJ (iZ (lP (pv' 0) af) (iZ (lP (pv' 1) (pv' 0)) (fQ (v9 (pv' 1) (cZ (by rfl) T.rg))))).pt (ah (aX T.yH (by rfl) T.yE (pa1 aC))) (aA)),?_⟩
 k_mem
 split
 ·rw [if_neg (by omega)] at q
  k_upd
  exact ⟨by decide,q⟩
 ·split
  ·rw [if_neg (by omega)] at q
   k_upd
   exact ⟨by decide,q⟩
  ·split
   ·rw [if_neg (by omega)] at q
    k_upd
    exact ⟨by decide,q⟩
   ·rw [if_pos (by omega)] at q
    k_upd
    exact q
variable (mv:KD P w K mg base (CXf P w) 1 "check_speeds" (gG K Z))
inductive jH (K:W.Frag)(Z:Adr)(vs:List V)(H:Hp)(Q:VK)(E:XK):Prop | mk (wy sp:Int):vs=[.int wy,.int sp]->0 < sp->sp < 2 ^ 200->Q (.int ((wy+sp - 1) / sp)) H->jH K Z vs H Q E
include T in
theorem vz:FF P w K mg base CX0 1 "wind_ticks" "wind_ticks" kH pK (jH K Z):=fk0 vk fun vs H Q E h=>by
 obtain ⟨wy,sp,rfl,h0,h1,q⟩:=h
 k_all
 refine ⟨_,ah (aw (aO BN (aO dG (aO aU (pv' 0) (pv' 1)) af) (pv' 1))),?_⟩
 k_mem
 exact ⟨⟨h0,h1⟩,q⟩
variable (p7:KD P w K mg base CX0 1 "wind_ticks" (jH K Z))
noncomputable abbrev clZ (Z:Adr):Cl:=⟨Z.bB,Z.dZ,Z.du,Z.mi,Z.bb⟩
inductive fW (K:W.Frag)(Z:Adr)(vs:List V)(H:Hp)(Q:VK)(E:XK):Prop | mk (x dx o b y:Addr) (pl:Int) (gs:List Bool):vs=[.ref x,.int pl,.ref o,.ref b,.ref y]->H x=some (.ins Z.du dx [])->SqL K H o (gs.map V.bl)->(∀(ol:Addr) (H':Hp),H ol=none->aB x H H'->H' x=some (.ins Z.du dx [("place",.int pl),("opened",.ref ol),("bells",.ref b),("yard",.ref y)])->H' ol=some (.lst (gs.map V.bl))->Q .non H')->fW K Z vs H Q E
include T in
theorem rh:FF P w K mg base CX0 1 "__init__" "Standing.__init__" gy lh (fW K Z):=fk0 qL fun vs H Q E h=>by
 obtain ⟨x,dx,o,b,y,pl,gs,rfl,hx,hO,q⟩:=h
 k_all
 refine ⟨_,ae (bG (pv' 0) (pv' 1) rfl) (ae (bG (pv' 0) (bh bW (by rfl) T.eC cW (pa1 (pv' 2))) rfl) (ae (bG (pv' 0) (pv' 3) rfl) (ah (bG (pv' 0) (pv' 4) rfl)))),?_⟩
 k_mem
 refine ⟨_,_,_,hx,T.aK,T.cw,by decide,?_⟩
 have k1:L2.aB x H (upd H x (HO.ins Z.du dx (ba "place" (.int pl) []))):=(aB.of (av.refl H)).put
 refine ⟨_,.inl (hO.keepI k1 hx),fun ol hol=>?_⟩
 have nol:ol≠x:=fun z=>by rw [z,ag] at hol;cases hol
 refine ⟨_,_,_,upo ag hol,T.aK,T.cf,by show 1 < 1000;decide,_,_,_,ag,T.aK,T.cx,by show 2 < 1000;decide,_,_,_,ag,T.aK,T.aW,by show 3 < 1000;decide,?_⟩
 refine q ol _ (k1.free nol hol) (((k1.trans (aB.of ((av.refl _).lay hol))).put).put.put) ?_ ?_
 ·rw [ag];rfl
 ·rw [aG nol,aG nol,aG nol,ag]
variable (eO:KN P w K mg base CX0 1 Z.du (fW K Z))
inductive kR (K:W.Frag)(Z:Adr)(vs:List V)(H:Hp)(Q:VK)(E:XK):Prop | mk (x dx f:Addr):vs=[.ref x,.ref f,.int 300]->H x=some (.ins Z.mi dx [])->(∀(rl:Addr) (H':Hp),H rl=none->aB x H H'->H' x=some (.ins Z.mi dx [("first",.ref f),("most",.int 300),("rows",.ref rl)])->H' rl=some (.lst [])->Q .non H')->kR K Z vs H Q E
include T in
theorem xB:FF P w K mg base CX0 1 "__init__" "Book.__init__" l7 rS (kR K Z):=fk0 xt fun vs H Q E h=>by
 obtain ⟨x,dx,f0,rfl,hx,q⟩:=h
 k_all
 refine ⟨_,ae (bG (pv' 0) (pv' 1) rfl) (ae (bG (pv' 0) (pv' 2) rfl) (ah (bG (pv' 0) (bX g8) rfl))),?_⟩
 k_mem
 refine ⟨_,_,_,hx,T.cR,T.jD,by decide,_,_,_,ag,T.cR,T.pZ,by show 1 < 1000;decide,by decide,fun rl hrl=>?_⟩
 have k1:L2.aB x H (upd (upd H x (HO.ins Z.mi dx (ba "first" (.ref f0) []))) x (HO.ins Z.mi dx (ba "most" (.int 300) (ba "first" (.ref f0) [])))):=((aB.of (av.refl H)).put).put
 have nrl:rl≠x:=fun z=>by rw [z,ag] at hrl;cases hrl
 refine ⟨_,_,_,upo ag hrl,T.cR,T.bO,by show 2 < 1000;decide,?_⟩
 refine q rl _ (k1.free nrl hrl) ((k1.trans (aB.of ((av.refl _).lay hrl))).put) ?_ ?_
 ·rw [ag];rfl
 ·rw [aG nrl,ag]
variable (r9:KN P w K mg base CX0 1 Z.mi (kR K Z))
inductive iI (K:W.Frag)(Z:Adr)(vs:List V)(H:Hp)(Q:VK)(E:XK):Prop | mk (bk rl:Addr) (g:Cfg) (n0:aI) (rs:List Row):vs=[.ref bk]->BAt (clZ Z) K H bk rl g n0 rs->((rs=[]->E (.ref Z.gp) none H))->((∀rs' r,rs=rs'++[r]->∀p H',aB rl H H'->BAt (clZ Z) K H' bk rl g n0 rs'->SqT K H' p r.deed->Q (.ref p) H'))->iI K Z vs H Q E
include T in
theorem uF:FF P w K mg base (CXf P w) 1 "strike" "Book.strike" jw nv (iI K Z):=fkF ub fun vs H Q E h=>by
 obtain ⟨bk,rl,g,n0,rs,rfl,hB,q1,q2⟩:=h
 k_all
 refine seg 1 (ah (aw (ao aq (tG PySem.F.plainAttrs_list PySem.F.slot_list_pop PySem.F.type_list_pop xo (az (pv' 0))) af))) fun zt1 zh1 ze1=>?_
 refine ⟨_,ae (aJ (cT (tD (az (pv' 0)) (fun _=>rfl))) (ah (aX T.vv (by rfl) T.vp (pa1 aC))) (aA)) zh1,?_⟩
 obtain ⟨⟨dx,f0,hob,hF⟩,as,hrl,hR⟩:=id hB
 k_mem
 refine fgo hob T.cR T.bO rfl ⟨_,.inl ⟨_,SqL.of hrl,rfl⟩,?_⟩
 rcases ck rs with rfl | ⟨rs',r,rfl⟩
 ·have e:as=[]:=List.length_eq_zero_iff.mp hR.1
  subst e
  k_upd
  exact ⟨by decide,q1 rfl⟩
 ·obtain ⟨as',a,rfl,hR',dd,s,hra,hdd,hs⟩:=hR.last
  k_upd
  rw [if_neg (by simp)]
  k_upd
  refine fgo hob T.cR T.bO rfl ?_
  k_mem
  refine ⟨.inl ⟨rfl,_,SqL.of hrl⟩,_,hrl,.ref a,by simp,?_⟩
  have k1:L2.aB rl H (upd H rl (HO.lst ((as'++[a]).map V.ref).dropLast)):=(aB.of (av.refl H)).put
  k_mem
  refine ⟨_,hra.keep k1 hrl,_,rfl,?_⟩
  refine q2 rs' r rfl dd _ k1 ⟨⟨dx,f0,k1 _ _ (fun z=>by rw [z,hrl] at hob;cases hob) hob,hF.keep k1 hrl⟩,as',by rw [ag];simp,hR'.keep k1 hrl⟩ (hdd.keep k1 hrl)
variable (nM:KM P w K mg base (CXf P w) 1 Z.mi "strike" (iI K Z))
inductive mx (K:W.Frag)(Z:Adr)(vs:List V)(H:Hp)(Q:VK)(E:XK):Prop | mk (bk rl:Addr) (g:Cfg) (n0:aI) (rs:List Row):vs=[.ref bk]->BAt (clZ Z) K H bk rl g n0 rs->Q (.int (bC rs)) H->mx K Z vs H Q E
include T in
theorem yK:FF P w K mg base CX0 1 "now" "Book.now" og tX (mx K Z):=fk0 yB fun vs H Q E h=>by
 obtain ⟨bk,rl,g,n0,rs,rfl,hB,q⟩:=h
 k_all
 refine seg 1 (ah (aw (ao aq (ao au (az (pv' 0)) (aO dG (aE ax (by rfl) T.bQ a7 (pa1 (az (pv' 0)))) af)) af))) fun zt1 zh1 ze1=>?_
 refine ⟨_,ae (aJ (cT (tD (az (pv' 0)) (fun _=>rfl))) (ah (aw af)) (aA)) zh1,?_⟩
 obtain ⟨⟨dx,f0,hob,hF⟩,as,hrl,hR⟩:=id hB
 k_mem
 refine fgo hob T.cR T.bO rfl ⟨_,.inl ⟨_,SqL.of hrl,rfl⟩,?_⟩
 rcases ck rs with rfl | ⟨rs',r,rfl⟩
 ·have e:as=[]:=List.length_eq_zero_iff.mp hR.1
  subst e
  k_upd
  exact q
 ·obtain ⟨as',a,rfl,hR',dd,s,hra,_,_⟩:=hR.last
  k_upd
  rw [if_neg (by simp)]
  k_upd
  refine fgo hob T.cR T.bO rfl ?_
  k_mem
  refine fgo hob T.cR T.bO rfl ?_
  k_mem
  refine ⟨_,.inl (SqL.of hrl),_,SqL.of hrl,_,vV,?_⟩
  k_mem
  refine ⟨_,hra,_,rfl,?_⟩
  rw [dw] at q
  k_upd
  exact q
variable (fX:KM P w K mg base CX0 1 Z.mi "now" (mx K Z))
inductive iJ (K:W.Frag)(Z:Adr)(vs:List V)(H:Hp)(Q:VK)(E:XK):Prop | mk (bk rl:Addr) (g:Cfg) (n0:aI) (rs:List Row):vs=[.ref bk]->BAt (clZ Z) K H bk rl g n0 rs->(∀s,dF (clZ Z) K H rl g s (ai n0 rs)->Q (.ref s) H)->iJ K Z vs H Q E
include T in
theorem uG:FF P w K mg base CX0 1 "latest" "Book.latest" jx ny (iJ K Z):=fk0 uc fun vs H Q E h=>by
 obtain ⟨bk,rl,g,n0,rs,rfl,hB,q⟩:=h
 k_all
 refine seg 1 (ah (aw (ao aq (ao au (az (pv' 0)) (aO dG (aE ax (by rfl) T.bQ a7 (pa1 (az (pv' 0)))) af)) af))) fun zt1 zh1 ze1=>?_
 refine ⟨_,ae (aJ (cT (tD (az (pv' 0)) (fun _=>rfl))) (ah (aw (az (pv' 0)))) (aA)) zh1,?_⟩
 obtain ⟨⟨dx,f0,hob,hF⟩,as,hrl,hR⟩:=id hB
 k_mem
 refine fgo hob T.cR T.bO rfl ⟨_,.inl ⟨_,SqL.of hrl,rfl⟩,?_⟩
 rcases ck rs with rfl | ⟨rs',r,rfl⟩
 ·have e:as=[]:=List.length_eq_zero_iff.mp hR.1
  subst e
  k_upd
  exact fgo hob T.cR T.jD rfl (q f0 hF)
 ·obtain ⟨as',a,rfl,hR',dd,s,hra,_,hs⟩:=hR.last
  k_upd
  rw [if_neg (by simp)]
  k_upd
  refine fgo hob T.cR T.bO rfl ?_
  k_mem
  refine fgo hob T.cR T.bO rfl ?_
  k_mem
  refine ⟨_,.inl (SqL.of hrl),_,SqL.of hrl,_,vV,?_⟩
  k_mem
  refine ⟨_,hra,_,rfl,?_⟩
  rw [fg] at q
  k_upd
  exact q s hs
variable (aL:KM P w K mg base CX0 1 Z.mi "latest" (iJ K Z))
inductive oB (K:W.Frag)(Z:Adr)(vs:List V)(H:Hp)(Q:VK)(E:XK):Prop | mk (i:Int):vs=[.int i]->Q (.bl true) H->oB K Z vs H Q E
include T in
theorem Ab:FF P w K mg base CX0 1 "_law_whole" "_law_whole" qO wc (oB K Z):=fk0 zS fun vs H Q E h=>by
 obtain ⟨i,rfl,q⟩:=h
 k_all
 refine ⟨_,ah (aw (ja (aE o6 (by rfl) T.bE bp (pa2 (pv' 0) (cV (v:=.ty "int") (by rfl) T.nJ jl rfl))) (lB (FZ (aE o6 (by rfl) T.bE bp (pa2 (pv' 0) (cV (v:=.ty "bool") (by rfl) T.zV wU rfl))))))),?_⟩
 k_mem
 refine xR ?_
 k_mem
 refine wW ?_
 k_mem
 exact q
variable (wz:KD P w K mg base CX0 1 "_law_whole" (oB K Z))
inductive xC (K:W.Frag)(Z:Adr)(vs:List V)(H:Hp)(Q:VK)(E:XK):Prop | mk (a:Addr) (ns:List Int) (k:Int):vs=[.ref a,.int k]->SqL K H a (ns.map V.int)->0<=k->Q (.int (ns.getD k.toNat 0)) H->xC K Z vs H Q E
include T in
theorem Gh:FF P w K mg base CX0 1 "_law_at" "_law_at" zT Ef (xC K Z):=fk0 Gb fun vs H Q E h=>by
 obtain ⟨a,ns,k,rfl,hS,hk,q⟩:=h
 k_all
 refine seg 1 (ah (aw af)) fun zt1 zh1 ze1=>?_
 refine ⟨_,ae (aJ (lP (pv' 1) (aE ax (by rfl) T.bQ a7 (pa1 (pv' 0)))) (ah (aw (ao au (pv' 0) (pv' 1)))) (aA)) zh1,?_⟩
 k_mem
 refine ⟨_,.inl hS,?_⟩
 rw [List.length_map]
 k_upd
 split
 ·rename_i hlt
  k_upd
  exact ⟨_,hS,_,cX hk hlt,q⟩
 ·rename_i hlt
  rw [CM (by omega)] at q
  k_upd
  exact q
variable (rj:KD P w K mg base CX0 1 "_law_at" (xC K Z))
def Gi (c k n:Int)(H:Hp)(_:Nat)(σ:St)(H':Hp):Prop:=H'=H/\∃r t,σ=[some (.int c),some (.int k),some (.int n),some (.int r),t,none]
inductive rk (K:W.Frag)(Z:Adr)(vs:List V)(H:Hp)(Q:VK)(E:XK):Prop | mk (c k n:Int):vs=[.int c,.int k,.int n]->0<=k->k<=100000->0 < n->(∀r:Int,0<=r->r < n->Q (.int r) H)->rk K Z vs H Q E
include T in
theorem BR:FF P w K mg base CX0 1 "_law_draw" "_law_draw" ug yt (rk K Z):=fk0 j6 fun vs H Q E h=>by
 obtain ⟨c,k,n,rfl,hk0,hk1,hn,q⟩:=h
 k_all
 refine seg 2 (ah (aw (aO pB (kz (cu (aO td (pv' 5) (aO aU (pv' 5) af)) af) af) (pv' 2)))) fun zt2 zh2 ze2=>?_
 refine seg 1 (ae (aD (i:=5) j6.nd rfl orL (cu (aO aU (aO aU (tf (pv' 0) af) (tf (pv' 1) af)) af) af)) zh2) fun zt1 zh1 ze1=>?_
 refine ⟨_,ae (aJ (bw (cu (pv' 0) af) af) (ae (aD (i:=3) j6.nd rfl orL (kz (pv' 0) af)) (ae (cy PassesOwn.never rfl (bq (by rfl) T.cb (pa1 (pv' 1))) (aF (i:=4) j6.nd rfl orL) (ah (aD (i:=3) j6.nd rfl orL (kz (pv' 3) af)))) (ah (aw (aO pB (cu (pv' 3) af) (pv' 2)))))) (aA)) zh1,?_⟩
 k_mem
 split
 ·k_upd
  refine ⟨by omega,by omega,bF (Gi c k n H) ⟨rfl,_,_,rfl⟩ ?_ ?_⟩
  ·rintro i σ H' hi ⟨rfl,r,t,rfl⟩
   k_mem
   exact ⟨rfl,_,_,rfl⟩
  ·rintro σ H' ⟨rfl,r,t,rfl⟩
   k_mem
   exact ⟨hn,q _ (Int.emod_nonneg _ (by omega)) (Int.emod_lt_of_pos _ hn)⟩
 ·k_upd
  refine ⟨.inl ⟨by omega,by omega⟩,hn,q _ (Int.emod_nonneg _ (by omega)) (Int.emod_lt_of_pos _ hn)⟩
variable (bM:KD P w K mg base CX0 1 "_law_draw" (rk K Z))
inductive oC (K:W.Frag)(Z:Adr)(vs:List V)(H:Hp)(Q:VK)(E:XK):Prop | mk (a:Addr) (ns:List Int) (k:Int):vs=[.ref a,.int k]->SqL K H a (ns.map V.int)->0<=k->k < ns.length->(∀n:Int,Q (.int n) H)->oC K Z vs H Q E
include T in
theorem Ac:FF P w K mg base CX0 1 "_law_mixed" "_law_mixed" qP we (oC K Z):=fk0 om fun vs H Q E h=>by
 obtain ⟨a,ns,k,rfl,hS,hk0,hk1,q⟩:=h
 k_all
 refine ⟨_,ae (aD (i:=2) om.nd rfl orL (ao au (pv' 0) (pv' 1))) (ae (aJ (bw (cu (ao au (pv' 0) af) af) af) (ah (aw (pv' 2))) (aA)) (ae (aD (i:=3) om.nd rfl orL (cu (aO aU (aO aU (tf (pv' 2) af) (tf (pv' 1) af)) af) af)) (ah (aw (cu (aO td (pv' 3) (aO aU (pv' 3) af)) af))))),?_⟩
 k_mem
 refine ⟨_,hS,_,cX hk0 hk1,_,hS,_,cX (ns:=ns) (k:=0) (by omega) (by omega),?_⟩
 k_mem
 split
 ·exact q _
 ·exact ⟨.inl ⟨by omega,by omega⟩,q _⟩
variable (mQ:KD P w K mg base CX0 1 "_law_mixed" (oC K Z))
def Kg (a:Addr)(c pl:Int)(dp:Int)(ds:List Int)(H:Hp)(i:Nat)(σ:St)(H':Hp):Prop:=H'=H/\(∃t,σ=[some (.ref a),some (.int c),some (.int pl),some (.int dp),t])/\∀j,j < i->ds.getD j 0≠dp
theorem two_deep {p q c:Int}(h0:0<=c)(h1:c < 2):atI [V.int p,V.int q] c=some (.int (if c=0 then p else q)):=by
 rcases (by omega:c=0\/c=1) with rfl | rfl<;>rfl
inductive xD (K:W.Frag)(Z:Adr)(vs:List V)(H:Hp)(Q:VK)(E:XK):Prop | mk (a:Addr) (ds:List Int) (c pl:Int):vs=[.ref a,.int c,.int pl]->SqL K H a (ds.map V.int)->bP ds->0<=c->c < 2->(∀H',av H H'->Q (.int ((a9 ds pl c).getD (-1))) H')->xD K Z vs H Q E
include T in
theorem Gj:FF P w K mg base CX0 1 "_law_by" "_law_by" zU Eg (xD K Z):=fk0 xv fun vs H Q E h=>by
 obtain ⟨a,ds,c,pl,rfl,hS,hsh,h0,h1,q⟩:=h
 k_all
 refine seg 2 (ah (aw (jV dY af))) fun zt2 zh2 ze2=>?_
 refine seg 1 (ae (cy PassesOwn.never rfl (bq (by rfl) T.cb (pa1 (aE ax (by rfl) T.bQ a7 (pa1 (pv' 0))))) (aF (i:=4) xv.nd rfl orL) (ah (aJ (bw (ao au (pv' 0) (pv' 4)) (pv' 3)) (ah (aw (pv' 4))) (aA)))) zh2) fun zt1 zh1 ze1=>?_
 refine ⟨_,ae (aD (i:=3) xv.nd rfl orL (ao au (bX (pa2 (pv' 2) (aO dG (ao au (pv' 0) (jV dY af)) (pv' 2)))) (pv' 1))) zh1,?_⟩
 have l6:=hsh.l6
 have l2:=hsh.l2
 k_mem
 refine ⟨_,hS,_,CP (by omega),?_⟩
 k_mem
 refine ⟨by decide,fun p hp=>⟨_,SqL.of ag,_,two_deep h0 h1,?_⟩⟩
 have s1:=(av.refl H).lay (o:=HO.lst [V.int pl,V.int (bS ds - pl)]) hp
 generalize upd H p (HO.lst [V.int pl,V.int (bS ds - pl)])=H1 at *
 have ec:a9 ds pl c=lvl ds (if c=0 then pl else bS ds - pl):=by unfold a9;split<;>rfl
 generalize (if c=0 then pl else bS ds - pl)=dp at *
 k_mem
 refine ⟨_,.inl (s1.seq hS),by omega,by rw [List.length_map];omega,?_⟩
 k_upd
 refine bF (Kg a c pl dp ds H1) ⟨rfl,⟨_,rfl⟩,fun _ h=>absurd h (Nat.not_lt_zero _)⟩ ?_ ?_
 ·rintro i σ H' hi ⟨rfl,⟨t,rfl⟩,hj⟩
  rw [List.length_map] at hi
  have hi':i < ds.length:=by omega
  k_mem
  refine ⟨_,s1.seq hS,_,by rw [Int.zero_add];exact dJ hi',?_⟩
  k_mem
  split
  ·rename_i he
   rw [Int.zero_add]
   have q':=q _ s1
   rw [ec,hJ hsh hi' he] at q'
   k_upd
   exact q'
  ·rename_i he
   k_upd
   refine ⟨rfl,⟨_,rfl⟩,fun j hj'=>?_⟩
   by_cases e:j=i
   ·rw [e];exact he
   ·exact hj j (by omega)
 ·rintro σ H' ⟨rfl,⟨t,rfl⟩,hj⟩
  k_mem
  have q':=q _ s1
  rw [ec,xW (fun i hi=>hj i (by rw [List.length_map];omega))] at q'
  k_upd
  exact q'
variable (jI:KD P w K mg base CX0 1 "_law_by" (xD K Z))
theorem Gk (x:List V)(k:Nat)(h:k < x.length):oV x none (some (k:Int))=x.take k/\¬(HT.sIx x.length 0 none=0/\HT.sIx x.length x.length (some (k:Int))=x.length):=by
 have e:HT.sIx x.length x.length (some (k:Int))=k:=by simp only [HT.sIx];split<;>omega
 refine ⟨?_,fun z=>by rw [e] at z;omega⟩
 unfold oV
 rw [e]
 simp [HT.sIx]
theorem Gm (x:List V)(k:Nat)(h0:0 < k)(h:k<=x.length):oV x (some (k:Int)) none=x.drop k/\¬(HT.sIx x.length 0 (some (k:Int))=0/\HT.sIx x.length x.length none=x.length):=by
 have e:HT.sIx x.length 0 (some (k:Int))=k:=by simp only [HT.sIx];split<;>omega
 refine ⟨?_,fun z=>by rw [e] at z;omega⟩
 unfold oV
 rw [e]
 simp only [HT.sIx]
 exact List.take_of_length_le (by simp)
theorem Er (x:List V)(k:Nat)(v:V)(h:k < x.length):x.take k++[v]++x.drop (k+1)=x.set k v:=by
 rw [List.set_eq_take_append_cons_drop,if_pos h,List.append_assoc];rfl
inductive rm (K:W.Frag)(Z:Adr)(vs:List V)(H:Hp)(Q:VK)(E:XK):Prop | mk (t:Addr) (x:List V) (k:Int) (s:V):vs=[.ref t,.int k,s]->SqT K H t x->0<=k->k < x.length->x.length<=100->(∀p H',av H H'->H' p=some (.tup (x.set k.toNat s))->Q (.ref p) H')->rm K Z vs H Q E
include T in
theorem BS:FF P w K mg base CX0 1 "_law_swap" "_law_swap" ui yv (rm K Z):=fk0 BO fun vs H Q E h=>by
 obtain ⟨t,x,k,s,rfl,hT,h0,h1,hl,q⟩:=h
 k_all
 refine ⟨_,ah (aw (aO yo (aO yo (tF A2 (pv' 0) Au (pC (pv' 1))) (aP (pa1 (pv' 2)))) (tF A2 (pv' 0) (pC (aO aU (pv' 1) af)) Au))),?_⟩
 obtain ⟨k,rfl⟩:=Int.eq_ofNat_of_zero_le h0
 rw [Int.toNat_natCast,←Er x k s (by omega)] at q
 obtain ⟨c1,n1⟩:=Gk x k (by omega)
 obtain ⟨c2,n2⟩:=Gm x (k+1) (by omega) (by omega)
 k_mem
 rw [show ((k:Int)+1)=((k+1:Nat):Int) from rfl]
 k_upd
 refine ⟨_,hT,n1,?_⟩
 rw [c1]
 refine fun p1 h1'=>⟨by decide,fun p2 h2'=>⟨_,upo ag h2',_,ag,(by rw [List.length_take];show _+1<=1000;omega),fun p3 H3 s3 t3=>?_⟩⟩
 have s2:=(((av.refl H).lay h1').lay h2').trans s3
 k_upd
 refine ⟨_,s2.tup hT,n2,?_⟩
 rw [c2]
 refine fun p4 h4=>⟨_,upo t3 h4,_,ag,(by simp only [List.length_append,List.length_take,List.length_drop,List.length_singleton];omega),fun p5 H5 s5 t5=>?_⟩
 k_upd
 exact q p5 H5 ((s2.lay h4).trans s5) t5
variable (p8:KD P w K mg base CX0 1 "_law_swap" (rm K Z))
theorem BU {w s t:Int}(hs:1<=s)(h1:w<=t * s)(h2:t=0\/(t - 1) * s < w)(h0:0<=t)(hw:0<=w):t=hZ w s:=by
 have c:=zl (w:=w) (s:=s) hw (by omega)
 unfold hZ
 generalize (w+s - 1) / s=u at *
 obtain ⟨u0,u1,u2,_⟩:=c
 rcases Int.lt_trichotomy t u with h | h | h
 ·exfalso
  have:t<=u - 1:=by omega
  have:=Int.mul_le_mul_of_nonneg_right this (show 0<=s by omega)
  omega
 ·exact h
 ·exfalso
  rcases h2 with rfl | h2
  ·omega
  ·have:u<=t - 1:=by omega
   have:=Int.mul_le_mul_of_nonneg_right this (show 0<=s by omega)
   omega
inductive oE (K:W.Frag)(Z:Adr)(vs:List V)(H:Hp)(Q:VK)(E:XK):Prop | mk (wy sp:Int):vs=[.int wy,.int sp]->0<=wy->wy<=100000->1<=sp->sp<=100000->Q (.int (hZ wy sp)) H->oE K Z vs H Q E
include T in
theorem Ad:FF P w K mg base CX0 1 "_law_lasts" "_law_lasts" qU wq (oE K Z):=fk0 oq fun vs H Q E h=>by
 obtain ⟨wy,sp,rfl,h0,h1,h2,h3,q⟩:=h
 k_all
 refine seg 2 (ah (aw (pv' 2))) fun zt2 zh2 ze2=>?_
 refine seg 1 (ae (Ci PassesOwn.never (lP (aO td (pv' 2) (pv' 1)) (pv' 0)) (ah (aD (i:=2) oq.nd rfl orL (aO aU (pv' 2) af)))) zh2) fun zt1 zh1 ze1=>?_
 refine ⟨_,ae (aD (i:=2) oq.nd rfl orL af) zh1,?_⟩
 k_mem
 refine Cm (fun σ H'=>H'=H/\∃t:Int,σ=[some (.int wy),some (.int sp),some (.int t)]/\0<=t/\t<=wy/\(t=0\/(t - 1) * sp < wy)) (fun σ H'=>match σ with | [_,_,some (.int t)]=>(wy - t).toNat | _=>0) ⟨rfl,0,rfl,by omega,by omega,.inl rfl⟩ ?_ ?_
 ·rintro σ H' ⟨rfl,t,rfl,t0,t1,t2⟩
  k_mem
  have tm:t * 1<=t * sp:=Int.mul_le_mul_of_nonneg_left h2 t0
  k_upd
  refine ⟨.inl ⟨by omega,by omega⟩,?_⟩
  k_upd
  split
  ·rename_i hlt
   k_upd
   refine ⟨⟨rfl,t+1,rfl,by omega,by omega,.inr (by rw [Int.add_sub_cancel];exact hlt)⟩,?_⟩
   show (wy - (t+1)).toNat < (wy - t).toNat
   omega
  ·rename_i hge
   rw [←BU h2 (by omega) t2 t0 h0] at q
   k_upd
   exact q
 ·intro σ H' R R' hq h
  exact onO.mono (fun v=>onO.mono fun v1=>onI.mono fun i=>onI.mono fun j=>And.imp_right (onO.mono fun v2=>onI.mono fun j2=>onI.mono fun j3 z=>by split at z<;>rename_i c<;>(first | rw [if_pos c] | rw [if_neg c])<;>exact hq _ _ z)) h
variable (wA:KD P w K mg base CX0 1 "_law_lasts" (oE K Z))
def yL (p lt:Addr)(ks:List Str)(ws:List Int)(H:Hp)(i:Nat)(σ:St)(H':Hp):Prop:=H'=H/\(∃t,σ=[some (.ref p),some (.ref lt),t])/\∀j k x,j < i->ks[j]?=some k->ws[j]?=some x->(decide (k="men") && decide (x=10\/x=11))=false
inductive oF (K:W.Frag)(Z:Adr)(vs:List V)(H:Hp)(Q:VK)(E:XK):Prop | mk (p dl cl ll lt:Addr) (g:Cfg) (lds:List Ld) (ws:List Int):vs=[.ref p,.ref lt]->dW K H p dl cl ll g lds->SqT K H lt (ws.map V.int)->ws.length=lds.length->ws.length<=30->((∀x∈ws,x < 10\/x=10\/x=11))->Q (.int (if xX g.ks ws=true then g.slow else g.fast)) H->oF K Z vs H Q E
include T in
theorem Ae:FF P w K mg base CX0 1 "_law_speed" "_law_speed" qV wt (oF K Z):=fk0 uj fun vs H Q E h=>by
 obtain ⟨p,dl,cl,ll,lt,g,lds,ws,rfl,hP,hL,hlen,h30,hwr,q⟩:=h
 k_all
 refine seg 1 (ah (aw (ao au (pv' 0) af))) fun zt1 zh1 ze1=>?_
 refine ⟨_,ae (cy PassesOwn.never rfl (bq (by rfl) T.cb (pa1 (aE ax (by rfl) T.bQ a7 (pa1 (pv' 1))))) (aF (i:=2) uj.nd rfl orL) (ah (aJ (eP (Ee (ao aq (pv' 1) (pv' 2)) af) (eL (bw (ao aq (ao au (ao au (pv' 0) af) (pv' 2)) af) aC))).pt (ah (aw (ao au (pv' 0) af))) (aA)))) zh1,?_⟩
 obtain ⟨hp,_,_,⟨bs,hll,hT2⟩,ek⟩:=id hP
 have hbl:=hT2.1
 k_mem
 refine ⟨_,.inr hL,by omega,by rw [List.length_map];omega,?_⟩
 rw [List.length_map]
 k_upd
 refine bF (yL p lt g.ks ws H) ⟨rfl,⟨_,rfl⟩,fun j _ _ hj=>absurd hj (Nat.not_lt_zero _)⟩ ?_ ?_
 ·rintro i σ H' hi ⟨rfl,⟨t,rfl⟩,hj⟩
  have hi':i < ws.length:=by omega
  have hw:ws[i]?=some (ws.getD i 0):=jW hi'
  have hx:=hwr _ (cN hi')
  have ha:bs[i]?=some (bs[i]'(by omega)):=List.getElem?_eq_getElem (by omega)
  have hld:lds[i]?=some (lds[i]'(by omega)):=List.getElem?_eq_getElem (by omega)
  have hrow:=hT2.2 i _ _ ha hld
  have hk:g.ks[i]?=some (lds[i]'(by omega)).1:=by rw [ek,List.getElem?_map,hld];rfl
  have no:(decide ((lds[i]'(by omega)).1="men") && decide (ws.getD i 0=10\/ws.getD i 0=11))=false->yL p lt g.ks ws H' (i+1) [some (V.ref p),some (V.ref lt),some (V.int (0+(i:Int)))] H':=fun hn=>by
   refine ⟨rfl,⟨_,rfl⟩,fun j k x hj' e1 e2=>?_⟩
   by_cases e:j=i
   ·subst e
    rw [hk] at e1;rw [hw] at e2
    cases e1;cases e2
    exact hn
   ·exact hj j k x (by omega) e1 e2
  k_mem
  refine ⟨_,hL,_,by rw [Int.zero_add];exact dJ hi',?_⟩
  k_mem
  split
  ·rename_i h10
   k_upd
   refine ⟨_,SqL.of hp,_,rfl,?_⟩
   k_mem
   refine ⟨_,SqL.of hll,_,by rw [Int.zero_add];exact fq (by rw [List.getElem?_map,ha];rfl),?_⟩
   k_mem
   refine ⟨_,hrow,_,rfl,?_⟩
   k_mem
   split
   ·rename_i hm
    have hm':(lds[i]'(by omega)).1="men":=hm
    rw [xY hk hw hm' (by omega),if_pos rfl] at q
    k_upd
    exact ⟨_,SqL.of hp,_,rfl,q⟩
   ·rename_i hm
    exact no (by rw [decide_eq_false hm];rfl)
  ·rename_i h10
   exact no (by rw [decide_eq_false (p:=ws.getD i 0=10\/ws.getD i 0=11) (by omega),Bool.and_false])
 ·rintro σ H' ⟨rfl,⟨t,rfl⟩,hj⟩
  k_mem
  rw [vW hj (.inr (by omega)),if_neg Bool.false_ne_true] at q
  k_upd
  exact ⟨_,SqL.of hp,_,rfl,q⟩
variable (wB:KD P w K mg base CX0 1 "_law_speed" (oF K Z))
theorem BV (ls:List Cd):c7 (ls.map fun _=>false)=[]:=by
 unfold c7 qD
 rw [List.filter_eq_nil_iff.mpr]
 ·rfl
 ·intro j _
  rw [Ii]
  exact Bool.false_ne_true
inductive oG (K:W.Frag)(Z:Adr)(vs:List V)(H:Hp)(Q:VK)(E:XK):Prop | mk (p dl cl ll:Addr) (ds:List Int) (ls:List Cd) (slow fast:Int) (lds:List Ld) (N0:Addr->Prop):vs=[.ref p]->dW K H p dl cl ll (fh ds ls slow fast lds N0) lds->2<=ds.length->ds.length<=6->lds.length<=30->(∀a H',av H H'->ie K H' a (cE ds ls lds,0)->Q (.ref a) H')->oG K Z vs H Q E
include T in
theorem Af:FF P w K mg base CX0 1 "_law_first" "_law_first" qW wu (oG K Z):=fk0 ot fun vs H Q E h=>by
 obtain ⟨p,dl,cl,ll,ds,ls,slow,fast,lds,N0,rfl,hP,l2,l6,h30,q⟩:=h
 k_all
 refine seg 2 (ah (aw (aP (dU (ao au (ao au (pv' 0) af) af) (dU (aO Ec (aP (pa1 eF)) (pv' 1)) (pa4 (pv' 2) (aP (pa4 aC en en en)) (aP g8) af)))))) fun zt2 zh2 ze2=>?_
 refine seg 1 (ae (aD (i:=2) ot.nd rfl orL (bh lR (by rfl) T.pY lI (pa1 (mY ["_law_one"] [none] (cA (ao au (pv' 0) af)) (fun _ _ _ _=>(aF (i:=0) (show (["_law_one"]:List Str).Nodup by decide +kernel) rfl orL)) (fun _ _ _ _=>gh) (fun _ _ _ _=>(ao (show IxR _ (rK K) from aq) (pv' 0) af)))))) zh2) fun zt1 zh1 ze1=>?_
 refine ⟨_,ae (aD (i:=1) ot.nd rfl orL (aE ax (by rfl) T.bQ a7 (pa1 (ao au (pv' 0) af)))) zh1,?_⟩
 obtain ⟨hp,hdl,_,⟨bs,hll,hT2⟩,_⟩:=id hP
 replace hdl:H dl=some (HO.lst (ds.map V.int)):=hdl
 replace hp:H p=some (HO.lst [V.ref dl,V.ref cl,V.int slow,V.int fast,V.ref ll]):=hp
 have hbl:=hT2.1
 k_mem
 refine ⟨_,SqL.of hp,_,rfl,?_⟩
 k_mem
 refine ⟨_,.inl (SqL.of hdl),?_⟩
 rw [List.length_map]
 k_upd
 refine ⟨_,SqL.of hp,_,rfl,?_⟩
 k_mem
 refine ⟨⟨_,SqL.of hll⟩,?_⟩
 refine AL (fun x=>.int x.2.1) ⟨bs,SqL.of hll,hT2⟩ (by rw [sizeLine_eq];omega) rfl (fun b x hb N hN=>by k_mem;exact ⟨_,hb,_,rfl,hN⟩) fun l1 hl1=>?_
 have s1:=(av.refl H).lay (o:=HO.lst (lds.map fun x=>V.int x.2.1)) hl1
 k_mem
 refine ⟨_,.inl ⟨SqL.of ag,fun lt hlt=>?_⟩⟩
 have s2:=s1.lay (o:=HO.tup (lds.map fun x=>V.int x.2.1)) hlt
 have ht2:upd (upd H l1 (HO.lst (lds.map fun x=>V.int x.2.1))) lt (HO.tup (lds.map fun x=>V.int x.2.1)) lt=some (HO.tup ((lds.map (·.2.1)).map V.int)):=by rw [ag,List.map_map];rfl
 generalize upd (upd H l1 (HO.lst (lds.map fun x=>V.int x.2.1))) lt (HO.tup (lds.map fun x=>V.int x.2.1))=H2 at *
 k_upd
 refine ⟨_,SqL.of (s2 _ _ hp),_,rfl,?_⟩
 k_mem
 refine ⟨_,SqL.of (s2 _ _ hdl),_,cX (k:=0) (by omega) (by omega),by decide,fun p1 hp1=>⟨_,SqT.of ag,by omega,by omega,fun gt hgt=>⟨by decide,fun ht hht=>⟨by decide,fun dt hdt=>⟨by decide,fun a ha=>?_⟩⟩⟩⟩⟩
 have eg:List.replicate ((ds.length:Nat):Int).toNat (V.bl false)=(ds.map fun _=>false).map V.bl:=by
  rw [List.map_map,Int.toNat_natCast]
  exact (List.map_const' (l:=ds) (b:=V.bl false)).symm
 refine q a _ (((((s2.lay hp1).lay hgt).lay hht).lay hdt).lay ha) ⟨gt,lt,ht,dt,SqT.of ag,SqT.of ?_,upo (upo (upo (upo (upo ht2 hp1) hgt) hht) hdt) ha,SqT.of (upo (upo ag hdt) ha),SqT.of ?_⟩
 ·rw [upo (upo (upo ag hht) hdt) ha,eg];rfl
 ·rw [upo ag ha]
  show _=some (HO.tup ((c7 (ls.map fun _=>false)).map V.int))
  rw [BV];rfl
variable (mR:KD P w K mg base CX0 1 "_law_first" (oG K Z))
inductive oH (K:W.Frag)(Z:Adr)(vs:List V)(H:Hp)(Q:VK)(E:XK):Prop | mk (ht dd:Addr) (g:Cfg) (n:aI) (d:Dd):vs=[.ref ht,.ref dd]->SqT K H ht (nV n.e)->SqT K H dd (ddV d)->dD g n d=none->(∀h H',av H H'->SqT K H' h (nV (tN g n d))->Q (.ref h) H')->oH K Z vs H Q E
include T in
theorem Ag:FF P w K mg base CX0 1 "_law_heard" "_law_heard" qX wx (oH K Z):=fk0 uk fun vs H Q E h=>by
 obtain ⟨ht,dd,g,n,d,rfl,hH,hD,hr,q⟩:=h
 k_all
 refine seg 3 (ah (aw (pv' 0))) fun zt3 zh3 ze3=>?_
 refine seg 2 (ae (aJ (bw (ao aq (pv' 1) af) aC) (ah (aw (aP (pa4 aC (ao aq (pv' 0) af) (ao aq (pv' 0) af) (ao aq (pv' 0) af))))) (aA)) zh3) fun zt2 zh2 ze2=>?_
 refine seg 1 (ae (aJ (bw (ao aq (pv' 1) af) aC) (ae (aD (i:=2) uk.nd rfl orL (ao au (bX (pa2 aC aC)) (bh eQ (by rfl) T.nJ jl (pa1 (cB jo (ao aq (pv' 1) af) (ao aq (pv' 0) af) (bV _)))))) (ah (aw (aP (pa4 (pv' 2) (ao aq (pv' 0) af) (ao aq (pv' 0) af) (ao aq (pv' 1) af)))))) (aA)) zh2) fun zt1 zh1 ze1=>?_
 refine ⟨_,ae (aJ (bw (ao aq (pv' 1) af) aC) (ah (aw (aP (pa4 aC (ao aq (pv' 1) af) (ao aq (pv' 1) af) en)))) (aA)) zh1,?_⟩
 have q0:tN g n d=n.e->Q (.ref ht) H:=fun e=>q ht H (av.refl H) (by rw [e];exact hH)
 cases d with
 | ring l s=>
  k_mem
  refine ⟨_,hD,_,rfl,?_⟩
  k_mem
  rw [if_pos rfl]
  k_upd
  refine ⟨_,hD,_,rfl,_,hD,_,rfl,by decide,fun p hp=>?_⟩
  k_upd
  exact q p _ ((av.refl H).lay hp) (SqT.of ag)
 | rept s=>
  obtain ⟨l,r,e,_⟩:=yd hr
  have ee:tN g n (.rept s)=if s=r then .armed l r else .other l r s:=by simp only [tN,e]
  rw [e] at hH
  rw [ee] at q
  k_mem
  refine ⟨_,hD,_,rfl,?_⟩
  k_mem
  rw [if_neg (by decide)]
  k_upd
  refine ⟨_,hD,_,rfl,?_⟩
  k_mem
  rw [if_pos rfl]
  k_upd
  refine ⟨by decide,fun p1 hp1=>⟨_,((av.refl H).lay hp1).tup hD,_,rfl,_,((av.refl H).lay hp1).tup hH,_,rfl,?_⟩⟩
  k_mem
  have s1:=(av.refl H).lay (o:=HO.lst [V.str (Str.ofString "repeated otherwise"),V.str (Str.ofString "armed")]) hp1
  k_upd
  refine ⟨_,SqL.of ag,.str (if s=r then "armed" else "repeated otherwise"),?_,_,s1.tup hH,_,rfl,_,s1.tup hH,_,rfl,_,s1.tup hD,_,rfl,by decide,fun p hp=>?_⟩
  ·by_cases h:s=r
   ·simp only [h,decide_true,if_true];rfl
   ·simp only [h,decide_false,if_false,Bool.false_eq_true];rfl
  ·refine q p _ (s1.lay hp) (SqT.of ?_)
   rw [ag]
   by_cases h:s=r
   ·subst h;simp only [if_true];rfl
   ·rw [if_neg h,if_neg h];rfl
 | wind c l k=>
  obtain ⟨_,_,e⟩:=lK hr
  rw [e] at hH
  k_mem
  refine ⟨_,hD,_,rfl,?_⟩
  k_mem
  rw [if_neg (by decide)]
  k_upd
  refine ⟨_,hD,_,rfl,?_⟩
  k_mem
  rw [if_neg (by decide)]
  k_upd
  refine ⟨_,hD,_,rfl,?_⟩
  k_mem
  rw [if_pos rfl]
  k_upd
  refine ⟨_,hH,_,rfl,_,hH,_,rfl,_,hH,_,rfl,by decide,fun p hp=>?_⟩
  k_upd
  exact q p _ ((av.refl H).lay hp) (SqT.of ag)
 | _=>
  k_mem
  refine ⟨_,hD,_,rfl,?_⟩
  k_mem
  rw [if_neg (by decide)]
  k_upd
  refine ⟨_,hD,_,rfl,?_⟩
  k_mem
  rw [if_neg (by decide)]
  k_upd
  refine ⟨_,hD,_,rfl,?_⟩
  k_mem
  rw [if_neg (by decide)]
  k_upd
  exact q0 rfl
variable (wC:KD P w K mg base CX0 1 "_law_heard" (oH K Z))
inductive iK (K:W.Frag)(Z:Adr)(vs:List V)(H:Hp)(Q:VK)(E:XK):Prop | mk (lv m:Int):vs=[.int lv,.int m]->((0<=lv/\lv < m->Q .non H)/\(¬(0<=lv/\lv < m)->E (.ref Z.aY) none H))->iK K Z vs H Q E
include T eW in
theorem uH:FF P w K mg base (CXf P w) 2 "check_level" "check_level" jq ng (iK K Z):=fkF t6 fun vs H Q E h=>by
 obtain ⟨lv,m,rfl,q1,q2⟩:=h
 k_all
 refine ⟨_,ah (aJ (cT (bU (dc0 eW hr.dn (pa2 (pv' 0) (pv' 1))))) (ah (aX T.uA (by rfl) T.uw (pa1 aC))) (aA)),?_⟩
 k_mem
 refine ⟨_,_,rfl,?_⟩
 k_mem
 split
 ·rename_i h
  k_upd
  exact ⟨by decide,q2 h⟩
 ·rename_i h
  k_upd
  exact q1 (by simpa using h)
variable (bc:KD P w K mg base (CXf P w) 2 "check_level" (iK K Z))
inductive jJ (K:W.Frag)(Z:Adr)(vs:List V)(H:Hp)(Q:VK)(E:XK):Prop | mk (n m:Int):vs=[.int n,.int m]->((0<=n/\n < m->Q .non H)/\(¬(0<=n/\n < m)->E (.ref Z.dR) none H))->jJ K Z vs H Q E
include T eW in
theorem vA:FF P w K mg base (CXf P w) 2 "check_load" "check_load" kA pD (jJ K Z):=fkF ve fun vs H Q E h=>by
 obtain ⟨n,m,rfl,q1,q2⟩:=h
 k_all
 refine ⟨_,ah (aJ (cT (bU (dc0 eW hr.dn (pa2 (pv' 0) (pv' 1))))) (ah (aX T.vq (by rfl) T.vn (pa1 aC))) (aA)),?_⟩
 k_mem
 refine ⟨_,_,rfl,?_⟩
 k_mem
 split
 ·rename_i h
  k_upd
  exact ⟨by decide,q2 h⟩
 ·rename_i h
  k_upd
  exact q1 (by simpa using h)
variable (gV:KD P w K mg base (CXf P w) 2 "check_load" (jJ K Z))
def Kh (l:Addr)(m:Int)(ls:List Ld)(H:Hp)(i:Nat)(σ:St)(H':Hp):Prop:=H'=H/\(∃t u v,σ=[some (.ref l),some (.int m),t,u,v])/\∀(j:Nat) x,j < i->ls[j]?=some x->hG m x
inductive iL (K:W.Frag)(Z:Adr)(vs:List V)(H:Hp)(Q:VK)(E:XK):Prop | mk (l:Addr) (ls:List Ld) (m:Int):vs=[.ref l,.int m]->eM K H l ls->(((ls.length<=30/\∀x∈ls,hG m x)->Q .non H))->((¬(ls.length<=30/\∀x∈ls,hG m x)->E (.ref Z.md) none H))->iL K Z vs H Q E
include T eW in
theorem uI:FF P w K mg base (CXf P w) 2 "check_loads" "check_loads" jr nh (iL K Z):=fkF fB fun vs H Q E h=>by
 obtain ⟨l,ls,m,rfl,hL,q1,q2⟩:=h
 k_all
 refine seg 1 (ah (cy sD rfl (cA (pv' 0)) (fA rfl (aH (aF (i:=2) fB.nd rfl orL) (aH (aF (i:=3) fB.nd rfl orL) (aH (aF (i:=4) fB.nd rfl orL) c9)))) (ah (aJ (iZ (cT (bU (dc0 eW hr.dn (pa2 (pv' 3) (pv' 1))))) (fQ (cT (bU (dc0 eW hr.dn (pa2 (pv' 4) (pv' 1))))))).pt (ah (aX T.uB (by rfl) T.ux (pa1 aC))) (aA))))) fun zt1 zh1 ze1=>?_
 refine ⟨_,ae (aJ (v9 (aE ax (by rfl) T.bQ a7 (pa1 (pv' 0))) (cZ (by rfl) T.xx)) (ah (aX T.uB (by rfl) T.ux (pa1 aC))) (aA)) zh1,?_⟩
 obtain ⟨as,hS,hlen,hT⟩:=id hL
 k_mem
 refine ⟨_,.inl hS,?_⟩
 rw [List.length_map]
 k_upd
 split
 ·k_upd
  exact ⟨by decide,q2 fun h=>by omega⟩
 ·k_upd
  refine ⟨⟨_,hS⟩,?_⟩
  k_upd
  refine ff (as.map V.ref) (Kh l m ls H) ⟨rfl,⟨_,_,_,rfl⟩,fun j x h=>absurd h (Nat.not_lt_zero _)⟩ (fun i σ H' _ ⟨e,_⟩=>by rw [e];exact hS) ?_ ?_
  ·rintro i x σ H' hx ⟨rfl,⟨t,u,v,rfl⟩,hj⟩
   rw [List.getElem?_map] at hx
   obtain ⟨a,ea,rfl⟩:=Option.map_eq_some_iff.mp hx
   have hi:i < as.length:=(List.getElem?_eq_some_iff.mp ea).1
   have el:ls[i]?=some ls[i]:=List.getElem?_eq_getElem (by omega)
   have hm:ls[i]∈ls:=List.getElem_mem _
   k_mem
   refine ⟨_,hT i a _ ea el,rfl,?_⟩
   k_mem
   refine ⟨_,_,rfl,?_⟩
   k_mem
   split
   ·rename_i h1
    k_upd
    exact ⟨by decide,q2 fun h=>h1 (h.2 _ hm).1⟩
   ·rename_i h1
    k_upd
    refine ⟨_,_,rfl,?_⟩
    k_mem
    split
    ·rename_i h2
     k_upd
     exact ⟨by decide,q2 fun h=>h2 (h.2 _ hm).2⟩
    ·rename_i h2
     k_upd
     refine ⟨rfl,⟨_,_,_,rfl⟩,fun j x hj' hx=>?_⟩
     by_cases e:j=i
     ·rw [e,el] at hx
      cases hx
      k_upd
      exact ⟨by omega,by omega⟩
     ·exact hj j x (by omega) hx
  ·rintro σ H' ⟨rfl,⟨t,u,v,rfl⟩,hj⟩
   k_mem
   refine q1 ⟨by omega,fun x hx=>?_⟩
   obtain ⟨j,hj1,rfl⟩:=List.getElem_of_mem hx
   rw [List.length_map] at hj
   exact hj j _ (by omega) (List.getElem?_eq_getElem hj1)
variable (nN:KD P w K mg base (CXf P w) 2 "check_loads" (iL K Z))
def Ki (l:Addr)(m:Int)(ls:List Cd)(H:Hp)(i:Nat)(σ:St)(H':Hp):Prop:=H'=H/\(∃t u,σ=[some (.ref l),some (.int m),t,u])/\∀(j:Nat) x,j < i->ls[j]?=some x->dM x
inductive iM (K:W.Frag)(Z:Adr)(vs:List V)(H:Hp)(Q:VK)(E:XK):Prop | mk (l:Addr) (ls:List Cd) (m:Int):vs=[.ref l,.int m]->jn cdV K H l ls->((((ls.length:Int)=m/\∀x∈ls,dM x)->Q .non H))->((¬((ls.length:Int)=m/\∀x∈ls,dM x)->E (.ref Z.me) none H))->iM K Z vs H Q E
include T eK in
theorem uJ:FF P w K mg base (CXf P w) 2 "check_codes" "check_codes" jt nj (iM K Z):=fkF ip fun vs H Q E h=>by
 obtain ⟨l,ls,m,rfl,hL,q1,q2⟩:=h
 k_all
 refine seg 1 (ah (cy sD rfl (cA (pv' 0)) (fA rfl (aH (aF (i:=2) ip.nd rfl orL) (aH (aF (i:=3) ip.nd rfl orL) c9))) (ae (aJ (iZ (cT (bU (dc0 eK hr.dn (pa1 (pv' 2))))) (fQ (cT (bU (dc0 eK hr.dn (pa1 (pv' 3))))))).pt (ah (aX T.oz (by rfl) T.ox (pa1 aC))) (aA)) (ah (aJ (bw (pv' 2) (pv' 3)) (ah (aX T.oz (by rfl) T.ox (pa1 aC))) (aA)))))) fun zt1 zh1 ze1=>?_
 refine ⟨_,ae (aJ (i9 (aE ax (by rfl) T.bQ a7 (pa1 (pv' 0))) (pv' 1)) (ah (aX T.oz (by rfl) T.ox (pa1 aC))) (aA)) zh1,?_⟩
 obtain ⟨as,hS,hlen,hT⟩:=id hL
 k_mem
 refine ⟨_,.inl hS,?_⟩
 rw [List.length_map]
 k_upd
 split
 ·k_upd
  exact ⟨by decide,q2 fun h=>by omega⟩
 ·k_upd
  refine ⟨⟨_,hS⟩,?_⟩
  k_upd
  refine ff (as.map V.ref) (Ki l m ls H) ⟨rfl,⟨_,_,rfl⟩,fun j x h=>absurd h (Nat.not_lt_zero _)⟩ (fun i σ H' _ ⟨e,_⟩=>by rw [e];exact hS) ?_ ?_
  ·rintro i x σ H' hx ⟨rfl,⟨t,u,rfl⟩,hj⟩
   rw [List.getElem?_map] at hx
   obtain ⟨a,ea,rfl⟩:=Option.map_eq_some_iff.mp hx
   have hi:i < as.length:=(List.getElem?_eq_some_iff.mp ea).1
   have el:ls[i]?=some ls[i]:=List.getElem?_eq_getElem (by omega)
   have hm:ls[i]∈ls:=List.getElem_mem _
   k_mem
   refine ⟨_,hT i a _ ea el,rfl,?_⟩
   k_mem
   refine ⟨_,rfl,?_⟩
   k_mem
   split
   ·rename_i h1
    k_upd
    exact ⟨by decide,q2 fun h=>h1 (h.2 _ hm).1⟩
   ·rename_i h1
    k_upd
    refine ⟨_,rfl,?_⟩
    k_mem
    split
    ·rename_i h2
     k_upd
     exact ⟨by decide,q2 fun h=>h2 (h.2 _ hm).2.1⟩
    ·rename_i h2
     k_upd
     split
     ·rename_i h3
      k_upd
      exact ⟨by decide,q2 fun h=>(h.2 _ hm).2.2 h3⟩
     ·rename_i h3
      k_upd
      refine ⟨rfl,⟨_,_,rfl⟩,fun j x hj' hx=>?_⟩
      by_cases e:j=i
      ·rw [e,el] at hx
       cases hx
       k_upd
       exact ⟨by omega,by omega,h3⟩
      ·exact hj j x (by omega) hx
  ·rintro σ H' ⟨rfl,⟨t,u,rfl⟩,hj⟩
   k_mem
   refine q1 ⟨by omega,fun x hx=>?_⟩
   obtain ⟨j,hj1,rfl⟩:=List.getElem_of_mem hx
   exact hj j _ (by rw [List.length_map];omega) (List.getElem?_eq_getElem hj1)
variable (nO:KD P w K mg base (CXf P w) 2 "check_codes" (iM K Z))
inductive gH (K:W.Frag)(Z:Adr)(vs:List V)(H:Hp)(Q:VK)(E:XK):Prop | mk (b cs fl st:Addr) (ls:List Cd) (fs:List Bool) (e:Eng) (s:Int):vs=[.ref b,.int s]->br Z.bB K H b cs fl st ls fs e->(((∀l r,e≠.wait l r)->E (.ref Z.fj) none H))->((∀l r,e=.wait l r->¬(1<=s/\s<=9)->E (.ref Z.mf) none H))->((∀l r,e=.wait l r->(1<=s/\s<=9)->∀st' p H',H p=none->aB b H H'->br Z.bB K H' b cs fl st' ls fs (if s=r then .armed l r else .other l r s)->SqT K H' p [.bl (decide (s=r)),.int r,.int s]->Q (.ref p) H'))->gH K Z vs H Q E
include T eK in
theorem sL:FF P w K mg base (CXf P w) 2 "repeat" "Bells.repeat" iq lT (gH K Z):=fkF eN fun vs H Q E h=>by
 obtain ⟨b,cs,fl,st,ls,fs,e,s,rfl,hB,q1,q2,q3⟩:=h
 k_all
 refine ⟨_,ae (aJ (i9 (ao aq (az (pv' 0)) af) aC) (ah (aX T.vt (by rfl) T.vo (pa1 aC))) (aA)) (ae (aJ (cT (bU (dc0 eK hr.dn (pa1 (pv' 1))))) (ah (aX T.yG (by rfl) T.yD (pa1 aC))) (aA)) (ae (aD (i:=2) eN.nd rfl orL (ao aq (az (pv' 0)) af)) (ae (aD (i:=3) eN.nd rfl orL (ao aq (az (pv' 0)) af)) (ae (aD (i:=4) eN.nd rfl orL (cB jo (pv' 1) (pv' 3) (bV _))) (ae (bG (pv' 0) (aP (pa4 (xJ (bU (pv' 4)) aC aC) (pv' 2) (pv' 3) (pv' 1))) rfl) (ah (aw (aP (pa3 (pv' 4) (pv' 3) (pv' 1)))))))))),?_⟩
 obtain ⟨⟨dx,hob⟩,⟨as,hcs,hT⟩,hfl,hst,nn,ln⟩:=id hB
 k_mem
 refine fgo hob T.bt T.bz rfl ?_
 k_mem
 cases e with
 | wait l r=>
  refine ⟨_,hst,_,rfl,?_⟩
  k_mem
  refine ⟨_,rfl,?_⟩
  k_mem
  split
  ·rename_i h
   exact ⟨by decide,q2 l r rfl h⟩
  ·rename_i h
   have hs:1<=s/\s<=9:=by simpa using h
   refine fgo hob T.bt T.bz rfl ?_
   k_mem
   refine ⟨_,hst,_,rfl,?_⟩
   k_mem
   refine fgo hob T.bt T.bz rfl ?_
   k_mem
   refine ⟨_,hst,_,rfl,?_⟩
   k_mem
   split
   ·rename_i hr
    refine ⟨by decide,fun st' hst'=>⟨_,_,_,upo hob hst',T.bt,T.bz,by show 3 < 1000;decide,by decide,fun p hp=>?_⟩⟩
    have nsx:st'≠b:=fun z=>by rw [z,hob] at hst';cases hst'
    have hpn:=upn (aB.free (H':=upd (upd H st' (HO.tup [V.str (Str.ofString "armed"),V.int l,V.int r,V.int s])) b (HO.ins Z.bB dx (ba "state" (.ref st') [("codes",V.ref cs),("failed",V.ref fl),("state",V.ref st)]))) (p:=b) ((aB.of (av.refl _)).put) (fun z=>by rw [z,ag] at hp;cases hp) hp)
    have k:=((aB.of ((av.refl H).lay (o:=HO.tup [V.str (Str.ofString "armed"),V.int l,V.int r,V.int s]) hst')).put (o:=HO.ins Z.bB dx (ba "state" (.ref st') [("codes",V.ref cs),("failed",V.ref fl),("state",V.ref st)])) (p:=b))
    refine q3 l r rfl hs st' p _ hpn (k.trans (aB.of ((av.refl _).lay hp))) ?_ (SqT.of ?_)
    ·refine (hB.state k (dx:=dx) (by rw [ag];rfl) (SqT.of (xs:=nV (if s=r then .armed l r else .other l r s)) ?_)).same ((av.refl _).lay hp)
     rw [aG nsx,ag,if_pos hr,hr];rfl
    ·rw [ag]
   ·rename_i hr
    refine ⟨by decide,fun st' hst'=>⟨_,_,_,upo hob hst',T.bt,T.bz,by show 3 < 1000;decide,by decide,fun p hp=>?_⟩⟩
    have nsx:st'≠b:=fun z=>by rw [z,hob] at hst';cases hst'
    have hpn:=upn (aB.free (H':=upd (upd H st' (HO.tup [V.str (Str.ofString "repeated otherwise"),V.int l,V.int r,V.int s])) b (HO.ins Z.bB dx (ba "state" (.ref st') [("codes",V.ref cs),("failed",V.ref fl),("state",V.ref st)]))) (p:=b) ((aB.of (av.refl _)).put) (fun z=>by rw [z,ag] at hp;cases hp) hp)
    have k:=((aB.of ((av.refl H).lay (o:=HO.tup [V.str (Str.ofString "repeated otherwise"),V.int l,V.int r,V.int s]) hst')).put (o:=HO.ins Z.bB dx (ba "state" (.ref st') [("codes",V.ref cs),("failed",V.ref fl),("state",V.ref st)])) (p:=b))
    refine q3 l r rfl hs st' p _ hpn (k.trans (aB.of ((av.refl _).lay hp))) ?_ (SqT.of ?_)
    ·refine (hB.state k (dx:=dx) (by rw [ag];rfl) (SqT.of (xs:=nV (if s=r then .armed l r else .other l r s)) ?_)).same ((av.refl _).lay hp)
     rw [aG nsx,ag,if_neg hr];rfl
    ·rw [ag]
 | _=>
  refine ⟨_,hst,_,rfl,?_⟩
  k_mem
  first
  | rw [if_pos (by decide)]
  | skip
  exact ⟨by decide,q1 fun l r z=>Eng.noConfusion z⟩
variable (my:KM P w K mg base (CXf P w) 2 Z.bB "repeat" (gH K Z))
inductive iO (K:W.Frag)(Z:Adr)(vs:List V)(H:Hp)(Q:VK)(E:XK):Prop | mk (a:Addr) (ds:List Int) (p:Int):vs=[.ref a,.int p]->SqL K H a (ds.map V.int)->0 < ds.length->Q (.int (bS ds - p)) H->iO K Z vs H Q E
include T p6 in
theorem uK:FF P w K mg base CX0 2 "other_place" "other_place" ju nq (iO K Z):=fk0 t9 fun vs H Q E h=>by
 obtain ⟨a,ds,p,rfl,hS,hl,q⟩:=h
 k_all
 refine ⟨_,ah (aw (aO dG (dc0 p6 hr.dn (pa1 (pv' 0))) (pv' 1))),?_⟩
 k_mem
 refine ⟨a,ds,rfl,hS,hl,?_⟩
 k_mem
 exact q
variable (dA:KD P w K mg base CX0 2 "other_place" (iO K Z))
inductive jK (K:W.Frag)(Z:Adr)(vs:List V)(H:Hp)(Q:VK)(E:XK):Prop | mk (bk rl dd s:Addr) (g:Cfg) (n0 n:aI) (rs:List Row) (tk sp:Int) (dv:List V):vs=[.ref bk,.ref dd,.int tk,.int sp,.ref s]->BAt (clZ Z) K H bk rl g n0 rs->SqT K H dd dv->dF (clZ Z) K H rl g s n->((300<=rs.length->E (.ref Z.iF) none H))->((rs.length < 300->∀H',aB rl H H'->BAt (clZ Z) K H' bk rl g n0 (rs++[⟨bC rs,bC rs+tk,dv,sp,n⟩])->Q .non H'))->jK K Z vs H Q E
include T fX in
theorem vB:FF P w K mg base (CXf P w) 2 "write" "Book.write" kI pL (jK K Z):=fkF nG fun vs H Q E h=>by
 obtain ⟨bk,rl,dd,s0,g,n0,n,rs,tk,sp,dv,rfl,hB,hD,hS,q1,q2⟩:=h
 k_all
 refine seg 2 (ah (a6 (lG PySem.F.plainAttrs_list PySem.F.slot_list_append PySem.F.type_list_append dO (az (pv' 0)) (pa1 (aP (dU (pv' 5) (pa4 (aO aU (pv' 5) (pv' 2)) (pv' 1) (pv' 3) (pv' 4)))))))) fun zt2 zh2 ze2=>?_
 refine seg 1 (ae (aD (i:=5) nG.nd rfl orL (dP (pv' 0) fX hr.dn bj)) zh2) fun zt1 zh1 ze1=>?_
 refine ⟨_,ae (aJ (Ee (aE ax (by rfl) T.bQ a7 (pa1 (az (pv' 0)))) (az (pv' 0))) (ah (aX T.z8 (by rfl) T.zY (pa1 aC))) (aA)) zh1,?_⟩
 obtain ⟨⟨dx,f0,hob,hF⟩,as,hrl,hR⟩:=id hB
 have hl:=hR.1
 k_mem
 refine fgo hob T.cR T.bO rfl ?_
 k_mem
 refine ⟨_,.inl (SqL.of hrl),_,_,_,hob,T.cR,T.pZ,_,rfl,?_⟩
 k_mem
 rw [List.length_map]
 k_upd
 split
 ·k_upd
  exact ⟨by decide,q1 (by omega)⟩
 ·rename_i hlt
  k_upd
  refine mgo hob rfl ⟨_,_,_,_,_,rfl,hB,?_⟩
  k_mem
  refine fgo hob T.cR T.bO rfl ?_
  k_mem
  refine ⟨.inl ⟨rfl,_,SqL.of hrl⟩,by decide,fun p hp=>⟨_,upo hrl hp,cY (by rw [List.length_map];omega),?_⟩⟩
  have s1:=(av.refl H).lay (o:=HO.tup [V.int (bC rs),V.int (bC rs+tk),V.ref dd,V.int sp,V.ref s0]) hp
  have hrl1:=upo (o:=HO.tup [V.int (bC rs),V.int (bC rs+tk),V.ref dd,V.int sp,V.ref s0]) hrl hp
  have k1:L2.aB rl H (upd (upd H p (HO.tup [V.int (bC rs),V.int (bC rs+tk),V.ref dd,V.int sp,V.ref s0])) rl (HO.lst (as.map V.ref++[V.ref p]))):=(aB.of s1).put
  refine q2 (by omega) _ k1 ⟨⟨dx,f0,k1 _ _ (fun z=>by rw [z,hrl] at hob;cases hob) hob,hF.keep k1 hrl⟩,as++[p],by rw [ag,List.map_append];rfl,?_⟩
  exact (hR.keep k1 hrl).push ⟨dd,s0,(SqT.of ag).rew hrl1,hD.keep k1 hrl,hS.keep k1 hrl⟩
variable (p9:KM P w K mg base (CXf P w) 2 Z.mi "write" (jK K Z))
inductive eD (K:W.Frag)(Z:Adr)(vs:List V)(H:Hp)(Q:VK)(E:XK):Prop | mk (bk rl:Addr) (g:Cfg) (n0:aI) (rs:List Row) (t:Int):vs=[.ref bk,.int t]->BAt (clZ Z) K H bk rl g n0 rs->((0<=t/\t<=bC rs->Q .non H))->((¬(0<=t/\t<=bC rs)->E (.ref Z.qZ) none H))->eD K Z vs H Q E
include T fX in
theorem mW:FF P w K mg base (CXf P w) 2 "refuse_tick" "Book.refuse_tick" eT ij (eD K Z):=fkF mU fun vs H Q E h=>by
 obtain ⟨bk,rl,g,n0,rs,t,rfl,hB,q1,q2⟩:=h
 k_all
 refine ⟨_,ah (aJ (iZ (lP (pv' 1) af) (fQ (v9 (pv' 1) (dP (pv' 0) fX hr.dn bj)))).pt (ah (aX T.En (by rfl) T.Ek (pa1 aC))) (aA)),?_⟩
 obtain ⟨⟨dx,f0,hob,hF⟩,as,hrl,hR⟩:=id hB
 k_mem
 split
 ·rename_i h
  k_upd
  exact ⟨by decide,q2 (by omega)⟩
 ·rename_i h
  k_upd
  refine mgo hob rfl ⟨_,_,_,_,_,rfl,hB,?_⟩
  k_mem
  split
  ·rename_i h2
   k_upd
   exact ⟨by decide,q2 (by omega)⟩
  ·rename_i h2
   k_upd
   exact q1 (by omega)
variable (iP:KM P w K mg base (CXf P w) 2 Z.mi "refuse_tick" (eD K Z))
inductive eY (K:W.Frag)(Z:Adr)(vs:List V)(H:Hp)(Q:VK)(E:XK):Prop | mk (w bk rl:Addr) (g:Cfg) (n0:aI) (rs:List Row):vs=[.ref w]->WAt (clZ Z) K H w bk rl g n0 rs->((rs=[]->E (.ref Z.gp) none H))->((∀rs' r,rs=rs'++[r]->∀p H',aB rl H H'->WAt (clZ Z) K H' w bk rl g n0 rs'->SqT K H' p r.deed->Q (.ref p) H'))->eY K Z vs H Q E
include T nM in
theorem oI:FF P w K mg base (CXf P w) 2 "take_back" "Works.take_back" fG jf (eY K Z):=fkF oj fun vs H Q E h=>by
 obtain ⟨w,bk,rl,g,n0,rs,rfl,hW,q1,q2⟩:=h
 k_all
 refine ⟨_,ah (aw (dP (az (pv' 0)) nM hr.dn bg)),?_⟩
 obtain ⟨⟨dx,dl,gl,hob,hdl,hgl,n1,n2⟩,hB⟩:=id hW
 obtain ⟨⟨db,f0,hbo,hF⟩,as,hrl,hR⟩:=id hB
 k_mem
 refine fgo hob T.aT T.aZ rfl ?_
 k_mem
 exact mgo hbo rfl ⟨_,_,_,_,_,rfl,hB,q1,fun rs2 r e p H' k hB2 hp=>q2 rs2 r e p H' k (hW.keep k hrl hB2) hp⟩
variable (ji:KM P w K mg base (CXf P w) 2 Z.bb "take_back" (eY K Z))
inductive eE (K:W.Frag)(Z:Adr)(vs:List V)(H:Hp)(Q:VK)(E:XK):Prop | mk (w bk rl:Addr) (g:Cfg) (n0:aI) (rs:List Row) (s:Addr) (n:aI):vs=[.ref w,.ref s]->WAt (clZ Z) K H w bk rl g n0 rs->dF (clZ Z) K H rl g s n->g.ks.length=n.ws.length->(∀H',av H H'->Q (.int (bu g n)) H')->eE K Z vs H Q E
include T jh in
theorem mX:FF P w K mg base CX0 2 "speed_with" "Works.speed_with" eU ik (eE K Z):=fk0 mV fun vs H Q E h=>by
 obtain ⟨w,bk,rl,g,n0,rs,s0,n,rfl,hW,hS,hl,q⟩:=h
 k_all
 refine ⟨_,ah (aw (xJ (bU (dP (az (pv' 1)) jh hr.dn bj)) (az (pv' 0)) (az (pv' 0)))),?_⟩
 obtain ⟨⟨dx,dl,gl,hob,hdl,hgl,n1,n2⟩,hB⟩:=id hW
 obtain ⟨⟨db,f0,hbo,hF⟩,as,hrl,hR⟩:=id hB
 k_mem
 obtain ⟨A,hA⟩:=id hS
 k_upd
 refine fgo hA.ob T.aK T.aW rfl ?_
 k_mem
 obtain ⟨dy,hyb⟩:=hA.ya.ob
 k_upd
 refine ⟨_,_,hyb,rfl,_,_,_,_,_,_,rfl,hA.ya,hl,fun H' s1=>?_⟩
 k_mem
 have q':=q H' s1
 unfold bu at q'
 k_upd
 split
 ·rename_i h
  k_upd
  rw [if_pos h] at q'
  k_upd
  exact fgo (s1 _ _ hob) T.aT T.nK rfl q'
 ·rename_i h
  k_upd
  rw [if_neg h] at q'
  k_upd
  exact fgo (s1 _ _ hob) T.aT T.nL rfl q'
variable (dk:KM P w K mg base CX0 2 Z.bb "speed_with" (eE K Z))
inductive cM (K:W.Frag)(Z:Adr)(vs:List V)(H:Hp)(Q:VK)(E:XK):Prop | mk (w bk rl:Addr) (g:Cfg) (n0:aI) (rs:List Row) (lv:Int):vs=[.ref w,.int lv]->WAt (clZ Z) K H w bk rl g n0 rs->0<=lv->lv < (ai n0 rs).gates.length->(((ai n0 rs).gates.getD lv.toNat false=true->Q .non H))->(((ai n0 rs).gates.getD lv.toNat false=false->E (.ref Z.iG) none H))->cM K Z vs H Q E
include T aL in
theorem iY:FF P w K mg base (CXf P w) 2 "refuse_shut_gate" "Works.refuse_shut_gate" cU eI (cM K Z):=fkF iX fun vs H Q E h=>by
 obtain ⟨w,bk,rl,g,n0,rs,lv,rfl,hW,h0,h1,q1,q2⟩:=h
 k_all
 refine ⟨_,ah (aJ (cT (bU (ao au (az (dP (az (pv' 0)) aL hr.dn bj)) (pv' 1)))) (ah (aX T.Aa (by rfl) T.z5 (pa1 aC))) (aA)),?_⟩
 obtain ⟨⟨dx,dl,gl,hob,hdl,hgl,n1,n2⟩,hB⟩:=id hW
 obtain ⟨⟨db,f0,hbo,hF⟩,as,hrl,hR⟩:=id hB
 k_mem
 refine fgo hob T.aT T.aZ rfl ?_
 k_mem
 refine mgo hbo rfl ⟨_,_,_,_,_,rfl,hB,fun s0 ⟨A,hA⟩=>?_⟩
 k_mem
 refine fgo hA.ob T.aK T.cf rfl ?_
 k_mem
 refine ⟨_,SqL.of hA.go,_,km h0 h1,?_⟩
 k_mem
 split
 ·rename_i h
  k_upd
  exact ⟨by decide,q2 (by simpa using h)⟩
 ·rename_i h
  k_upd
  exact q1 (by simpa using h)
variable (cj:KM P w K mg base (CXf P w) 2 Z.bb "refuse_shut_gate" (cM K Z))
inductive kS (K:W.Frag)(Z:Adr)(vs:List V)(H:Hp)(Q:VK)(E:XK):Prop | mk (w bk rl:Addr) (g:Cfg) (n0:aI) (rs:List Row):vs=[.ref w]->WAt (clZ Z) K H w bk rl g n0 rs->Q (.int (bC rs)) H->kS K Z vs H Q E
include T fX in
theorem xE:FF P w K mg base CX0 2 "now" "Works.now" l8 rT (kS K Z):=fk0 xu fun vs H Q E h=>by
 obtain ⟨w,bk,rl,g,n0,rs,rfl,hW,q⟩:=h
 k_all
 refine ⟨_,ah (aw (dP (az (pv' 0)) fX hr.dn bj)),?_⟩
 obtain ⟨⟨dx,dl,gl,hob,hdl,hgl,n1,n2⟩,hB⟩:=id hW
 obtain ⟨⟨db,f0,hbo,hF⟩,as,hrl,hR⟩:=id hB
 k_mem
 refine fgo hob T.aT T.aZ rfl ?_
 k_mem
 exact mgo hbo rfl ⟨_,_,_,_,_,rfl,hB,q⟩
variable (sk:KM P w K mg base CX0 2 Z.bb "now" (kS K Z))
inductive iQ (K:W.Frag)(Z:Adr)(vs:List V)(H:Hp)(Q:VK)(E:XK):Prop | mk (w bk rl:Addr) (g:Cfg) (n0:aI) (rs:List Row):vs=[.ref w]->WAt (clZ Z) K H w bk rl g n0 rs->(∀p,H p=none->Q (.ref p) (upd H p (.lst ((ai n0 rs).ws.map V.int))))->iQ K Z vs H Q E
include T dj aL in
theorem uL:FF P w K mg base CX0 2 "spots" "Works.spots" jC nC (iQ K Z):=fk0 uf fun vs H Q E h=>by
 obtain ⟨w,bk,rl,g,n0,rs,rfl,hW,q⟩:=h
 k_all
 refine ⟨_,ah (aw (dP (az (dP (az (pv' 0)) aL hr.dn bj)) dj hr.dn bj)),?_⟩
 obtain ⟨⟨dx,dl,gl,hob,hdl,hgl,n1,n2⟩,hB⟩:=id hW
 obtain ⟨⟨db,f0,hbo,hF⟩,as,hrl,hR⟩:=id hB
 k_mem
 refine fgo hob T.aT T.aZ rfl ?_
 k_mem
 refine mgo hbo rfl ⟨_,_,_,_,_,rfl,hB,fun s0 ⟨A,hA⟩=>?_⟩
 k_mem
 refine fgo hA.ob T.aK T.aW rfl ?_
 k_mem
 obtain ⟨dy,hyb⟩:=hA.ya.ob
 k_upd
 exact ⟨_,_,hyb,rfl,_,_,_,_,_,_,rfl,hA.ya,q⟩
variable (dB:KM P w K mg base CX0 2 Z.bb "spots" (iQ K Z))
inductive fY (K:W.Frag)(Z:Adr)(vs:List V)(H:Hp)(Q:VK)(E:XK):Prop | mk (w bk rl:Addr) (g:Cfg) (n0:aI) (rs:List Row) (c:Int):vs=[.ref w,.int c]->WAt (clZ Z) K H w bk rl g n0 rs->0<=c->c < 2->(∀H',av H H'->Q (inC (ai n0 rs).ws c) H')->fY K Z vs H Q E
include T cq aL in
theorem rn:FF P w K mg base CX0 2 "in_cage" "Works.in_cage" gD lq (fY K Z):=fk0 qN fun vs H Q E h=>by
 obtain ⟨w,bk,rl,g,n0,rs,c,rfl,hW,h0,h1,q⟩:=h
 k_all
 refine ⟨_,ah (aw (dm' (az (dP (az (pv' 0)) aL hr.dn bj)) cq hr.dn bj (pa1 (pv' 1)))),?_⟩
 obtain ⟨⟨dx,dl,gl,hob,hdl,hgl,n1,n2⟩,hB⟩:=id hW
 obtain ⟨⟨db,f0,hbo,hF⟩,as,hrl,hR⟩:=id hB
 k_mem
 refine fgo hob T.aT T.aZ rfl ?_
 k_mem
 refine mgo hbo rfl ⟨_,_,_,_,_,rfl,hB,fun s0 ⟨A,hA⟩=>?_⟩
 k_mem
 refine fgo hA.ob T.aK T.aW rfl ?_
 k_mem
 obtain ⟨dy,hyb⟩:=hA.ya.ob
 k_upd
 exact ⟨_,_,hyb,rfl,_,_,_,_,_,_,_,rfl,hA.ya,h0,h1,q⟩
variable (gI:KM P w K mg base CX0 2 Z.bb "in_cage" (fY K Z))
def BW (c r0 sh:Int)(l:Addr)(H:Hp)(i:Nat)(σ:St)(H':Hp):Prop:=∃(ds:List Int) (last:Int) (t u:Option V),σ=[some (.int c),some (.int (2+r0)),some (.int sh),none,some (.ref l),some (.int last),t,u]/\ki ds last/\last<=500 - (2+r0)+i/\ds.length=i/\H'=upd H l (.lst (ds.map V.int))
inductive mz (K:W.Frag)(Z:Adr)(vs:List V)(H:Hp)(Q:VK)(E:XK):Prop | mk (c:Int):vs=[.int c]->(∀(l:Addr) (ds:List Int) (H':Hp),H l=none->av H H'->H' l=some (.lst (ds.map V.int))->bP ds->Q (.ref l) H')->mz K Z vs H Q E
include T bM in
theorem yM:FF P w K mg base CX0 2 "_law_depths" "_law_depths" oo tY (mz K Z):=fk0 cF fun vs H Q E h=>by
 obtain ⟨c,rfl,q⟩:=h
 k_all
 refine ⟨_,ae (aD (i:=1) cF.nd rfl orL (aO aU af (dc0 bM hr.dn (pa3 (pv' 0) af af)))) (ae (aD (i:=2) cF.nd rfl orL (dc0 bM hr.dn (pa3 (pv' 0) af af))) (ae (aJ (bw (pv' 2) af) (ae (aD (i:=3) cF.nd rfl (Or.inr rfl) (aO aU af (dc0 bM hr.dn (pa3 (pv' 0) af af)))) (ah (aw (mY ["_law_k","_law_gap"] [none,some 3] (bq (by rfl) T.cb (pa1 (pv' 1))) (fun _ _ _ _=>(aF (i:=0) (show (["_law_k","_law_gap"]:List Str).Nodup by decide +kernel) rfl orL)) (fun _ _ _ _=>gh) (fun _ _ _ _=>(aO td (pv' 1) (pv' 0))))))) (aA)) (ae (aD (i:=4) cF.nd rfl orL (bX g8)) (ae (aD (i:=5) cF.nd rfl orL (jV dY af)) (ae (cy PassesOwn.never rfl (bq (by rfl) T.cb (pa1 (pv' 1))) (aF (i:=6) cF.nd rfl orL) (ae (aD (i:=7) cF.nd rfl orL (aO dG (aO aU (aO dG af (pv' 1)) (pv' 6)) (pv' 5))) (ae (aJ (bw (pv' 2) af) (ah (aD (i:=7) cF.nd rfl orL (aE (nZ rfl) (by rfl) T.Ei zk (pa2 (pv' 7) af)))) (aA)) (ae (aD (i:=5) cF.nd rfl orL (aO aU (aO aU (pv' 5) af) (dc0 bM hr.dn (pa3 (pv' 0) (aO aU af (pv' 6)) (pv' 7))))) (ah (a6 (lG PySem.F.plainAttrs_list PySem.F.slot_list_append PySem.F.type_list_append dO (pv' 4) (pa1 (pv' 5))))))))) (ae (aJ (eP (bw (pv' 2) af) (eL (bw (dc0 bM hr.dn (pa3 (pv' 0) af af)) af))).pt (ah (aw (aO A1 (aO A1 (bX (pa1 af)) (tF Ed (pv' 4) (pC af) (pC (jV dY af)))) (bX (pa1 af))))) (aA)) (ah (aw (pv' 4))))))))),?_⟩
 k_mem
 refine ⟨c,0,5,rfl,by omega,by omega,by omega,fun r0 h0 h0'=>?_⟩
 k_mem
 refine ⟨c,1,4,rfl,by omega,by omega,by omega,fun sh h1 h1'=>?_⟩
 k_mem
 split
 ·refine ⟨c,2,100,rfl,by omega,by omega,by omega,fun r2 h2 h2'=>?_⟩
  k_mem
  refine ⟨by omega,by omega,wV (fun i=>V.int ((1+r2) * (i:Int))) (Nat.le_trans (by omega:(2+r0).toNat<=1000) (by decide)) rfl (fun i hi N q=>?_) (fun p hp=>?_)⟩
  ·k_mem
   rw [Int.zero_add]
   exact ⟨.inl ⟨by omega,by omega⟩,q⟩
  ·refine q p ((List.range (2+r0).toNat).map fun (i:Nat)=>(1+r2) * (i:Int)) _ hp (fun b o e=>?_) ?_ (bP.even (by omega) (by omega) (by omega) (by omega))
   ·rw [aG (ak e hp)];exact e
   ·rw [ag,List.map_map];rfl
 ·refine ⟨by decide,fun l hln=>⟨by omega,by omega,bF (BW c r0 sh l H) ⟨[],-1,_,_,rfl,ki.nil,by omega,rfl,rfl⟩ ?_ ?_⟩⟩
  ·rintro i σ H' hi ⟨ds,last,t,u,rfl,hR,hla,hlen,rfl⟩
   have l0:=hR.l0
   k_mem
   split
   all_goals
    refine ⟨c,_,_,rfl,by omega,by omega,by (try split)<;>omega,fun r hr0 hr1=>?_⟩
    k_mem
    refine ⟨.inl ⟨rfl,_,SqL.of ag⟩,_,ag,cY (by rw [List.length_map];omega),ds++[last+1+r],last+1+r,_,_,rfl,hR.snoc hr0,?_,by rw [List.length_append,hlen];rfl,?_⟩
    ·(try split at hr1)<;>omega
    ·rw [EA,List.map_append];rfl
  ·rintro σ H' ⟨ds,last,t,u,rfl,hR,hla,hlen,rfl⟩
   have hsh:=hR.shaft (by omega) (by omega) (by omega)
   have hQ0:Q (V.ref l) (upd H l (HO.lst (List.map V.int ds))):=q l ds _ hln ((av.refl H).lay hln) ag hsh
   k_mem
   split
   ·refine ⟨c,8,4,rfl,by omega,by omega,by omega,fun r hr0 hr1=>?_⟩
    k_mem
    split
    ·refine ⟨by decide,fun p1 hp1=>⟨_,SqL.of (upo ag hp1),fun p2 hp2=>⟨_,upo ag hp2,_,ag,?_,fun p3 hp3=>⟨by decide,fun p4 hp4=>⟨_,upo ag hp4,_,ag,?_,fun p5 hp5=>?_⟩⟩⟩⟩⟩
     ·have:=i4 (List.map V.int ds) (some 1) (some (-1))
      rw [List.length_map] at this
      exact Nat.le_of_lt (cY (by rw [List.length_singleton];omega))
     ·have:=i4 (List.map V.int ds) (some 1) (some (-1))
      rw [List.length_map] at this
      exact Nat.le_of_lt (cY (by rw [List.length_append,List.length_singleton,List.length_singleton];omega))
     ·refine q p5 ([0]++(ds.drop 1).take (ds.length - 1 - 1)++[500]) _ (upn (upn (upn (upn (upn hp5))))) ((((((av.refl H).lay hln).lay hp1).lay hp2).lay hp3).lay hp4 |>.lay hp5) ?_ hsh.ends
      rw [ag,CO ds hsh.l2,List.map_append,List.map_append]
      rfl
    ·exact hQ0
   ·exact hQ0
variable (uM:KD P w K mg base CX0 2 "_law_depths" (mz K Z))
def Es (K:W.Frag)(c m:Int)(l:Addr)(H:Hp)(i:Nat)(σ:St)(H':Hp):Prop:=av H H'/\∃(as:List Addr) (ls:List Cd) (t u:Option V),σ=[some (.int c),some (.int m),some (.ref l),t,u]/\H' l=some (.lst (as.map V.ref))/\cG cdV K H' as ls/\ls.length=i/\∀x∈ls,dM x
inductive oJ (K:W.Frag)(Z:Adr)(vs:List V)(H:Hp)(Q:VK)(E:XK):Prop | mk (c m:Int):vs=[.int c,.int m]->0<=m->m<=500->(∀(l:Addr) (as:List Addr) (ls:List Cd) (H':Hp),H l=none->av H H'->H' l=some (.lst (as.map V.ref))->cG cdV K H' as ls->(ls.length:Int)=m->(∀x∈ls,dM x)->Q (.ref l) H')->oJ K Z vs H Q E
include T bM in
theorem Ah:FF P w K mg base CX0 2 "_law_codes" "_law_codes" qR wg (oJ K Z):=fk0 kP fun vs H Q E h=>by
 obtain ⟨c,m,rfl,h0,h1,q⟩:=h
 k_all
 refine ⟨_,ae (aD (i:=2) kP.nd rfl orL (bX g8)) (ae (cy PassesOwn.never rfl (bq (by rfl) T.cb (pa1 (pv' 1))) (aF (i:=3) kP.nd rfl orL) (ae (aD (i:=4) kP.nd rfl orL (aO aU af (dc0 bM hr.dn (pa3 (pv' 0) (lQ af (pv' 3)) af)))) (ah (a6 (lG PySem.F.plainAttrs_list PySem.F.slot_list_append PySem.F.type_list_append dO (pv' 2) (pa1 (aP (pa2 (pv' 4) (aO aU af (cu (aO aU (pv' 4) (dc0 bM hr.dn (pa3 (pv' 0) (aO aU (lQ af (pv' 3)) af) af))) af)))))))))) (ah (aw (pv' 2)))),?_⟩
 k_mem
 refine ⟨by decide,fun l hl=>⟨by omega,by omega,?_⟩⟩
 refine bF (Es K c m l H) ⟨(av.refl H).lay hl,[],[],_,_,rfl,ag,cG.nil,rfl,fun x hx=>by cases hx⟩ ?_ ?_
 ·rintro i σ H' hi ⟨s1,as,ls,t,u,rfl,hl',hT,hlen,hg⟩
  k_mem
  refine ⟨c,2 * (0 + ↑i),9,rfl,by omega,by omega,by omega,fun r1 h2 h3=>?_⟩
  k_mem
  refine ⟨.inl ⟨rfl,_,SqL.of hl'⟩,c,2 * (0 + ↑i)+1,8,rfl,by omega,by omega,by omega,fun r2 h4 h5=>?_⟩
  k_mem
  refine ⟨by decide,fun p2 hp2=>⟨_,upo hl' hp2,cY (by rw [List.length_map,hT.1];omega),?_⟩⟩
  have hl2:=upo (o:=HO.tup [V.int (1+r1),V.int (1+(1+r1+r2) % 9)]) hl' hp2
  refine ⟨(s1.lay hp2).rewr hl,as++[p2],ls++[(1+r1,1+(1+r1+r2) % 9)],_,_,rfl,?_,?_,by rw [List.length_append,hlen];rfl,?_⟩
  ·rw [ag,List.map_append];rfl
  ·exact ((hT.same ((av.refl H').lay hp2)).app (cG.one (SqT.of ag))).rew hl2
  ·intro x hx
   rcases List.mem_append.mp hx with hx | hx
   ·exact hg x hx
   ·rw [List.mem_singleton] at hx
    subst hx
    refine ⟨⟨?_,?_⟩,⟨?_,?_⟩,?_⟩
    ·show 1<=1+r1;omega
    ·show 1+r1<=9;omega
    ·show 1<=1+(1+r1+r2) % 9;omega
    ·show 1+(1+r1+r2) % 9<=9;omega
    ·show 1+r1≠1+(1+r1+r2) % 9;omega
 ·rintro σ H' ⟨s1,as,ls,t,u,rfl,hl',hT,hlen,hg⟩
  k_mem
  exact q l as ls H' hl s1 hl' hT (by omega) hg
variable (wD:KD P w K mg base CX0 2 "_law_codes" (oJ K Z))
def Et (K:W.Frag)(c m mo:Int)(cn:V)(l:Addr)(H:Hp)(i:Nat)(σ:St)(H':Hp):Prop:=av H H'/\∃(as:List Addr) (ls:List Ld) (t u:Option V),σ=[some (.int c),some (.int m),some (.int mo),some (.ref l),some cn,t,u]/\H' l=some (.lst (as.map V.ref))/\jm K H' as ls/\ls.length=i/\(∀x∈ls,hG m x/\zm x)
theorem two_of {r2 r1 mo:Int}(h0:0<=r1)(h1:r1 < mo+1):∃n:Int,atI [V.int r1,V.int mo] (if decide (r2=3)=true then 1 else 0)=some (V.int n)/\0<=n/\n<=mo:=by
 split
 ·exact ⟨mo,rfl,by omega,by omega⟩
 ·exact ⟨r1,rfl,by omega,by omega⟩
inductive oK (K:W.Frag)(Z:Adr)(vs:List V)(H:Hp)(Q:VK)(E:XK):Prop | mk (c m mo:Int):vs=[.int c,.int m,.int mo]->0 < m->0<=mo->mo<=500->(∀(l:Addr) (as:List Addr) (ls:List Ld) (H':Hp),H l=none->av H H'->H' l=some (.lst (as.map V.ref))->jm K H' as ls->(ls.length:Int)<=mo->(∀x∈ls,hG m x/\zm x)->Q (.ref l) H')->oK K Z vs H Q E
include T bM in
theorem Ai:FF P w K mg base CX0 2 "_law_loads" "_law_loads" qS wj (oK K Z):=fk0 iA fun vs H Q E h=>by
 obtain ⟨c,m,mo,rfl,hm,h0,h1,q⟩:=h
 k_all
 refine seg 3 (ah (aw (pv' 3))) fun zt3 zh3 ze3=>?_
 refine seg 2 (ae (cy PassesOwn.never rfl (bq (by rfl) T.cb (pa1 (pv' 4))) (aF (i:=5) iA.nd rfl orL) (ae (aD (i:=6) iA.nd rfl orL (ao au (bX (pa2 aC aC)) (dc0 bM hr.dn (pa3 (pv' 0) (aO aU (lQ af (pv' 5)) af) af)))) (ah (a6 (lG PySem.F.plainAttrs_list PySem.F.slot_list_append PySem.F.type_list_append dO (pv' 3) (pa1 (aP (pa3 (pv' 6) (dc0 bM hr.dn (pa3 (pv' 0) (aO aU (lQ af (pv' 5)) af) (pv' 1))) (dc0 bM hr.dn (pa3 (pv' 0) (aO aU (lQ af (pv' 5)) af) (pv' 1))))))))))) zh3) fun zt2 zh2 ze2=>?_
 refine seg 1 (ae (aD (i:=4) iA.nd rfl orL (ao au (bX (pa2 (dc0 bM hr.dn (pa3 (pv' 0) af (aO aU (pv' 2) af))) (pv' 2))) (bh eQ (by rfl) T.nJ jl (pa1 (cB jo (dc0 bM hr.dn (pa3 (pv' 0) af af)) af (bV _)))))) zh2) fun zt1 zh1 ze1=>?_
 refine ⟨_,ae (aD (i:=3) iA.nd rfl orL (bX g8)) zh1,?_⟩
 k_mem
 refine ⟨by decide,fun l hl=>?_⟩
 k_upd
 refine ⟨c,0,mo+1,rfl,by omega,by omega,by omega,fun r1 h2 h3=>⟨by decide,fun p hp=>⟨c,94,4,rfl,by omega,by omega,by omega,fun r2 h4 h5=>⟨_,SqL.of ag,?_⟩⟩⟩⟩
 obtain ⟨n,e,hn0,hn1⟩:=two_of (r2:=r2) h2 h3
 k_upd
 refine ⟨_,e,?_⟩
 k_mem
 refine ⟨by omega,by omega,?_⟩
 k_upd
 refine bF (Et K c m mo (.int n) l H) ⟨(av.refl H).lay hl |>.lay hp,[],[],none,none,rfl,upo ag hp,jm.nil,rfl,fun x hx=>by cases hx⟩ ?_ ?_
 ·rintro i σ H' hi ⟨s1,as,ls,t,u,rfl,hl',hT,hlen,hg⟩
  k_mem
  refine ⟨by decide,fun p1 hp1=>?_⟩
  k_upd
  refine ⟨c,3 * (0 + ↑i)+1,2,rfl,by omega,by omega,by omega,fun r3 h6 h7=>?_⟩
  obtain ⟨kd,hk,ek⟩:=CT h6 h7
  k_mem
  refine ⟨_,SqL.of ag,_,ek,?_⟩
  k_mem
  refine ⟨.inl ⟨rfl,_,SqL.of (upo hl' hp1)⟩,c,3 * (0 + ↑i)+2,m,rfl,by omega,by omega,by omega,fun r4 h8 h9=>?_⟩
  k_upd
  refine ⟨c,3 * (0 + ↑i)+3,m,rfl,by omega,by omega,by omega,fun r5 h10 h11=>?_⟩
  k_mem
  refine ⟨by decide,fun p2 hp2=>⟨_,upo (upo hl' hp1) hp2,cY (by rw [List.length_map,hT.1];omega),?_⟩⟩
  have hl2:=upo (o:=HO.tup [V.str kd,V.int r4,V.int r5]) (upo (o:=HO.lst [V.str (Str.ofString "men"),V.str (Str.ofString "coal")]) hl' hp1) hp2
  k_upd
  refine ⟨(s1.lay hp1 |>.lay hp2).rewr hl,as++[p2],ls++[(kd,r4,r5)],_,_,rfl,?_,?_,by rw [List.length_append,hlen];rfl,?_⟩
  ·rw [ag,List.map_append];rfl
  ·exact ((hT.same ((av.refl H').lay hp1 |>.lay hp2)).app (jm.one (SqT.of ag))).rew hl2
  ·intro x hx
   rcases List.mem_append.mp hx with hx | hx
   ·exact hg x hx
   ·rw [List.mem_singleton] at hx
    subst hx
    k_upd
    exact ⟨⟨⟨h8,h9⟩,⟨h10,h11⟩⟩,hk⟩
 ·rintro σ H' ⟨s1,as,ls,t,u,rfl,hl',hT,hlen,hg⟩
  k_mem
  exact q l as ls H' hl s1 hl' hT (by omega) hg
variable (wF:KD P w K mg base CX0 2 "_law_loads" (oK K Z))
inductive rp (K:W.Frag)(Z:Adr)(vs:List V)(H:Hp)(Q:VK)(E:XK):Prop | mk (p dl cl ll a dd:Addr) (g:Cfg) (lds:List Ld) (n:aI) (t:Int) (d:Dd):vs=[.ref p,.ref a,.ref dd]->dW K H p dl cl ll g lds->cH g->bR g n->ie K H a (n,t)->SqT K H dd (ddV d)->qC d->dD g n d=none->(∀b H',av H H'->ie K H' b (aV g n d,t+cL g n d)->Q (.ref b) H')->rp K Z vs H Q E
include T jI p8 wA wB wC in
theorem BX:FF P w K mg base CX0 2 "_law_next" "_law_next" um yw (rp K Z):=fk0 bI fun vs H Q E h=>by
 obtain ⟨p,dl,cl,ll,a,dd,g,lds,n,t,d,rfl,hP,hg,hn,hSt,hD,ok,hrf,q⟩:=h
 k_all
 refine seg 8 (ah (aw (aP (dU (pv' 3) (dU (pv' 4) (pa4 (pv' 5) (pv' 6) (pv' 7) (pv' 9))))))) fun zt8 zh8 ze8=>?_
 refine seg 7 (ae (aJ (bw (ao aq (pv' 2) af) aC) (ae (aD (i:=11) bI.nd rfl orL (ao au (ao au (pv' 0) af) (ao aq (pv' 2) af))) (ae (aD (i:=12) bI.nd rfl orL (ao au (bX (pa2 (pv' 11) (aO dG (ao au (ao au (pv' 0) af) (jV dY af)) (pv' 11)))) (ao aq (pv' 2) af))) (ae (aD (i:=9) bI.nd rfl orL (aO aU (pv' 8) (dc0 wA hr.dn (pa2 (aE wa (by rfl) T.G2 CJ (pa1 (aO dG (pv' 12) (pv' 3)))) (dc0 wB hr.dn (pa2 (pv' 0) (pv' 5))))))) (ah (aD (i:=3) bI.nd rfl orL (pv' 12)))))) (aA)) zh8) fun zt7 zh7 ze7=>?_
 refine seg 6 (ae (aJ (bw (ao aq (pv' 2) af) aC) (ah (aD (i:=7) bI.nd rfl orL (bh lR (by rfl) T.pY lI (pa1 (aE zw (by rfl) T.Ej Bp (pa1 (aO Eb (pv' 7) (aP (pa1 (ao aq (pv' 2) af)))))))))) (aA)) zh7) fun zt6 zh6 ze6=>?_
 refine seg 5 (ae (aJ (bw (ao aq (pv' 2) af) aC) (ae (aD (i:=10) bI.nd rfl orL (dc0 jI hr.dn (pa3 (ao au (pv' 0) af) (ao aq (pv' 2) af) (pv' 3)))) (ah (aD (i:=5) bI.nd rfl orL (dc0 p8 hr.dn (pa3 (pv' 5) (Iq PySem.F.plainAttrs_tuple PySem.F.slot_tuple_index PySem.F.type_tuple_index Bz (pv' 5) (pa1 (aO aU af (ao aq (pv' 2) af)))) (pv' 10)))))) (aA)) zh6) fun zt5 zh5 ze5=>?_
 refine seg 4 (ae (aJ (bw (ao aq (pv' 2) af) aC) (ah (aD (i:=5) bI.nd rfl orL (dc0 p8 hr.dn (pa3 (pv' 5) (ao aq (pv' 2) af) (aO aU af (ao aq (pv' 2) af)))))) (aA)) zh5) fun zt4 zh4 ze4=>?_
 refine seg 3 (ae (aJ (iZ (bw (ao aq (pv' 2) af) aC) (fQ (bw (ao aq (pv' 2) af) aC))).pt (ah (aD (i:=4) bI.nd rfl orL (dc0 p8 hr.dn (pa3 (pv' 4) (ao aq (pv' 2) af) (cB jo (ao aq (pv' 2) af) aC (bV _)))))) (aA)) zh4) fun zt3 zh3 ze3=>?_
 refine seg 2 (ae (aD (i:=9) bI.nd rfl orL (aO aU (pv' 8) af)) zh3) fun zt2 zh2 ze2=>?_
 refine seg 1 (ae (aD (i:=6) bI.nd rfl orL (dc0 wC hr.dn (pa2 (pv' 6) (pv' 2)))) zh2) fun zt1 zh1 ze1=>?_
 refine ⟨_,ae (kh (pv' 1) (fA rfl (aH (aF (i:=3) bI.nd rfl orL) (aH (aF (i:=4) bI.nd rfl orL) (aH (aF (i:=5) bI.nd rfl orL) (aH (aF (i:=6) bI.nd rfl orL) (aH (aF (i:=7) bI.nd rfl orL) (aH (aF (i:=8) bI.nd rfl orL) c9)))))))) zh1,?_⟩
 obtain ⟨gt,lt,ht,dt,h1,h2,h3,h4,h5⟩:=hSt
 obtain ⟨hp,hdl,_,⟨bs,hll,hT2⟩,ek⟩:=id hP
 have l2:=hg.sh.l2
 have l6:=hg.sh.l6
 have gl:=hn.gl
 have wl:=hn.wl
 have k30:=hg.k30
 have ekl:lds.length=g.ks.length:=by rw [ek,List.length_map]
 k_mem
 refine ⟨_,h1,rfl,?_⟩
 k_mem
 refine ⟨ht,dd,g,n,d,rfl,h4,hD,hrf,fun hh H1 s1 hH=>?_⟩
 have hD1:=s1.tup hD
 k_mem
 cases d with
 | ring l s=>
  refine ⟨_,hD1,_,rfl,?_⟩
  k_mem
  rw [if_neg (by decide)]
  k_upd
  refine ⟨_,hD1,_,rfl,?_⟩
  k_mem
  rw [if_neg (by decide)]
  k_upd
  refine ⟨_,hD1,_,rfl,?_⟩
  k_mem
  rw [if_neg (by decide)]
  k_upd
  refine ⟨_,hD1,_,rfl,?_⟩
  k_mem
  rw [if_neg (by decide)]
  k_upd
  refine ⟨_,hD1,_,rfl,?_⟩
  k_mem
  rw [if_neg (by decide)]
  k_upd
  refine ⟨_,hD1,_,rfl,?_⟩
  k_mem
  rw [if_neg (by decide)]
  k_upd
  refine ⟨by decide,fun b hb=>q b _ ((s1).lay hb) ⟨gt,lt,hh,dt,SqT.of ag,?_,?_,?_,?_⟩⟩
  ·exact (s1.lay hb).tup h2
  ·exact upo (s1 _ _ h3) hb
  ·exact ((av.refl H1).lay hb).tup hH
  ·exact (s1.lay hb).tup h5
 | rept s=>
  refine ⟨_,hD1,_,rfl,?_⟩
  k_mem
  rw [if_neg (by decide)]
  k_upd
  refine ⟨_,hD1,_,rfl,?_⟩
  k_mem
  rw [if_neg (by decide)]
  k_upd
  refine ⟨_,hD1,_,rfl,?_⟩
  k_mem
  rw [if_neg (by decide)]
  k_upd
  refine ⟨_,hD1,_,rfl,?_⟩
  k_mem
  rw [if_neg (by decide)]
  k_upd
  refine ⟨_,hD1,_,rfl,?_⟩
  k_mem
  rw [if_neg (by decide)]
  k_upd
  refine ⟨_,hD1,_,rfl,?_⟩
  k_mem
  rw [if_neg (by decide)]
  k_upd
  refine ⟨by decide,fun b hb=>q b _ ((s1).lay hb) ⟨gt,lt,hh,dt,SqT.of ag,?_,?_,?_,?_⟩⟩
  ·exact (s1.lay hb).tup h2
  ·exact upo (s1 _ _ h3) hb
  ·exact ((av.refl H1).lay hb).tup hH
  ·exact (s1.lay hb).tup h5
 | opn l=>
  obtain ⟨hl,_⟩:=E6 hrf
  k_upd
  refine ⟨_,hD1,_,rfl,?_⟩
  k_mem
  rw [if_pos rfl]
  k_upd
  refine ⟨_,hD1,_,rfl,_,hD1,_,rfl,?_⟩
  k_mem
  refine ⟨gt,n.gates.map V.bl,l,.bl true,?_,s1.tup h2,hl.1,by rw [List.length_map];omega,by rw [List.length_map];omega,fun g2 H2 s2 hg2=>?_⟩
  ·rfl
  have s12:=s1.trans s2
  have hD2:=s2.tup hD1
  k_mem
  refine ⟨_,hD2,_,rfl,?_⟩
  k_mem
  rw [if_neg (by decide)]
  k_upd
  refine ⟨_,hD2,_,rfl,?_⟩
  k_mem
  rw [if_neg (by decide)]
  k_upd
  refine ⟨_,hD2,_,rfl,?_⟩
  k_mem
  rw [if_neg (by decide)]
  k_upd
  refine ⟨_,hD2,_,rfl,?_⟩
  k_mem
  rw [if_neg (by decide)]
  k_upd
  refine ⟨by decide,fun b hb=>q b _ ((s12).lay hb) ⟨g2,lt,hh,dt,SqT.of ag,?_,?_,?_,?_⟩⟩
  ·exact SqT.of (by rw [upo hg2 hb,pk];rfl)
  ·exact upo (s12 _ _ h3) hb
  ·exact (s2.lay hb).tup hH
  ·exact (s12.lay hb).tup h5
 | sht l=>
  obtain ⟨hl,_⟩:=E7 hrf
  k_upd
  refine ⟨_,hD1,_,rfl,?_⟩
  k_mem
  rw [if_neg (by decide)]
  k_upd
  refine ⟨_,hD1,_,rfl,?_⟩
  k_mem
  rw [if_pos rfl]
  k_upd
  refine ⟨_,hD1,_,rfl,_,hD1,_,rfl,?_⟩
  k_mem
  refine ⟨gt,n.gates.map V.bl,l,.bl false,?_,s1.tup h2,hl.1,by rw [List.length_map];omega,by rw [List.length_map];omega,fun g2 H2 s2 hg2=>?_⟩
  ·rfl
  have s12:=s1.trans s2
  have hD2:=s2.tup hD1
  k_mem
  refine ⟨_,hD2,_,rfl,?_⟩
  k_mem
  rw [if_neg (by decide)]
  k_upd
  refine ⟨_,hD2,_,rfl,?_⟩
  k_mem
  rw [if_neg (by decide)]
  k_upd
  refine ⟨_,hD2,_,rfl,?_⟩
  k_mem
  rw [if_neg (by decide)]
  k_upd
  refine ⟨_,hD2,_,rfl,?_⟩
  k_mem
  rw [if_neg (by decide)]
  k_upd
  refine ⟨by decide,fun b hb=>q b _ ((s12).lay hb) ⟨g2,lt,hh,dt,SqT.of ag,?_,?_,?_,?_⟩⟩
  ·exact SqT.of (by rw [upo hg2 hb,pk];rfl)
  ·exact upo (s12 _ _ h3) hb
  ·exact (s2.lay hb).tup hH
  ·exact (s12.lay hb).tup h5
 | load k c=>
  obtain ⟨hk,l,hl,_,_,_⟩:=ph hrf
  k_upd
  refine ⟨_,hD1,_,rfl,?_⟩
  k_mem
  rw [if_neg (by decide)]
  k_upd
  refine ⟨_,hD1,_,rfl,?_⟩
  k_mem
  rw [if_neg (by decide)]
  k_upd
  refine ⟨_,hD1,_,rfl,?_⟩
  k_mem
  rw [if_pos rfl]
  k_upd
  refine ⟨_,hD1,_,rfl,_,hD1,_,rfl,?_⟩
  k_mem
  refine ⟨lt,n.ws.map V.int,k,.int (10+c),rfl,SqT.of (s1 _ _ h3),hk.1,by rw [List.length_map];omega,by rw [List.length_map];omega,fun w2 H2 s2 hw2=>?_⟩
  have s12:=s1.trans s2
  have hD2:=s2.tup hD1
  k_mem
  refine ⟨_,hD2,_,rfl,?_⟩
  k_mem
  rw [if_neg (by decide)]
  k_upd
  refine ⟨_,hD2,_,rfl,?_⟩
  k_mem
  rw [if_neg (by decide)]
  k_upd
  refine ⟨_,hD2,_,rfl,?_⟩
  k_mem
  rw [if_neg (by decide)]
  k_upd
  refine ⟨by decide,fun b hb=>q b _ ((s12).lay hb) ⟨gt,w2,hh,dt,SqT.of ag,?_,?_,?_,?_⟩⟩
  ·exact (s12.lay hb).tup h2
  ·rw [upo hw2 hb,pk];rfl
  ·exact (s2.lay hb).tup hH
  ·exact (s12.lay hb).tup h5
 | unload c=>
  obtain ⟨hin,l,hl,_⟩:=ko hrf
  have hix:=By hin
  k_upd
  refine ⟨_,hD1,_,rfl,?_⟩
  k_mem
  rw [if_neg (by decide)]
  k_upd
  refine ⟨_,hD1,_,rfl,?_⟩
  k_mem
  rw [if_neg (by decide)]
  k_upd
  refine ⟨_,hD1,_,rfl,?_⟩
  k_mem
  rw [if_neg (by decide)]
  k_upd
  refine ⟨_,hD1,_,rfl,?_⟩
  k_mem
  rw [if_pos rfl]
  k_upd
  refine ⟨_,SqL.of (s1 _ _ hp),_,rfl,_,hD1,_,rfl,?_⟩
  k_mem
  refine ⟨dl,g.ds,c,n.place,rfl,SqL.of (s1 _ _ hdl),hg.sh,ok.1,ok.2,fun H2 s2=>?_⟩
  have s12:=s1.trans s2
  have hD2:=s2.tup hD1
  k_mem
  refine ⟨⟨_,_,rfl,s12 _ _ h3⟩,_,hD2,_,rfl,?_⟩
  k_mem
  refine ⟨_,n.ws,_,rfl,rfl,s12 _ _ h3,hin,?_⟩
  k_mem
  refine ⟨lt,n.ws.map V.int,_,.int ((a9 g.ds n.place c).getD (-1)),rfl,SqT.of (s12 _ _ h3),Int.natCast_nonneg _,by rw [List.length_map];omega,by rw [List.length_map];omega,fun w2 H3 s3 hw2=>?_⟩
  have s13:=s12.trans s3
  have hD3:=s3.tup hD2
  k_mem
  refine ⟨_,hD3,_,rfl,?_⟩
  k_mem
  rw [if_neg (by decide)]
  k_upd
  refine ⟨_,hD3,_,rfl,?_⟩
  k_mem
  rw [if_neg (by decide)]
  k_upd
  refine ⟨by decide,fun b hb=>q b _ ((s13).lay hb) ⟨gt,w2,hh,dt,SqT.of ag,?_,?_,?_,?_⟩⟩
  ·exact (s13.lay hb).tup h2
  ·rw [upo hw2 hb,Int.toNat_natCast,pk];rfl
  ·exact ((s2.trans s3).lay hb).tup hH
  ·exact (s13.lay hb).tup h5
 | fail l=>
  obtain ⟨hl,hf⟩:=De hrf
  have fl:=hn.fl
  have dlen:=BC n.fs
  k_upd
  refine ⟨_,hD1,_,rfl,?_⟩
  k_mem
  rw [if_neg (by decide)]
  k_upd
  refine ⟨_,hD1,_,rfl,?_⟩
  k_mem
  rw [if_neg (by decide)]
  k_upd
  refine ⟨_,hD1,_,rfl,?_⟩
  k_mem
  rw [if_neg (by decide)]
  k_upd
  refine ⟨_,hD1,_,rfl,?_⟩
  k_mem
  rw [if_neg (by decide)]
  k_upd
  refine ⟨_,hD1,_,rfl,?_⟩
  k_mem
  rw [if_pos rfl]
  k_upd
  refine ⟨_,hD1,_,rfl,?_⟩
  k_mem
  refine ⟨by decide,fun p1 hp1=>⟨_,(s1.lay hp1).tup h5,_,SqT.of ag,by rw [List.length_map];show (c7 n.fs).length+1<=1000;omega,fun p2 H2 s2 hc=>?_⟩⟩
  have s12:=(s1.lay (o:=HO.tup [V.int l]) hp1).trans s2
  have f12:=((av.refl H1).lay (o:=HO.tup [V.int l]) hp1).trans s2
  k_upd
  refine ⟨p2,c7 n.fs++[l],rfl,by rw [List.map_append];exact hc,by rw [List.length_append,List.length_singleton];omega,fun l1 ms hl1 hpm hpw=>?_⟩
  rw [BB hl.1 (by omega) hf hpm hpw]
  k_mem
  refine ⟨_,.inl ⟨SqL.of ag,fun d2 hd2=>?_⟩⟩
  have s13:=(s12.lay (o:=HO.lst ((c7 (n.fs.set l.toNat true)).map V.int)) hl1).lay (o:=HO.tup ((c7 (n.fs.set l.toNat true)).map V.int)) hd2
  have f13:=(f12.lay (o:=HO.lst ((c7 (n.fs.set l.toNat true)).map V.int)) hl1).lay (o:=HO.tup ((c7 (n.fs.set l.toNat true)).map V.int)) hd2
  have hd3:upd (upd H2 l1 (HO.lst ((c7 (n.fs.set l.toNat true)).map V.int))) d2 (HO.tup ((c7 (n.fs.set l.toNat true)).map V.int)) d2=some (HO.tup ((c7 (n.fs.set l.toNat true)).map V.int)):=ag
  generalize upd (upd H2 l1 (HO.lst ((c7 (n.fs.set l.toNat true)).map V.int))) d2 (HO.tup ((c7 (n.fs.set l.toNat true)).map V.int))=H3 at *
  have hD3:=f13.tup hD1
  k_mem
  refine ⟨_,hD3,_,rfl,?_⟩
  k_mem
  rw [if_neg (by decide)]
  k_upd
  refine ⟨by decide,fun b hb=>q b _ ((s13).lay hb) ⟨gt,lt,hh,d2,SqT.of ag,?_,?_,?_,?_⟩⟩
  ·exact (s13.lay hb).tup h2
  ·exact upo (s13 _ _ h3) hb
  ·exact (f13.lay hb).tup hH
  ·exact SqT.of (upo hd3 hb)
 | wind c l k=>
  obtain ⟨hl,_,harm⟩:=lK hrf
  have okc:0<=c/\c < 2:=ok.1
  k_upd
  refine ⟨_,hD1,_,rfl,?_⟩
  k_mem
  rw [if_neg (by decide)]
  k_upd
  refine ⟨_,hD1,_,rfl,?_⟩
  k_mem
  rw [if_neg (by decide)]
  k_upd
  refine ⟨_,hD1,_,rfl,?_⟩
  k_mem
  rw [if_neg (by decide)]
  k_upd
  refine ⟨_,hD1,_,rfl,?_⟩
  k_mem
  rw [if_neg (by decide)]
  k_upd
  refine ⟨_,hD1,_,rfl,?_⟩
  k_mem
  rw [if_neg (by decide)]
  k_upd
  refine ⟨_,hD1,_,rfl,?_⟩
  k_mem
  rw [if_pos rfl]
  k_upd
  refine ⟨_,SqL.of (s1 _ _ hp),_,rfl,?_⟩
  k_mem
  refine ⟨_,hD1,_,rfl,?_⟩
  k_mem
  refine ⟨_,SqL.of (s1 _ _ hdl),_,cX hl.1 hl.2,?_⟩
  k_mem
  refine ⟨_,SqL.of (s1 _ _ hp),_,rfl,?_⟩
  k_mem
  refine ⟨_,SqL.of (s1 _ _ hdl),_,CP (by omega),?_⟩
  k_mem
  refine ⟨by decide,fun p1 hp1=>⟨_,((av.refl H1).lay hp1).tup hD1,_,rfl,?_⟩⟩
  k_mem
  refine ⟨_,SqL.of ag,_,two_deep okc.1 okc.2,?_⟩
  have f2:=(av.refl H1).lay (o:=HO.lst [V.int (g.ds.getD l.toNat 0),V.int (bS g.ds - g.ds.getD l.toNat 0)]) hp1
  have s2:=s1.lay (o:=HO.lst [V.int (g.ds.getD l.toNat 0),V.int (bS g.ds - g.ds.getD l.toNat 0)]) hp1
  generalize upd H1 p1 (HO.lst [V.int (g.ds.getD l.toNat 0),V.int (bS g.ds - g.ds.getD l.toNat 0)])=H2 at *
  rw [show (if c=0 then g.ds.getD l.toNat 0 else bS g.ds - g.ds.getD l.toNat 0)=cK g.ds c l from rfl]
  k_mem
  refine ⟨p,dl,cl,ll,lt,g,lds,n.ws,rfl,hP.same s2,SqT.of (s2 _ _ h3),by omega,by omega,fun x hx=>by have:=hn.wr x hx;omega,?_⟩
  k_mem
  have sp:=hg.speed n
  have pl:=hn.place hg
  have hm:g.ds.getD l.toNat 0∈g.ds:=cN (by omega)
  have m0:=hg.sh.lo _ hm
  have m5:=hg.sh.hi _ hm
  have mw:=hg.sh.le_whole hm
  have w5:=hg.sh.hi _ hg.sh.whole_mem
  have wb:0<=cK g.ds c l/\cK g.ds c l<=500:=by unfold cK;split<;>omega
  rw [show (if xX g.ks n.ws=true then g.slow else g.fast)=bu g n from rfl]
  k_upd
  refine ⟨_,_,rfl,by split<;>omega,by split<;>omega,by omega,by omega,?_⟩
  k_mem
  refine ⟨by decide,fun b hb=>q b _ ((s2).lay hb) ⟨gt,lt,hh,dt,SqT.of ag,?_,?_,?_,?_⟩⟩
  ·exact (s2.lay hb).tup h2
  ·exact upo (s2 _ _ h3) hb
  ·exact (f2.lay hb).tup hH
  ·exact (s2.lay hb).tup h5
variable (yN:KD P w K mg base CX0 2 "_law_next" (rp K Z))
def Kj (H:Hp)(p a dl cl ht lv:Addr)(r:Int)(g:Cfg)(n:aI)(i:Nat)(σ:St)(H':Hp):Prop:=av H H'/\(∃t u v,σ=[some (.ref p),some (.ref a),some (.int r),some (.ref dl),some (.ref cl),some (.ref ht),some (.ref lv),t,u,v])/\∀c:Int,0<=c->c < i->∀l,a9 g.ds n.place c=some l->n.gates.getD l.toNat false=false
inductive fJ (K:W.Frag)(Z:Adr)(vs:List V)(H:Hp)(Q:VK)(E:XK):Prop | mk (p dl cl ll a:Addr) (g:Cfg) (lds:List Ld) (n:aI) (t r:Int):vs=[.ref p,.ref a,.int r]->dW K H p dl cl ll g lds->cH g->bR g n->ie K H a (n,t)->(∀dd d H',av H H'->SqT K H' dd (ddV d)->qC d->dD g n d=none->Q (.ref dd) H')->fJ K Z vs H Q E
include T jI in
theorem qa:FF P w K mg base CX0 2 "_law_towards_wind" "_law_towards_wind" fV j4 (fJ K Z):=fk0 bH fun vs H Q E h=>by
 obtain ⟨p,dl,cl,ll,a,g,lds,n,t,r,rfl,hP,hg,hn,hSt,q⟩:=h
 k_all
 refine seg 8 (ah (aw (aP (pa4 aC (cu (pv' 2) af) (ao aq (pv' 5) af) (pv' 9))))) fun zt8 zh8 ze8=>?_
 refine seg 7 (ae (aD (i:=9) bH.nd rfl orL (ao au (bX (pa2 aC aC)) (bh eQ (by rfl) T.nJ jl (pa1 (cB jo (ao aq (ao au (pv' 4) (ao aq (pv' 5) af)) af) (ao aq (pv' 5) af) (bV _)))))) zh8) fun zt7 zh7 ze7=>?_
 refine seg 6 (ae (cy PassesOwn.never rfl (bq (by rfl) T.cb (pa1 af)) (aF (i:=8) bH.nd rfl orL) (ae (aD (i:=7) bH.nd rfl orL (dc0 jI hr.dn (pa3 (pv' 3) (pv' 8) (ao aq (pv' 1) af)))) (ah (aJ (eP (Ee (pv' 7) af) (eL (bU (ao aq (ao aq (pv' 1) af) (pv' 7))))).pt (ah (aw (aP (pa2 aC (pv' 7))))) (aA))))) zh7) fun zt6 zh6 ze6=>?_
 refine seg 5 (ae (aJ (i9 (ao aq (pv' 5) af) aC) (ah (aw (ao au (bX (pa2 (aP (pa2 aC af)) (aP (pa2 aC af)))) (bh eQ (by rfl) T.nJ jl (pa1 (ao aq (ao aq (pv' 1) af) af)))))) (aA)) zh6) fun zt5 zh5 ze5=>?_
 refine seg 4 (ae (aJ (eP (i9 (ao aq (pv' 5) af) aC) (eL (dq (xn hr.units0) (pv' 6) (bX g8) (bV _)))).pt (ae (aD (i:=7) bH.nd rfl orL (ao au (pv' 6) (aO pB (pv' 2) (aE ax (by rfl) T.bQ a7 (pa1 (pv' 6)))))) (ah (aw (aP (pa3 aC (pv' 7) (ao aq (ao au (pv' 4) (pv' 7)) (cu (kz (pv' 2) af) af))))))) (aA)) zh5) fun zt4 zh4 ze4=>?_
 refine seg 3 (ae (aJ (bw (ao aq (pv' 5) af) aC) (ah (aw (aP (pa2 aC (ao aq (pv' 5) af))))) (aA)) zh4) fun zt3 zh3 ze3=>?_
 refine seg 2 (ae (AI ["_law_k","_law_state"] [none,some 1] (iy:=6) bH.nd rfl rfl (bq (by rfl) T.cb (pa1 (aE ax (by rfl) T.bQ a7 (pa1 (pv' 3))))) (fun _ _ _ _=>(aF (i:=0) (show (["_law_k","_law_state"]:List Str).Nodup by decide +kernel) rfl orL)) (fun _ _ _ _=>(sR (dq (show OpR _ _ (zM K true) from gi) (pv' 0) (ao (show IxR _ (rK K) from aq) (pv' 1) af) (by rfl)))) (fun _ _ _ _=>(pv' 0))) zh3) fun zt2 zh2 ze2=>?_
 refine seg 1 (ae (aD (i:=5) bH.nd rfl orL (ao aq (pv' 1) af)) zh2) fun zt1 zh1 ze1=>?_
 refine ⟨_,ae (Ga (i:=3) (j:=4) rfl bH.nd rfl rfl (by decide) rfl rfl (pa2 (ao au (pv' 0) af) (ao au (pv' 0) af)) (by rfl)) zh1,?_⟩
 obtain ⟨gt,lt,ht,dt,h1,h2,h3,h4,h5⟩:=hSt
 obtain ⟨hp,hdl,⟨as,hcl,hT⟩,_,ek⟩:=id hP
 have l2:=hg.sh.l2
 have l6:=hg.sh.l6
 have gl:=hn.gl
 have fl:=hn.fl
 k_mem
 refine ⟨_,SqL.of hp,_,rfl,_,SqL.of hp,_,rfl,?_⟩
 k_mem
 refine ⟨_,h1,_,rfl,?_⟩
 k_mem
 refine ⟨_,.inl (SqL.of hdl),by omega,by rw [List.length_map];omega,?_⟩
 rw [List.length_map,Int.toNat_natCast,←fl]
 refine gq (fun j=>!n.fs.getD j false) (fun (j:Nat)=>.int (j:Int)) (by rw [sizeLine_eq];omega) rfl (fun i hi N hN=>?_) (fun i hi _ N hN=>?_) fun lv hlv=>?_
 ·k_mem
  k_upd
  refine ⟨_,h1,_,rfl,?_⟩
  k_mem
  refine ⟨_,.inr h5,rfl,by simp [bY],?_⟩
  rw [o9]
  have:(!decide (0+(i:Int)∈c7 n.fs))=!n.fs.getD i false:=by
   congr 1
   rw [Bool.eq_iff_iff,decide_eq_true_eq,jX,Int.zero_add,Int.toNat_natCast]
   k_upd
   exact ⟨fun z=>z.2.2,fun z=>⟨Int.natCast_nonneg _,by omega,z⟩⟩
  rw [this]
  exact hN
 ·k_mem
  rw [Int.zero_add]
  exact hN
 rw [show List.map (fun (j:Nat)=>V.int (j:Int)) (List.filter (fun j=>!n.fs.getD j false) (List.range n.fs.length))=(i7 n.fs).map V.int by unfold i7;rw [List.map_map];rfl] at *
 (generalize hE:upd H lv _=H1 at *;have s1:=pA hE hlv;have hlv1:=i8 hE;clear hE)
 k_mem
 have h41:=s1.tup h4
 rcases J4 n.e with ⟨l,rr,he⟩ | ⟨l,rr,he⟩ | ⟨w1,w2,w3,w4,he,na,nb⟩
 ·simp only [he] at h41
  have hr:=hn.code hg (.inl he)
  k_upd
  refine ⟨_,h41,_,rfl,?_⟩
  k_mem
  rw [if_pos rfl]
  k_upd
  refine ⟨_,h41,_,rfl,by decide,fun dd hdd=>?_⟩
  k_upd
  exact q dd (.rept rr) _ (s1.lay hdd) (SqT.of ag) trivial (rM he hr.1 hr.2)
 ·simp only [he] at h41
  obtain ⟨el0,el1,erc⟩:=hn.ew l rr (.inr he)
  k_upd
  refine ⟨_,h41,_,rfl,?_⟩
  k_mem
  rw [if_neg (by decide)]
  k_upd
  refine ⟨_,h41,_,rfl,?_⟩
  k_mem
  rw [if_neg (by decide)]
  k_upd
  refine ⟨_,h41,_,rfl,?_⟩
  k_mem
  rw [if_neg (by decide)]
  k_upd
  refine ⟨by decide,by decide,?_⟩
  k_upd
  refine bF (Kj H1 p a dl cl ht lv r g n) ⟨av.refl H1,⟨_,_,_,rfl⟩,fun c h0 h=>by omega⟩ ?_ ?_
  ·rintro i σ H2 hi ⟨s2,⟨t1,t2,t3,rfl⟩,hj⟩
   have s12:=s1.trans s2
   have hi2:i < 2:=hi
   k_mem
   refine ⟨_,s12.tup h1,_,rfl,?_⟩
   k_mem
   refine ⟨dl,g.ds,0+(i:Int),n.place,rfl,SqL.of (s12 _ _ hdl),hg.sh,by omega,by omega,fun H3 s3=>?_⟩
   have s13:=s12.trans s3
   k_mem
   split
   ·rename_i hge
    obtain ⟨l',e1,e2⟩:=DV (by omega:¬(a9 g.ds n.place (0+(i:Int))).getD (-1) < 0)
    obtain ⟨c0,c1,_⟩:=dN e1
    rw [e2] at *
    k_upd
    refine ⟨_,s13.tup h1,_,rfl,?_⟩
    k_mem
    refine ⟨_,s13.tup h2,_,km c0 (by show l' < (n.gates.length:Int);omega),?_⟩
    k_mem
    split
    ·rename_i ho
     k_upd
     refine ⟨by decide,fun dd hdd=>?_⟩
     k_upd
     exact q dd (.sht l') _ (s13.lay hdd) (SqT.of ag) trivial (kr c0 c1 ho)
    ·rename_i ho
     k_upd
     refine ⟨s2.trans s3,⟨_,_,_,rfl⟩,fun c h0 h l2 el=>?_⟩
     by_cases ec:c=(i:Int)
     ·subst ec
      rw [Int.zero_add] at e1
      rw [e1] at el
      cases el
      simpa using ho
     ·exact hj c h0 (by omega) l2 el
   ·rename_i hge
    have e1:=G0 (by omega:(a9 g.ds n.place (0+(i:Int))).getD (-1) < 0)
    k_upd
    refine ⟨s2.trans s3,⟨_,_,_,rfl⟩,fun c h0 h l2 el=>?_⟩
    by_cases ec:c=(i:Int)
    ·subst ec
     rw [Int.zero_add] at e1
     rw [e1] at el
     cases el
    ·exact hj c h0 (by omega) l2 el
  ·rintro σ H2 ⟨s2,⟨t1,t2,t3,rfl⟩,hj⟩
   have s12:=s1.trans s2
   have ho:hV g n=false:=BI hg.sh fun c hc l' el=>hj c (by omega) (by show c < ((2:Nat):Int);omega) l' el
   have h42:=s2.tup h41
   obtain ⟨ra,era,hra⟩:=pd (hT.same s12) el0 (by rw [hg.lc];exact el1)
   k_mem
   refine ⟨by decide,fun p1 hp1=>?_⟩
   have f1:=(av.refl H2).lay (o:=HO.lst [V.str (Str.ofString "coal"),V.str (Str.ofString "men")]) hp1
   have hp1':upd H2 p1 (HO.lst [V.str (Str.ofString "coal"),V.str (Str.ofString "men")]) p1=some (HO.lst [V.str (Str.ofString "coal"),V.str (Str.ofString "men")]):=ag
   generalize upd H2 p1 (HO.lst [V.str (Str.ofString "coal"),V.str (Str.ofString "men")])=H3 at *
   have s13:=s12.trans f1
   have h43:=f1.tup h42
   k_upd
   refine ⟨_,h43,_,rfl,?_⟩
   k_mem
   refine ⟨_,SqL.of (s13 _ _ hcl),_,era,?_⟩
   k_mem
   refine ⟨_,f1.tup hra,_,rfl,?_⟩
   k_mem
   refine ⟨_,h43,_,rfl,?_⟩
   k_mem
   refine ⟨_,SqL.of hp1',_,AZ,?_⟩
   k_mem
   refine ⟨_,h43,_,rfl,by decide,fun dd hdd=>?_⟩
   by_cases e:(ft g.ls l).1=rr
   ·refine q dd (.wind (r % 2) l "men") _ (s13.lay hdd) (SqT.of (by rw [ag];simp only [e,decide_true,if_true];rfl)) ⟨⟨by omega,by omega⟩,.inl rfl⟩ (rN el0 el1 ho ?_)
    rw [he,cC,if_pos rfl,e]
   ·refine q dd (.wind (r % 2) l "coal") _ (s13.lay hdd) (SqT.of (by rw [ag];simp only [e,decide_false,Bool.false_eq_true,if_false];rfl)) ⟨⟨by omega,by omega⟩,.inr rfl⟩ (rN el0 el1 ho ?_)
    rw [he,cC,if_neg (by decide)]
    rcases erc with h | h
    ·exact absurd h.symm e
    ·rw [h]
 ·simp only [he] at h41
  k_upd
  refine ⟨_,h41,_,rfl,?_⟩
  k_mem
  rw [if_neg na]
  k_upd
  refine ⟨_,h41,_,rfl,?_⟩
  k_mem
  rw [if_pos nb]
  k_upd
  refine ⟨by decide,fun p1 hp1=>?_⟩
  have f1:=(av.refl H1).lay (o:=HO.lst []) hp1
  have hp1':upd H1 p1 (HO.lst []) p1=some (HO.lst []):=ag
  generalize upd H1 p1 (HO.lst [])=H2 at *
  have s12:=s1.trans f1
  have h42:=f1.tup h41
  k_mem
  refine ⟨_,SqL.of (f1 _ _ hlv1),_,SqL.of hp1',by simp [bY],rfl,?_⟩
  rw [AY]
  k_mem
  by_cases hz:(i7 n.fs).map V.int=[]
  ·rw [if_neg (fun z=>z hz)]
   k_upd
   refine ⟨_,h42,_,rfl,?_⟩
   k_mem
   rw [if_pos nb]
   k_upd
   refine ⟨by decide,fun p2 hp2=>⟨by decide,fun p3 hp3=>⟨by decide,fun p4 hp4=>?_⟩⟩⟩
   have f4:=(((av.refl H2).lay (o:=HO.tup [V.str (Str.ofString "open"),V.int 0]) hp2).lay (o:=HO.tup [V.str (Str.ofString "shut"),V.int 0]) hp3).lay (o:=HO.lst [V.ref p2,V.ref p3]) hp4
   have e2:upd (upd (upd H2 p2 (HO.tup [V.str (Str.ofString "open"),V.int 0])) p3 (HO.tup [V.str (Str.ofString "shut"),V.int 0])) p4 (HO.lst [V.ref p2,V.ref p3]) p2=some (HO.tup [V.str (Str.ofString "open"),V.int 0]):=upo (upo ag hp3) hp4
   have e3:upd (upd (upd H2 p2 (HO.tup [V.str (Str.ofString "open"),V.int 0])) p3 (HO.tup [V.str (Str.ofString "shut"),V.int 0])) p4 (HO.lst [V.ref p2,V.ref p3]) p3=some (HO.tup [V.str (Str.ofString "shut"),V.int 0]):=upo ag hp4
   have e4:upd (upd (upd H2 p2 (HO.tup [V.str (Str.ofString "open"),V.int 0])) p3 (HO.tup [V.str (Str.ofString "shut"),V.int 0])) p4 (HO.lst [V.ref p2,V.ref p3]) p4=some (HO.lst [V.ref p2,V.ref p3]):=ag
   generalize upd (upd (upd H2 p2 (HO.tup [V.str (Str.ofString "open"),V.int 0])) p3 (HO.tup [V.str (Str.ofString "shut"),V.int 0])) p4 (HO.lst [V.ref p2,V.ref p3])=H3 at *
   have s13:=s12.trans f4
   k_upd
   refine ⟨_,s13.tup h1,_,rfl,?_⟩
   k_mem
   refine ⟨_,s13.tup h2,_,km (l:=0) (by omega) (by show (0:Int) < (n.gates.length:Int);omega),?_⟩
   k_mem
   refine ⟨_,SqL.of e4,_,AZ,?_⟩
   by_cases hb:n.gates.getD 0 false=true
   ·rw [if_pos hb]
    k_upd
    exact q p3 (.sht 0) _ s13 (SqT.of e3) trivial (kr (by omega) (by omega) hb)
   ·rw [if_neg hb]
    k_upd
    exact q p2 (.opn 0) _ s13 (SqT.of e2) trivial (nY (by omega) (by omega) (by simpa using hb))
  ·rw [if_pos hz]
   have hlen:0 < (i7 n.fs).length:=by
    rcases Nat.eq_zero_or_pos (i7 n.fs).length with z | z
    ·exact absurd (by rw [List.eq_nil_of_length_eq_zero z];rfl) hz
    ·exact z
   have hm0:0<=r % ((i7 n.fs).length:Int):=Int.emod_nonneg _ (by omega)
   have hm1:r % ((i7 n.fs).length:Int) < ((i7 n.fs).length:Int):=Int.emod_lt_of_pos _ (by omega)
   obtain ⟨v0,v1,v2⟩:=BH (cN (ds:=i7 n.fs) (i:=(r % ((i7 n.fs).length:Int)).toNat) (by omega))
   k_upd
   refine ⟨_,.inl (SqL.of (f1 _ _ hlv1)),by rw [List.length_map];omega,_,SqL.of (f1 _ _ hlv1),_,by rw [List.length_map];exact cX hm0 hm1,?_⟩
   generalize (i7 n.fs).getD (r % ((i7 n.fs).length:Int)).toNat 0=lx at *
   obtain ⟨ra,era,hra⟩:=pd (hT.same s12) v0 (by rw [hg.lc];omega)
   k_mem
   refine ⟨_,SqL.of (s12 _ _ hcl),_,era,?_⟩
   k_mem
   refine ⟨_,hra,_,two_deep (by omega) (by omega),by decide,fun dd hdd=>?_⟩
   refine q dd (.ring lx _) _ (s12.lay hdd) (SqT.of ag) trivial (rL v0 (by omega) v2 ?_)
   k_upd
   split
   ·exact .inl rfl
   ·exact .inr rfl
variable (kb:KD P w K mg base CX0 2 "_law_towards_wind" (fJ K Z))
inductive fK (K:W.Frag)(Z:Adr)(vs:List V)(H:Hp)(Q:VK)(E:XK):Prop | mk (p dl cl ll a:Addr) (g:Cfg) (lds:List Ld) (n:aI) (t r:Int):vs=[.ref p,.ref a,.int r]->dW K H p dl cl ll g lds->cH g->bR g n->ie K H a (n,t)->(∀dd d H',av H H'->SqT K H' dd (ddV d)->qC d->dD g n d=none->Q (.ref dd) H')->fK K Z vs H Q E
include T jI in
theorem qc:FF P w K mg base CX0 2 "_law_towards_load" "_law_towards_load" de j5 (fK K Z):=fk0 cv fun vs H Q E h=>by
 obtain ⟨p,dl,cl,ll,a,g,lds,n,t,r,rfl,hP,hg,hn,hSt,q⟩:=h
 k_all
 obtain ⟨t1,h1,k1⟩:∃t,PSs (nU CX0 P w K mg base ["_law_setup_here","_law_state","_law_rest","_law_cage","_law_level","_law_waits"] "_law_towards_load" (aj de) zf zv zA zo zs H E).nox ((bN de).drop 3) t/\∀(c l:Int) (H1:Hp),av H H1->0<=c->c < 2->a9 g.ds n.place c=some l->t ({nx:=fun _ H2=>Q .non H2,rt:=Q}:jU) [some (.ref p),some (.ref a),some (.int r),some (.int c),some (.int l),none] H1:=by
  refine seg 4 (ah (aw (aP (pa3 aC (ao au (pv' 5) (aO pB (kz (pv' 2) af) (aE ax (by rfl) T.bQ a7 (pa1 (pv' 5))))) (pv' 3))))) fun zt4 zh4 ze4=>?_
  refine seg 3 (ae (aJ (dq (FX hr.units0) (pv' 5) (bX g8) (bV _)) (ah (aw (aP (pa2 aC (pv' 4))))) (aA)) zh4) fun zt3 zh3 ze3=>?_
  refine seg 2 (ae (AI ["_law_k","_law_state","_law_level"] [none,some 1,some 4] (iy:=5) cv.nd rfl rfl (bq (by rfl) T.cb (pa1 (aE ax (by rfl) T.bQ a7 (pa1 (ao aq (pv' 1) af))))) (fun _ _ _ _=>(aF (i:=0) (show (["_law_k","_law_state","_law_level"]:List Str).Nodup by decide +kernel) rfl orL)) (fun _ _ _ _=>(sR (bw (ao (show IxR _ (rK K) from aq) (ao (show IxR _ (rK K) from aq) (pv' 1) af) (pv' 0)) (pv' 2)))) (fun _ _ _ _=>(pv' 0))) zh3) fun zt2 zh2 ze2=>?_
  refine seg 1 (ae (aJ (dq ky (aO aU af (pv' 3)) (ao aq (pv' 1) af) (by rfl)) (ah (aw (aP (pa2 aC (pv' 3))))) (aA)) zh2) fun zt1 zh1 ze1=>?_
  refine ⟨_,ae (aJ (cT (bU (ao aq (ao aq (pv' 1) af) (pv' 4)))) (ah (aw (aP (pa2 aC (pv' 4))))) (aA)) zh1,?_⟩
  intro c l H1 s1 c0 c1 hl
  obtain ⟨gt,lt,ht,dt,h1,h2,h3,h4,h5⟩:=(hSt.same s1).un
  obtain ⟨l0,l1,_⟩:=dN hl
  have gl:=hn.gl
  have wl:=hn.wl
  have k30:=hg.k30
  k_mem
  refine ⟨_,h1,_,rfl,?_⟩
  k_mem
  refine ⟨_,h2,_,km l0 (by show l < (n.gates.length:Int);omega),?_⟩
  k_mem
  split
  ·rename_i ho
   k_upd
   refine ⟨by decide,fun dd hdd=>?_⟩
   k_upd
   exact q dd (.opn l) _ (s1.lay hdd) (SqT.of ag) trivial (nY l0 l1 ho)
  rename_i ho
  have ho':n.gates.getD l.toNat false=true:=by simpa using ho
  k_upd
  refine ⟨_,h1,_,rfl,?_⟩
  k_mem
  refine ⟨_,.inr (SqT.of h3),rfl,by simp [bY],?_⟩
  rw [o9]
  k_mem
  split
  ·rename_i hin
   k_upd
   refine ⟨by decide,fun dd hdd=>?_⟩
   k_upd
   exact q dd (.unload c) _ (s1.lay hdd) (SqT.of ag) ⟨c0,c1⟩ (vd hin hl ho')
  rename_i hin
  k_upd
  refine ⟨_,h1,_,rfl,?_⟩
  k_mem
  refine ⟨_,.inr (SqT.of h3),by omega,by rw [List.length_map];omega,?_⟩
  rw [List.length_map,Int.toNat_natCast]
  refine gq (fun j=>decide (n.ws.getD j 0=l)) (fun (j:Nat)=>.int (j:Int)) (by rw [sizeLine_eq];omega) rfl (fun i hi N hN=>?_) (fun i hi _ N hN=>?_) fun lv hlv=>?_
  ·k_mem
   k_upd
   refine ⟨_,h1,_,rfl,?_⟩
   k_mem
   refine ⟨_,SqT.of h3,_,by rw [Int.zero_add];exact dJ hi,?_⟩
   k_mem
   by_cases e:n.ws.getD i 0=l
   ·rw [if_pos e];rw [decide_eq_true e] at hN;exact hN
   ·rw [if_neg e];rw [decide_eq_false e] at hN;exact hN
  ·k_mem
   rw [Int.zero_add]
   exact hN
  rw [show List.map (fun (j:Nat)=>V.int (j:Int)) (List.filter (fun j=>decide (n.ws.getD j 0=l)) (List.range n.ws.length))=(fv n.ws l).map V.int by unfold fv tM;rw [List.map_map];rfl] at *
  have s2:=s1.lay (o:=HO.lst ((fv n.ws l).map V.int)) hlv
  have hlv1:upd H1 lv (HO.lst ((fv n.ws l).map V.int)) lv=some (HO.lst ((fv n.ws l).map V.int)):=ag
  generalize upd H1 lv (HO.lst ((fv n.ws l).map V.int))=H2 at *
  k_mem
  refine ⟨by decide,fun p1 hp1=>?_⟩
  have f1:=(av.refl H2).lay (o:=HO.lst []) hp1
  have hp1':upd H2 p1 (HO.lst []) p1=some (HO.lst []):=ag
  generalize upd H2 p1 (HO.lst [])=H3 at *
  have s3:=s2.trans f1
  k_upd
  refine ⟨_,SqL.of (f1 _ _ hlv1),_,SqL.of hp1',by simp [bY],rfl,?_⟩
  rw [AY]
  k_mem
  by_cases hz:(fv n.ws l).map V.int=[]
  ·rw [if_pos hz]
   k_upd
   refine ⟨by decide,fun dd hdd=>?_⟩
   k_upd
   exact q dd (.sht l) _ (s3.lay hdd) (SqT.of ag) trivial (kr l0 l1 ho')
  ·rw [if_neg hz]
   have hlen:0 < (fv n.ws l).length:=by
    rcases Nat.eq_zero_or_pos (fv n.ws l).length with z | z
    ·exact absurd (by rw [List.eq_nil_of_length_eq_zero z];rfl) hz
    ·exact z
   have hm0:0<=r / 2 % ((fv n.ws l).length:Int):=Int.emod_nonneg _ (by omega)
   have hm1:r / 2 % ((fv n.ws l).length:Int) < ((fv n.ws l).length:Int):=Int.emod_lt_of_pos _ (by omega)
   obtain ⟨v0,v1,v2⟩:=DW (cN (ds:=fv n.ws l) (i:=(r / 2 % ((fv n.ws l).length:Int)).toNat) (by omega))
   k_upd
   refine ⟨_,.inl (SqL.of (f1 _ _ hlv1)),by rw [List.length_map];omega,_,SqL.of (f1 _ _ hlv1),_,by rw [List.length_map];exact cX hm0 hm1,by decide,fun dd hdd=>?_⟩
   k_upd
   exact q dd (.load _ c) _ (s3.lay hdd) (SqT.of ag) ⟨c0,c1⟩ (yl v0 v1 hl v2 hin ho')
 refine seg 2 (ae (aJ (lP (pv' 4) af) (ae (aD (i:=3) cv.nd rfl orL (aO dG af (pv' 3))) (ah (aD (i:=4) cv.nd rfl (Or.inr rfl) (dc0 jI hr.dn (pa3 (ao au (pv' 0) af) (pv' 3) (ao aq (pv' 1) af)))))) (aA)) h1) fun zt2 zh2 ze2=>?_
 refine seg 1 (ae (aD (i:=4) cv.nd rfl (Or.inr rfl) (dc0 jI hr.dn (pa3 (ao au (pv' 0) af) (pv' 3) (ao aq (pv' 1) af)))) zh2) fun zt1 zh1 ze1=>?_
 refine ⟨_,ae (aD (i:=3) cv.nd rfl orL (cu (pv' 2) af)) zh1,?_⟩
 obtain ⟨gt,lt,ht,dt,h1,h2,h3,h4,h5⟩:=hSt.un
 obtain ⟨hp,hdl,_,_,_⟩:=id hP
 k_mem
 refine ⟨_,SqL.of hp,_,rfl,_,h1,_,rfl,?_⟩
 k_mem
 refine ⟨dl,g.ds,r % 2,n.place,rfl,SqL.of hdl,hg.sh,by omega,by omega,fun H1 s1=>?_⟩
 k_mem
 split
 ·rename_i hlt
  have e0:=G0 hlt
  k_upd
  refine ⟨_,SqL.of (s1 _ _ hp),_,rfl,_,s1.tup h1,_,rfl,?_⟩
  k_mem
  refine ⟨dl,g.ds,1 - r % 2,n.place,rfl,SqL.of (s1 _ _ hdl),hg.sh,by omega,by omega,fun H2 s2=>?_⟩
  k_mem
  obtain ⟨c,hc,l,hl⟩:=hn.st
  have ec:c=1 - r % 2:=by
   rcases (by omega:c=r % 2\/c=1 - r % 2) with e | e
   ·rw [←e,hl] at e0;cases e0
   ·exact e
  rw [ec] at hl
  rw [hl]
  exact k1 _ l _ (s1.trans s2) (by omega) (by omega) hl
 ·rename_i hlt
  obtain ⟨l,hl,el⟩:=DV hlt
  rw [el]
  exact k1 _ l _ s1 (by omega) (by omega) hl
variable (ke:KD P w K mg base CX0 2 "_law_towards_load" (fK K Z))
theorem BY {g:Cfg}{n:aI}{d:Dd}:(aV g n d).ws.length=n.ws.length:=by
 cases d<;>first | rfl | exact List.length_set ..
theorem BZ {g:Cfg}{n:aI}{d:Dd}(hn:bR g n)(hr:dD g n d=none)(ok:qC d)(k:Nat)(hk:k < n.ws.length)(h:n.ws.getD k 0≠(aV g n d).ws.getD k 0) :
  (∃c,d=.load k c/\(0<=c/\c < 2)/\(aV g n d).ws.getD k 0=10+c/\n.ws.getD k 0=(a9 g.ds n.place c).getD (-1))\/∃c,d=.unload c/\(0<=c/\c < 2)/\n.ws.getD k 0=10+c/\(aV g n d).ws.getD k 0=(a9 g.ds n.place c).getD (-1):=by
 cases d with
 | load j c=>
  obtain ⟨hj,l,hl,e1,e2,e3⟩:(0<=j/\j < n.ws.length)/\∃l,a9 g.ds n.place c=some l/\n.ws.getD j.toNat 0=l/\¬10+c∈n.ws/\n.gates.getD l.toNat false=true:=ph hr
  left
  by_cases e:j.toNat=k
  ·refine ⟨c,by rw [←e];congr 1;omega,ok,?_,?_⟩
   ·show (n.ws.set j.toNat (10+c)).getD k 0=_
    rw [e,List.getD_eq_getElem?_getD,List.getElem?_set_self hk];rfl
   ·rw [hl,←e,e1];rfl
  ·refine absurd ?_ h
   show _=(n.ws.set j.toNat (10+c)).getD k 0
   rw [List.getD_eq_getElem?_getD,List.getD_eq_getElem?_getD,List.getElem?_set_ne e]
 | unload c=>
  obtain ⟨hm,l,hl,e1⟩:10+c∈n.ws/\∃l,a9 g.ds n.place c=some l/\n.gates.getD l.toNat false=true:=ko hr
  right
  have hlt:=List.idxOf_lt_length_iff.mpr hm
  by_cases e:n.ws.idxOf (10+c)=k
  ·refine ⟨c,rfl,ok,?_,?_⟩
   ·rw [List.getD_eq_getElem?_getD,←e,List.getElem?_eq_getElem hlt]
    exact List.getElem_idxOf hlt
   ·show (n.ws.set (n.ws.idxOf (10+c)) _).getD k 0=_
    rw [e,List.getD_eq_getElem?_getD,List.getElem?_set_self hk];rfl
  ·refine absurd ?_ h
   show _=(n.ws.set (n.ws.idxOf (10+c)) _).getD k 0
   rw [List.getD_eq_getElem?_getD,List.getD_eq_getElem?_getD,List.getElem?_set_ne e]
 | _=>exact absurd rfl h
theorem Aj {g:Cfg}{n:aI}{d:Dd}(hg:cH g)(hn:bR g n)(hr:dD g n d=none)(ok:qC d):∃nm jT,ddV d=.str nm::jT/\((nm="load"\/nm="unload")/\n.ws≠(aV g n d).ws\/nm≠"load"/\nm≠"unload"):=by
 cases d with
 | load j c=>
  obtain ⟨hj,l,hl,e1,e2,e3⟩:(0<=j/\j < n.ws.length)/\∃l,a9 g.ds n.place c=some l/\n.ws.getD j.toNat 0=l/\¬10+c∈n.ws/\n.gates.getD l.toNat false=true:=ph hr
  refine ⟨_,_,rfl,.inl ⟨.inl rfl,fun z=>e2 ?_⟩⟩
  rw [z]
  show 10+c∈n.ws.set j.toNat (10+c)
  exact List.mem_iff_getElem.mpr ⟨j.toNat,by rw [List.length_set];omega,List.getElem_set_self _⟩
 | unload c=>
  obtain ⟨hm,l,hl,e1⟩:10+c∈n.ws/\∃l,a9 g.ds n.place c=some l/\n.gates.getD l.toNat false=true:=ko hr
  refine ⟨_,_,rfl,.inl ⟨.inr rfl,fun z=>?_⟩⟩
  have hlt:=List.idxOf_lt_length_iff.mpr hm
  have hc:=dN hl
  have l6:=hg.sh.l6
  have e:(aV g n (.unload c)).ws[n.ws.idxOf (10+c)]?=some l:=by
   show (n.ws.set (n.ws.idxOf (10+c)) ((a9 g.ds n.place c).getD (-1)))[_]?=_
   rw [List.getElem?_set_self hlt,hl];rfl
  rw [←z,List.getElem?_eq_getElem hlt,List.getElem_idxOf hlt] at e
  have:=Option.some.inj e
  have:=ok.1
  omega
 | _=>exact ⟨_,_,rfl,.inr ⟨by decide,by decide⟩⟩
theorem uN:∀xs ys:List Int,eqL (xs.map V.int) (ys.map V.int)=decide (xs=ys)
 | [],[]=>rfl
 | [],y::ys=>by simp [eqL]
 | x::xs,[]=>by simp [eqL]
 | x::xs,y::ys=>by
  have:=uN xs ys
  show (eqV (.int x) (.int y) && eqL (xs.map V.int) (ys.map V.int))=_
  rw [this]
  by_cases h:x=y<;>simp [eqV,h]
def Gn (H:Hp)(x0 x1 x2 x3 x4:V)(_:Nat)(σ:St)(H':Hp):Prop:=av H H'/\∃t,σ=[some x0,some x1,some x2,some x3,some x4,t]
inductive mB (K:W.Frag)(Z:Adr)(vs:List V)(H:Hp)(Q:VK)(E:XK):Prop | mk (dl a b dd:Addr) (g:Cfg) (n:aI) (d:Dd):vs=[.ref dl,.ref a,.ref b,.ref dd,.int n.place]->H dl=some (.lst (g.ds.map V.int))->H a=some (.lst (n.ws.map V.int))->H b=some (.lst ((aV g n d).ws.map V.int))->SqT K H dd (ddV d)->cH g->bR g n->dD g n d=none->qC d->(∀H',av H H'->Q (.bl true) H')->mB K Z vs H Q E
include T jI in
theorem yO:FF P w K mg base CX0 2 "_law_passed" "_law_passed" ou tZ (mB K Z):=fk0 rY fun vs H Q E h=>by
 obtain ⟨dl,a,b,dd,g,n,d,rfl,hdl,ha,hb,hdd,hg,hn,hrf,ok,q⟩:=h
 k_all
 refine seg 1 (ah (aw (IJ (cB gi (ao aq (pv' 3) af) (aP (pa2 aC aC)) (by rfl)) (lB (cB (xn hr.units0) (pv' 1) (pv' 2) (bV _)))))) fun zt1 zh1 ze1=>?_
 refine ⟨_,ae (cy PassesOwn.never rfl (bq (by rfl) T.cb (pa1 (aE ax (by rfl) T.bQ a7 (pa1 (pv' 1))))) (aF (i:=5) rY.nd rfl orL) (ah (aJ (i9 (ao au (pv' 1) (pv' 5)) (ao au (pv' 2) (pv' 5))) (ah (aJ (eP (bw (ao aq (pv' 3) af) aC) (eP (bw (ao aq (pv' 3) af) (pv' 5)) (eL (bw (ao au (pv' 2) (pv' 5)) (aO aU af (ao aq (pv' 3) af)))))).pt (ah (aJ (i9 (ao au (pv' 1) (pv' 5)) (dc0 jI hr.dn (pa3 (pv' 0) (ao aq (pv' 3) af) (pv' 4)))) (ah (aw eF)) (aA))) (ah (aJ (eP (bw (ao aq (pv' 3) af) aC) (eL (bw (ao au (pv' 1) (pv' 5)) (aO aU af (ao aq (pv' 3) af))))).pt (ah (aJ (i9 (ao au (pv' 2) (pv' 5)) (dc0 jI hr.dn (pa3 (pv' 0) (ao aq (pv' 3) af) (pv' 4)))) (ah (aw eF)) (aA))) (ah (aw eF)))))) (aA)))) zh1,?_⟩
 have l6:=hg.sh.l6
 have k30:=hg.k30
 have hwl:=hn.wl
 k_mem
 refine ⟨_,.inl (SqL.of ha),by rw [List.length_map];omega,by rw [List.length_map];omega,?_⟩
 rw [List.length_map,Int.toNat_natCast]
 k_upd
 refine bF (Gn H (.ref dl) (.ref a) (.ref b) (.ref dd) (.int n.place)) ⟨av.refl _,_,rfl⟩ ?_ ?_
 ·rintro i σ H' hi ⟨s1,t,rfl⟩
  have hi2:i < (aV g n d).ws.length:=by rw [BY];exact hi
  have A:=SqL.of (K:=K) (s1 _ _ ha)
  have B:=SqL.of (K:=K) (s1 _ _ hb)
  have D0:=SqL.of (K:=K) (s1 _ _ hdl)
  rw [Int.zero_add]
  k_mem
  refine ⟨_,A,_,dJ hi,_,B,_,dJ hi2,?_⟩
  k_mem
  split
  ·rename_i h
   rcases BZ hn hrf ok i hi (by simpa using h) with ⟨c,rfl,hc,e1,e2⟩ | ⟨c,rfl,hc,e1,e2⟩
   ·have T0:=s1.tup hdd
    k_upd
    refine ⟨_,T0,_,rfl,?_⟩
    k_mem
    refine ⟨_,T0,_,rfl,?_⟩
    k_mem
    rw [if_pos rfl]
    k_upd
    refine ⟨_,B,_,dJ hi2,_,T0,_,rfl,?_⟩
    k_mem
    rw [if_pos e1]
    k_upd
    refine ⟨_,A,_,dJ hi,_,T0,_,rfl,?_⟩
    k_upd
    refine ⟨dl,g.ds,c,n.place,rfl,D0,hg.sh,hc.1,hc.2,fun H2 s2=>?_⟩
    k_mem
    rw [if_neg (fun z=>z e2)]
    k_upd
    exact ⟨s1.trans s2,_,rfl⟩
   ·have T0:=s1.tup hdd
    k_upd
    refine ⟨_,T0,_,rfl,?_⟩
    k_mem
    refine ⟨_,T0,_,rfl,?_⟩
    k_mem
    refine ⟨_,A,_,dJ hi,_,T0,_,rfl,?_⟩
    k_mem
    rw [if_pos e1]
    k_upd
    refine ⟨_,B,_,dJ hi2,_,T0,_,rfl,?_⟩
    k_upd
    refine ⟨dl,g.ds,c,n.place,rfl,D0,hg.sh,hc.1,hc.2,fun H2 s2=>?_⟩
    k_mem
    rw [if_neg (fun z=>z e2)]
    k_upd
    exact ⟨s1.trans s2,_,rfl⟩
  ·k_upd
   k_upd
   exact ⟨s1,_,rfl⟩
 ·rintro σ H' ⟨s1,t,rfl⟩
  obtain ⟨nm,jT,enm,hnm⟩:=Aj hg hn hrf ok
  rw [enm] at hdd
  k_mem
  refine ⟨_,s1.tup hdd,_,fq (k:=0) rfl,by decide,fun p hp=>?_⟩
  (generalize hE:upd H' p _=H2 at *;have s2:=pA hE hp;have e2:=i8 hE;clear hE)
  have s12:=s1.trans s2
  rcases hnm with ⟨h1,h2⟩ | ⟨h1,h2⟩
  ·k_upd
   refine ⟨_,.inr (SqT.of e2),rfl,rfl,?_⟩
   have e:inV (.str nm) [V.str "load",V.str "unload"]=true:=by rcases h1 with rfl | rfl<;>decide
   rw [e]
   k_upd
   rw [if_neg (by decide)]
   k_upd
   refine ⟨_,SqL.of (s12 _ _ ha),_,SqL.of (s12 _ _ hb),by rw [List.all_map];exact List.all_eq_true.mpr fun _ _=>rfl,by rw [List.all_map];exact List.all_eq_true.mpr fun _ _=>rfl,?_⟩
   rw [uN,decide_eq_false h2]
   k_upd
   exact q _ s12
  ·k_upd
   refine ⟨_,.inr (SqT.of e2),rfl,rfl,?_⟩
   have e:inV (.str nm) [V.str "load",V.str "unload"]=false:=by simp [inV,eqV,Ne.symm h1,Ne.symm h2]
   rw [e]
   k_upd
   exact q _ s12
variable (kT:KD P w K mg base CX0 2 "_law_passed" (mB K Z))
theorem wG {k:Int}:∀{ws:List Int},(∀i j,i < j->j < ws.length->ws.getD i 0=k->ws.getD j 0=k->False)->ws.count k<=1
 | [],_=>Nat.zero_le _
 | x::xs,h=>by
  rw [List.count_cons]
  have ih:=wG (ws:=xs) fun i j hij hj e1 e2=>h (i+1) (j+1) (by omega) (by rw [List.length_cons];omega) (by simpa using e1) (by simpa using e2)
  by_cases e:x=k
  ·have h0:xs.count k=0:=by
    rw [List.count_eq_zero]
    intro hm
    obtain ⟨j,hj,ej⟩:=List.mem_iff_getElem.mp hm
    exact h 0 (j+1) (by omega) (by rw [List.length_cons];omega) (by simpa using e) (by rw [List.getD_cons_succ,List.getD_eq_getElem?_getD,List.getElem?_eq_getElem hj];exact ej)
   rw [h0];split<;>omega
  ·rw [if_neg (by simpa using e)];omega
theorem Eu {g:Cfg}{n:aI}(h:bR g n){k:Int}(hk:10<=k):n.ws.count k<=1:=wG fun i j hij hj e1 e2=>by
 have:=h.un i j (by omega) hj (by omega) (e1.trans e2.symm)
 omega
def A6 (H:Hp)(a:Addr)(m l:Int)(_:Nat)(σ:St)(H':Hp):Prop:=av H H'/\∃t,σ=[some (.ref a),some (.int m),some (.int l),t]
inductive gJ (K:W.Frag)(Z:Adr)(vs:List V)(H:Hp)(Q:VK)(E:XK):Prop | mk (a:Addr) (ws:List Int) (l:Int):vs=[.ref a,.int ws.length,.int l]->H a=some (.lst (ws.map V.int))->((∀x∈ws,(0<=x/\x < l)\/x=10\/x=11))->ws.count 10<=1->ws.count 11<=1->ws.length<=1000->(∀H',av H H'->Q (.bl true) H')->gJ K Z vs H Q E
include T wz in
theorem sM:FF P w K mg base CX0 2 "_law_good_spots" "_law_good_spots" iC lY (gJ K Z):=fk0 lr fun vs H Q E h=>by
 obtain ⟨a,ws,l,rfl,ha,hx,h10,h11,hl,q⟩:=h
 k_all
 refine seg 2 (ah (aw (ja (cB zR (lG PySem.F.plainAttrs_list PySem.F.slot_list_count PySem.F.type_list_count yr (pv' 0) (pa1 af)) af (bV _)) (lB (cB zR (lG PySem.F.plainAttrs_list PySem.F.slot_list_count PySem.F.type_list_count yr (pv' 0) (pa1 af)) af (bV _)))))) fun zt2 zh2 ze2=>?_
 refine seg 1 (ae (cy PassesOwn.never rfl (cA (pv' 0)) (aF (i:=3) lr.nd rfl orL) (ah (aJ (iZ (cT (bU (dc0 wz hr.dn (pa1 (pv' 3))))) (fQ (eP (dq w9 (pv' 3) (bh xS (by rfl) T.cb xQ (pa1 (pv' 2))) (by rfl)) (eP (i9 (pv' 3) af) (eL (i9 (pv' 3) af)))).pt)).pt (ah (aw eF)) (aA)))) zh2) fun zt1 zh1 ze1=>?_
 refine ⟨_,ae (aJ (iZ (cT (bU (aE o6 (by rfl) T.bE bp (pa2 (pv' 0) (cV (v:=.ty "list") (by rfl) T.eC cW rfl))))) (fQ (i9 (aE ax (by rfl) T.bQ a7 (pa1 (pv' 0))) (pv' 1)))).pt (ah (aw eF)) (aA)) zh1,?_⟩
 k_mem
 refine ⟨_,_,_,_,rfl,.lst ha,tI,?_⟩
 k_mem
 refine ⟨_,.inl (SqL.of ha),?_⟩
 rw [List.length_map,if_neg (fun z=>z rfl)]
 k_mem
 refine ⟨⟨_,SqL.of ha⟩,?_⟩
 k_upd
 refine ff (ws.map V.int) (A6 H a ws.length l) ⟨av.refl _,_,rfl⟩ (fun i σ H' _ h=>SqL.of (h.1 _ _ ha)) ?_ ?_
 ·rintro i x σ H' hx' ⟨s1,t,rfl⟩
  rw [List.getElem?_map] at hx'
  obtain ⟨y,ey,rfl⟩:=Option.map_eq_some_iff.mp hx'
  have hy:=hx y (List.mem_of_getElem? ey)
  k_mem
  refine ⟨_,rfl,?_⟩
  k_mem
  refine ⟨_,rfl,fun p hp=>⟨_,_,_,_,rfl,rfl,ag,?_⟩⟩
  have fin:A6 H a ws.length l (i+1) [some (V.ref a),some (V.int ws.length),some (V.int l),some (V.int y)] (upd H' p (HO.rng 0 l)):=⟨s1.lay hp,_,rfl⟩
  rcases hy with h | rfl | rfl
  ·rw [decide_eq_true h]
   exact fin
  ·split
   ·rw [if_neg (fun z=>z rfl)];exact fin
   ·exact fin
  ·split
   ·rw [if_pos (by decide),if_neg (fun z=>z rfl)];exact fin
   ·exact fin
 ·rintro σ H' ⟨s1,t,rfl⟩
  have A:=s1 _ _ ha
  k_mem
  refine ⟨.inl ⟨rfl,_,SqL.of A⟩,ws,SqL.of A,?_⟩
  k_mem
  rw [if_pos (show ((ws.count 10:Nat):Int) < 2 by omega)]
  k_upd
  refine ⟨.inl ⟨rfl,_,SqL.of A⟩,ws,SqL.of A,?_⟩
  k_mem
  rw [decide_eq_true (show ((ws.count 11:Nat):Int) < 2 by omega)]
  k_upd
  exact q _ s1
variable (fL:KD P w K mg base CX0 2 "_law_good_spots" (gJ K Z))
inductive kU (K:W.Frag)(Z:Adr)(vs:List V)(H:Hp)(Q:VK)(E:XK):Prop | mk (y kn wh:Addr) (ks:List Str) (ws:List Int) (m n c:Int):vs=[.ref y,.int n,.int c]->cJ Z.dZ H y kn wh ks ws m->0<=c->c < 2->((¬(0<=n/\n < ws.length)->E (.ref Z.dR) none H))->((0<=n->n < ws.length->(ws.getD n.toNat 0=10\/ws.getD n.toNat 0=11)->E (.ref Z.iD) none H))->((0<=n->n < ws.length->¬(ws.getD n.toNat 0=10\/ws.getD n.toNat 0=11)->10+c∈ws->∀H',av H H'->E (.ref Z.gY) none H'))->((0<=n->n < ws.length->¬(ws.getD n.toNat 0=10\/ws.getD n.toNat 0=11)->¬10+c∈ws->∀H',aB wh H H'->H' wh=some (.lst ((ws.set n.toNat (10+c)).map V.int))->Q .non H'))->kU K Z vs H Q E
include T cq gV in
theorem xF:FF P w K mg base (CXf P w) 3 "into" "Yard.into" l3 rP (kU K Z):=fkF xr fun vs H Q E h=>by
 obtain ⟨y,kn,wh,ks,ws,m,n,c,rfl,hy,h0,h1,q1,q2,q3,q4⟩:=h
 k_all
 refine seg 3 (ah (kh (ao aq (cZ (by rfl) T.gR) (pv' 2)) (tj (az (pv' 0)) (pv' 1) jY))) fun zt3 zh3 ze3=>?_
 refine seg 2 (ae (aJ (A3 (dm' (pv' 0) cq hr.dn bj (pa1 (pv' 2))) en) (ah (aX T.yF (by rfl) T.yC (pa1 aC))) (aA)) zh3) fun zt2 zh2 ze2=>?_
 refine seg 1 (ae (aJ (dq ky (ao au (az (pv' 0)) (pv' 1)) (cZ (by rfl) T.gR) (by rfl)) (ah (aX T.oy (by rfl) T.ow (pa1 aC))) (aA)) zh2) fun zt1 zh1 ze1=>?_
 refine ⟨_,ae (a6 (dc gV hr.dn bg (pa2 (pv' 1) (aE ax (by rfl) T.bQ a7 (pa1 (az (pv' 0))))))) zh1,?_⟩
 obtain ⟨⟨dx,hob⟩,hkn,hwh⟩:=id hy
 k_mem
 refine fgo hob T.cD T.bL rfl ?_
 k_mem
 refine ⟨_,.inl (SqL.of hwh),_,_,rfl,?_⟩
 rw [List.length_map]
 k_upd
 refine ⟨fun hn=>?_,q1⟩
 ·k_mem
  k_upd
  refine fgo hob T.cD T.bL rfl ?_
  k_mem
  refine ⟨_,SqL.of hwh,_,cX hn.1 hn.2,_,.inr (T.gS _),rfl,rfl,?_⟩
  rw [vX]
  k_mem
  split
  ·rename_i h2
   k_upd
   exact ⟨by decide,q2 hn.1 hn.2 h2⟩
  ·rename_i h2
   k_upd
   refine mgo hob rfl ⟨_,_,_,_,_,_,_,rfl,hy,h0,h1,fun H' s1=>?_⟩
   k_mem
   by_cases hm:10+c∈ws
   ·rw [inC,if_pos hm,if_pos (show ¬(V.int _=V.non) from fun z=>V.noConfusion z)]
    k_upd
    exact ⟨by decide,q3 hn.1 hn.2 h2 hm H' s1⟩
   ·rw [inC,if_neg hm,if_neg (fun z=>z rfl)]
    k_upd
    refine ⟨_,T.gS _,_,vU h0 h1,_,_,_,s1 _ _ hob,T.cD,T.bL,_,rfl,?_⟩
    k_mem
    refine ⟨_,s1 _ _ hwh,_,wZ hn.1 (by rw [List.length_map];exact hn.2),?_⟩
    refine q4 hn.1 hn.2 h2 hm _ (aB.put (aB.of s1)) ?_
    rw [ag,List.map_set]
variable (so:KM P w K mg base (CXf P w) 3 Z.dZ "into" (kU K Z))
inductive mD (K:W.Frag)(Z:Adr)(vs:List V)(H:Hp)(Q:VK)(E:XK):Prop | mk (y kn wh:Addr) (ks:List Str) (ws:List Int) (m c lv:Int):vs=[.ref y,.int c,.int lv]->cJ Z.dZ H y kn wh ks ws m->0<=c->c < 2->((¬(0<=lv/\lv < m)->E (.ref Z.aY) none H))->((0<=lv->lv < m->¬10+c∈ws->∀H',av H H'->E (.ref Z.gZ) none H'))->((0<=lv->lv < m->10+c∈ws->∀H',aB wh H H'->H' wh=some (.lst ((ws.set (ws.idxOf (10+c)) lv).map V.int))->Q .non H'))->mD K Z vs H Q E
include T cq bc in
theorem yP:FF P w K mg base (CXf P w) 3 "out" "Yard.out" n9 tU (mD K Z):=fkF rV fun vs H Q E h=>by
 obtain ⟨y,kn,wh,ks,ws,m,c,lv,rfl,hy,h0,h1,q1,q2,q3⟩:=h
 k_all
 refine seg 3 (ah (kh (pv' 2) (tj (az (pv' 0)) (pv' 3) jY))) fun zt3 zh3 ze3=>?_
 refine seg 2 (ae (aJ (xp (pv' 3) en) (ah (aX T.r8 (by rfl) T.r6 (pa1 aC))) (aA)) zh3) fun zt2 zh2 ze2=>?_
 refine seg 1 (ae (aD (i:=3) rV.nd rfl orL (dm' (pv' 0) cq hr.dn bj (pa1 (pv' 1)))) zh2) fun zt1 zh1 ze1=>?_
 refine ⟨_,ae (a6 (dc bc hr.dn bg (pa2 (pv' 2) (az (pv' 0))))) zh1,?_⟩
 obtain ⟨⟨dx,hob⟩,hkn,hwh⟩:=id hy
 k_mem
 refine fgo hob T.cD T.gT rfl ?_
 k_mem
 refine ⟨_,_,rfl,fun hlv=>?_,q1⟩
 k_mem
 refine mgo hob rfl ⟨_,_,_,_,_,_,_,rfl,hy,h0,h1,fun H' s1=>?_⟩
 k_mem
 by_cases hm:10+c∈ws
 ·rw [inC,if_pos hm,if_neg (show ¬(V.int _=V.non) from fun z=>V.noConfusion z)]
  have hlt:ws.idxOf (10+c) < ws.length:=List.idxOf_lt_length_iff.mpr hm
  k_mem
  refine fgo (s1 _ _ hob) T.cD T.bL rfl ?_
  k_mem
  refine ⟨_,s1 _ _ hwh,_,wZ (Int.natCast_nonneg _) (by rw [List.length_map];omega),?_⟩
  refine q3 hlv.1 hlv.2 hm _ (aB.put (aB.of s1)) ?_
  rw [ag,List.map_set];rfl
 ·rw [inC,if_neg hm,if_pos rfl]
  k_upd
  exact ⟨by decide,q2 hlv.1 hlv.2 hm H' s1⟩
variable (uO:KM P w K mg base (CXf P w) 3 Z.dZ "out" (mD K Z))
inductive fZ (K:W.Frag)(Z:Adr)(vs:List V)(H:Hp)(Q:VK)(E:XK):Prop | mk (y kn wh:Addr) (ks:List Str) (ws:List Int) (m lv:Int):vs=[.ref y,.int lv]->cJ Z.dZ H y kn wh ks ws m->ws.length<=1000->((0<=lv/\lv < m->∀p H',H p=none->av H H'->H' p=some (.lst ((fv ws lv).map V.int))->Q (.ref p) H'))->((¬(0<=lv/\lv < m)->E (.ref Z.aY) none H))->fZ K Z vs H Q E
include T bc in
theorem rq:FF P w K mg base (CXf P w) 3 "at_level" "Yard.at_level" gw lg (fZ K Z):=fkF qK fun vs H Q E h=>by
 obtain ⟨y,kn,wh,ks,ws,m,lv,rfl,hy,hlen,q1,q2⟩:=h
 k_all
 refine seg 1 (ah (aw (mY ["number","spot","level"] [none,none,some 1] (yp (by rfl) T.rZ o7 (az (pv' 0))) (fun _ _ _ _=>(show PG _ _ (rJ K 2 _) from fA (n:=2) rfl (aH (aF (i:=0) (show (["number","spot","level"]:List Str).Nodup by decide +kernel) rfl orL) (aH (aF (i:=1) (show (["number","spot","level"]:List Str).Nodup by decide +kernel) rfl orL) c9)))) (fun _ _ _ _=>(sR (bw (pv' 1) (pv' 2)))) (fun _ _ _ _=>(pv' 0))))) fun zt1 zh1 ze1=>?_
 refine ⟨_,ae (a6 (dc bc hr.dn bg (pa2 (pv' 1) (az (pv' 0))))) zh1,?_⟩
 obtain ⟨⟨dx,hob⟩,hkn,hwh⟩:=id hy
 k_mem
 refine fgo hob T.cD T.gT rfl ?_
 k_mem
 refine ⟨_,_,rfl,fun hlv=>?_,q2⟩
 k_mem
 refine fgo hob T.cD T.bL rfl ?_
 k_mem
 refine ⟨⟨_,SqL.of hwh⟩,?_⟩
 refine tK ws.length (fun i acc H'=>av H H'/\acc=(tM ws lv i).map V.int) ⟨av.refl H,rfl⟩ ?_ ?_ ?_ ?_
 ·rintro i acc H' hi ⟨s1,_⟩
  k_upd
  exact ⟨_,_,s1.seq (SqL.of hwh),by rw [List.getElem?_map,jW hi];rfl⟩
 ·rintro acc H' ⟨s1,_⟩
  k_upd
  exact ⟨_,s1.seq (SqL.of hwh),by rw [List.length_map];exact Nat.le_refl _⟩
 ·rintro i acc H' hi ⟨s1,rfl⟩
  k_upd
  refine ⟨by have:=CZ ws lv i;rw [List.length_map,sizeLine_eq];omega,?_⟩
  rintro x H2 ⟨tp,z,rfl,htp,rfl,hz⟩ M hM
  have e:=hz _ (s1.seq (SqL.of hwh))
  rw [List.getElem?_map,jW hi] at e
  cases e
  k_mem
  refine ⟨_,SqT.of ag,rfl,?_⟩
  k_mem
  refine ⟨⟨rfl,fun k v e=>?_⟩,?_⟩
  ·match k,e with
   | 0,e=>cases e
   | 1,e=>cases e
   | 2,e=>exact e
  ·have gs:=Bx ws lv i
   k_upd
   split
   ·rename_i h
    refine hM _ _ ⟨s1.lay htp,?_⟩
    rw [gs,if_pos h,List.map_append];rfl
   ·rename_i h
    refine hM _ _ ⟨s1.lay htp,?_⟩
    rw [gs,if_neg h,List.append_nil]
 ·rintro acc H' ⟨s1,rfl⟩ p hp
  k_upd
  exact q1 hlv p _ (s1.free hp) (s1.lay hp) ag
variable (lu:KM P w K mg base (CXf P w) 3 Z.dZ "at_level" (fZ K Z))
inductive kW (K:W.Frag)(Z:Adr)(vs:List V)(H:Hp)(Q:VK)(E:XK):Prop | mk (y kn wh:Addr) (ks:List Str) (ws:List Int) (m:Int):vs=[.ref y]->cJ Z.dZ H y kn wh ks ws m->(∀(y' kn' wh':Addr) (H':Hp),H y'=none->H kn'=none->H wh'=none->kn'≠wh'->av H H'->cJ Z.dZ H' y' kn' wh' ks ws m->Q (.ref y') H')->kW K Z vs H Q E
include T jg in
theorem xG:FF P w K mg base CX0 3 "twin" "Yard.twin" l4 rQ (kW K Z):=fk0 pS fun vs H Q E h=>by
 obtain ⟨y,kn,wh,ks,ws,m,rfl,hy,q⟩:=h
 k_all
 refine ⟨_,ae (aD (i:=1) pS.nd rfl orL (dn jg hr.dn T.El bj (pa2 (bX g8) (az (pv' 0))))) (ae (bG (pv' 1) (bh bW (by rfl) T.eC cW (pa1 (az (pv' 0)))) rfl) (ae (bG (pv' 1) (bh bW (by rfl) T.eC cW (pa1 (az (pv' 0)))) rfl) (ah (aw (pv' 1))))),?_⟩
 obtain ⟨⟨dy,hob⟩,hkn,hwh⟩:=id hy
 k_mem
 refine ⟨by decide,fun p0 hp0=>⟨_,_,_,upo hob hp0,T.cD,T.gT,_,rfl,?_⟩⟩
 refine fun x dx hx hdx nxd=>?_
 have s0:=(av.refl H).lay (o:=HO.lst []) hp0
 have hx':upd (upd H p0 (HO.lst [])) dx (.own x) x=none:=by rw [aG (Ne.symm nxd)];exact hx
 refine ⟨x,dx,p0,[],m,rfl,ag,⟨[],SqL.of (upo (upo ag hdx) hx'),jm.nil⟩,by decide,fun kn0 wh0 H1 hkn0 hwh0 nkw kp hy1=>⟨rfl,?_⟩⟩
 have s1:=s0.trans (gn hx hdx kp)
 obtain ⟨⟨dx1,hob1⟩,hkn1,hwh1⟩:=id hy1
 have hxn:H x=none:=s0.free hx
 clear kp hy1
 k_mem
 refine fgo (s1 _ _ hob) T.cD T.gj rfl ?_
 k_mem
 refine ⟨_,.inl (SqL.of (s1 _ _ hkn)),fun k1 hk1=>⟨_,_,_,upo hob1 hk1,T.cD,T.gj,by show 3 < 1000;decide,?_⟩⟩
 have nk1:k1≠x:=fun z=>by rw [z,hob1] at hk1;cases hk1
 have s2:av H (upd (upd H1 k1 (HO.lst (ks.map V.str))) x (HO.ins Z.dZ dx1 (ba "kinds" (.ref k1) [("kinds",V.ref kn0),("where",V.ref wh0),("many",V.int m)]))):=(s1.lay hk1).rewr hxn
 have hob2:upd (upd H1 k1 (HO.lst (ks.map V.str))) x (HO.ins Z.dZ dx1 (ba "kinds" (.ref k1) [("kinds",V.ref kn0),("where",V.ref wh0),("many",V.int m)])) x=some (HO.ins Z.dZ dx1 [("kinds",V.ref k1),("where",V.ref wh0),("many",V.int m)]):=by rw [ag];rfl
 have hk2:upd (upd H1 k1 (HO.lst (ks.map V.str))) x (HO.ins Z.dZ dx1 (ba "kinds" (.ref k1) [("kinds",V.ref kn0),("where",V.ref wh0),("many",V.int m)])) k1=some (HO.lst (ks.map V.str)):=by rw [aG nk1,ag]
 generalize upd (upd H1 k1 (HO.lst (ks.map V.str))) x (HO.ins Z.dZ dx1 (ba "kinds" (.ref k1) [("kinds",V.ref kn0),("where",V.ref wh0),("many",V.int m)]))=H2 at *
 refine fgo (s2 _ _ hob) T.cD T.bL rfl ?_
 k_mem
 refine ⟨_,.inl (SqL.of (s2 _ _ hwh)),fun w1 hw1=>⟨_,_,_,upo hob2 hw1,T.cD,T.bL,by show 3 < 1000;decide,?_⟩⟩
 have nw1:w1≠x:=fun z=>by rw [z,hob2] at hw1;cases hw1
 have nkw1:k1≠w1:=ak hk2 hw1
 refine q x k1 w1 _ hxn (s1.free hk1) (s2.free hw1) nkw1 ((s2.lay hw1).rewr hxn) ⟨⟨dx1,by rw [ag];rfl⟩,?_,?_⟩
 ·rw [aG nk1,aG nkw1];exact hk2
 ·rw [aG nw1,ag]
variable (sq:KM P w K mg base CX0 3 Z.dZ "twin" (kW K Z))
theorem I0 (s:Int)(x:Cd):inV (.int s) (cdV x)=decide (s=x.1\/s=x.2):=AD s x.1 x.2
inductive jL (K:W.Frag)(Z:Adr)(vs:List V)(H:Hp)(Q:VK)(E:XK):Prop | mk (b cs fl st:Addr) (ls:List Cd) (fs:List Bool) (e:Eng) (lv s:Int):vs=[.ref b,.int lv,.int s]->br Z.bB K H b cs fl st ls fs e->((¬(0<=lv/\lv < ls.length)->E (.ref Z.aY) none H))->((0<=lv->lv < ls.length->fs.getD lv.toNat false=true->E (.ref Z.j8) none H))->((0<=lv->lv < ls.length->fs.getD lv.toNat false=false->¬(s=(ft ls lv).1\/s=(ft ls lv).2)->E (.ref Z.mf) none H))->((0<=lv->lv < ls.length->fs.getD lv.toNat false=false->(s=(ft ls lv).1\/s=(ft ls lv).2)->∀st' H',aB b H H'->br Z.bB K H' b cs fl st' ls fs (.wait lv s)->Q .non H'))->jL K Z vs H Q E
include T bc in
theorem vC:FF P w K mg base (CXf P w) 3 "ring" "Bells.ring" kD pG (jL K Z):=fkF vh fun vs H Q E h=>by
 obtain ⟨b,cs,fl,st,ls,fs,e,lv,s,rfl,hB,q1,q2,q3,q4⟩:=h
 k_all
 refine seg 3 (ah (bG (pv' 0) (aP (pa4 aC (pv' 1) (pv' 2) en)) rfl)) fun zt3 zh3 ze3=>?_
 refine seg 2 (ae (aJ (dq gi (pv' 2) (ao au (az (pv' 0)) (pv' 1)) (by rfl)) (ah (aX T.yG (by rfl) T.yD (pa1 aC))) (aA)) zh3) fun zt2 zh2 ze2=>?_
 refine seg 1 (ae (aJ (bU (ao au (az (pv' 0)) (pv' 1))) (ah (aX T.z6 (by rfl) T.zW (pa1 aC))) (aA)) zh2) fun zt1 zh1 ze1=>?_
 refine ⟨_,ae (a6 (dc bc hr.dn bg (pa2 (pv' 1) (aE ax (by rfl) T.bQ a7 (pa1 (az (pv' 0))))))) zh1,?_⟩
 obtain ⟨⟨dx,hob⟩,⟨as,hcs,hT⟩,hfl,hst,nn,ln⟩:=id hB
 k_mem
 refine fgo hob T.bt T.cI rfl ?_
 k_mem
 refine ⟨_,.inl (SqL.of hcs),_,_,rfl,?_⟩
 rw [List.length_map,hT.1]
 k_upd
 refine ⟨fun hlv=>?_,q1⟩
 k_mem
 refine fgo hob T.bt T.cO rfl ?_
 k_mem
 refine ⟨_,SqL.of hfl,_,km hlv.1 (by omega),?_⟩
 k_mem
 split
 ·rename_i h
  k_upd
  exact ⟨by decide,q2 hlv.1 hlv.2 h⟩
 ·rename_i h
  k_upd
  refine fgo hob T.bt T.cI rfl ?_
  k_mem
  obtain ⟨ar,ea,hr⟩:=pd hT hlv.1 hlv.2
  k_upd
  refine ⟨_,SqL.of hcs,_,ea,?_⟩
  k_mem
  refine ⟨_,.inr hr,rfl,rfl,?_⟩
  rw [I0]
  k_mem
  split
  ·rename_i h2
   k_upd
   exact ⟨by decide,q3 hlv.1 hlv.2 (by simpa using h) h2⟩
  ·rename_i h2
   k_upd
   refine ⟨by decide,fun st' hst'=>⟨_,_,_,upo hob hst',T.bt,T.bz,by show 3 < 1000;decide,?_⟩⟩
   have nsx:st'≠b:=fun z=>by rw [z,hob] at hst';cases hst'
   refine q4 hlv.1 hlv.2 (by simpa using h) (Decidable.not_not.mp h2) st' _ ((aB.of ((av.refl H).lay hst')).put) (hB.state ((aB.of ((av.refl H).lay hst')).put) (dx:=dx) (by rw [ag];rfl) (SqT.of ?_))
   rw [aG nsx,ag];rfl
variable (qd:KM P w K mg base (CXf P w) 3 Z.bB "ring" (jL K Z))
inductive jM (K:W.Frag)(Z:Adr)(vs:List V)(H:Hp)(Q:VK)(E:XK):Prop | mk (b cs fl st:Addr) (ls:List Cd) (fs:List Bool) (e:Eng) (lv:Int):vs=[.ref b,.int lv]->br Z.bB K H b cs fl st ls fs e->((¬(0<=lv/\lv < ls.length)->E (.ref Z.aY) none H))->((0<=lv->lv < ls.length->fs.getD lv.toNat false=true->E (.ref Z.fI) none H))->((0<=lv->lv < ls.length->fs.getD lv.toNat false=false->∀H',aB fl H H'->H' fl=some (.lst ((fs.set lv.toNat true).map V.bl))->Q .non H'))->jM K Z vs H Q E
include T bc in
theorem vD:FF P w K mg base (CXf P w) 3 "fail" "Bells.fail" kE pH (jM K Z):=fkF vi fun vs H Q E h=>by
 obtain ⟨b,cs,fl,st,ls,fs,e,lv,rfl,hB,q1,q2,q3⟩:=h
 k_all
 refine seg 2 (ah (kh eF (tj (az (pv' 0)) (pv' 1) jY))) fun zt2 zh2 ze2=>?_
 refine seg 1 (ae (aJ (bU (ao au (az (pv' 0)) (pv' 1))) (ah (aX T.uC (by rfl) T.uy (pa1 aC))) (aA)) zh2) fun zt1 zh1 ze1=>?_
 refine ⟨_,ae (a6 (dc bc hr.dn bg (pa2 (pv' 1) (aE ax (by rfl) T.bQ a7 (pa1 (az (pv' 0))))))) zh1,?_⟩
 obtain ⟨⟨dx,hob⟩,⟨as,hcs,hT⟩,hfl,hst,nn,ln⟩:=id hB
 k_mem
 refine fgo hob T.bt T.cI rfl ?_
 k_mem
 refine ⟨_,.inl (SqL.of hcs),_,_,rfl,?_⟩
 rw [List.length_map,hT.1]
 k_upd
 refine ⟨fun hlv=>?_,q1⟩
 k_mem
 refine fgo hob T.bt T.cO rfl ?_
 k_mem
 refine ⟨_,SqL.of hfl,_,km hlv.1 (by omega),?_⟩
 k_mem
 split
 ·rename_i h
  k_upd
  exact ⟨by decide,q2 hlv.1 hlv.2 h⟩
 ·rename_i h
  k_upd
  refine fgo hob T.bt T.cO rfl ?_
  k_mem
  refine ⟨_,hfl,_,wZ hlv.1 (by rw [List.length_map];omega),?_⟩
  k_upd
  exact q3 hlv.1 hlv.2 (by simpa using h) _ ((aB.of (av.refl H)).put) (by rw [ag,List.map_set])
variable (qf:KM P w K mg base (CXf P w) 3 Z.bB "fail" (jM K Z))
theorem I8 (e:Eng)(lv c:Int):eqL (nV e) [V.str "armed",V.int lv,V.int c,V.int c]=match e with | .armed l' r=>decide (l'=lv/\r=c) | _=>false:=by
 cases e with
 | armed l r=>
  simp only [nV,eqL,wX,Bool.and_true]
  have:eqV (V.str "armed") (V.str "armed")=true:=rfl
  rw [this]
  by_cases h1:l=lv<;>by_cases h2:r=c<;>simp [h1,h2]
 | _=>rfl
theorem Gp {k:Str}(hk:k="men"\/k="coal"):∃i:Int,(if eqV (V.str "men") (V.str k)=true then (0:Int) else 1)=i/\(eqV (V.str "men") (V.str k) || eqV (V.str "coal") (V.str k))=true/\∀x:Cd,atI (cdV x) i=some (.int (if k="men" then x.1 else x.2)):=by
 rcases hk with rfl | rfl
 ·exact ⟨0,rfl,rfl,fun x=>rfl⟩
 ·exact ⟨1,rfl,rfl,fun x=>rfl⟩
inductive kX (K:W.Frag)(Z:Adr)(vs:List V)(H:Hp)(Q:VK)(E:XK):Prop | mk (b cs fl st:Addr) (ls:List Cd) (fs:List Bool) (e:Eng) (lv:Int) (k:Str):vs=[.ref b,.int lv,.str k]->br Z.bB K H b cs fl st ls fs e->((k="men"\/k="coal"))->((¬(0<=lv/\lv < ls.length)->E (.ref Z.aY) none H))->((0<=lv->lv < ls.length->e≠.armed lv (cC ls lv k)->∀H',av H H'->E (.ref Z.iE) none H'))->((0<=lv->lv < ls.length->e=.armed lv (cC ls lv k)->∀st' H',aB b H H'->br Z.bB K H' b cs fl st' ls fs (.used lv (cC ls lv k))->Q .non H'))->kX K Z vs H Q E
include T bc in
theorem xH:FF P w K mg base (CXf P w) 3 "use" "Bells.use" l5 rR (kX K Z):=fkF pT fun vs H Q E h=>by
 obtain ⟨b,cs,fl,st,ls,fs,e,lv,k,rfl,hB,hk,q1,q2,q3⟩:=h
 k_all
 refine seg 3 (ah (bG (pv' 0) (aP (pa4 aC (pv' 1) (pv' 3) (pv' 3))) rfl)) fun zt3 zh3 ze3=>?_
 refine seg 2 (ae (aJ (dq (Ih hr.units0) (az (pv' 0)) (aP (pa4 aC (pv' 1) (pv' 3) (pv' 3))) (bV _)) (ah (aX T.z7 (by rfl) T.zX (pa1 aC))) (aA)) zh3) fun zt2 zh2 ze2=>?_
 refine seg 1 (ae (aD (i:=3) pT.nd rfl orL (ao aq (ao au (az (pv' 0)) (pv' 1)) (lG PySem.F.plainAttrs_tuple PySem.F.slot_tuple_index PySem.F.type_tuple_index Bt (cZ (by rfl) T.Gc) (pa1 (pv' 2))))) zh2) fun zt1 zh1 ze1=>?_
 refine ⟨_,ae (a6 (dc bc hr.dn bg (pa2 (pv' 1) (aE ax (by rfl) T.bQ a7 (pa1 (az (pv' 0))))))) zh1,?_⟩
 obtain ⟨⟨dx,hob⟩,⟨as,hcs,hT⟩,hfl,hst,nn,ln⟩:=id hB
 k_mem
 refine fgo hob T.bt T.cI rfl ?_
 k_mem
 refine ⟨_,.inl (SqL.of hcs),_,_,rfl,?_⟩
 rw [List.length_map,hT.1]
 k_upd
 refine ⟨fun hlv=>?_,q1⟩
 k_mem
 obtain ⟨ar,ea,hr⟩:=pd hT hlv.1 hlv.2
 obtain ⟨i,ei,ek,ex⟩:=Gp hk
 k_upd
 refine fgo hob T.bt T.cI rfl ?_
 k_mem
 refine ⟨_,SqL.of hcs,_,ea,.inr (.inl ⟨rfl,T.Ge⟩),_,_,_,_,rfl,rfl,T.Gd _,rfl,rfl,rfl,ek,?_⟩
 rw [ei]
 k_mem
 refine ⟨_,hr,_,ex _,?_⟩
 k_mem
 have ec:(if k=Str.ofString "men" then (ft ls lv).1 else (ft ls lv).2)=cC ls lv k:=rfl
 rw [ec]
 k_upd
 refine fgo hob T.bt T.bz rfl ⟨by decide,fun tp htp=>?_⟩
 k_mem
 refine ⟨_,_,_,_,rfl,rfl,((av.refl H).lay htp).tup hst,SqT.of ag,List.all_eq_true.mpr (Bu e),rfl,?_⟩
 have s0:=(av.refl H).lay (o:=HO.tup [V.str (Str.ofString "armed"),V.int lv,V.int (cC ls lv k),V.int (cC ls lv k)]) htp
 have e2:eqL (nV e) [V.str (Str.ofString "armed"),V.int lv,V.int (cC ls lv k),V.int (cC ls lv k)]=_:=I8 e lv (cC ls lv k)
 rw [e2]
 have hob0:=s0 _ _ hob
 generalize upd H tp (HO.tup [V.str (Str.ofString "armed"),V.int lv,V.int (cC ls lv k),V.int (cC ls lv k)])=H0 at *
 have no:e≠.armed lv (cC ls lv k)->E (.ref Z.iE) none H0:=fun z=>q2 hlv.1 hlv.2 z H0 s0
 cases e with
 | armed l' r=>
  k_mem
  by_cases hh:l'=lv/\r=cC ls lv k
  ·rw [if_neg (by simp [hh])]
   k_mem
   refine ⟨by decide,fun st' hst'=>⟨_,_,_,upo hob0 hst',T.bt,T.bz,by show 3 < 1000;decide,?_⟩⟩
   have nsx:st'≠b:=fun z=>by rw [z,hob0] at hst';cases hst'
   have k0:=((aB.of (s0.lay (o:=HO.tup [V.str (Str.ofString "used up"),V.int lv,V.int (cC ls lv k),V.int (cC ls lv k)]) hst')).put (o:=HO.ins Z.bB dx (ba "state" (.ref st') [("codes",V.ref cs),("failed",V.ref fl),("state",V.ref st)])) (p:=b))
   refine q3 hlv.1 hlv.2 (by rw [hh.1,hh.2]) st' _ k0 (hB.state k0 (dx:=dx) (by rw [ag];rfl) (SqT.of ?_))
   rw [aG nsx,ag];rfl
  ·rw [if_pos (by simp;intro z1 z2;exact hh ⟨z1,z2⟩)]
   k_mem
   exact ⟨by decide,no fun z=>by injection z with z1 z2;exact hh ⟨z1,z2⟩⟩
 | _=>
  k_mem
  exact ⟨by decide,no fun z=>Eng.noConfusion z⟩
variable (sr:KM P w K mg base (CXf P w) 3 Z.bB "use" (kX K Z))
inductive jN (K:W.Frag)(Z:Adr)(vs:List V)(H:Hp)(Q:VK)(E:XK):Prop | mk (b cs fl st:Addr) (ls:List Cd) (fs:List Bool) (e:Eng):vs=[.ref b]->br Z.bB K H b cs fl st ls fs e->ls.length<=1000->(∀(b' cs' fl':Addr) (H':Hp),H b'=none->H cs'=none->H fl'=none->av H H'->br Z.bB K H' b' cs' fl' st ls fs e->Q (.ref b') H')->jN K Z vs H Q E
include T gU in
theorem vE:FF P w K mg base CX0 3 "twin" "Bells.twin" kF pI (jN K Z):=fk0 nE fun vs H Q E h=>by
 obtain ⟨b,cs,fl,st,ls,fs,e,rfl,hB,hn,q⟩:=h
 k_all
 refine ⟨_,ae (aD (i:=1) nE.nd rfl orL (dn gU hr.dn T.A5 bj (pa1 (az (pv' 0))))) (ae (bG (pv' 1) (bh bW (by rfl) T.eC cW (pa1 (az (pv' 0)))) rfl) (ae (bG (pv' 1) (az (pv' 0)) rfl) (ah (aw (pv' 1))))),?_⟩
 obtain ⟨⟨db,hob⟩,⟨as,hcs,hT⟩,hfl,hst,nn,ln⟩:=id hB
 k_mem
 refine fgo hob T.bt T.cI rfl ?_
 refine fun x dx hx hdx nxd=>?_
 have hx':upd H dx (.own x) x=none:=by rw [aG (Ne.symm nxd)];exact hx
 refine ⟨x,dx,cs,ls,rfl,ag,hB.rows.same (((av.refl H).lay hdx).lay hx'),hn,fun cs1 fl1 st1 H1 hcs1 hfl1 kp hB1=>⟨rfl,?_⟩⟩
 have s1:=gn hx hdx kp
 obtain ⟨⟨dx1,hob1⟩,⟨as1,hc1,hT1⟩,hf1,_,nn1,ln1⟩:=id hB1
 clear kp
 k_mem
 refine fgo (s1 _ _ hob) T.bt T.cO rfl ?_
 k_mem
 refine ⟨_,.inl (SqL.of (s1 _ _ hfl)),fun f2 hf2=>⟨_,_,_,upo hob1 hf2,T.bt,T.cO,by show 3 < 1000;decide,?_⟩⟩
 have nf2:f2≠x:=fun z=>by rw [z,hob1] at hf2;cases hf2
 have ncf:cs1≠f2:=ak hc1 hf2
 have ncx:cs1≠x:=fun z=>by rw [z,hob1] at hc1;cases hc1
 have s2:av H (upd (upd H1 f2 (HO.lst (fs.map V.bl))) x (HO.ins Z.bB dx1 (ba "failed" (.ref f2) [("codes",V.ref cs1),("failed",V.ref fl1),("state",V.ref st1)]))):=(s1.lay hf2).rewr hx
 have k2:L2.aB x H1 (upd (upd H1 f2 (HO.lst (fs.map V.bl))) x (HO.ins Z.bB dx1 (ba "failed" (.ref f2) [("codes",V.ref cs1),("failed",V.ref fl1),("state",V.ref st1)]))):=(aB.of ((av.refl H1).lay hf2)).put
 have hob2:upd (upd H1 f2 (HO.lst (fs.map V.bl))) x (HO.ins Z.bB dx1 (ba "failed" (.ref f2) [("codes",V.ref cs1),("failed",V.ref fl1),("state",V.ref st1)])) x=some (HO.ins Z.bB dx1 [("codes",V.ref cs1),("failed",V.ref f2),("state",V.ref st1)]):=by rw [ag];rfl
 have hff:upd (upd H1 f2 (HO.lst (fs.map V.bl))) x (HO.ins Z.bB dx1 (ba "failed" (.ref f2) [("codes",V.ref cs1),("failed",V.ref fl1),("state",V.ref st1)])) f2=some (HO.lst (fs.map V.bl)):=by rw [aG nf2,ag]
 generalize upd (upd H1 f2 (HO.lst (fs.map V.bl))) x (HO.ins Z.bB dx1 (ba "failed" (.ref f2) [("codes",V.ref cs1),("failed",V.ref fl1),("state",V.ref st1)]))=H2 at *
 refine fgo (s2 _ _ hob) T.bt T.bz rfl ?_
 k_mem
 refine ⟨_,_,_,hob2,T.bt,T.bz,by show 3 < 1000;decide,?_⟩
 have k3:L2.aB x H2 (upd H2 x (HO.ins Z.bB dx1 (ba "state" (.ref st) [("codes",V.ref cs1),("failed",V.ref f2),("state",V.ref st1)]))):=(aB.of (av.refl H2)).put
 refine q x cs1 f2 _ hx (fu hcs1) (s1.free hf2) (s2.rewr hx) ⟨⟨dx1,by rw [ag];rfl⟩,⟨as1,k3 _ _ ncx (k2 _ _ ncx hc1),(hT1.keepI k2 hob1).keepI k3 hob2⟩,k3 _ _ nf2 hff,(s2.rewr hx).tup hst,ncf,ln⟩
variable (qg:KM P w K mg base CX0 3 Z.bB "twin" (jN K Z))
inductive iR (K:W.Frag)(Z:Adr)(vs:List V)(H:Hp)(Q:VK)(E:XK):Prop | mk (a:Addr) (ds:List Int) (c lv:Int):vs=[.ref a,.int c,.int lv]->SqL K H a (ds.map V.int)->0<=lv->lv < ds.length->Q (.int (if c=0 then ds.getD lv.toNat 0 else bS ds - ds.getD lv.toNat 0)) H->iR K Z vs H Q E
include T dA in
theorem uP:FF P w K mg base CX0 3 "wound_place" "wound_place" jv nu (iR K Z):=fk0 ua fun vs H Q E h=>by
 obtain ⟨a,ds,c,lv,rfl,hS,h0,h1,q⟩:=h
 k_all
 refine seg 1 (ah (aw (dc0 dA hr.dn (pa2 (pv' 0) (ao au (pv' 0) (pv' 2)))))) fun zt1 zh1 ze1=>?_
 refine ⟨_,ae (aJ (bw (pv' 1) af) (ah (aw (ao au (pv' 0) (pv' 2)))) (aA)) zh1,?_⟩
 k_mem
 split
 ·rename_i hc
  k_upd
  rw [if_pos hc] at q
  k_upd
  exact ⟨_,hS,_,cX h0 h1,q⟩
 ·rename_i hc
  k_upd
  rw [if_neg hc] at q
  k_upd
  refine ⟨_,hS,_,cX h0 h1,?_⟩
  k_mem
  exact ⟨a,ds,_,rfl,hS,by omega,q⟩
variable (nQ:KD P w K mg base CX0 3 "wound_place" (iR K Z))
inductive mE (K:W.Frag)(Z:Adr)(vs:List V)(H:Hp)(Q:VK)(E:XK):Prop | mk (a:Addr) (ds:List Int) (pl:Int):vs=[.ref a,.int pl]->SqL K H a (ds.map V.int)->0 < ds.length->ds.length<=1000->(∀(b:Addr) (H':Hp),H b=none->av H H'->H' b=some (.lst ((i6 ds pl).map V.int))->Q (.ref b) H')->mE K Z vs H Q E
include T dA in
theorem yQ:FF P w K mg base CX0 3 "gates_by" "gates_by" oe tW (mE K Z):=fk0 rX fun vs H Q E h=>by
 obtain ⟨a,ds,pl,rfl,hS,h0,h1,q⟩:=h
 k_all
 refine ⟨_,ae (aD (i:=2) rX.nd rfl (Or.inr rfl) (aP (pa2 (pv' 1) (dc0 dA hr.dn (pa2 (pv' 0) (pv' 1)))))) (ah (aw (mY ["level","depths","stands"] [none,some 0,some 2] (bq (by rfl) T.cb (pa1 (aE ax (by rfl) T.bQ a7 (pa1 (pv' 0))))) (fun _ _ _ _=>(aF (i:=0) (show (["level","depths","stands"]:List Str).Nodup by decide +kernel) rfl orL)) (fun _ _ _ _=>(sR (dq (show OpR _ _ (zM K false) from ky) (ao (show IxR _ (AS K) from au) (pv' 1) (pv' 0)) (pv' 2) (by rfl)))) (fun _ _ _ _=>(pv' 0))))),?_⟩
 k_mem
 refine ⟨a,ds,pl,rfl,hS,h0,?_⟩
 k_mem
 refine ⟨by decide,fun t ht=>⟨_,.inl (((av.refl H).lay ht).seq hS),by omega,by rw [List.length_map];omega,?_⟩⟩
 refine gq (fun i=>decide (ds.getD i 0=pl\/ds.getD i 0=bS ds - pl)) (fun i=>V.int (i:Int)) (Nat.le_of_lt (cY (by rw [List.length_map];omega))) rfl (fun i hi N q=>?_) (fun i hi _ N q=>?_) (fun b hb=>?_)
 ·rw [List.length_map] at hi
  k_mem
  refine ⟨_,((av.refl H).lay ht).seq hS,_,by rw [Int.zero_add];exact dJ (by omega),_,.inr (SqT.of ag),rfl,rfl,?_⟩
  rw [AD]
  exact q
 ·k_mem
  rw [Int.zero_add]
  exact q
 ·refine q b _ (upn hb) (((av.refl H).lay ht).lay hb) ?_
  rw [ag]
  unfold i6
  rw [List.map_map,List.length_map]
  rfl
variable (uQ:KD P w K mg base CX0 3 "gates_by" (mE K Z))
def Kk (H:Hp)(n0:aI)(rs:List Row)(t:Int)(x0:V)(i:Nat)(σ:St)(H':Hp):Prop:=av H H'/\∃p a b c d e,σ=[some x0,some (.int t),some (.ref p),a,b,c,d,e]/\H p=none/\H' p=some (.lst ((cQ n0 (rs.take i) t).map V.int))
inductive gf (K:W.Frag)(Z:Adr)(vs:List V)(H:Hp)(Q:VK)(E:XK):Prop | mk (bk rl:Addr) (g:Cfg) (n0:aI) (rs:List Row) (t:Int):vs=[.ref bk,.int t]->BAt (clZ Z) K H bk rl g n0 rs->((0<=t/\t<=bC rs->∀p H',H p=none->av H H'->H' p=some (.lst ((cQ n0 rs t).map V.int))->Q (.ref p) H'))->((¬(0<=t/\t<=bC rs)->E (.ref Z.qZ) none H))->gf K Z vs H Q E
include T dj iP in
theorem rz:FF P w K mg base (CXf P w) 3 "spots_at" "Book.spots_at" gA lp (gf K Z):=fkF bT fun vs H Q E h=>by
 obtain ⟨bk,rl,g,n0,rs,t,rfl,hB,q1,q2⟩:=h
 k_all
 refine seg 3 (ah (aw (pv' 2))) fun zt3 zh3 ze3=>?_
 refine seg 2 (ae (cy sD rfl (cA (az (pv' 0))) (fA rfl (aH (aF (i:=3) bT.nd rfl orL) (aH (aF (i:=4) bT.nd rfl orL) (aH (aF (i:=5) bT.nd rfl orL) (aH (aF (i:=6) bT.nd rfl orL) (aH (aF (i:=7) bT.nd rfl orL) c9)))))) (ah (aJ (G1 (pv' 4) (pv' 1)) (ah (aD (i:=2) bT.nd rfl orL (dP (az (pv' 7)) dj hr.dn bj))) (aA)))) zh3) fun zt2 zh2 ze2=>?_
 refine seg 1 (ae (aD (i:=2) bT.nd rfl orL (dP (az (az (pv' 0))) dj hr.dn bj)) zh2) fun zt1 zh1 ze1=>?_
 refine ⟨_,ae (a6 (dm' (pv' 0) iP hr.dn bg (pa1 (pv' 1)))) zh1,?_⟩
 obtain ⟨⟨dx,f0,hob,A0,hF⟩,as,hrl,hR⟩:=id hB
 have hl:=hR.1
 k_mem
 refine mgo hob rfl ⟨_,_,_,_,_,_,rfl,hB,fun ht=>?_,q2⟩
 k_mem
 refine fgo hob T.cR T.jD rfl ?_
 k_mem
 refine fgo hF.ob T.aK T.aW rfl ?_
 k_mem
 obtain ⟨dy,hyb⟩:=hF.ya.ob
 k_upd
 refine ⟨_,_,hyb,rfl,_,_,_,_,_,_,rfl,hF.ya,fun p hp=>?_⟩
 have s1:=(av.refl H).lay (o:=HO.lst (n0.ws.map V.int)) hp
 k_mem
 refine fgo (s1 _ _ hob) T.cR T.bO rfl ?_
 k_mem
 refine ⟨⟨_,SqL.of (s1 _ _ hrl)⟩,?_⟩
 k_upd
 refine ff (as.map V.ref) (Kk H n0 rs t (.ref bk)) ⟨s1,p,_,_,_,_,_,rfl,hp,ag⟩ (fun i σ H' _ h=>SqL.of (h.1 _ _ hrl)) ?_ ?_
 ·rintro i x σ H' hx ⟨s2,p2,a1,a2,a3,a4,a5,rfl,hp2,ep2⟩
  rw [List.getElem?_map] at hx
  obtain ⟨a,ea,rfl⟩:=Option.map_eq_some_iff.mp hx
  have hi:i < as.length:=(List.getElem?_eq_some_iff.mp ea).1
  have hi':i < rs.length:=by omega
  obtain ⟨dd,s,hra,hdd,A,hA⟩:=hR.2 i a _ ea (List.getElem?_eq_getElem hi')
  have et:=xm n0 rs t hi'
  have hA':=hA.same s2
  k_mem
  refine ⟨_,s2.tup hra,rfl,?_⟩
  k_mem
  split
  ·rename_i hb
   k_upd
   refine fgo hA'.ob T.aK T.aW rfl ?_
   k_mem
   obtain ⟨dy2,hyb2⟩:=hA'.ya.ob
   k_upd
   refine ⟨_,_,hyb2,rfl,_,_,_,_,_,_,rfl,hA'.ya,fun p3 hp3=>?_⟩
   k_mem
   refine ⟨s2.lay hp3,p3,_,_,_,_,_,rfl,s2.free hp3,?_⟩
   rw [et,ag]
   unfold lM
   k_upd
   rw [if_pos hb]
  ·rename_i hb
   k_upd
   refine ⟨s2,p2,_,_,_,_,_,rfl,hp2,?_⟩
   rw [et,ep2]
   unfold lM
   k_upd
   rw [if_neg hb]
 ·rintro σ H' ⟨s2,p2,a1,a2,a3,a4,a5,rfl,hp2,ep2⟩
  k_mem
  rw [List.length_map,hl,List.take_length] at ep2
  k_upd
  exact q1 ht p2 H' hp2 s2 ep2
variable (lz:KM P w K mg base (CXf P w) 3 Z.mi "spots_at" (gf K Z))
inductive jO (K:W.Frag)(Z:Adr)(vs:List V)(H:Hp)(Q:VK)(E:XK):Prop | mk (x dx d c l:Addr) (ds:List Int) (ls:List Cd) (lds:List Ld) (slow fast:Int) (N:Addr->Prop):vs=[.ref x,.ref d,.ref c,.int slow,.int fast,.ref l]->H x=some (.ins Z.bb dx [])->SqL K H d (ds.map V.int)->jn cdV K H c ls->eM K H l lds->ds.length<=1000->ls.length<=1000->lds.length<=1000->((∀p,N p->∃ys,H p=some (.lst ys)))->((¬bP ds->E (.ref Z.j9) none H))->((bP ds->¬((ls.length:Int)=(ds.length:Nat)/\∀x∈ls,dM x)->E (.ref Z.me) none H))->((bP ds->((ls.length:Int)=(ds.length:Nat)/\∀x∈ls,dM x)->¬(1<=slow/\slow<=fast/\fast<=500)->E (.ref Z.ka) none H))->((bP ds->((ls.length:Int)=(ds.length:Nat)/\∀x∈ls,dM x)->(1<=slow/\slow<=fast/\fast<=500)->¬(lds.length<=30/\∀x∈lds,hG (ds.length:Nat) x)->E (.ref Z.md) none H))->((bP ds->((ls.length:Int)=(ds.length:Nat)/\∀x∈ls,dM x)->(1<=slow/\slow<=fast/\fast<=500)->(lds.length<=30/\∀x∈lds,hG (ds.length:Nat) x)->∀bk rl H',aB x H H'->H rl=none->WAt (clZ Z) K H' x bk rl (fh ds ls slow fast lds N) (cE ds ls lds) []->Q .non H'))->jO K Z vs H Q E
include T jg gU mq mv eO r9 nN nO in
theorem vF:FF P w K mg base (CXf P w) 3 "__init__" "Works.__init__" kJ pM (jO K Z):=fkF jy fun vs H Q E h=>by
 obtain ⟨x,dx,d,c,l,ds,ls,lds,slow,fast,N,rfl,hx,hD,hC,hL,n1,n2,n3,hN,q1,q2,q3,q4,q5⟩:=h
 k_all
 refine ⟨_,ae (a6 (dc mq hr.dn bg (pa1 (pv' 1)))) (ae (a6 (dc nO hr.dn bg (pa2 (pv' 2) (aE ax (by rfl) T.bQ a7 (pa1 (pv' 1)))))) (ae (a6 (dc mv hr.dn bg (pa2 (pv' 3) (pv' 4)))) (ae (a6 (dc nN hr.dn bg (pa2 (pv' 5) (aE ax (by rfl) T.bQ a7 (pa1 (pv' 1)))))) (ae (bG (pv' 0) (bh bW (by rfl) T.eC cW (pa1 (pv' 1))) rfl) (ae (bG (pv' 0) (pv' 3) rfl) (ae (bG (pv' 0) (pv' 4) rfl) (ae (bG (pv' 0) (mY ["kind","level","goal"] [none,none,none] (cA (pv' 5)) (fun _ _ _ _=>(show PG _ _ (rJ K 3 _) from fA (n:=3) rfl (aH (aF (i:=0) (show (["kind","level","goal"]:List Str).Nodup by decide +kernel) rfl orL) (aH (aF (i:=1) (show (["kind","level","goal"]:List Str).Nodup by decide +kernel) rfl orL) (aH (aF (i:=2) (show (["kind","level","goal"]:List Str).Nodup by decide +kernel) rfl orL) c9))))) (fun _ _ _ _=>gh) (fun _ _ _ _=>(pv' 2))) rfl) (ae (AI ["depth"] [none] (iy:=6) jy.nd rfl rfl (cA (pv' 1)) (fun _ _ _ _=>(aF (i:=0) (show (["depth"]:List Str).Nodup by decide +kernel) rfl orL)) (fun _ _ _ _=>gh) (fun _ _ _ _=>eF)) (ae (aD (i:=7) jy.nd rfl orL (dn eO hr.dn T.uz bj (pa4 (ao au (pv' 1) af) (pv' 6) (dn gU hr.dn T.A5 bj (pa1 (pv' 2))) (dn jg hr.dn T.El bj (pa2 (pv' 5) (aE ax (by rfl) T.bQ a7 (pa1 (pv' 1)))))))) (ah (bG (pv' 0) (dn r9 hr.dn T.IL bj (pa2 (pv' 7) (cZ (by rfl) T.xy))) rfl))))))))))),?_⟩
 k_mem
 refine ⟨d,ds,rfl,hD,by omega,fun sh=>?_,q1⟩
 k_mem
 refine ⟨_,.inl hD,?_⟩
 rw [List.length_map]
 refine ⟨c,ls,_,rfl,hC,fun h2=>?_,q2 sh⟩
 k_mem
 refine ⟨_,_,rfl,?_⟩
 by_cases h3:1<=slow/\slow<=fast/\fast<=500
 case neg=>rw [if_neg h3];exact q3 sh h2 h3
 rw [if_pos h3]
 k_mem
 refine ⟨_,.inl hD,?_⟩
 rw [List.length_map]
 refine ⟨l,lds,_,rfl,hL,fun h4=>?_,q4 sh h2 h3⟩
 replace q5:=q5 sh h2 h3 h4
 clear q1 q2 q3 q4
 k_mem
 refine ⟨_,.inl hD,fun dl hdl=>⟨_,_,_,upo hx hdl,T.aT,T.cz,by decide,_,_,_,ag,T.aT,T.nK,by show 1 < 1000;decide,_,_,_,ag,T.aT,T.nL,by show 2 < 1000;decide,?_⟩⟩
 have ndx:dl≠x:=fun z=>by rw [z,hx] at hdl;cases hdl
 have k1:L2.aB x H (upd (upd (upd (upd H dl (HO.lst (ds.map V.int))) x (HO.ins Z.bb dx (ba "depths" (.ref dl) []))) x (HO.ins Z.bb dx (ba "slow" (.int slow) (ba "depths" (.ref dl) [])))) x (HO.ins Z.bb dx (ba "fast" (.int fast) (ba "slow" (.int slow) (ba "depths" (.ref dl) []))))):=(((aB.of ((av.refl H).lay hdl)).put).put).put
 have hx1:upd (upd (upd (upd H dl (HO.lst (ds.map V.int))) x (HO.ins Z.bb dx (ba "depths" (.ref dl) []))) x (HO.ins Z.bb dx (ba "slow" (.int slow) (ba "depths" (.ref dl) [])))) x (HO.ins Z.bb dx (ba "fast" (.int fast) (ba "slow" (.int slow) (ba "depths" (.ref dl) [])))) x=some (HO.ins Z.bb dx [("depths",.ref dl),("slow",.int slow),("fast",.int fast)]):=by rw [ag];rfl
 have hd1:upd (upd (upd (upd H dl (HO.lst (ds.map V.int))) x (HO.ins Z.bb dx (ba "depths" (.ref dl) []))) x (HO.ins Z.bb dx (ba "slow" (.int slow) (ba "depths" (.ref dl) [])))) x (HO.ins Z.bb dx (ba "fast" (.int fast) (ba "slow" (.int slow) (ba "depths" (.ref dl) [])))) dl=some (HO.lst (ds.map V.int)):=by rw [aG ndx,aG ndx,aG ndx,ag]
 generalize upd (upd (upd (upd H dl (HO.lst (ds.map V.int))) x (HO.ins Z.bb dx (ba "depths" (.ref dl) []))) x (HO.ins Z.bb dx (ba "slow" (.int slow) (ba "depths" (.ref dl) [])))) x (HO.ins Z.bb dx (ba "fast" (.int fast) (ba "slow" (.int slow) (ba "depths" (.ref dl) []))))=H1 at *
 obtain ⟨asL,hLs,hLt⟩:=id hL
 refine ⟨⟨_,hLs.keepI k1 hx⟩,qI (fun y=>.int y.2.2) (hL.keepI k1 hx) (by rw [sizeLine_eq];omega) rfl (fun y _ M hM=>by k_mem;exact hM) fun gl hgl=>?_⟩
 k_mem
 refine ⟨_,_,_,upo hx1 hgl,T.aT,T.ml,by show 3 < 1000;decide,?_⟩
 have ngx:gl≠x:=fun z=>by rw [z,hx1] at hgl;cases hgl
 have ngd:dl≠gl:=ak hd1 hgl
 have k2:L2.aB x H1 (upd (upd H1 gl (HO.lst (lds.map fun y=>V.int y.2.2))) x (HO.ins Z.bb dx (ba "goals" (.ref gl) [("depths",.ref dl),("slow",.int slow),("fast",.int fast)]))):=(aB.of ((av.refl H1).lay hgl)).put
 have hx2:upd (upd H1 gl (HO.lst (lds.map fun y=>V.int y.2.2))) x (HO.ins Z.bb dx (ba "goals" (.ref gl) [("depths",.ref dl),("slow",.int slow),("fast",.int fast)])) x=some (HO.ins Z.bb dx [("depths",.ref dl),("slow",.int slow),("fast",.int fast),("goals",.ref gl)]):=by rw [ag];rfl
 have hg2:upd (upd H1 gl (HO.lst (lds.map fun y=>V.int y.2.2))) x (HO.ins Z.bb dx (ba "goals" (.ref gl) [("depths",.ref dl),("slow",.int slow),("fast",.int fast)])) gl=some (HO.lst ((lds.map (·.2.2)).map V.int)):=by rw [aG ngx,ag,List.map_map];rfl
 generalize upd (upd H1 gl (HO.lst (lds.map fun y=>V.int y.2.2))) x (HO.ins Z.bb dx (ba "goals" (.ref gl) [("depths",.ref dl),("slow",.int slow),("fast",.int fast)]))=H2 at *
 have k12:=k1.trans k2
 have hd2:=k2 _ _ ndx hd1
 refine ⟨⟨_,hD.keepI k12 hx⟩,?_⟩
 refine rG (fun _=>true) (fun _=>V.bl false) (hD.keepI k12 hx) (by rw [List.length_map,sizeLine_eq];omega) rfl (fun y _ M hM=>by k_mem;exact hM) (fun y _ _ M hM=>by k_mem;exact hM) fun sh1 hsh1=>?_
 have es:((ds.map V.int).filter fun _=>true).map (fun _=>V.bl false)=(ds.map fun _=>false).map V.bl:=by
  rw [List.filter_eq_self.mpr (by simp),List.map_map,List.map_map];rfl
 rw [es]
 have f3:=(av.refl H2).lay (o:=HO.lst ((ds.map fun _=>false).map V.bl)) hsh1
 have hs3:upd H2 sh1 (HO.lst ((ds.map fun _=>false).map V.bl)) sh1=some (HO.lst ((ds.map fun _=>false).map V.bl)):=ag
 generalize upd H2 sh1 (HO.lst ((ds.map fun _=>false).map V.bl))=H3 at *
 have k13:L2.aB x H H3:=k12.trans (aB.of f3)
 have sl2:=sh.l2
 k_mem
 refine ⟨_,hD.keepI k13 hx,_,cX (k:=0) (by omega) (by omega),?_⟩
 k_mem
 refine fun b db hb hdb nbd=>?_
 have hb':upd H3 db (.own b) b=none:=by rw [aG (Ne.symm nbd)];exact hb
 refine ⟨b,db,c,ls,rfl,ag,(hC.keepI k13 hx).same (((av.refl H3).lay hdb).lay hb'),n2,fun cs fl st H4 hcs hfl kp hB=>⟨rfl,?_⟩⟩
 have f4:=gn hb hdb kp
 have fcs:=fu hcs
 have ffl:=fu hfl
 clear kp hcs hfl
 have f34:=f3.trans f4
 have k14:L2.aB x H H4:=k13.trans (aB.of f4)
 k_mem
 refine ⟨_,.inl (hD.keepI k14 hx),?_⟩
 rw [List.length_map]
 refine fun y dy hy hdy nyd=>?_
 have hy':upd H4 dy (.own y) y=none:=by rw [aG (Ne.symm nyd)];exact hy
 refine ⟨y,dy,l,lds,_,rfl,ag,(hL.keepI k14 hx).same (((av.refl H4).lay hdy).lay hy'),n3,fun kn wh H5 hkn hwh nkw kp hY=>⟨rfl,?_⟩⟩
 have f5:=gn hy hdy kp
 have fkn:=fu hkn
 have fwh:=fu hwh
 clear kp hkn hwh
 k_mem
 refine fun s ds1 hs hds1 nsd=>?_
 have hs':upd H5 ds1 (.own s) s=none:=by rw [aG (Ne.symm nsd)];exact hs
 refine ⟨s,ds1,sh1,b,y,ds.getD 0 0,ds.map fun _=>false,rfl,ag,(((av.refl H5).lay hds1).lay hs').seq (SqL.of (f5 _ _ (f4 _ _ hs3))),fun ol H6 hol kp hob6 hol6=>⟨rfl,?_⟩⟩
 have f6:=gn hs hds1 kp
 have fol:=fu hol
 clear kp hol
 k_mem
 refine fun bk dbk hbk hdbk nbk=>?_
 refine ⟨bk,dbk,s,rfl,ag,fun rl H7 hrl kp hob7 hrl7=>⟨rfl,?_⟩⟩
 have f7:=gn hbk hdbk kp
 have frl:=fu hrl
 clear kp hrl
 have f26:=(f3.trans f4).trans (f5.trans f6)
 have f27:=f26.trans f7
 have hx7:=f27 _ _ hx2
 k_mem
 refine ⟨_,_,_,hx7,T.aT,T.aZ,by show 4 < 1000;decide,?_⟩
 have k8:L2.aB x H7 (upd H7 x (HO.ins Z.bb dx (ba "log" (.ref bk) [("depths",.ref dl),("slow",.int slow),("fast",.int fast),("goals",.ref gl)]))):=(aB.of (av.refl H7)).put
 have hx8:upd H7 x (HO.ins Z.bb dx (ba "log" (.ref bk) [("depths",.ref dl),("slow",.int slow),("fast",.int fast),("goals",.ref gl)])) x=some (HO.ins Z.bb dx [("depths",.ref dl),("slow",.int slow),("fast",.int fast),("goals",.ref gl),("log",.ref bk)]):=by rw [ag];rfl
 generalize upd H7 x (HO.ins Z.bb dx (ba "log" (.ref bk) [("depths",.ref dl),("slow",.int slow),("fast",.int fast),("goals",.ref gl)]))=H8 at *
 have frx:∀z,H6 z=none->H z=none:=fun z hz=>by
  by_cases e:z=x
  ·subst e;rw [f26 _ _ hx2] at hz;cases hz
  ·exact k12.free e (f26.free hz)
 obtain ⟨_,⟨asc,oc4,_⟩,of4,_,ncf,_⟩:=id hB
 obtain ⟨_,okn5,owh5⟩:=id hY
 have hsx:s≠x:=fun z=>by rw [z] at hs;rw [f5 _ _ (f34 _ _ hx2)] at hs;cases hs
 have hbx:b≠x:=fun z=>by rw [z] at hb;rw [f3 _ _ hx2] at hb;cases hb
 have hyx:y≠x:=fun z=>by rw [z] at hy;rw [f34 _ _ hx2] at hy;cases hy
 have hbkx:bk≠x:=fun z=>by rw [z] at hbk;rw [f26 _ _ hx2] at hbk;cases hbk
 have f46:=f5.trans f6
 have hN6:∀p,N p->∃ys,H6 p=some (.lst ys):=fun p hp=>by
  obtain ⟨ys,e⟩:=hN p hp
  exact ⟨ys,f26 _ _ (k12 _ _ (fun z=>by rw [z,hx] at e;cases e) e)⟩
 have hNn:∀p,N p->∀z,H z=none->z≠p:=fun p hp z hz e=>by
  obtain ⟨ys,e'⟩:=hN p hp
  rw [←e,hz] at e';cases e'
 have fr3:∀z,z≠x->H3 z=none->H z=none:=fun z e hz=>k13.free e hz
 have nx3:∀z,H3 z=none->z≠x:=fun z hz e=>by rw [e,f3 _ _ hx2] at hz;cases hz
 have gcs:=fr3 cs (nx3 cs fcs) fcs
 have gfl:=fr3 fl (nx3 fl ffl) ffl
 have gkn:=fr3 kn (nx3 kn (f4.free fkn)) (f4.free fkn)
 have gwh:=fr3 wh (nx3 wh (f4.free fwh)) (f4.free fwh)
 have gol:=fr3 ol (nx3 ol (f4.free (f5.free fol))) (f4.free (f5.free fol))
 have cs5:=f5 _ _ oc4
 have fl5:=f5 _ _ of4
 have hst:aQ (clZ Z) K H7 rl (fh ds ls slow fast lds N) s ⟨ds1,ol,b,cs,fl,st,y,kn,wh⟩ (cE ds ls lds):=
  ⟨f7 _ _ hob6,f7 _ _ hol6,((hB.same f5).same f6).same f7,(hY.same f6).same f7,
   ⟨ak hol6 frl,ak (f6 _ _ cs5) frl,ak (f6 _ _ fl5) frl,ak (f6 _ _ okn5) frl,ak (f6 _ _ owh5) frl,
   ak cs5 fol,ak fl5 fol,ak okn5 fol,ak owh5 fol,
   (ak fl5 fol).symm,(ak of4 fkn).symm,(ak of4 fwh).symm,
   (ak owh5 fol).symm,ak oc4 fwh,ak of4 fwh,nkw⟩,
   ⟨fun p hp=>by obtain ⟨ys,e⟩:=hN6 p hp;exact ⟨ys,f7 _ _ e⟩,fun p hp=>hNn p hp rl (frx rl frl),fun p hp=>hNn p hp ol gol,fun p hp=>hNn p hp cs gcs,fun p hp=>hNn p hp fl gfl,fun p hp=>hNn p hp kn gkn,fun p hp=>hNn p hp wh gwh⟩⟩
 have hst8:=hst.keepI k8 hx7 hsx hbx hyx
 have nrx:rl≠x:=fun z=>by rw [z] at frl;rw [f26 _ _ hx2] at frl;cases frl
 refine q5 bk rl H8 ((k12.trans (aB.of f27)).trans k8) (frx rl frl) ⟨⟨dx,dl,gl,hx8,k8 _ _ ndx (f27 _ _ hd2),k8 _ _ ngx (f27 _ _ hg2),ak (f26 _ _ hd2) frl,ak (f26 _ _ hg2) frl,fun p hp=>hNn p hp dl hdl,fun p hp=>hNn p hp gl (k1.free ngx hgl)⟩,⟨dbk,s,k8 _ _ hbkx hob7,hst8.at⟩,[],k8 _ _ nrx hrl7,rfl,fun i a r e=>by simp at e⟩
variable (qh:KN P w K mg base (CXf P w) 3 Z.bb (jO K Z))
def sv (Z:Adr)(K:W.Frag)(H:Hp)(w bk rl:Addr)(g:Cfg)(n0:aI)(rs:List Row)(d:Dd)(Q:VK)(E:XK):Prop:=
 (300<=rs.length->∀H',av H H'->E (.ref Z.iF) none H')/\(rs.length < 300->∀H',aB rl H H'->WAt (clZ Z) K H' w bk rl g n0 (rs++[eH g n0 rs d])->Q (.int (bC rs+cL g (ai n0 rs) d)) H')
inductive iS (K:W.Frag)(Z:Adr)(vs:List V)(H:Hp)(Q:VK)(E:XK):Prop | mk (w bk rl:Addr) (g:Cfg) (n0:aI) (rs:List Row) (dd s:Addr) (tk:Int) (dv:List V) (n:aI):vs=[.ref w,.ref dd,.int tk,.ref s]->WAt (clZ Z) K H w bk rl g n0 rs->SqT K H dd dv->dF (clZ Z) K H rl g s n->g.ks.length=n.ws.length->((300<=rs.length->∀H',av H H'->E (.ref Z.iF) none H'))->((rs.length < 300->∀H',aB rl H H'->WAt (clZ Z) K H' w bk rl g n0 (rs++[⟨bC rs,bC rs+tk,dv,bu g n,n⟩])->Q (.int (bC rs+tk)) H'))->iS K Z vs H Q E
include T p9 dk sk in
theorem uR:FF P w K mg base (CXf P w) 3 "write" "Works.write" jA nA (iS K Z):=fkF ud fun vs H Q E h=>by
 obtain ⟨w,bk,rl,g,n0,rs,dd,s0,tk,dv,n,rfl,hW,hD,hS,hl,q1,q2⟩:=h
 k_all
 refine seg 1 (ah (aw (dP (pv' 0) sk hr.dn bj))) fun zt1 zh1 ze1=>?_
 refine ⟨_,ae (a6 (dm' (az (pv' 0)) p9 hr.dn bg (pa4 (pv' 1) (pv' 2) (dm' (pv' 0) dk hr.dn bj (pa1 (pv' 3))) (pv' 3)))) zh1,?_⟩
 obtain ⟨⟨dx,dl,gl,hob,hdl,hgl,n1,n2⟩,hB⟩:=id hW
 obtain ⟨⟨db,f0,hbo,hF⟩,as,hrl,hR⟩:=id hB
 k_mem
 refine fgo hob T.aT T.aZ rfl ?_
 k_mem
 refine mgo hbo rfl (mgo hob rfl ⟨_,_,_,_,_,_,_,_,rfl,hW,hS,hl,fun H1 s1=>?_⟩)
 k_mem
 refine ⟨bk,rl,dd,s0,g,n0,n,rs,tk,bu g n,dv,rfl,hB.same s1,s1.tup hD,hS.same s1,fun h=>q1 h H1 s1,fun h H2 k2 hB2=>?_⟩
 k_mem
 have k1:L2.aB rl H H2:=(aB.of s1).trans k2
 have hW2:WAt (clZ Z) K H2 w bk rl g n0 _:=(hW.same s1).keep k2 (s1 _ _ hrl) hB2
 obtain ⟨dx2,_,_,hob2,_⟩:=id hW2.ob
 k_upd
 refine mgo hob2 rfl ⟨_,_,_,_,_,_,rfl,hW2,?_⟩
 rw [dw]
 k_upd
 exact q2 h H2 k1 hW2
variable (bf:KM P w K mg base (CXf P w) 3 Z.bb "write" (iS K Z))
inductive dS (K:W.Frag)(Z:Adr)(vs:List V)(H:Hp)(Q:VK)(E:XK):Prop | mk (w bk rl:Addr) (g:Cfg) (n0:aI) (rs:List Row) (pl:Int):vs=[.ref w,.int pl]->WAt (clZ Z) K H w bk rl g n0 rs->0 < g.ds.length->(∀p,H p=none->Q (.ref p) (upd H p (.tup [.int pl,.int (bS g.ds - pl)])))->dS K Z vs H Q E
include T dA in
theorem mF:FF P w K mg base CX0 3 "both_places" "Works.both_places" eB gM (dS K Z):=fk0 l9 fun vs H Q E h=>by
 obtain ⟨w,bk,rl,g,n0,rs,pl,rfl,hW,hn,q⟩:=h
 k_all
 refine ⟨_,ah (aw (aP (pa2 (pv' 1) (dc0 dA hr.dn (pa2 (az (pv' 0)) (pv' 1)))))),?_⟩
 obtain ⟨⟨dx,dl,gl,hob,hdl,hgl,n1,n2⟩,hB⟩:=id hW
 obtain ⟨⟨db,f0,hbo,hF⟩,as,hrl,hR⟩:=id hB
 k_mem
 refine fgo hob T.aT T.cz rfl ?_
 k_mem
 refine ⟨_,_,_,rfl,SqL.of hdl,hn,?_⟩
 k_mem
 exact ⟨by decide,q⟩
variable (gN:KM P w K mg base CX0 3 Z.bb "both_places" (dS K Z))
theorem B0 {x y z i:Int}(h0:0<=i)(h2:i<=2):atI [V.int x,V.int y,V.int z] i=some (.int (if i=0 then x else if i=1 then y else z)):=by
 rcases (by omega:i=0\/i=1\/i=2) with rfl | rfl | rfl<;>rfl
inductive oM (K:W.Frag)(Z:Adr)(vs:List V)(H:Hp)(Q:VK)(E:XK):Prop | mk (a:Addr) (ns:List Int):vs=[.ref a]->SqL K H a (ns.map V.int)->(∀(p dl cl:Addr) (ds:List Int) (as:List Addr) (ls:List Cd) (slow fast:Int) (H':Hp),av H H'->H p=none->H dl=none->H cl=none->dl≠cl->H' p=some (.lst [.ref dl,.ref cl,.int slow,.int fast])->H' dl=some (.lst (ds.map V.int))->bP ds->H' cl=some (.lst (as.map V.ref))->cG cdV K H' as ls->ls.length=ds.length->(∀x∈ls,dM x)->(1<=slow/\slow<=fast/\fast<=500)->Q (.ref p) H')->oM K Z vs H Q E
include T rj bM uM wD in
theorem Ak:FF P w K mg base CX0 3 "_law_shaft" "_law_shaft" j7 wm (oM K Z):=fk0 eV fun vs H Q E h=>by
 obtain ⟨a,ns,rfl,hS,q⟩:=h
 k_all
 obtain ⟨t1,h1,k1⟩:∃t,PSs (nU CX0 P w K mg base ["_law_script","_law_depths_here","_law_codes_here","_law_cell","_law_slow","_law_fast"] "_law_shaft" (aj j7) zf zv zA zo zs H E).nox ((bN j7).drop 4) t/\∀(dl cl:Addr) (ds:List Int) (as:List Addr) (ls:List Cd) (c slow:Int) (H1:Hp),av H H1->H dl=none->H cl=none->dl≠cl->H1 dl=some (.lst (ds.map V.int))->bP ds->H1 cl=some (.lst (as.map V.ref))->cG cdV K H1 as ls->ls.length=ds.length->(∀x∈ls,dM x)->1<=slow->slow<=500->t ({nx:=fun _ H2=>Q .non H2,rt:=Q}:jU) [some (.ref a),some (.ref dl),some (.ref cl),some (.int c),some (.int slow),none] H1:=by
  refine ⟨_,ae (aJ (bw (dc0 bM hr.dn (pa3 (pv' 3) af af)) af) (ah (aD (i:=4) eV.nd rfl orL af)) (aA)) (ae (aD (i:=5) eV.nd rfl orL (ao au (bX (pa3 (pv' 4) af (aO aU (pv' 4) (dc0 bM hr.dn (pa3 (pv' 3) af (aO dG af (pv' 4))))))) (aE (nZ rfl) (by rfl) T.Ei zk (pa2 af (dc0 bM hr.dn (pa3 (pv' 3) af af)))))) (ah (aw (bX (pa4 (pv' 1) (pv' 2) (pv' 4) (pv' 5)))))),?_⟩
  intro dl cl ds as ls c slow H1 s1 fd fc ndc hdl hsh hcl hT hlen hg h1 h5
  k_mem
  refine ⟨c,4,16,rfl,by omega,by omega,by omega,fun r4 h40 h41=>?_⟩
  k_mem
  split
  all_goals
   refine ⟨c,2,_,rfl,by omega,by omega,by omega,fun r2 h20 h21=>⟨by decide,fun p1 hp1=>⟨c,3,8,rfl,by omega,by omega,by omega,fun r3 h30 h31=>?_⟩⟩⟩
   k_mem
   refine ⟨_,SqL.of ag,_,B0 (by split<;>omega) (by split<;>omega),by decide,fun p2 hp2=>?_⟩
   refine q p2 dl cl ds as ls _ _ _ (s1.trans (((av.refl H1).lay hp1).lay hp2)) (s1.free (upn hp2)) fd fc ndc ag (upo (upo hdl hp1) hp2) hsh (upo (upo hcl hp1) hp2) (hT.same (((av.refl H1).lay hp1).lay hp2)) hlen hg ⟨by omega,?_,?_⟩
   ·(repeat' split)<;>omega
   ·(repeat' split)<;>omega
 refine ⟨_,ae (aD (i:=1) eV.nd rfl orL (dc0 uM hr.dn (pa1 (dc0 rj hr.dn (pa2 (pv' 0) af))))) (ae (aD (i:=2) eV.nd rfl orL (dc0 wD hr.dn (pa2 (dc0 rj hr.dn (pa2 (pv' 0) af)) (aE ax (by rfl) T.bQ a7 (pa1 (pv' 1)))))) (ae (aD (i:=3) eV.nd rfl orL (dc0 rj hr.dn (pa2 (pv' 0) af))) (ae (aD (i:=4) eV.nd rfl orL (aO aU af (dc0 bM hr.dn (pa3 (pv' 3) af (ao au (bX (pa2 af af)) (dc0 bM hr.dn (pa3 (pv' 3) af af))))))) h1))),?_⟩
 k_mem
 refine ⟨a,ns,1,rfl,hS,by omega,?_⟩
 k_mem
 refine ⟨_,rfl,fun dl ds H1 hdn s1 hdl hsh=>?_⟩
 have l2:=hsh.l2
 have l6:=hsh.l6
 k_mem
 refine ⟨a,ns,2,rfl,s1.seq hS,by omega,?_⟩
 k_mem
 refine ⟨_,.inl (SqL.of hdl),?_⟩
 rw [List.length_map]
 refine ⟨_,_,rfl,by omega,by omega,fun cl as ls H2 hcn s2 hcl hT hlen hg=>?_⟩
 have ndc:dl≠cl:=ak hdl hcn
 k_mem
 refine ⟨a,ns,3,rfl,(s1.trans s2).seq hS,by omega,?_⟩
 k_mem
 refine ⟨by decide,fun p hp=>⟨_,0,2,rfl,by omega,by omega,by omega,fun r0 h00 h01=>?_⟩⟩
 have e0:∃m:Int,(m=30\/m=500)/\atI [V.int 30,V.int 500] r0=some (.int m):=E1 (x:=30) (y:=500) (by omega)
 obtain ⟨m,hm,em⟩:=e0
 k_mem
 refine ⟨_,SqL.of ag,_,em,_,1,m,rfl,by omega,by omega,by omega,fun r1 h10 h11=>?_⟩
 k_mem
 have sx:=(av.refl H2).lay (o:=HO.lst [V.int 30,V.int 500]) hp
 exact k1 dl cl ds as ls _ _ _ ((s1.trans s2).trans sx) hdn (s1.free hcn) ndc (sx _ _ (s2 _ _ hdl)) hsh (sx _ _ hcl) (hT.same sx) (by omega) hg (by omega) (by omega)
variable (wH:KD P w K mg base CX0 3 "_law_shaft" (oM K Z))
inductive iT (K:W.Frag)(Z:Adr)(vs:List V)(H:Hp)(Q:VK)(E:XK):Prop | mk (p dl cl ll sl:Addr) (g:Cfg) (lds:List Ld) (n0:aI) (rs:List Row) (c:Int):vs=[.ref p,.ref sl,.int c]->dW K H p dl cl ll g lds->cH g->bR g (ai n0 rs)->((∃as:List Addr,H sl=some (.lst (as.map V.ref))/\fP (ie K H) as (ig n0 rs)))->((∀dd d H',av H H'->SqT K H' dd (ddV d)->qC d->dD g (ai n0 rs) d=none->Q (.ref dd) H'))->((rs≠[]->∀dd H',av H H'->SqT K H' dd [.str "take back"]->Q (.ref dd) H'))->iT K Z vs H Q E
include T kb ke in
theorem uS:FF P w K mg base CX0 3 "_law_good_deed" "_law_good_deed" bK nD (iT K Z):=fk0 fH fun vs H Q E h=>by
 obtain ⟨p,dl,cl,ll,sl,g,lds,n0,rs,c,rfl,hP,hg,hn,⟨as,hsl,hA⟩,q,qb⟩:=h
 k_all
 obtain ⟨t4,h4,k4⟩:∃t,PSs (nU CX0 P w K mg base ["_law_setup_here","_law_states","_law_cell","_law_state","_law_rest","_law_level"] "_law_good_deed" (aj bK) zf zv zA zo zs H E).nox ((bN bK).drop 8) t/\∀(a:Addr) (lv:Int),ie K H a (ai n0 rs,bC rs)->0<=lv->lv < g.ds.length->t ({nx:=fun _ H2=>Q .non H2,rt:=Q}:jU) [some (.ref p),some (.ref sl),some (.int c),some (.ref a),some (.int (c / 12)),some (.int lv)] H:=by
  refine ⟨_,ah (aw (ao au (bX (pa2 (aP (pa2 aC (pv' 5))) (aP (pa2 aC (pv' 5))))) (bh eQ (by rfl) T.nJ jl (pa1 (ao aq (ao aq (pv' 3) af) (pv' 5)))))),?_⟩
  intro a lv hSt v0 v1
  obtain ⟨gt,lt,ht,dt,h1,h2,h3,h4,h5⟩:=hSt.un
  have gl:=hn.gl
  k_mem
  refine ⟨by decide,fun p2 hp2=>⟨by decide,fun p3 hp3=>⟨by decide,fun p4 hp4=>?_⟩⟩⟩
  have f4:=(((av.refl H).lay (o:=HO.tup [V.str (Str.ofString "open"),V.int lv]) hp2).lay (o:=HO.tup [V.str (Str.ofString "shut"),V.int lv]) hp3).lay (o:=HO.lst [V.ref p2,V.ref p3]) hp4
  have e2:upd (upd (upd H p2 (HO.tup [V.str (Str.ofString "open"),V.int lv])) p3 (HO.tup [V.str (Str.ofString "shut"),V.int lv])) p4 (HO.lst [V.ref p2,V.ref p3]) p2=some (HO.tup [V.str (Str.ofString "open"),V.int lv]):=upo (upo ag hp3) hp4
  have e3:upd (upd (upd H p2 (HO.tup [V.str (Str.ofString "open"),V.int lv])) p3 (HO.tup [V.str (Str.ofString "shut"),V.int lv])) p4 (HO.lst [V.ref p2,V.ref p3]) p3=some (HO.tup [V.str (Str.ofString "shut"),V.int lv]):=upo ag hp4
  have e4:upd (upd (upd H p2 (HO.tup [V.str (Str.ofString "open"),V.int lv])) p3 (HO.tup [V.str (Str.ofString "shut"),V.int lv])) p4 (HO.lst [V.ref p2,V.ref p3]) p4=some (HO.lst [V.ref p2,V.ref p3]):=ag
  generalize upd (upd (upd H p2 (HO.tup [V.str (Str.ofString "open"),V.int lv])) p3 (HO.tup [V.str (Str.ofString "shut"),V.int lv])) p4 (HO.lst [V.ref p2,V.ref p3])=H3 at *
  k_upd
  refine ⟨_,f4.tup h1,_,rfl,?_⟩
  k_mem
  refine ⟨_,f4.tup h2,_,km v0 (by omega),?_⟩
  k_mem
  refine ⟨_,SqL.of e4,_,AZ,?_⟩
  by_cases hb:(ai n0 rs).gates.getD lv.toNat false=true
  ·rw [if_pos hb]
   k_upd
   exact q p3 (.sht lv) _ f4 (SqT.of e3) trivial (kr v0 v1 hb)
  ·rw [if_neg hb]
   k_upd
   exact q p2 (.opn lv) _ f4 (SqT.of e2) trivial (nY v0 v1 (by simpa using hb))
 obtain ⟨t3,h3,k3⟩:∃t,PSs (nU CX0 P w K mg base ["_law_setup_here","_law_states","_law_cell","_law_state","_law_rest","_law_level"] "_law_good_deed" (aj bK) zf zv zA zo zs H E).nox ((bN bK).drop 7) t/\∀(a:Addr) (lv:Int),ie K H a (ai n0 rs,bC rs)->0<=lv->lv < g.ds.length->t ({nx:=fun _ H2=>Q .non H2,rt:=Q}:jU) [some (.ref p),some (.ref sl),some (.int c),some (.ref a),some (.int (c / 12)),some (.int lv)] H:=by
  refine ⟨_,ae (aJ (eP (bw (cu (pv' 2) af) af) (eP (bw (cu (pv' 4) af) af) (eL (v9 (aE ax (by rfl) T.bQ a7 (pa1 (pv' 1))) af)))).pt (ah (aw (aP (pa1 aC)))) (aA)) h4,?_⟩
  intro a lv hSt v0 v1
  obtain ⟨gt,lt,ht,dt,h1,h2,h3,h4,h5⟩:=hSt.un
  have hlen:=hA.1
  rw [vZ] at hlen
  k_mem
  split
  ·split
   ·k_upd
    refine ⟨_,.inl (SqL.of hsl),?_⟩
    rw [List.length_map]
    k_mem
    split
    ·rename_i hgt
     k_upd
     refine ⟨by decide,fun dd hdd=>?_⟩
     k_upd
     exact qb (fun z=>by rw [z] at hlen;simp only [List.length_nil] at hlen;omega) dd _ ((av.refl H).lay hdd) (SqT.of ag)
    ·exact k4 a lv hSt v0 v1
   ·exact k4 a lv hSt v0 v1
  ·exact k4 a lv hSt v0 v1
 obtain ⟨t2,h2,k2⟩:∃t,PSs (nU CX0 P w K mg base ["_law_setup_here","_law_states","_law_cell","_law_state","_law_rest","_law_level"] "_law_good_deed" (aj bK) zf zv zA zo zs H E).nox ((bN bK).drop 6) t/\∀(a:Addr) (lv:Int),ie K H a (ai n0 rs,bC rs)->0<=lv->lv < g.ds.length->t ({nx:=fun _ H2=>Q .non H2,rt:=Q}:jU) [some (.ref p),some (.ref sl),some (.int c),some (.ref a),some (.int (c / 12)),some (.int lv)] H:=by
  refine ⟨_,ae (aJ (eP (bw (cu (pv' 2) af) af) (eL (bw (ao aq (ao aq (pv' 3) af) af) aC))).pt (ah (aw (aP (pa2 aC (aO aU af (cu (pv' 4) af)))))) (aA)) h3,?_⟩
  intro a lv hSt v0 v1
  obtain ⟨gt,lt,ht,dt,h1,h2,h3,h4,h5⟩:=hSt.un
  k_mem
  split
  ·k_upd
   refine ⟨_,h1,_,rfl,?_⟩
   k_mem
   rcases J4 (ai n0 rs).e with ⟨l,rr,he⟩ | ⟨l,rr,he⟩ | ⟨w1,w2,w3,w4,he,na,nb⟩
   ·rw [he] at h4
    k_upd
    refine ⟨_,h4,_,rfl,?_⟩
    k_mem
    rw [if_pos rfl]
    k_upd
    refine ⟨by decide,fun dd hdd=>?_⟩
    k_upd
    exact q dd (.rept _) _ ((av.refl H).lay hdd) (SqT.of ag) trivial (rM he (by omega) (by omega))
   ·rw [he] at h4
    k_upd
    refine ⟨_,h4,_,rfl,?_⟩
    k_mem
    rw [if_neg (by decide)]
    exact k3 a lv hSt v0 v1
   ·rw [he] at h4
    k_upd
    refine ⟨_,h4,_,rfl,?_⟩
    k_mem
    rw [if_neg na]
    exact k3 a lv hSt v0 v1
  ·exact k3 a lv hSt v0 v1
 obtain ⟨t1,h1,k1⟩:∃t,PSs (nU CX0 P w K mg base ["_law_setup_here","_law_states","_law_cell","_law_state","_law_rest","_law_level"] "_law_good_deed" (aj bK) zf zv zA zo zs H E).nox ((bN bK).drop 5) t/\∀(a:Addr) (lv:Int),ie K H a (ai n0 rs,bC rs)->0<=lv->lv < g.ds.length->t ({nx:=fun _ H2=>Q .non H2,rt:=Q}:jU) [some (.ref p),some (.ref sl),some (.int c),some (.ref a),some (.int (c / 12)),some (.int lv)] H:=by
  refine ⟨_,ae (aJ (eP (bw (cu (pv' 2) af) af) (eL (dq gi (pv' 5) (ao aq (pv' 3) af) (by rfl)))).pt (ah (aw (ao au (bX (pa2 (aP (pa3 aC (pv' 5) (ao aq (ao au (ao au (pv' 0) af) (pv' 5)) (cu (kz (pv' 4) af) af)))) (aP (pa2 aC (pv' 5))))) (bh eQ (by rfl) T.nJ jl (pa1 (cB jo (cu (pv' 4) af) af (bV _))))))) (aA)) h2,?_⟩
  intro a lv hSt v0 v1
  obtain ⟨gt,lt,ht,dt,h1,h2,h3,h4,h5⟩:=hSt.un
  obtain ⟨hp,hdl,⟨bs,hcl,hT⟩,_,_⟩:=id hP
  have gl:=hn.gl
  have fl:=hn.fl
  have ed:inV (V.int lv) ((c7 (ai n0 rs).fs).map V.int)=(ai n0 rs).fs.getD lv.toNat false:=by
   rw [o9,Bool.eq_iff_iff,decide_eq_true_eq,jX]
   k_upd
   exact ⟨fun z=>z.2.2,fun z=>⟨v0,by omega,z⟩⟩
  k_mem
  split
  ·k_upd
   refine ⟨_,h1,_,rfl,?_⟩
   k_mem
   refine ⟨_,.inr h5,rfl,by simp [bY],?_⟩
   rw [ed]
   k_mem
   split
   ·rename_i hf
    obtain ⟨ra,era,hra⟩:=pd hT v0 (by rw [hg.lc];exact v1)
    k_upd
    refine ⟨_,SqL.of hp,_,rfl,?_⟩
    k_mem
    refine ⟨_,SqL.of hcl,_,era,?_⟩
    k_mem
    refine ⟨_,hra,_,two_deep (by omega) (by omega),?_⟩
    generalize hcd:(if c / 12 / 6 % 2=0 then (ft g.ls lv).fst else (ft g.ls lv).snd)=cd
    have hcd':cd=(ft g.ls lv).1\/cd=(ft g.ls lv).2:=by
     rw [←hcd]
     k_upd
     split
     ·exact .inl rfl
     ·exact .inr rfl
    k_upd
    refine ⟨by decide,fun p2 hp2=>⟨by decide,fun p3 hp3=>⟨by decide,fun p4 hp4=>?_⟩⟩⟩
    have f4:=(((av.refl H).lay (o:=HO.tup [V.str (Str.ofString "ring"),V.int lv,V.int cd]) hp2).lay (o:=HO.tup [V.str (Str.ofString "fail"),V.int lv]) hp3).lay (o:=HO.lst [V.ref p2,V.ref p3]) hp4
    k_upd
    refine ⟨_,SqL.of ag,_,AZ,?_⟩
    by_cases hb:c / 12 % 5=4
    ·rw [if_pos (decide_eq_true hb)]
     k_upd
     exact q p3 (.fail lv) _ f4 (SqT.of (upo ag hp4)) trivial (yk v0 v1 hf)
    ·rw [if_neg (by simpa using hb)]
     k_upd
     exact q p2 (.ring lv cd) _ f4 (SqT.of (upo (upo ag hp3) hp4)) trivial (rL v0 v1 hf hcd')
   ·exact k2 a lv hSt v0 v1
  ·exact k2 a lv hSt v0 v1
 refine seg 4 (ae (aJ (lP (cu (pv' 2) af) af) (ah (aw (dc0 ke hr.dn (pa3 (pv' 0) (pv' 3) (pv' 4))))) (aA)) h1) fun zt4 zh4 ze4=>?_
 refine seg 3 (ae (aJ (lP (cu (pv' 2) af) af) (ah (aw (dc0 kb hr.dn (pa3 (pv' 0) (pv' 3) (pv' 4))))) (aA)) zh4) fun zt3 zh3 ze3=>?_
 refine seg 2 (ae (aD (i:=5) fH.nd rfl orL (aO pB (pv' 4) (aE ax (by rfl) T.bQ a7 (pa1 (ao au (pv' 0) af))))) zh3) fun zt2 zh2 ze2=>?_
 refine seg 1 (ae (aD (i:=4) fH.nd rfl orL (kz (pv' 2) af)) zh2) fun zt1 zh1 ze1=>?_
 refine ⟨_,ae (aD (i:=3) fH.nd rfl orL (ao au (pv' 1) (jV dY af))) zh1,?_⟩
 obtain ⟨as1,a,rfl,hSt⟩:=Dh hA
 obtain ⟨hp,hdl,_,_,_⟩:=id hP
 have l2:=hg.sh.l2
 k_mem
 refine ⟨_,SqL.of hsl,_,mP,?_⟩
 k_mem
 refine ⟨_,SqL.of hp,_,rfl,?_⟩
 k_mem
 refine ⟨_,.inl (SqL.of hdl),by rw [List.length_map];omega,?_⟩
 rw [List.length_map]
 have v0:0<=c / 12 % (g.ds.length:Int):=Int.emod_nonneg _ (by omega)
 have v1:c / 12 % (g.ds.length:Int) < (g.ds.length:Int):=Int.emod_lt_of_pos _ (by omega)
 generalize c / 12 % (g.ds.length:Int)=lv at *
 k_mem
 split
 ·k_upd
  refine ⟨p,dl,cl,ll,a,g,lds,_,_,_,rfl,hP,hg,hn,hSt,fun dd d H1 s1 hd ok hr=>?_⟩
  k_upd
  exact q dd d H1 s1 hd ok hr
 k_upd
 split
 ·k_upd
  refine ⟨p,dl,cl,ll,a,g,lds,_,_,_,rfl,hP,hg,hn,hSt,fun dd d H1 s1 hd ok hr=>?_⟩
  k_upd
  exact q dd d H1 s1 hd ok hr
 exact k1 a lv hSt v0 v1
variable (gm:KD P w K mg base CX0 3 "_law_good_deed" (iT K Z))
inductive gg (K:W.Frag)(Z:Adr)(vs:List V)(H:Hp)(Q:VK)(E:XK):Prop | mk (s rl:Addr) (g:Cfg) (n:aI) (ys:List V):vs=[.ref s]->dF (clZ Z) K H rl g s n->H rl=some (.lst ys)->g.ls.length<=1000->(∀(s':Addr) (A:SA) (H':Hp),av H H'->H s'=none->H A.ol=none->H A.b=none->H A.fl=none->H A.y=none->H A.wh=none->aQ (clZ Z) K H' rl g s' A n->Q (.ref s') H')->gg K Z vs H Q E
include T eO sq qg in
theorem rA:FF P w K mg base CX0 4 "twin" "Standing.twin" gz lj (gg K Z):=fk0 qM fun vs H Q E h=>by
 obtain ⟨s0,rl,g,n,ys,rfl,⟨A0,hA⟩,hrl,hls,q⟩:=h
 k_all
 refine ⟨_,ah (aw (dn eO hr.dn T.uz bj (pa4 (az (pv' 0)) (az (pv' 0)) (dP (az (pv' 0)) qg hr.dn bj) (dP (az (pv' 0)) sq hr.dn bj)))),?_⟩
 k_mem
 refine fgo hA.ob T.aK T.cw rfl (fgo hA.ob T.aK T.cf rfl (fgo hA.ob T.aK T.cx rfl ?_))
 k_mem
 obtain ⟨db,hbb⟩:=hA.be.ob
 obtain ⟨dy,hyb⟩:=hA.ya.ob
 k_upd
 refine mgo hbb rfl ⟨_,_,_,_,_,_,_,rfl,hA.be,hls,fun b1 cs1 fl1 H1 hb1 hc1 hf1 s1 hB1=>?_⟩
 k_upd
 refine fgo (s1 _ _ hA.ob) T.aK T.aW rfl ?_
 k_mem
 refine mgo (s1 _ _ hyb) rfl ⟨_,_,_,_,_,_,rfl,hA.ya.same s1,fun y2 kn2 wh2 H2 hy2 hk2 hw2 nkw s2 hY2=>?_⟩
 refine fun x dx hx hdx nxd=>?_
 have s12:=s1.trans s2
 have hx':upd H2 dx (.own x) x=none:=by rw [aG (Ne.symm nxd)];exact hx
 k_upd
 refine ⟨x,dx,A0.ol,b1,y2,n.place,n.gates,rfl,ag,(((av.refl H2).lay hdx).lay hx').seq (SqL.of (s12 _ _ hA.go)),fun ol H3 hol kp hob3 hol3=>⟨rfl,?_⟩⟩
 have s3:=gn hx hdx kp
 have holn:=fu hol
 obtain ⟨_,⟨as1,oc1,_⟩,of1,_⟩:=id hB1
 obtain ⟨_,okn2,owh2⟩:=id hY2
 have cs2:=s2 _ _ oc1
 have fl2:=s2 _ _ of1
 refine q x ⟨dx,ol,b1,cs1,fl1,A0.st,y2,kn2,wh2⟩ H3 (s12.trans s3) (s12.free hx) (s12.free holn) hb1 hf1 (s1.free hy2) (s1.free hw2) ⟨hob3,hol3,(hB1.same s2).same s3,hY2.same s3,⟨?_,?_,?_,?_,?_,?_,?_,?_,?_,?_,?_,?_,?_,?_,?_,?_⟩,⟨(hA.nn.same (s12.trans s3)).al,hA.nn.nr,?_,?_,?_,?_,?_⟩⟩
 ·exact (ak hrl (s12.free holn)).symm
 ·exact (ak hrl hc1).symm
 ·exact (ak hrl hf1).symm
 ·exact (ak hrl (s1.free hk2)).symm
 ·exact (ak hrl (s1.free hw2)).symm
 ·exact ak cs2 holn
 ·exact ak fl2 holn
 ·exact ak okn2 holn
 ·exact ak owh2 holn
 ·exact (ak fl2 holn).symm
 ·exact (ak of1 hk2).symm
 ·exact (ak of1 hw2).symm
 ·exact (ak owh2 holn).symm
 ·exact ak oc1 hw2
 ·exact ak of1 hw2
 ·exact nkw
 all_goals
  intro q hq
  obtain ⟨us,hu⟩:=hA.nn.al q hq
 ·exact (ak hu (s12.free holn)).symm
 ·exact (ak hu hc1).symm
 ·exact (ak hu hf1).symm
 ·exact (ak hu (s1.free hk2)).symm
 ·exact (ak hu (s1.free hw2)).symm
variable (aR:KM P w K mg base CX0 4 Z.du "twin" (gg K Z))
inductive iU (K:W.Frag)(Z:Adr)(vs:List V)(H:Hp)(Q:VK)(E:XK):Prop | mk (w bk rl:Addr) (g:Cfg) (n0:aI) (rs:List Row):vs=[.ref w]->WAt (clZ Z) K H w bk rl g n0 rs->0 < g.ds.length->(∀p,H p=none->Q (.ref p) (upd H p (.tup [.int (ai n0 rs).place,.int (bS g.ds - (ai n0 rs).place)])))->iU K Z vs H Q E
include T aL gN in
theorem uT:FF P w K mg base CX0 4 "cages" "Works.cages" jB nB (iU K Z):=fk0 ue fun vs H Q E h=>by
 obtain ⟨w,bk,rl,g,n0,rs,rfl,hW,hn,q⟩:=h
 k_all
 refine ⟨_,ah (aw (dm' (pv' 0) gN hr.dn bj (pa1 (az (dP (az (pv' 0)) aL hr.dn bj))))),?_⟩
 obtain ⟨⟨dx,dl,gl,hob,hdl,hgl,n1,n2⟩,hB⟩:=id hW
 obtain ⟨⟨db,f0,hbo,hF⟩,as,hrl,hR⟩:=id hB
 k_mem
 refine mgo hob rfl (fgo hob T.aT T.aZ rfl ?_)
 k_mem
 refine mgo hbo rfl ⟨_,_,_,_,_,rfl,hB,fun s0 ⟨A,hA⟩=>?_⟩
 k_mem
 refine fgo hA.ob T.aK T.cw rfl ?_
 k_upd
 exact ⟨_,_,_,_,_,_,_,rfl,hW,hn,q⟩
variable (nR:KM P w K mg base CX0 4 Z.bb "cages" (iU K Z))
inductive fM (K:W.Frag)(Z:Adr)(vs:List V)(H:Hp)(Q:VK)(E:XK):Prop | mk (w bk rl:Addr) (g:Cfg) (n0:aI) (rs:List Row) (t:Int):vs=[.ref w,.int t]->WAt (clZ Z) K H w bk rl g n0 rs->((0<=t/\t<=bC rs->∀p H',H p=none->av H H'->H' p=some (.lst ((cQ n0 rs t).map V.int))->Q (.ref p) H'))->((¬(0<=t/\t<=bC rs)->E (.ref Z.qZ) none H))->fM K Z vs H Q E
include T lz in
theorem qi:FF P w K mg base (CXf P w) 4 "spots_at" "Works.spots_at" fT j0 (fM K Z):=fkF pV fun vs H Q E h=>by
 obtain ⟨w,bk,rl,g,n0,rs,t,rfl,hW,q1,q2⟩:=h
 k_all
 refine ⟨_,ah (aw (dm' (az (pv' 0)) lz hr.dn bg (pa1 (pv' 1)))),?_⟩
 obtain ⟨⟨dx,dl,gl,hob,hdl,hgl,n1,n2⟩,hB⟩:=id hW
 obtain ⟨⟨db,f0,hbo,hF⟩,as,hrl,hR⟩:=id hB
 k_mem
 refine fgo hob T.aT T.aZ rfl ?_
 k_mem
 exact mgo hbo rfl ⟨_,_,_,_,_,_,rfl,hB,q1,q2⟩
variable (df:KM P w K mg base (CXf P w) 4 Z.bb "spots_at" (fM K Z))
inductive fN (K:W.Frag)(Z:Adr)(vs:List V)(H:Hp)(Q:VK)(E:XK):Prop | mk (w bk rl:Addr) (g:Cfg) (n0:aI) (rs:List Row) (lv:Int):vs=[.ref w,.int lv]->WAt (clZ Z) K H w bk rl g n0 rs->(ai n0 rs).ws.length<=1000->((0<=lv/\lv < g.ds.length->∀p H',H p=none->av H H'->H' p=some (.lst ((fv (ai n0 rs).ws lv).map V.int))->Q (.ref p) H'))->((¬(0<=lv/\lv < g.ds.length)->E (.ref Z.aY) none H))->fN K Z vs H Q E
include T aL lu in
theorem qj:FF P w K mg base (CXf P w) 4 "at_level" "Works.at_level" fU j1 (fN K Z):=fkF pW fun vs H Q E h=>by
 obtain ⟨w,bk,rl,g,n0,rs,lv,rfl,hW,hn,q1,q2⟩:=h
 k_all
 refine ⟨_,ah (aw (dm' (az (dP (az (pv' 0)) aL hr.dn bj)) lu hr.dn bg (pa1 (pv' 1)))),?_⟩
 obtain ⟨⟨dx,dl,gl,hob,hdl,hgl,n1,n2⟩,hB⟩:=id hW
 obtain ⟨⟨db,f0,hbo,hF⟩,as,hrl,hR⟩:=id hB
 k_mem
 refine fgo hob T.aT T.aZ rfl ?_
 k_mem
 refine mgo hbo rfl ⟨_,_,_,_,_,rfl,hB,fun s0 ⟨A,hA⟩=>?_⟩
 k_mem
 refine fgo hA.ob T.aK T.aW rfl ?_
 k_mem
 obtain ⟨dy,hyb⟩:=hA.ya.ob
 k_upd
 exact ⟨_,_,hyb,rfl,_,_,_,_,_,_,_,rfl,hA.ya,hn,q1,q2⟩
variable (kg:KM P w K mg base (CXf P w) 4 Z.bb "at_level" (fN K Z))
inductive oN (K:W.Frag)(Z:Adr)(vs:List V)(H:Hp)(Q:VK)(E:XK):Prop | mk (a:Addr) (ns:List Int) (mo:Int):vs=[.ref a,.int mo]->SqL K H a (ns.map V.int)->0<=mo->mo<=30->(∀(p dl cl ll:Addr) (ds:List Int) (ls:List Cd) (slow fast:Int) (lds:List Ld) (H':Hp),av H H'->H p=none->H dl=none->H cl=none->H ll=none->dW K H' p dl cl ll (fh ds ls slow fast lds fun _=>False) lds->bP ds->ls.length=ds.length->(∀x∈ls,dM x)->(1<=slow/\slow<=fast/\fast<=500)->(lds.length:Int)<=mo->(∀x∈lds,hG (ds.length:Nat) x/\zm x)->Q (.ref p) H')->oN K Z vs H Q E
include T rj wF wH in
theorem Al:FF P w K mg base CX0 4 "_law_setup" "_law_setup" qT wo (oN K Z):=fk0 iB fun vs H Q E h=>by
 obtain ⟨a,ns,mo,rfl,hS,h0,h1,q⟩:=h
 k_all
 refine seg 1 (ah (aw (bX (dU (pv' 2) (pa4 (pv' 3) (pv' 4) (pv' 5) (dc0 wF hr.dn (pa3 (dc0 rj hr.dn (pa2 (pv' 0) af)) (aE ax (by rfl) T.bQ a7 (pa1 (pv' 2))) (pv' 1)))))))) fun zt1 zh1 ze1=>?_
 refine ⟨_,ae (kh (dc0 wH hr.dn (pa1 (pv' 0))) (A4 rfl (aH (aF (i:=2) iB.nd rfl orL) (aH (aF (i:=3) iB.nd rfl orL) (aH (aF (i:=4) iB.nd rfl orL) (aH (aF (i:=5) iB.nd rfl orL) c9)))))) zh1,?_⟩
 k_mem
 refine ⟨a,ns,rfl,hS,fun p dl cl ds as ls slow fast H1 s1 hpn hdn hcn ndc hp hdl hsh hcl hT hlen hg hsp=>?_⟩
 have l2:=hsh.l2
 have l6:=hsh.l6
 k_mem
 refine ⟨_,SqL.of hp,rfl,?_⟩
 k_mem
 refine ⟨a,ns,4,rfl,s1.seq hS,by omega,?_⟩
 k_mem
 refine ⟨_,.inl (SqL.of hdl),?_⟩
 rw [List.length_map]
 k_upd
 refine ⟨_,_,_,rfl,by omega,h0,by omega,fun ll bs lds H2 hln s2 hll hT2 hlen2 hk=>?_⟩
 k_mem
 refine ⟨by decide,fun p5 hp5=>?_⟩
 have s3:=s2.lay (o:=HO.lst [V.ref dl,V.ref cl,V.int slow,V.int fast,V.ref ll]) hp5
 have s23:=(av.refl H2).lay (o:=HO.lst [V.ref dl,V.ref cl,V.int slow,V.int fast,V.ref ll]) hp5
 k_upd
 exact q p5 dl cl ll ds ls slow fast lds _ (s1.trans s3) (s1.free (s2.free hp5)) hdn hcn (s1.free hln) ⟨ag,s3 _ _ hdl,⟨as,s3 _ _ hcl,hT.same s3⟩,⟨bs,s23 _ _ hll,hT2.same s23⟩,rfl⟩ hsh hlen hg hsp hlen2 hk
variable (mS:KD P w K mg base CX0 4 "_law_setup" (oN K Z))
inductive jP (K:W.Frag)(Z:Adr)(vs:List V)(H:Hp)(Q:VK)(E:XK):Prop | mk (w bk rl:Addr) (g:Cfg) (n0:aI) (rs:List Row) (lv s:Int):vs=[.ref w,.int lv,.int s]->WAt (clZ Z) K H w bk rl g n0 rs->g.ls.length<=1000->g.ks.length=(ai n0 rs).ws.length->((¬(0<=lv/\lv < g.ls.length)->∀H',av H H'->E (.ref Z.aY) none H'))->((0<=lv->lv < g.ls.length->(ai n0 rs).fs.getD lv.toNat false=true->∀H',av H H'->E (.ref Z.j8) none H'))->((0<=lv->lv < g.ls.length->(ai n0 rs).fs.getD lv.toNat false=false->¬(s=(ft g.ls lv).1\/s=(ft g.ls lv).2)->∀H',av H H'->E (.ref Z.mf) none H'))->((0<=lv->lv < g.ls.length->(ai n0 rs).fs.getD lv.toNat false=false->(s=(ft g.ls lv).1\/s=(ft g.ls lv).2)->sv Z K H w bk rl g n0 rs (.ring lv s) Q E))->jP K Z vs H Q E
include T aL qd bf aR in
theorem vG:FF P w K mg base (CXf P w) 5 "ring" "Works.ring" kK pN (jP K Z):=fkF nH fun vs H Q E h=>by
 obtain ⟨w,bk,rl,g,n0,rs,lv,s,rfl,hW,hls,hks,q1,q2,q3,q4⟩:=h
 k_all
 refine seg 2 (ah (aw (dm' (pv' 0) bf hr.dn bg (pa3 (aP (pa3 aC (pv' 1) (pv' 2))) af (pv' 3))))) fun zt2 zh2 ze2=>?_
 refine seg 1 (ae (a6 (dm' (az (pv' 3)) qd hr.dn bg (pa2 (pv' 1) (pv' 2)))) zh2) fun zt1 zh1 ze1=>?_
 refine ⟨_,ae (aD (i:=3) nH.nd rfl orL (dP (dP (az (pv' 0)) aL hr.dn bj) aR hr.dn bj)) zh1,?_⟩
 obtain ⟨⟨dx,dl,gl,hob,hdl,hgl,n1,n2⟩,hB⟩:=id hW
 obtain ⟨⟨db,f0,hbo,hF⟩,as,hrl,hR⟩:=id hB
 k_mem
 refine fgo hob T.aT T.aZ rfl ?_
 k_mem
 refine mgo hbo rfl ⟨_,_,_,_,_,rfl,hB,fun s0 ⟨A0,hA0⟩=>?_⟩
 k_mem
 refine mgo hA0.ob rfl ⟨_,_,_,_,_,rfl,hA0.at,hrl,hls,fun s1 A H1 e1 hs1 ho1 hb1 hf1 hy1 hw1 hA=>?_⟩
 have hW1:=hW.same e1
 have hob1:=e1 _ _ hob
 have hbo1:=e1 _ _ hbo
 have hrl1:=e1 _ _ hrl
 have hdl1:=e1 _ _ hdl
 k_mem
 refine fgo hA.ob T.aK T.cx rfl ?_
 k_mem
 obtain ⟨db1,hbb⟩:=hA.be.ob
 k_upd
 refine mgo hbb rfl ⟨_,_,_,_,_,_,_,_,_,rfl,hA.be,fun h=>q1 h _ e1,fun h h' h2=>q2 h h' h2 _ e1,fun h h' h2 h4=>q3 h h' h2 h4 _ e1,fun h h' h2 h4 st2 H2 k2 hB2=>?_⟩
 have h3:=q4 h h' h2 h4
 have e2:=e1.keeps k2 hb1
 have hA2:=hA.bells k2 hB2
 clear k2 hB2
 k_mem
 refine ⟨_,_,e2 _ _ hob,rfl,by decide,fun p hp=>?_⟩
 have e3:=e2.lay (o:=HO.tup [V.str (Str.ofString "ring"),V.int lv,V.int s]) hp
 have f3:=(av.refl H2).lay (o:=HO.tup [V.str (Str.ofString "ring"),V.int lv,V.int s]) hp
 k_upd
 refine ⟨_,_,_,_,_,_,p,s1,1,ddV (.ring lv s),aV g (ai n0 rs) (.ring lv s),rfl,hW.same e3,SqT.of (by rw [ag];rfl),?_,?_,fun h H' s'=>h3.1 h H' (e3.trans s'),fun h H' k hWn=>?_⟩
 ·exact (aQ.at hA2).same f3
 ·rw [hks];first | rfl | simp only [aV,List.length_set]
 ·k_upd
  exact h3.2 h H' ((aB.of e3).trans k) hWn
variable (qk:KM P w K mg base (CXf P w) 5 Z.bb "ring" (jP K Z))
inductive gK (K:W.Frag)(Z:Adr)(vs:List V)(H:Hp)(Q:VK)(E:XK):Prop | mk (w bk rl:Addr) (g:Cfg) (n0:aI) (rs:List Row) (s:Int):vs=[.ref w,.int s]->WAt (clZ Z) K H w bk rl g n0 rs->g.ls.length<=1000->g.ks.length=(ai n0 rs).ws.length->(((∀l r,(ai n0 rs).e≠.wait l r)->∀H',av H H'->E (.ref Z.fj) none H'))->((∀l r,(ai n0 rs).e=.wait l r->¬(1<=s/\s<=9)->∀H',av H H'->E (.ref Z.mf) none H'))->((∀l r,(ai n0 rs).e=.wait l r->(1<=s/\s<=9)->(300<=rs.length->∀H',av H H'->E (.ref Z.iF) none H')/\(rs.length < 300->∀p H',aB rl H H'->WAt (clZ Z) K H' w bk rl g n0 (rs++[eH g n0 rs (.rept s)])->SqT K H' p [.bl (decide (s=r)),.int r,.int s]->Q (.ref p) H')))->gK K Z vs H Q E
include T aL my bf aR in
theorem sN:FF P w K mg base (CXf P w) 5 "repeat" "Works.repeat" iw lW (gK K Z):=fkF gB fun vs H Q E h=>by
 obtain ⟨w,bk,rl,g,n0,rs,s,rfl,hW,hls,hks,q1,q2,q3⟩:=h
 k_all
 refine seg 3 (ah (aw (pv' 3))) fun zt3 zh3 ze3=>?_
 refine seg 2 (ae (a6 (dm' (pv' 0) bf hr.dn bg (pa3 (aP (pa2 aC (pv' 1))) af (pv' 2)))) zh3) fun zt2 zh2 ze2=>?_
 refine seg 1 (ae (aD (i:=3) gB.nd rfl orL (dm' (az (pv' 2)) my hr.dn bg (pa1 (pv' 1)))) zh2) fun zt1 zh1 ze1=>?_
 refine ⟨_,ae (aD (i:=2) gB.nd rfl orL (dP (dP (az (pv' 0)) aL hr.dn bj) aR hr.dn bj)) zh1,?_⟩
 obtain ⟨⟨dx,dl,gl,hob,hdl,hgl,n1,n2⟩,hB⟩:=id hW
 obtain ⟨⟨db,f0,hbo,hF⟩,as,hrl,hR⟩:=id hB
 k_mem
 refine fgo hob T.aT T.aZ rfl ?_
 k_mem
 refine mgo hbo rfl ⟨_,_,_,_,_,rfl,hB,fun s0 ⟨A0,hA0⟩=>?_⟩
 k_mem
 refine mgo hA0.ob rfl ⟨_,_,_,_,_,rfl,hA0.at,hrl,hls,fun s1 A H1 e1 hs1 ho1 hb1 hf1 hy1 hw1 hA=>?_⟩
 have hW1:=hW.same e1
 have hob1:=e1 _ _ hob
 have hbo1:=e1 _ _ hbo
 have hrl1:=e1 _ _ hrl
 have hdl1:=e1 _ _ hdl
 k_mem
 refine fgo hA.ob T.aK T.cx rfl ?_
 k_mem
 obtain ⟨db1,hbb⟩:=hA.be.ob
 k_upd
 refine mgo hbb rfl ⟨_,_,_,_,_,_,_,_,rfl,hA.be,fun h=>q1 h _ e1,fun l r h h'=>q2 l r h h' _ e1,fun l r h h' st2 p2 H2 hp2 k2 hB2 hT2=>?_⟩
 have h3:=q3 l r h h'
 have e2:=e1.keeps k2 hb1
 have hA2:aQ (clZ Z) K H2 rl g s1 {A with st:=st2} (aV g (ai n0 rs) (.rept s)):=by
  have:=hA.bells k2 hB2
  have e0:aV g (ai n0 rs) (.rept s)={(ai n0 rs) with e:=(if s=r then Eng.armed l r else Eng.other l r s)}:=by
   show aI.mk _ _ _ (tN g (ai n0 rs) (.rept s)) _=_
   rw [show tN g (ai n0 rs) (.rept s)=(if s=r then Eng.armed l r else Eng.other l r s) from by simp only [tN,h]]
  rw [e0]
  exact this
 clear k2 hB2
 k_mem
 refine ⟨_,_,e2 _ _ hob,rfl,by decide,fun p hp=>?_⟩
 have e3:=e2.lay (o:=HO.tup [V.str (Str.ofString "repeat"),V.int s]) hp
 have f3:=(av.refl H2).lay (o:=HO.tup [V.str (Str.ofString "repeat"),V.int s]) hp
 k_upd
 refine ⟨_,_,_,_,_,_,p,s1,1,ddV (.rept s),aV g (ai n0 rs) (.rept s),rfl,hW.same e3,SqT.of (by rw [ag];rfl),?_,?_,fun h H' s'=>h3.1 h H' (e3.trans s'),fun h H' k hWn=>?_⟩
 ·exact (aQ.at hA2).same f3
 ·rw [hks];first | rfl | simp only [aV,List.length_set]
 ·k_upd
  exact h3.2 h _ H' ((aB.of e3).trans k) hWn ((f3.tup hT2).keep k (e3 _ _ hrl))
variable (mG:KM P w K mg base (CXf P w) 5 Z.bb "repeat" (gK K Z))
inductive jQ (K:W.Frag)(Z:Adr)(vs:List V)(H:Hp)(Q:VK)(E:XK):Prop | mk (w bk rl:Addr) (g:Cfg) (n0:aI) (rs:List Row) (lv:Int):vs=[.ref w,.int lv]->WAt (clZ Z) K H w bk rl g n0 rs->g.ls.length<=1000->g.ks.length=(ai n0 rs).ws.length->((¬(0<=lv/\lv < g.ls.length)->∀H',av H H'->E (.ref Z.aY) none H'))->((0<=lv->lv < g.ls.length->(ai n0 rs).fs.getD lv.toNat false=true->∀H',av H H'->E (.ref Z.fI) none H'))->((0<=lv->lv < g.ls.length->(ai n0 rs).fs.getD lv.toNat false=false->sv Z K H w bk rl g n0 rs (.fail lv) Q E))->jQ K Z vs H Q E
include T aL qf bf aR in
theorem vH:FF P w K mg base (CXf P w) 5 "fail" "Works.fail" kL pO (jQ K Z):=fkF nI fun vs H Q E h=>by
 obtain ⟨w,bk,rl,g,n0,rs,lv,rfl,hW,hls,hks,q1,q2,q3⟩:=h
 k_all
 refine seg 2 (ah (aw (dm' (pv' 0) bf hr.dn bg (pa3 (aP (pa2 aC (pv' 1))) af (pv' 2))))) fun zt2 zh2 ze2=>?_
 refine seg 1 (ae (a6 (dm' (az (pv' 2)) qf hr.dn bg (pa1 (pv' 1)))) zh2) fun zt1 zh1 ze1=>?_
 refine ⟨_,ae (aD (i:=2) nI.nd rfl orL (dP (dP (az (pv' 0)) aL hr.dn bj) aR hr.dn bj)) zh1,?_⟩
 obtain ⟨⟨dx,dl,gl,hob,hdl,hgl,n1,n2⟩,hB⟩:=id hW
 obtain ⟨⟨db,f0,hbo,hF⟩,as,hrl,hR⟩:=id hB
 k_mem
 refine fgo hob T.aT T.aZ rfl ?_
 k_mem
 refine mgo hbo rfl ⟨_,_,_,_,_,rfl,hB,fun s0 ⟨A0,hA0⟩=>?_⟩
 k_mem
 refine mgo hA0.ob rfl ⟨_,_,_,_,_,rfl,hA0.at,hrl,hls,fun s1 A H1 e1 hs1 ho1 hb1 hf1 hy1 hw1 hA=>?_⟩
 have hW1:=hW.same e1
 have hob1:=e1 _ _ hob
 have hbo1:=e1 _ _ hbo
 have hrl1:=e1 _ _ hrl
 have hdl1:=e1 _ _ hdl
 k_mem
 refine fgo hA.ob T.aK T.cx rfl ?_
 k_mem
 obtain ⟨db1,hbb⟩:=hA.be.ob
 k_upd
 refine mgo hbb rfl ⟨_,_,_,_,_,_,_,_,rfl,hA.be,fun h=>q1 h _ e1,fun h h' h2=>q2 h h' h2 _ e1,fun h h' h2 H2 k2 hB2=>?_⟩
 have h3:=q3 h h' h2
 have e2:=e1.keeps k2 hf1
 have hA2:=hA.fail k2 hB2 (List.length_set ..)
 clear k2 hB2
 k_mem
 refine ⟨_,_,e2 _ _ hob,rfl,by decide,fun p hp=>?_⟩
 have e3:=e2.lay (o:=HO.tup [V.str (Str.ofString "fail"),V.int lv]) hp
 have f3:=(av.refl H2).lay (o:=HO.tup [V.str (Str.ofString "fail"),V.int lv]) hp
 k_upd
 refine ⟨_,_,_,_,_,_,p,s1,1,ddV (.fail lv),aV g (ai n0 rs) (.fail lv),rfl,hW.same e3,SqT.of (by rw [ag];rfl),?_,?_,fun h H' s'=>h3.1 h H' (e3.trans s'),fun h H' k hWn=>?_⟩
 ·exact (aQ.at hA2).same f3
 ·rw [hks];first | rfl | simp only [aV,List.length_set]
 ·k_upd
  exact h3.2 h H' ((aB.of e3).trans k) hWn
variable (ql:KM P w K mg base (CXf P w) 5 Z.bb "fail" (jQ K Z))
inductive eZ (K:W.Frag)(Z:Adr)(vs:List V)(H:Hp)(Q:VK)(E:XK):Prop | mk (w bk rl:Addr) (g:Cfg) (n0:aI) (rs:List Row) (wd:Str) (lv:Int) (b:Bool) (d:Dd):vs=[.ref w,.str wd,.int lv,.bl b]->WAt (clZ Z) K H w bk rl g n0 rs->g.ls.length<=1000->g.ks.length=(ai n0 rs).ws.length->(ai n0 rs).gates.length=g.ds.length->(((wd="open"/\b=true/\d=.opn lv)\/(wd="shut"/\b=false/\d=.sht lv)))->((¬(0<=lv/\lv < g.ds.length)->∀H',av H H'->E (.ref Z.aY) none H'))->((0<=lv->lv < g.ds.length->(ai n0 rs).gates.getD lv.toNat false=b->∀H',av H H'->E (.ref Z.fI) none H'))->((0<=lv->lv < g.ds.length->(ai n0 rs).gates.getD lv.toNat false=!b->sv Z K H w bk rl g n0 rs d Q E))->eZ K Z vs H Q E
include T aL bc bf aR in
theorem oO:FF P w K mg base (CXf P w) 5 "turn_gate" "Works.turn_gate" fF je (eZ K Z):=fkF ix fun vs H Q E h=>by
 obtain ⟨w,bk,rl,g,n0,rs,wd,lv,b,d,rfl,hW,hls,hks,hgl2,hd,q1,q2,q3⟩:=h
 k_all
 refine seg 4 (ah (aw (dm' (pv' 0) bf hr.dn bg (pa3 (aP (pa2 (pv' 1) (pv' 2))) af (pv' 4))))) fun zt4 zh4 ze4=>?_
 refine seg 3 (ae (kh (pv' 3) (tj (az (pv' 4)) (pv' 2) jY)) zh4) fun zt3 zh3 ze3=>?_
 refine seg 2 (ae (aJ (bw (ao au (az (pv' 4)) (pv' 2)) (pv' 3)) (ah (aX T.uC (by rfl) T.uy (pa1 aC))) (aA)) zh3) fun zt2 zh2 ze2=>?_
 refine seg 1 (ae (a6 (dc bc hr.dn bg (pa2 (pv' 2) (aE ax (by rfl) T.bQ a7 (pa1 (az (pv' 0))))))) zh2) fun zt1 zh1 ze1=>?_
 refine ⟨_,ae (aD (i:=4) ix.nd rfl orL (dP (dP (az (pv' 0)) aL hr.dn bj) aR hr.dn bj)) zh1,?_⟩
 obtain ⟨⟨dx,dl,gl,hob,hdl,hgl,n1,n2⟩,hB⟩:=id hW
 obtain ⟨⟨db,f0,hbo,hF⟩,as,hrl,hR⟩:=id hB
 k_mem
 refine fgo hob T.aT T.aZ rfl ?_
 k_mem
 refine mgo hbo rfl ⟨_,_,_,_,_,rfl,hB,fun s0 ⟨A0,hA0⟩=>?_⟩
 k_mem
 refine mgo hA0.ob rfl ⟨_,_,_,_,_,rfl,hA0.at,hrl,hls,fun s1 A H1 e1 hs1 ho1 hb1 hf1 hy1 hw1 hA=>?_⟩
 have hW1:=hW.same e1
 have hob1:=e1 _ _ hob
 have hbo1:=e1 _ _ hbo
 have hrl1:=e1 _ _ hrl
 have hdl1:=e1 _ _ hdl
 k_mem
 refine fgo hob1 T.aT T.cz rfl ?_
 k_mem
 refine ⟨_,.inl (SqL.of hdl1),_,_,rfl,?_⟩
 rw [List.length_map]
 k_upd
 refine ⟨fun hlv=>?_,fun h=>q1 h _ e1⟩
 k_mem
 refine fgo hA.ob T.aK T.cf rfl ?_
 k_mem
 refine ⟨_,SqL.of hA.go,_,km hlv.1 (by omega),?_⟩
 k_mem
 split
 ·rename_i h
  k_upd
  exact ⟨by decide,q2 hlv.1 hlv.2 h _ e1⟩
 ·rename_i h
  have h3:=q3 hlv.1 hlv.2 (by cases b<;>simpa using h)
  k_upd
  refine fgo hA.ob T.aK T.cf rfl ?_
  k_mem
  refine ⟨_,hA.go,_,wZ hlv.1 (by rw [List.length_map];omega),?_⟩
  have e2:=e1.rewr (o:=HO.lst (((ai n0 rs).gates.map V.bl).set lv.toNat (V.bl b))) ho1
  have k2:L2.aB A.ol H1 (upd H1 A.ol (HO.lst (((ai n0 rs).gates.map V.bl).set lv.toNat (V.bl b)))):=(aB.of (av.refl H1)).put
  have hA2:=hA.gates k2 (gs:=(ai n0 rs).gates.set lv.toNat b) (by rw [ag,List.map_set])
  generalize upd H1 A.ol (HO.lst (((ai n0 rs).gates.map V.bl).set lv.toNat (V.bl b)))=H2 at *
  have hW2:=hW.same e2
  k_upd
  refine ⟨_,_,e2 _ _ hob,rfl,by decide,fun p hp=>?_⟩
  have e3:=e2.lay (o:=HO.tup [V.str wd,V.int lv]) hp
  have f3:=(av.refl H2).lay (o:=HO.tup [V.str wd,V.int lv]) hp
  k_upd
  refine ⟨_,_,_,_,_,_,p,s1,1,ddV d,aV g (ai n0 rs) d,rfl,hW.same e3,SqT.of ?_,?_,?_,fun h H' s'=>h3.1 h H' (e3.trans s'),fun h H' k hWn=>?_⟩
  ·rw [ag];rcases hd with ⟨rfl,_,rfl⟩ | ⟨rfl,_,rfl⟩<;>rfl
  ·refine (aQ.at (A:=A) ?_).same f3
   rcases hd with ⟨_,rfl,rfl⟩ | ⟨_,rfl,rfl⟩<;>exact hA2
  ·rw [hks];rcases hd with ⟨_,rfl,rfl⟩ | ⟨_,rfl,rfl⟩<;>rfl
  ·have:=h3.2 h H' ((aB.of e3).trans k)
   rcases hd with ⟨_,rfl,rfl⟩ | ⟨_,rfl,rfl⟩<;>exact this hWn
variable (dH:KM P w K mg base (CXf P w) 5 Z.bb "turn_gate" (eZ K Z))
def Gq (w:Addr)(c lv:Int)(kd:Str)(s:Addr)(H:Hp)(gs:List Int)(gates:List Bool)(i:Nat)(σ:St)(H':Hp):Prop:=H'=H/\(∃t,σ=[some (.ref w),some (.int c),some (.int lv),some (.str kd),some (.ref s),t,none,none])/\∀j,j < i->∀x,gs[j]?=some x->gates.getD x.toNat false=false
inductive jR (K:W.Frag)(Z:Adr)(vs:List V)(H:Hp)(Q:VK)(E:XK):Prop | mk (w bk rl:Addr) (g:Cfg) (n0:aI) (rs:List Row) (c lv:Int) (kd:Str):vs=[.ref w,.int c,.int lv,.str kd]->WAt (clZ Z) K H w bk rl g n0 rs->g.ls.length<=1000->g.ks.length=(ai n0 rs).ws.length->bP g.ds->(ai n0 rs).gates.length=g.ds.length->g.ls.length=g.ds.length->1<=bu g (ai n0 rs)->bu g (ai n0 rs)<=500->((kd="men"\/kd="coal"))->((¬(0<=lv/\lv < g.ds.length)->∀H',av H H'->E (.ref Z.aY) none H'))->((0<=lv->lv < g.ds.length->hV g (ai n0 rs)=true->∀H',av H H'->E (.ref Z.mh) none H'))->((0<=lv->lv < g.ds.length->hV g (ai n0 rs)=false->(ai n0 rs).e≠.armed lv (cC g.ls lv kd)->∀H',av H H'->E (.ref Z.iE) none H'))->((0<=lv->lv < g.ds.length->hV g (ai n0 rs)=false->(ai n0 rs).e=.armed lv (cC g.ls lv kd)->sv Z K H w bk rl g n0 rs (.wind c lv kd) Q E))->jR K Z vs H Q E
include T p7 aL bc dk sr nQ uQ bf aR in
theorem vI:FF P w K mg base (CXf P w) 5 "wind" "Works.wind" kO pQ (jR K Z):=fkF eJ fun vs H Q E h=>by
 obtain ⟨w,bk,rl,g,n0,rs,c,lv,kd,rfl,hW,hls,hks,hsh,hgl2,hlc,hsp1,hsp5,hkd,q1,q2,q3,q4⟩:=h
 k_all
 refine seg 7 (ah (aw (dm' (pv' 0) bf hr.dn bg (pa3 (aP (pa4 aC (pv' 1) (pv' 2) (pv' 3))) (pv' 7) (pv' 4))))) fun zt7 zh7 ze7=>?_
 refine seg 6 (ae (bG (pv' 4) (pv' 6) rfl) zh7) fun zt6 zh6 ze6=>?_
 refine seg 5 (ae (aD (i:=7) eJ.nd rfl orL (dc0 p7 hr.dn (pa2 (aE wa (by rfl) T.G2 CJ (pa1 (aO dG (pv' 6) (az (pv' 4))))) (dm' (pv' 0) dk hr.dn bj (pa1 (pv' 4)))))) zh6) fun zt5 zh5 ze5=>?_
 refine seg 4 (ae (aD (i:=6) eJ.nd rfl orL (dc0 nQ hr.dn (pa3 (az (pv' 0)) (pv' 1) (pv' 2)))) zh5) fun zt4 zh4 ze4=>?_
 refine seg 3 (ae (a6 (dm' (az (pv' 4)) sr hr.dn bg (pa2 (pv' 2) (pv' 3)))) zh4) fun zt3 zh3 ze3=>?_
 refine seg 2 (ae (cy sD rfl (cA (dc0 uQ hr.dn (pa2 (az (pv' 0)) (az (pv' 4))))) (aF (i:=5) eJ.nd rfl orL) (ah (aJ (bU (ao au (az (pv' 4)) (pv' 5))) (ah (aX T.z9 (by rfl) T.zZ (pa1 aC))) (aA)))) zh3) fun zt2 zh2 ze2=>?_
 refine seg 1 (ae (a6 (dc bc hr.dn bg (pa2 (pv' 2) (aE ax (by rfl) T.bQ a7 (pa1 (az (pv' 0))))))) zh2) fun zt1 zh1 ze1=>?_
 refine ⟨_,ae (aD (i:=4) eJ.nd rfl orL (dP (dP (az (pv' 0)) aL hr.dn bj) aR hr.dn bj)) zh1,?_⟩
 obtain ⟨⟨dx,dl,gl,hob,hdl,hgl,n1,n2⟩,hB⟩:=id hW
 obtain ⟨⟨db,f0,hbo,hF⟩,as,hrl,hR⟩:=id hB
 k_mem
 refine fgo hob T.aT T.aZ rfl ?_
 k_mem
 refine mgo hbo rfl ⟨_,_,_,_,_,rfl,hB,fun s0 ⟨A0,hA0⟩=>?_⟩
 k_mem
 refine mgo hA0.ob rfl ⟨_,_,_,_,_,rfl,hA0.at,hrl,hls,fun s1 A H1 e1 hs1 ho1 hb1 hf1 hy1 hw1 hA=>?_⟩
 have hW1:=hW.same e1
 have hob1:=e1 _ _ hob
 have hbo1:=e1 _ _ hbo
 have hrl1:=e1 _ _ hrl
 have hdl1:=e1 _ _ hdl
 k_mem
 refine fgo hob1 T.aT T.cz rfl ?_
 k_mem
 refine ⟨_,.inl (SqL.of hdl1),_,_,rfl,?_⟩
 rw [List.length_map]
 k_upd
 refine ⟨fun hlv=>?_,fun h=>q1 h _ e1⟩
 have l6:=hsh.l6
 k_mem
 refine fgo hob1 T.aT T.cz rfl ?_
 k_upd
 refine fgo hA.ob T.aK T.cw rfl ?_
 k_mem
 refine ⟨_,_,_,rfl,SqL.of hdl1,by omega,by omega,fun gb H2 hgb f2 hgb2=>?_⟩
 have e2:=e1.trans f2
 replace hA:=hA.same f2
 k_mem
 refine ⟨⟨_,SqL.of hgb2⟩,?_⟩
 have gr:∀x∈i6 g.ds (ai n0 rs).place,0<=x/\x < g.ds.length:=fun x hx=>by
  unfold i6 at hx
  rw [List.mem_map] at hx
  obtain ⟨i,hi,rfl⟩:=hx
  have:=List.mem_range.mp (List.mem_filter.mp hi).1
  omega
 k_upd
 refine ff ((i6 g.ds (ai n0 rs).place).map V.int) (Gq w c lv kd s1 H2 (i6 g.ds (ai n0 rs).place) (ai n0 rs).gates) ⟨rfl,⟨_,rfl⟩,fun j hj=>absurd hj (Nat.not_lt_zero _)⟩ ?_ ?_ ?_
 ·rintro i σ H' _ ⟨rfl,_⟩
  exact SqL.of hgb2
 ·rintro i x σ H' hx ⟨rfl,⟨t,rfl⟩,hj⟩
  obtain ⟨z,rfl,hz,hzm⟩:=kj hx
  have hzr:=gr z hzm
  k_mem
  refine fgo hA.ob T.aK T.cf rfl ?_
  k_mem
  refine ⟨_,SqL.of hA.go,_,km hzr.1 (by omega),?_⟩
  k_mem
  split
  ·rename_i hopen
   k_upd
   exact ⟨by decide,q2 hlv.1 hlv.2 (List.any_eq_true.mpr ⟨z,hzm,hopen⟩) _ e2⟩
  ·rename_i hopen
   k_upd
   refine ⟨rfl,⟨_,rfl⟩,fun j hj' y hy=>?_⟩
   by_cases e:j=i
   ·subst e
    rw [hz] at hy
    cases hy
    simpa using hopen
   ·exact hj j (by omega) y hy
 ·rintro σ H' ⟨rfl,⟨t,rfl⟩,hj⟩
  have hno:hV g (ai n0 rs)=false:=by
   unfold hV
   rw [List.any_eq_false]
   intro x hx
   obtain ⟨j,hjx⟩:=List.getElem?_of_mem hx
   rw [hj j (by rw [List.length_map];exact (List.getElem?_eq_some_iff.mp hjx).1) x hjx]
   exact Bool.false_ne_true
  k_mem
  refine fgo hA.ob T.aK T.cx rfl ?_
  k_mem
  obtain ⟨db1,hbb⟩:=hA.be.ob
  k_upd
  refine mgo hbb rfl ⟨_,_,_,_,_,_,_,_,_,rfl,hA.be,hkd,fun h=>absurd ⟨hlv.1,by omega⟩ h,fun _ _ h H' s'=>q3 hlv.1 hlv.2 hno h H' (e2.trans s'),fun _ _ harm st2 H3 k3 hB3=>?_⟩
  have h3:=q4 hlv.1 hlv.2 hno harm
  have e3:=e2.keeps k3 hb1
  have hA3:=hA.bells k3 hB3
  clear k3 hB3
  k_mem
  refine fgo (e3 _ _ hob) T.aT T.cz rfl ?_
  k_mem
  refine ⟨_,_,_,_,rfl,SqL.of (e3 _ _ hdl),hlv.1,hlv.2,?_⟩
  rw [show (if c=0 then g.ds.getD lv.toNat 0 else bS g.ds - g.ds.getD lv.toNat 0)=cK g.ds c lv from rfl]
  k_mem
  refine fgo hA3.ob T.aK T.cw rfl ?_
  k_mem
  refine mgo (e3 _ _ hob) rfl ⟨_,_,_,_,_,_,_,_,rfl,hW.same e3,hA3.at,hks,fun H4 f4=>?_⟩
  have e4:=e3.trans f4
  replace hA3:=hA3.same f4
  have hspd:bu g {(ai n0 rs) with e:=Eng.used lv (cC g.ls lv kd)}=bu g (ai n0 rs):=rfl
  rw [hspd]
  k_upd
  refine ⟨_,_,rfl,by omega,Int.lt_of_le_of_lt hsp5 (by decide),?_⟩
  k_mem
  refine ⟨_,_,_,hA3.ob,T.aK,T.cw,by show 4 < 1000;decide,?_⟩
  have k5:L2.aB s1 H4 (upd H4 s1 (HO.ins (clZ Z).S A.dx (ba "place" (.int (cK g.ds c lv)) [("place",.int (ai n0 rs).place),("opened",.ref A.ol),("bells",.ref A.b),("yard",.ref A.y)]))):=(aB.of (av.refl H4)).put
  have e5:=e4.keeps k5 hs1
  have hA5:=hA3.placed k5 (pl:=cK g.ds c lv) (by rw [ag];rfl)
  clear hgb2 f2 f4
  generalize upd H4 s1 (HO.ins (clZ Z).S A.dx (ba "place" (.int (cK g.ds c lv)) [("place",.int (ai n0 rs).place),("opened",.ref A.ol),("bells",.ref A.b),("yard",.ref A.y)]))=H5 at *
  k_upd
  refine ⟨_,_,e5 _ _ hob,rfl,by decide,fun p hp=>?_⟩
  have e6:=e5.lay (o:=HO.tup [V.str (Str.ofString "wind"),V.int c,V.int lv,V.str kd]) hp
  have f6:=(av.refl H5).lay (o:=HO.tup [V.str (Str.ofString "wind"),V.int c,V.int lv,V.str kd]) hp
  k_upd
  refine ⟨_,_,_,_,_,_,p,s1,(cL g (ai n0 rs) (.wind c lv kd)),ddV (.wind c lv kd),aV g (ai n0 rs) (.wind c lv kd),rfl,hW.same e6,SqT.of (by rw [ag];rfl),?_,?_,fun h H' s'=>h3.1 h H' (e6.trans s'),fun h H' k hWn=>?_⟩
  ·exact (aQ.at hA5).same f6
  ·rw [hks];first | rfl | simp only [aV,List.length_set]
  ·k_upd
   exact h3.2 h H' ((aB.of e6).trans k) hWn
variable (qm:KM P w K mg base (CXf P w) 5 Z.bb "wind" (jR K Z))
theorem two_deepW {p q c:Int}(h0:0<=c)(h1:c < 2):atI [V.int p,V.int q] c=some (.int (if c=0 then p else q)):=by
 rcases (by omega:c=0\/c=1) with rfl | rfl<;>rfl
inductive fO (K:W.Frag)(Z:Adr)(vs:List V)(H:Hp)(Q:VK)(E:XK):Prop | mk (w bk rl:Addr) (g:Cfg) (n0:aI) (rs:List Row) (c:Int):vs=[.ref w,.int c]->WAt (clZ Z) K H w bk rl g n0 rs->bP g.ds->0<=c->c < 2->(∀H',av H H'->Q (lvV (a9 g.ds (ai n0 rs).place c)) H')->fO K Z vs H Q E
include T uE nR in
theorem qo:FF P w K mg base CX0 5 "level_of" "Works.level_of" fS jZ (fO K Z):=fk0 pU fun vs H Q E h=>by
 obtain ⟨w,bk,rl,g,n0,rs,c,rfl,hW,hsh,h0,h1,q⟩:=h
 k_all
 refine ⟨_,ah (aw (dc0 uE hr.dn (pa2 (az (pv' 0)) (ao aq (dP (pv' 0) nR hr.dn bj) (pv' 1))))),?_⟩
 obtain ⟨⟨dx,dl,gl,hob,hdl,hgl,n1,n2⟩,hB⟩:=id hW
 obtain ⟨⟨db,f0,hbo,hF⟩,as,hrl,hR⟩:=id hB
 k_mem
 refine fgo hob T.aT T.cz rfl ?_
 k_mem
 refine mgo hob rfl ⟨_,_,_,_,_,_,rfl,hW,by have:=hsh.l2;omega,fun p hp=>?_⟩
 have s1:=(av.refl H).lay (o:=HO.tup [.int (ai n0 rs).place,.int (bS g.ds - (ai n0 rs).place)]) hp
 k_mem
 refine ⟨_,SqT.of ag,_,two_deepW h0 h1,?_⟩
 have l6:=hsh.l6
 k_upd
 refine ⟨_,_,_,rfl,SqL.of (s1 _ _ hdl),by omega,fun i hi e=>?_,fun hne=>?_⟩
 ·have q':=q _ s1
  rw [show a9 g.ds (ai n0 rs).place c=some (i:Int) from by rw [a9];split<;>rename_i hc<;>(first | rw [if_pos hc] at e | rw [if_neg hc] at e)<;>exact hJ hsh hi e] at q'
  k_upd
  exact q'
 ·have q':=q _ s1
  rw [show a9 g.ds (ai n0 rs).place c=none from by rw [a9];split<;>rename_i hc<;>refine xW fun i hi=>?_<;>have:=hne i hi<;>(first | rw [if_pos hc] at this | rw [if_neg hc] at this)<;>exact this] at q'
  k_upd
  exact q'
variable (eh:KM P w K mg base CX0 5 Z.bb "level_of" (fO K Z))
noncomputable def mH (K:W.Frag):Nat->Sp
 | 0=>fun _ _ _ _=>False
 | n+1=>fun vs H Q _=>∃(x y:V) (d:Dt),vs=[x,y]/\Rep K H n x d/\Rep K H n y d/\∀H',av H H'->Q (.bl true) H'
noncomputable def B1 (K:W.Frag)(Z:Adr):Sp:=mH K 5
def A7 (x y:V)(H:Hp)(_:Nat)(σ:St)(H':Hp):Prop:=av H H'/\∃t,σ=[some x,some y,none,t]
theorem B2 {v:V}{T:String}(h:tJ v=some T):(["list","tuple"].any (xT T))=false:=by
 cases v<;>simp only [tJ,Option.some.injEq,reduceCtorEq] at h<;>subst h<;>decide
theorem yR {v:V}(h:bY v=true):∃T,tJ v=some T:=by
 cases v<;>simp only [bY,reduceCtorEq,Bool.false_eq_true] at h<;>exact ⟨_,rfl⟩
theorem B3 {v:V}(h:bY v=true):uW v v=true:=by
 cases v<;>simp only [bY,reduceCtorEq,Bool.false_eq_true] at h<;>rfl
include T in
theorem sy {n:Nat}(dh:KD P w K mg base CX0 n "_law_same" (mH K n)):FF P w K mg base CX0 (n+1) "_law_same" "_law_same" ma pR (mH K (n+1)):=fk0 qQ fun vs H Q E h=>by
 obtain ⟨x,y,d,rfl,hx,hy,q⟩:=h
 k_all
 refine ⟨_,ae (aJ (cT (bU (aE qz (by rfl) T.bE bp (pa2 (pv' 1) (aP (pa2 (cV (v:=.ty "list") (by rfl) T.eC cW rfl) (cV (v:=.ty "tuple") (by rfl) T.pY lI rfl))))))) (ae (aD (i:=2) qQ.nd rfl orL (cB jo (aE qz (by rfl) T.bE bp (pa2 (pv' 0) (aP (pa2 (cV (v:=.ty "int") (by rfl) T.nJ jl rfl) (cV (v:=.ty "str") (by rfl) T.G3 CK rfl))))) (aE qz (by rfl) T.bE bp (pa2 (pv' 1) (aP (pa2 (cV (v:=.ty "int") (by rfl) T.nJ jl rfl) (cV (v:=.ty "str") (by rfl) T.G3 CK rfl))))) (bV _))) (ah (aw (ja (pv' 2) (ja (cB jo (aE gW (by rfl) T.bE bp (pa2 (pv' 0) (cV (v:=.ty "bool") (by rfl) T.zV wU rfl))) (aE gW (by rfl) T.bE bp (pa2 (pv' 1) (cV (v:=.ty "bool") (by rfl) T.zV wU rfl))) (bV _)) (lB (cB jo (pv' 0) (pv' 1) (bV _)))))))) (aA)) (ae (aJ (i9 (aE gW (by rfl) T.bE bp (pa2 (pv' 0) (cV (v:=.ty "list") (by rfl) T.eC cW rfl))) (aE gW (by rfl) T.bE bp (pa2 (pv' 1) (cV (v:=.ty "list") (by rfl) T.eC cW rfl)))) (ah (aw eF)) (aA)) (ae (aJ (iZ (i9 (aE gW (by rfl) T.bE bp (pa2 (pv' 0) (cV (v:=.ty "tuple") (by rfl) T.pY lI rfl))) (aE gW (by rfl) T.bE bp (pa2 (pv' 1) (cV (v:=.ty "tuple") (by rfl) T.pY lI rfl)))) (fQ (i9 (aE ax (by rfl) T.bQ a7 (pa1 (pv' 0))) (aE ax (by rfl) T.bQ a7 (pa1 (pv' 1)))))).pt (ah (aw eF)) (aA)) (ae (cy PassesOwn.never rfl (bq (by rfl) T.cb (pa1 (aE ax (by rfl) T.bQ a7 (pa1 (pv' 1))))) (aF (i:=3) qQ.nd rfl orL) (ah (aJ (cT (bU (dc0 dh hr (pa2 (ao CA (pv' 0) (pv' 3)) (ao CA (pv' 1) (pv' 3)))))) (ah (aw eF)) (aA)))) (ah (aw eF))))),?_⟩
 k_mem
 refine ⟨by decide,fun tp htp=>?_⟩
 have s1:=(av.refl H).lay (o:=HO.tup [V.ty "list",V.ty "tuple"]) htp
 have ht1:upd H tp (HO.tup [V.ty "list",V.ty "tuple"]) tp=some (HO.tup (["list","tuple"].map V.ty)):=ag
 generalize upd H tp (HO.tup [V.ty "list",V.ty "tuple"])=H1 at *
 cases hx with
 | @flat _ v hv=>
  cases hy with
  | flat _=>
   obtain ⟨T0,hT⟩:=yR hv
   refine ⟨_,tp,["list","tuple"],T0,rfl,SqT.of ht1,.inl hT,by decide,?_⟩
   rw [B2 hT]
   k_mem
   refine ⟨by decide,fun p1 hp1=>⟨_,p1,["int","str"],T0,rfl,SqT.of ag,.inl hT,by decide,?_⟩⟩
   refine ⟨by decide,fun p2 hp2=>⟨_,p2,["int","str"],T0,rfl,SqT.of ag,.inl hT,by decide,?_⟩⟩
   k_mem
   rw [if_pos rfl]
   refine ⟨_,"bool",T0,rfl,.inl hT,by decide,_,"bool",T0,rfl,.inl hT,by decide,?_⟩
   k_mem
   rw [if_pos rfl]
   refine AM.mp ⟨B3 hv,?_⟩
   rw [decide_eq_true rfl]
   exact q _ ((s1.lay hp1).lay hp2)
 | @lst m a xs ds hs hb hl hrx=>
  cases hy with
  | @lst _ b ys _ hs' hb' hl' hry=>
   have ha1:=s1.seq hs
   have hb1:=s1.seq hs'
   refine ⟨.ref b,tp,["list","tuple"],"list",rfl,SqT.of ht1,.inr (.inl ⟨b,ys,rfl,hb1,rfl⟩),by decide,?_⟩
   rw [show (["list","tuple"].any (xT "list"))=true from by decide]
   k_mem
   refine ⟨.ref a,"list","list",rfl,.inr (.inl ⟨a,xs,rfl,ha1,rfl⟩),by decide,.ref b,"list","list",rfl,.inr (.inl ⟨b,ys,rfl,hb1,rfl⟩),by decide,?_⟩
   k_mem
   refine ⟨.ref a,"tuple","list",rfl,.inr (.inl ⟨a,xs,rfl,ha1,rfl⟩),by decide,.ref b,"tuple","list",rfl,.inr (.inl ⟨b,ys,rfl,hb1,rfl⟩),by decide,?_⟩
   k_mem
   refine ⟨xs,.inl ha1,ys,.inl hb1,?_⟩
   rw [if_neg (by omega)]
   refine ⟨ys,.inl hb1,by omega,by omega,?_⟩
   refine bF (A7 (.ref a) (.ref b) H1) ⟨av.refl _,_,rfl⟩ ?_ ?_
   ·rintro i σ H2 hi ⟨s2,t,rfl⟩
    have hi1:i < xs.length:=by omega
    have hi2:i < ys.length:=by omega
    have hi3:i < ds.length:=by omega
    have ex:xs[i]?=some xs[i]:=List.getElem?_eq_getElem hi1
    have ey:ys[i]?=some ys[i]:=List.getElem?_eq_getElem hi2
    have ed:ds[i]?=some ds[i]:=List.getElem?_eq_getElem hi3
    k_mem
    rw [Int.zero_add]
    refine .inl ⟨a,xs,_,_,rfl,rfl,s2.seq ha1,fq ex,.inl ⟨b,ys,_,_,rfl,rfl,s2.seq hb1,fq ey,?_⟩⟩
    refine ⟨_,_,ds[i],rfl,(hrx i _ _ ex ed).same (s1.trans s2),(hry i _ _ ey ed).same (s1.trans s2),fun H3 s3=>?_⟩
    k_mem
    exact ⟨s2.trans s3,_,rfl⟩
   ·rintro σ H2 ⟨s2,t,rfl⟩
    k_mem
    exact q _ (s1.trans s2)
 | @tup m a xs ds hs hb hl hrx=>
  cases hy with
  | @tup _ b ys _ hs' hb' hl' hry=>
   have ha1:=s1.tup hs
   have hb1:=s1.tup hs'
   refine ⟨.ref b,tp,["list","tuple"],"tuple",rfl,SqT.of ht1,.inr (.inr ⟨b,ys,rfl,hb1,rfl⟩),by decide,?_⟩
   rw [show (["list","tuple"].any (xT "tuple"))=true from by decide]
   k_mem
   refine ⟨.ref a,"list","tuple",rfl,.inr (.inr ⟨a,xs,rfl,ha1,rfl⟩),by decide,.ref b,"list","tuple",rfl,.inr (.inr ⟨b,ys,rfl,hb1,rfl⟩),by decide,?_⟩
   k_mem
   refine ⟨.ref a,"tuple","tuple",rfl,.inr (.inr ⟨a,xs,rfl,ha1,rfl⟩),by decide,.ref b,"tuple","tuple",rfl,.inr (.inr ⟨b,ys,rfl,hb1,rfl⟩),by decide,?_⟩
   k_mem
   refine ⟨xs,.inr ha1,ys,.inr hb1,?_⟩
   rw [if_neg (by omega)]
   refine ⟨ys,.inr hb1,by omega,by omega,?_⟩
   refine bF (A7 (.ref a) (.ref b) H1) ⟨av.refl _,_,rfl⟩ ?_ ?_
   ·rintro i σ H2 hi ⟨s2,t,rfl⟩
    have hi1:i < xs.length:=by omega
    have hi2:i < ys.length:=by omega
    have hi3:i < ds.length:=by omega
    have ex:xs[i]?=some xs[i]:=List.getElem?_eq_getElem hi1
    have ey:ys[i]?=some ys[i]:=List.getElem?_eq_getElem hi2
    have ed:ds[i]?=some ds[i]:=List.getElem?_eq_getElem hi3
    k_mem
    rw [Int.zero_add]
    refine .inr (.inl ⟨a,xs,_,_,rfl,rfl,s2.tup ha1,fq ex,.inr (.inl ⟨b,ys,_,_,rfl,rfl,s2.tup hb1,fq ey,?_⟩)⟩)
    refine ⟨_,_,ds[i],rfl,(hrx i _ _ ex ed).same (s1.trans s2),(hry i _ _ ey ed).same (s1.trans s2),fun H3 s3=>?_⟩
    k_mem
    exact ⟨s2.trans s3,_,rfl⟩
   ·rintro σ H2 ⟨s2,t,rfl⟩
    k_mem
    exact q _ (s1.trans s2)
include T in
theorem B4 {f:Addr}{fd:FuncData}(b:mg "_law_same"=some (.ref f))(F:Fun K "_law_same" "_law_same" ma f fd)(c:dI K fd pR []):FF P w K mg base CX0 5 "_law_same" "_law_same" ma pR (mH K 5):=
 have h:∀n,KD P w K mg base CX0 n "_law_same" (mH K n):=fun n=>by
  induction n with
  | zero=>exact ⟨f,fd,_,b,F.kp,c,CS⟩
  | succ n ih=>exact KD.mk b F c (sy T ih)
 sy T (h 4)
variable (dh:KD P w K mg base CX0 5 "_law_same" (B1 K Z))
inductive rB (K:W.Frag)(Z:Adr)(vs:List V)(H:Hp)(Q:VK)(E:XK):Prop | mk (p dl cl ll:Addr) (ds:List Int) (ls:List Cd) (slow fast:Int) (lds:List Ld) (N0:Addr->Prop):vs=[.ref p]->dW K H p dl cl ll (fh ds ls slow fast lds N0) lds->bP ds->ls.length=ds.length->((∀x∈ls,dM x))->((1<=slow/\slow<=fast/\fast<=500))->lds.length<=30->((∀x∈lds,hG (ds.length:Nat) x))->(∀(w bk rl:Addr) (N:Addr->Prop) (H':Hp),av H H'->H rl=none->H w=none->WAt (clZ Z) K H' w bk rl (fh ds ls slow fast lds N) (cE ds ls lds) []->Q (.ref w) H')->rB K Z vs H Q E
include T qh in
theorem B5:FF P w K mg base (CXf P w) 5 "_law_made" "_law_made" uh yu (rB K Z):=fkF fi fun vs H Q E h=>by
 obtain ⟨p,dl,cl,ll,ds,ls,slow,fast,lds,N0,rfl,hP,hsh,hlen,hg,hsp,h30,hld,q⟩:=h
 k_all
 refine seg 6 (ah (aw (pv' 7))) fun zt6 zh6 ze6=>?_
 refine seg 5 (ae (a6 (tG PySem.F.plainAttrs_list PySem.F.slot_list_clear PySem.F.type_list_clear v8 (ao au (pv' 6) af))) zh6) fun zt5 zh5 ze5=>?_
 refine seg 4 (ae (a6 (tG PySem.F.plainAttrs_list PySem.F.slot_list_clear PySem.F.type_list_clear v8 (ao au (pv' 6) af))) zh5) fun zt4 zh4 ze4=>?_
 refine seg 3 (ae (kh af (tj (ao au (pv' 6) af) (jV dY af) jY)) zh4) fun zt3 zh3 ze3=>?_
 refine seg 2 (ae (aD (i:=7) fi.nd rfl orL (dn qh hr.dn T.Gf bg (dU (ao au (pv' 6) af) (pa4 (ao au (pv' 6) af) (pv' 3) (pv' 4) (ao au (pv' 6) af))))) zh3) fun zt2 zh2 ze2=>?_
 refine seg 1 (ae (aD (i:=6) fi.nd rfl orL (bX (pa3 (bh bW (by rfl) T.eC cW (pa1 (pv' 1))) (bh bW (by rfl) T.eC cW (pa1 (pv' 2))) (bh bW (by rfl) T.eC cW (pa1 (pv' 5)))))) zh2) fun zt1 zh1 ze1=>?_
 refine ⟨_,ae (kh (pv' 0) (A4 rfl (aH (aF (i:=1) fi.nd rfl orL) (aH (aF (i:=2) fi.nd rfl orL) (aH (aF (i:=3) fi.nd rfl orL) (aH (aF (i:=4) fi.nd rfl orL) (aH (aF (i:=5) fi.nd rfl orL) c9))))))) zh1,?_⟩
 obtain ⟨hp,hdl,⟨as,hcl,hT⟩,⟨bs,hll,hT2⟩,_⟩:=id hP
 replace hdl:H dl=some (HO.lst (ds.map V.int)):=hdl
 replace hp:H p=some (HO.lst [V.ref dl,V.ref cl,V.int slow,V.int fast,V.ref ll]):=hp
 replace hT:cG cdV K H as ls:=hT
 have l2:=hsh.l2
 have l6:=hsh.l6
 k_mem
 refine ⟨_,SqL.of hp,rfl,?_⟩
 k_mem
 refine ⟨_,.inl (SqL.of hdl),fun p1 hp1=>⟨_,.inl (SqL.of (upo hcl hp1)),fun p2 hp2=>⟨_,.inl (SqL.of (upo (upo hll hp1) hp2)),fun p3 hp3=>⟨by decide,fun h hh=>?_⟩⟩⟩⟩
 have s2:=(((((av.refl H).lay (o:=HO.lst (ds.map V.int)) hp1).lay (o:=HO.lst (as.map V.ref)) hp2).lay (o:=HO.lst (bs.map V.ref)) hp3).lay (o:=HO.lst [V.ref p1,V.ref p2,V.ref p3]) hh)
 have q1:upd (upd (upd (upd H p1 (HO.lst (ds.map V.int))) p2 (HO.lst (as.map V.ref))) p3 (HO.lst (bs.map V.ref))) h (HO.lst [V.ref p1,V.ref p2,V.ref p3]) p1=some (HO.lst (ds.map V.int)):=upo (upo (upo ag hp2) hp3) hh
 have q2:upd (upd (upd (upd H p1 (HO.lst (ds.map V.int))) p2 (HO.lst (as.map V.ref))) p3 (HO.lst (bs.map V.ref))) h (HO.lst [V.ref p1,V.ref p2,V.ref p3]) p2=some (HO.lst (as.map V.ref)):=upo (upo ag hp3) hh
 have q3:upd (upd (upd (upd H p1 (HO.lst (ds.map V.int))) p2 (HO.lst (as.map V.ref))) p3 (HO.lst (bs.map V.ref))) h (HO.lst [V.ref p1,V.ref p2,V.ref p3]) p3=some (HO.lst (bs.map V.ref)):=upo ag hh
 have q4:upd (upd (upd (upd H p1 (HO.lst (ds.map V.int))) p2 (HO.lst (as.map V.ref))) p3 (HO.lst (bs.map V.ref))) h (HO.lst [V.ref p1,V.ref p2,V.ref p3]) h=some (HO.lst [V.ref p1,V.ref p2,V.ref p3]):=ag
 have f1:=hp1
 have f2:=upn hp2
 have f3:=upn (upn hp3)
 have n12:p1≠p2:=ak ag hp2
 have n13:p1≠p3:=ak (upo ag hp2) hp3
 have n23:p2≠p3:=ak ag hp3
 have nh1:p1≠h:=ak (upo (upo ag hp2) hp3) hh
 have nh2:p2≠h:=ak (upo ag hp3) hh
 have nh3:p3≠h:=ak ag hh
 generalize upd (upd (upd (upd H p1 (HO.lst (ds.map V.int))) p2 (HO.lst (as.map V.ref))) p3 (HO.lst (bs.map V.ref))) h (HO.lst [V.ref p1,V.ref p2,V.ref p3])=H2 at *
 k_upd
 refine ⟨_,SqL.of q4,_,rfl,_,SqL.of q4,_,rfl,_,SqL.of q4,_,rfl,?_⟩
 refine fun x dx hx hdx nxd=>?_
 have hx':upd H2 dx (.own x) x=none:=by rw [aG (Ne.symm nxd)];exact hx
 have sx:=((av.refl H2).lay (o:=HO.own x) hdx).lay (o:=HO.ins Z.bb dx []) hx'
 k_upd
 refine ⟨x,dx,p1,p2,p3,ds,ls,lds,slow,fast,fun z=>z=p1\/z=p2\/z=p3,rfl,ag,sx.seq (SqL.of q1),⟨as,sx.seq (SqL.of q2),(hT.same s2).same sx⟩,⟨bs,sx.seq (SqL.of q3),(hT2.same s2).same sx⟩,by omega,by omega,by omega,?_,fun h=>absurd hsh h,fun _ h=>absurd ⟨by omega,hg⟩ h,fun _ _ h=>absurd hsp h,fun _ _ _ h=>absurd ⟨h30,hld⟩ h,fun _ _ _ _ bk rl H3 kx hrl hW=>⟨rfl,?_⟩⟩
 ·rintro z (rfl | rfl | rfl)
  ·k_upd
   exact ⟨_,sx _ _ q1⟩
  ·k_upd
   exact ⟨_,sx _ _ q2⟩
  ·k_upd
   exact ⟨_,sx _ _ q3⟩
 have s3:=gn hx hdx kx
 have frl:H2 rl=none:=fu hrl
 clear kx hrl sx
 k_mem
 refine ⟨_,SqL.of (s3 _ _ q4),_,rfl,_,s3 _ _ q1,ds.length - 1,by rw [List.length_map];exact Ir (by omega),?_⟩
 have k4:L2.aB p1 H3 (upd H3 p1 (HO.lst ((ds.map V.int).set (ds.length - 1) (V.int 777)))):=(aB.of (av.refl H3)).put
 have e4:upd H3 p1 (HO.lst ((ds.map V.int).set (ds.length - 1) (V.int 777))) p1=some (HO.lst ((ds.map V.int).set (ds.length - 1) (V.int 777))):=ag
 generalize upd H3 p1 (HO.lst ((ds.map V.int).set (ds.length - 1) (V.int 777)))=H4 at *
 have hW4:=hW.own (.inl rfl) k4 e4
 have s4:av H H4:=(s2.trans s3).keeps k4 f1
 have r2:=k4 _ _ n12.symm (s3 _ _ q2)
 have r3:=k4 _ _ n13.symm (s3 _ _ q3)
 have r4:=k4 _ _ nh1.symm (s3 _ _ q4)
 k_mem
 refine ⟨_,SqL.of r4,_,rfl,.inl ⟨rfl,_,SqL.of r2⟩,?_⟩
 k_mem
 refine ⟨_,r2,?_⟩
 have k5:L2.aB p2 H4 (upd H4 p2 (HO.lst [])):=(aB.of (av.refl H4)).put
 have e5:upd H4 p2 (HO.lst []) p2=some (HO.lst []):=ag
 generalize upd H4 p2 (HO.lst [])=H5 at *
 have hW5:=hW4.own (.inr (.inl rfl)) k5 e5
 have s5:av H H5:=s4.keeps k5 f2
 have u3:=k5 _ _ n23.symm r3
 have u4:=k5 _ _ nh2.symm r4
 k_mem
 refine ⟨_,SqL.of u4,_,rfl,.inl ⟨rfl,_,SqL.of u3⟩,?_⟩
 k_mem
 refine ⟨_,u3,?_⟩
 have k6:L2.aB p3 H5 (upd H5 p3 (HO.lst [])):=(aB.of (av.refl H5)).put
 have e6:upd H5 p3 (HO.lst []) p3=some (HO.lst []):=ag
 have hW6:=hW5.own (.inr (.inr rfl)) k6 e6
 k_upd
 exact q x bk rl _ _ (s5.keeps k6 f3) (s2.free frl) (s2.free hx) hW6
variable (qp:KD P w K mg base (CXf P w) 5 "_law_made" (rB K Z))
inductive e8 (K:W.Frag)(Z:Adr)(vs:List V)(H:Hp)(Q:VK)(E:XK):Prop | mk (w bk rl:Addr) (g:Cfg) (n0:aI) (rs:List Row) (lv:Int):vs=[.ref w,.int lv]->WAt (clZ Z) K H w bk rl g n0 rs->g.ls.length<=1000->g.ks.length=(ai n0 rs).ws.length->(ai n0 rs).gates.length=g.ds.length->((¬(0<=lv/\lv < g.ds.length)->∀H',av H H'->E (.ref Z.aY) none H'))->((0<=lv->lv < g.ds.length->(ai n0 rs).gates.getD lv.toNat false=true->∀H',av H H'->E (.ref Z.fI) none H'))->((0<=lv->lv < g.ds.length->(ai n0 rs).gates.getD lv.toNat false=false->sv Z K H w bk rl g n0 rs (.opn lv) Q E))->e8 K Z vs H Q E
include T dH in
theorem oP:FF P w K mg base (CXf P w) 6 "open_gate" "Works.open_gate" fD jc (e8 K Z):=fkF oh fun vs H Q E h=>by
 obtain ⟨w,bk,rl,g,n0,rs,lv,rfl,hW,hls,hks,hgl2,q1,q2,q3⟩:=h
 k_all
 refine ⟨_,ah (aw (dm' (pv' 0) dH hr.dn bg (pa3 aC (pv' 1) eF))),?_⟩
 obtain ⟨dx,dl,gl,hob,_⟩:=id hW.ob
 k_mem
 exact mgo hob rfl ⟨_,_,_,_,_,_,_,_,_,_,rfl,hW,hls,hks,hgl2,.inl ⟨rfl,rfl,rfl⟩,q1,q2,q3⟩
variable (jj:KM P w K mg base (CXf P w) 6 Z.bb "open_gate" (e8 K Z))
inductive fe (K:W.Frag)(Z:Adr)(vs:List V)(H:Hp)(Q:VK)(E:XK):Prop | mk (w bk rl:Addr) (g:Cfg) (n0:aI) (rs:List Row) (lv:Int):vs=[.ref w,.int lv]->WAt (clZ Z) K H w bk rl g n0 rs->g.ls.length<=1000->g.ks.length=(ai n0 rs).ws.length->(ai n0 rs).gates.length=g.ds.length->((¬(0<=lv/\lv < g.ds.length)->∀H',av H H'->E (.ref Z.aY) none H'))->((0<=lv->lv < g.ds.length->(ai n0 rs).gates.getD lv.toNat false=false->∀H',av H H'->E (.ref Z.fI) none H'))->((0<=lv->lv < g.ds.length->(ai n0 rs).gates.getD lv.toNat false=true->sv Z K H w bk rl g n0 rs (.sht lv) Q E))->fe K Z vs H Q E
include T dH in
theorem oQ:FF P w K mg base (CXf P w) 6 "shut_gate" "Works.shut_gate" fE jd (fe K Z):=fkF oi fun vs H Q E h=>by
 obtain ⟨w,bk,rl,g,n0,rs,lv,rfl,hW,hls,hks,hgl2,q1,q2,q3⟩:=h
 k_all
 refine ⟨_,ah (aw (dm' (pv' 0) dH hr.dn bg (pa3 aC (pv' 1) eF))),?_⟩
 obtain ⟨dx,dl,gl,hob,_⟩:=id hW.ob
 k_mem
 exact mgo hob rfl ⟨_,_,_,_,_,_,_,_,_,_,rfl,hW,hls,hks,hgl2,.inr ⟨rfl,rfl,rfl⟩,q1,q2,q3⟩
variable (jk:KM P w K mg base (CXf P w) 6 Z.bb "shut_gate" (fe K Z))
inductive jS (K:W.Frag)(Z:Adr)(vs:List V)(H:Hp)(Q:VK)(E:XK):Prop | mk (w bk rl:Addr) (g:Cfg) (n0:aI) (rs:List Row) (k c:Int):vs=[.ref w,.int k,.int c]->WAt (clZ Z) K H w bk rl g n0 rs->g.ls.length<=1000->g.ks.length=(ai n0 rs).ws.length->bP g.ds->(ai n0 rs).gates.length=g.ds.length->g.goals.length=(ai n0 rs).ws.length->0<=c->c < 2->((¬(0<=k/\k < (ai n0 rs).ws.length)->∀H',av H H'->E (.ref Z.dR) none H'))->((0<=k->k < (ai n0 rs).ws.length->(∀l,a9 g.ds (ai n0 rs).place c=some l->(ai n0 rs).ws.getD k.toNat 0≠l)->∀H',av H H'->E (.ref Z.iD) none H'))->((∀l,0<=k->k < (ai n0 rs).ws.length->a9 g.ds (ai n0 rs).place c=some l->(ai n0 rs).ws.getD k.toNat 0=l->10+c∈(ai n0 rs).ws->∀H',av H H'->E (.ref Z.gY) none H'))->((∀l,0<=k->k < (ai n0 rs).ws.length->a9 g.ds (ai n0 rs).place c=some l->(ai n0 rs).ws.getD k.toNat 0=l->¬10+c∈(ai n0 rs).ws->(ai n0 rs).gates.getD l.toNat false=false->∀H',av H H'->E (.ref Z.iG) none H'))->((∀l,0<=k->k < (ai n0 rs).ws.length->a9 g.ds (ai n0 rs).place c=some l->(ai n0 rs).ws.getD k.toNat 0=l->¬10+c∈(ai n0 rs).ws->(ai n0 rs).gates.getD l.toNat false=true->sv Z K H w bk rl g n0 rs (.load k c) Q E))->jS K Z vs H Q E
include T dj aL gV cj so bf aR eh in
theorem vJ:FF P w K mg base (CXf P w) 6 "load" "Works.load" kM pP (jS K Z):=fkF jz fun vs H Q E h=>by
 obtain ⟨w,bk,rl,g,n0,rs,k,c,rfl,hW,hls,hks,hsh,hgl2,hgo,h0,h1,q1,q2,q3,q4,q5⟩:=h
 k_all
 refine seg 6 (ah (aw (dm' (pv' 0) bf hr.dn bg (pa3 (aP (pa3 aC (pv' 1) (pv' 2))) af (pv' 3))))) fun zt6 zh6 ze6=>?_
 refine seg 5 (ae (a6 (dm' (pv' 0) cj hr.dn bg (pa1 (pv' 4)))) zh6) fun zt5 zh5 ze5=>?_
 refine seg 4 (ae (a6 (dm' (az (pv' 3)) so hr.dn bg (pa2 (pv' 1) (pv' 2)))) zh5) fun zt4 zh4 ze4=>?_
 refine seg 3 (ae (aJ (iZ (xp (pv' 4) en) (fQ (i9 (ao au (dP (az (pv' 3)) dj hr.dn bj) (pv' 1)) (pv' 4)))).pt (ah (aX T.oy (by rfl) T.ow (pa1 aC))) (aA)) zh4) fun zt3 zh3 ze3=>?_
 refine seg 2 (ae (aD (i:=4) jz.nd rfl orL (dm' (pv' 0) eh hr.dn bj (pa1 (pv' 2)))) zh3) fun zt2 zh2 ze2=>?_
 refine seg 1 (ae (a6 (dc gV hr.dn bg (pa2 (pv' 1) (aE ax (by rfl) T.bQ a7 (pa1 (az (pv' 0))))))) zh2) fun zt1 zh1 ze1=>?_
 refine ⟨_,ae (aD (i:=3) jz.nd rfl orL (dP (dP (az (pv' 0)) aL hr.dn bj) aR hr.dn bj)) zh1,?_⟩
 obtain ⟨⟨dx,dl,gl,hob,hdl,hgl,n1,n2⟩,hB⟩:=id hW
 obtain ⟨⟨db,f0,hbo,hF⟩,as,hrl,hR⟩:=id hB
 k_mem
 refine fgo hob T.aT T.aZ rfl ?_
 k_mem
 refine mgo hbo rfl ⟨_,_,_,_,_,rfl,hB,fun s0 ⟨A0,hA0⟩=>?_⟩
 k_mem
 refine mgo hA0.ob rfl ⟨_,_,_,_,_,rfl,hA0.at,hrl,hls,fun s1 A H1 e1 hs1 ho1 hb1 hf1 hy1 hw1 hA=>?_⟩
 have hW1:=hW.same e1
 have hob1:=e1 _ _ hob
 have hbo1:=e1 _ _ hbo
 have hrl1:=e1 _ _ hrl
 have hdl1:=e1 _ _ hdl
 k_mem
 refine fgo hob1 T.aT T.ml rfl ?_
 k_mem
 refine ⟨_,.inl (SqL.of (e1 _ _ hgl)),_,_,rfl,?_⟩
 rw [List.length_map,hgo]
 k_upd
 refine ⟨fun hk=>?_,fun h=>q1 h _ e1⟩
 k_mem
 refine mgo hob1 rfl ⟨_,_,_,_,_,_,_,rfl,hW1,hsh,h0,h1,fun H2 f2=>?_⟩
 have e2:=e1.trans f2
 replace hA:=hA.same f2
 k_mem
 cases hc:a9 g.ds (ai n0 rs).place c with
 | none=>
  rw [if_pos (show lvV none=V.non from rfl)]
  k_upd
  exact ⟨by decide,q2 hk.1 hk.2 (fun l e=>by rw [hc] at e;cases e) _ e2⟩
 | some l=>
  obtain ⟨l0,l1,_⟩:=dN hc
  have l6:=hsh.l6
  k_upd
  rw [if_neg (show ¬(lvV (some l)=V.non) from fun z=>V.noConfusion z)]
  k_upd
  refine fgo hA.ob T.aK T.aW rfl ?_
  k_mem
  obtain ⟨dy,hyb⟩:=hA.ya.ob
  k_upd
  refine ⟨_,_,hyb,rfl,_,_,_,_,_,_,rfl,hA.ya,fun p hp=>?_⟩
  have e3:=e2.lay (o:=HO.lst ((ai n0 rs).ws.map V.int)) hp
  have f3:=(av.refl H2).lay (o:=HO.lst ((ai n0 rs).ws.map V.int)) hp
  have hq3:upd H2 p (HO.lst ((ai n0 rs).ws.map V.int)) p=some (HO.lst ((ai n0 rs).ws.map V.int)):=ag
  replace hA:=hA.same f3
  generalize upd H2 p (HO.lst ((ai n0 rs).ws.map V.int))=H3 at *
  k_mem
  refine ⟨_,SqL.of hq3,_,cX hk.1 hk.2,?_⟩
  simp only [lvV]
  k_mem
  split
  ·rename_i hne
   k_upd
   exact ⟨by decide,q2 hk.1 hk.2 (fun l' e=>by rw [hc] at e;cases e;exact hne) _ e3⟩
  ·rename_i hne
   have heq:(ai n0 rs).ws.getD k.toNat 0=l:=Decidable.not_not.mp hne
   k_upd
   refine fgo hA.ob T.aK T.aW rfl ?_
   k_mem
   obtain ⟨dy,hyb⟩:=hA.ya.ob
   k_upd
   refine ⟨_,_,hyb,rfl,_,_,_,_,_,_,_,_,rfl,hA.ya,h0,h1,fun h=>absurd hk h,fun _ _ h=>by omega,fun _ _ _ h H' s'=>q3 l hk.1 hk.2 hc heq h H' (e3.trans s'),fun _ _ _ hni H4 k4 hw4=>?_⟩
   have e4:=e3.keeps k4 hw1
   have hA4:=hA.spots k4 hw4
   clear k4 hw4
   k_mem
   refine mgo (e4 _ _ hob) rfl ⟨_,_,_,_,_,_,_,rfl,hW.same e4,l0,by omega,fun hg=>?_,fun hg=>q4 l hk.1 hk.2 hc heq hni hg _ e4⟩
   have h3:=q5 l hk.1 hk.2 hc heq hni hg
   k_mem
   refine ⟨_,_,e4 _ _ hob,rfl,by decide,fun p hp=>?_⟩
   have e5:=e4.lay (o:=HO.tup [V.str (Str.ofString "load"),V.int k,V.int c]) hp
   have f5:=(av.refl H4).lay (o:=HO.tup [V.str (Str.ofString "load"),V.int k,V.int c]) hp
   k_upd
   refine ⟨_,_,_,_,_,_,p,s1,1,ddV (.load k c),aV g (ai n0 rs) (.load k c),rfl,hW.same e5,SqT.of (by rw [ag];rfl),?_,?_,fun h H' s'=>h3.1 h H' (e5.trans s'),fun h H' k9 hWn=>?_⟩
   ·exact (aQ.at hA4).same f5
   ·rw [hks];first | rfl | simp only [aV,List.length_set]
   ·k_upd
    exact h3.2 h H' ((aB.of e5).trans k9) hWn
variable (qr:KM P w K mg base (CXf P w) 6 Z.bb "load" (jS K Z))
inductive gL (K:W.Frag)(Z:Adr)(vs:List V)(H:Hp)(Q:VK)(E:XK):Prop | mk (w bk rl:Addr) (g:Cfg) (n0:aI) (rs:List Row) (c:Int):vs=[.ref w,.int c]->WAt (clZ Z) K H w bk rl g n0 rs->g.ls.length<=1000->g.ks.length=(ai n0 rs).ws.length->bP g.ds->(ai n0 rs).gates.length=g.ds.length->0<=c->c < 2->((¬10+c∈(ai n0 rs).ws->∀H',av H H'->E (.ref Z.gZ) none H'))->((10+c∈(ai n0 rs).ws->a9 g.ds (ai n0 rs).place c=none->∀H',av H H'->E (.ref Z.iD) none H'))->((∀l,10+c∈(ai n0 rs).ws->a9 g.ds (ai n0 rs).place c=some l->(ai n0 rs).gates.getD l.toNat false=false->∀H',av H H'->E (.ref Z.iG) none H'))->((∀l,10+c∈(ai n0 rs).ws->a9 g.ds (ai n0 rs).place c=some l->(ai n0 rs).gates.getD l.toNat false=true->sv Z K H w bk rl g n0 rs (.unload c) Q E))->gL K Z vs H Q E
include T cq aL cj uO bf aR eh in
theorem sO:FF P w K mg base (CXf P w) 6 "unload" "Works.unload" iz lX (gL K Z):=fkF gC fun vs H Q E h=>by
 obtain ⟨w,bk,rl,g,n0,rs,c,rfl,hW,hls,hks,hsh,hgl2,h0,h1,q1,q2,q3,q4⟩:=h
 k_all
 refine seg 6 (ah (aw (dm' (pv' 0) bf hr.dn bg (pa3 (aP (pa2 aC (pv' 1))) af (pv' 2))))) fun zt6 zh6 ze6=>?_
 refine seg 5 (ae (a6 (dm' (az (pv' 2)) uO hr.dn bg (pa2 (pv' 1) (pv' 3)))) zh6) fun zt5 zh5 ze5=>?_
 refine seg 4 (ae (a6 (dm' (pv' 0) cj hr.dn bg (pa1 (pv' 3)))) zh5) fun zt4 zh4 ze4=>?_
 refine seg 3 (ae (aJ (xp (pv' 3) en) (ah (aX T.oy (by rfl) T.ow (pa1 aC))) (aA)) zh4) fun zt3 zh3 ze3=>?_
 refine seg 2 (ae (aD (i:=3) gC.nd rfl orL (dm' (pv' 0) eh hr.dn bj (pa1 (pv' 1)))) zh3) fun zt2 zh2 ze2=>?_
 refine seg 1 (ae (aJ (xp (dm' (az (pv' 2)) cq hr.dn bj (pa1 (pv' 1))) en) (ah (aX T.r8 (by rfl) T.r6 (pa1 aC))) (aA)) zh2) fun zt1 zh1 ze1=>?_
 refine ⟨_,ae (aD (i:=2) gC.nd rfl orL (dP (dP (az (pv' 0)) aL hr.dn bj) aR hr.dn bj)) zh1,?_⟩
 obtain ⟨⟨dx,dl,gl,hob,hdl,hgl,n1,n2⟩,hB⟩:=id hW
 obtain ⟨⟨db,f0,hbo,hF⟩,as,hrl,hR⟩:=id hB
 k_mem
 refine fgo hob T.aT T.aZ rfl ?_
 k_mem
 refine mgo hbo rfl ⟨_,_,_,_,_,rfl,hB,fun s0 ⟨A0,hA0⟩=>?_⟩
 k_mem
 refine mgo hA0.ob rfl ⟨_,_,_,_,_,rfl,hA0.at,hrl,hls,fun s1 A H1 e1 hs1 ho1 hb1 hf1 hy1 hw1 hA=>?_⟩
 have hW1:=hW.same e1
 have hob1:=e1 _ _ hob
 have hbo1:=e1 _ _ hbo
 have hrl1:=e1 _ _ hrl
 have hdl1:=e1 _ _ hdl
 k_mem
 refine fgo hA.ob T.aK T.aW rfl ?_
 k_mem
 obtain ⟨dy,hyb⟩:=hA.ya.ob
 k_upd
 refine ⟨_,_,hyb,rfl,_,_,_,_,_,_,_,rfl,hA.ya,h0,h1,fun H2 f2=>?_⟩
 have e2:=e1.trans f2
 replace hA:=hA.same f2
 k_mem
 by_cases hm:10+c∈(ai n0 rs).ws
 ·rw [inC,if_pos hm]
  k_upd
  rw [if_neg (show ¬(V.int _=V.non) from fun z=>V.noConfusion z)]
  k_mem
  refine mgo (e2 _ _ hob) rfl ⟨_,_,_,_,_,_,_,rfl,hW.same e2,hsh,h0,h1,fun H3 f3=>?_⟩
  have e3:=e2.trans f3
  replace hA:=hA.same f3
  k_mem
  cases hc:a9 g.ds (ai n0 rs).place c with
  | none=>
   rw [if_pos (show lvV none=V.non from rfl)]
   k_upd
   exact ⟨by decide,q2 hm hc _ e3⟩
  | some l=>
   obtain ⟨l0,l1,_⟩:=dN hc
   k_upd
   rw [if_neg (show ¬(lvV (some l)=V.non) from fun z=>V.noConfusion z)]
   k_mem
   refine mgo (e3 _ _ hob) rfl ⟨_,_,_,_,_,_,_,rfl,hW.same e3,l0,by omega,fun hg=>?_,fun hg=>q3 l hm hc hg _ e3⟩
   have h3:=q4 l hm hc hg
   k_mem
   refine fgo hA.ob T.aK T.aW rfl ?_
   k_mem
   obtain ⟨dy,hyb⟩:=hA.ya.ob
   k_upd
   refine ⟨_,_,hyb,rfl,_,_,_,_,_,_,_,_,rfl,hA.ya,h0,h1,fun h=>absurd ⟨l0,l1⟩ h,fun _ _ h=>absurd hm h,fun _ _ _ H4 k4 hw4=>?_⟩
   have e4:=e3.keeps k4 hw1
   have hA4:aQ (clZ Z) K H4 rl g s1 A (aV g (ai n0 rs) (.unload c)):=by
    have:=hA.spots k4 hw4
    simp only [aV,hc,Option.getD_some]
    exact this
   clear k4 hw4
   k_mem
   refine ⟨_,_,e4 _ _ hob,rfl,by decide,fun p hp=>?_⟩
   have e5:=e4.lay (o:=HO.tup [V.str (Str.ofString "unload"),V.int c]) hp
   have f5:=(av.refl H4).lay (o:=HO.tup [V.str (Str.ofString "unload"),V.int c]) hp
   k_upd
   refine ⟨_,_,_,_,_,_,p,s1,1,ddV (.unload c),aV g (ai n0 rs) (.unload c),rfl,hW.same e5,SqT.of (by rw [ag];rfl),?_,?_,fun h H' s'=>h3.1 h H' (e5.trans s'),fun h H' k hWn=>?_⟩
   ·exact (aQ.at hA4).same f5
   ·rw [hks];first | rfl | simp only [aV,List.length_set]
   ·k_upd
    exact h3.2 h H' ((aB.of e5).trans k) hWn
 ·rw [inC,if_neg hm]
  k_upd
  rw [if_pos rfl]
  k_upd
  exact ⟨by decide,q1 hm _ e2⟩
variable (mI:KM P w K mg base (CXf P w) 6 Z.bb "unload" (gL K Z))
def iV (H H':Hp)(as:List Addr)(cs:List (List Int)):Prop:=as.length=cs.length/\as.Nodup/\(∀a∈as,H a=none)/\∀(j:Nat) a c,as[j]?=some a->cs[j]?=some c->H' a=some (.lst (c.map V.int))
theorem iV.same {H H' H2:Hp}{as:List Addr}{cs:List (List Int)}(h:iV H H' as cs)(s:av H' H2):iV H H2 as cs:=⟨h.1,h.2.1,h.2.2.1,fun j a c e1 e2=>s _ _ (h.2.2.2 j a c e1 e2)⟩
theorem iV.put {H H':Hp}{as:List Addr}{cs:List (List Int)}{j:Nat}{a:Addr}{c:List Int}{x:Int}(h:iV H H' as cs)(ea:as[j]?=some a)(ec:cs[j]?=some c):iV H (upd H' a (.lst (c.map V.int++[V.int x]))) as (cs.set j (c++[x])):=by
 refine ⟨by rw [List.length_set];exact h.1,h.2.1,h.2.2.1,fun i b d e1 e2=>?_⟩
 rw [List.getElem?_set] at e2
 by_cases e:j=i
 ·subst e
  rw [ea] at e1;cases e1
  rw [if_pos rfl,if_pos (List.getElem?_eq_some_iff.mp ec).1] at e2
  cases e2
  rw [ag,List.map_append];rfl
 ·rw [if_neg e] at e2
  have hne:b≠a:=fun z=>by
   subst z
   exact e ((List.getElem?_inj (List.getElem?_eq_some_iff.mp ea).1 h.2.1).mp (ea.trans e1.symm))
  rw [aG hne]
  exact h.2.2.2 i b d e1 e2
theorem iV.puts {H H':Hp}{as:List Addr}{a:Addr}{o:HO}(s:av H H')(hn:H a=none):av H (upd H' a o):=fun b u e=>by rw [aG (ak e hn)];exact s b u e
theorem iV.ne {H H':Hp}{as:List Addr}{cs:List (List Int)}{p:Addr}(h:iV H H' as cs)(hp:H' p=none):∀a∈as,a≠p:=fun a ha z=>by
 subst z
 obtain ⟨j,hj,ej⟩:=List.mem_iff_getElem.mp ha
 have hj2:j < cs.length:=by rw [←h.1];exact hj
 have:=h.2.2.2 j a (cs[j]) (by rw [List.getElem?_eq_getElem hj,ej]) (List.getElem?_eq_getElem hj2)
 rw [hp] at this;cases this
theorem iV.push {H H':Hp}{as:List Addr}{cs:List (List Int)}{p:Addr}{c:List Int}(h:iV H H' as cs)(hp:H' p=none)(hp0:H p=none):iV H (upd H' p (.lst (c.map V.int))) (as++[p]) (cs++[c]):=by
 have hne:=h.ne hp
 refine ⟨by rw [List.length_append,List.length_append,h.1];rfl,?_,fun a ha=>?_,fun j a d e1 e2=>?_⟩
 ·rw [List.nodup_append]
  exact ⟨h.2.1,by simp,fun a ha b hb=>by rw [List.mem_singleton] at hb;subst hb;exact hne a ha⟩
 ·rcases List.mem_append.mp ha with ha | ha
  ·exact h.2.2.1 a ha
  ·rw [List.mem_singleton] at ha;subst ha;exact hp0
 ·by_cases hj:j < as.length
  ·rw [List.getElem?_append_left hj] at e1
   rw [List.getElem?_append_left (by rw [←h.1];exact hj)] at e2
   rw [aG (hne a (List.mem_of_getElem? e1))]
   exact h.2.2.2 j a d e1 e2
  ·have hl:=(List.getElem?_eq_some_iff.mp e1).1
   rw [List.length_append,List.length_singleton] at hl
   have ej:j=as.length:=by omega
   subst ej
   rw [List.getElem?_append_right (Nat.le_refl _),Nat.sub_self] at e1
   rw [h.1,List.getElem?_append_right (Nat.le_refl _),Nat.sub_self] at e2
   cases e1;cases e2
   exact ag
noncomputable def cS (ws:List Int)(L:Int):List (List Int):=ws.map fun x=>if x < L then [x] else []
theorem mT {ws:List Int}{L:Int}{j:Nat}(h2:j < (cS ws L).length)(hj:j < ws.length):(cS ws L)[j]=if ws[j] < L then [ws[j]] else []:=List.getElem_map (fun x:Int=>if x < L then [x] else [])
theorem iV.rep {K:W.Frag}{H H':Hp}{as:List Addr}{cs:List (List Int)}{p:Addr}{n:Nat}(h:iV H H' as cs)(hp:SqL K H' p (as.map V.ref))(hl:cs.length<=1000)(hc:∀c∈cs,c.length<=1000):Rep K H' (n+2) (.ref p) (.lst (cs.map fun c=>.lst ((c.map V.int).map Dt.flat))):=by
 refine .lst hp (by rw [List.length_map,h.1];omega) (by rw [List.length_map,List.length_map];exact h.1) fun i x d e1 e2=>?_
 rw [List.getElem?_map] at e1 e2
 obtain ⟨a,ea,rfl⟩:=Option.map_eq_some_iff.mp e1
 obtain ⟨c,ec,rfl⟩:=Option.map_eq_some_iff.mp e2
 have:=hc c (List.mem_of_getElem? ec)
 exact lJ (SqL.of (h.2.2.2 i a c ea ec)) (by omega)
theorem yS {ws:List Int}{lv x:Int}:x∈fv ws lv↔∃j:Nat,j < ws.length/\ws.getD j 0=lv/\x=j:=by
 unfold fv tM
 rw [List.mem_map]
 constructor
 ·rintro ⟨j,hj,rfl⟩
  rw [List.mem_filter,List.mem_range] at hj
  exact ⟨j,hj.1,by simpa using hj.2,rfl⟩
 ·rintro ⟨j,h1,h2,rfl⟩
  exact ⟨j,by rw [List.mem_filter,List.mem_range];exact ⟨h1,by simpa using h2⟩,rfl⟩
theorem Gr (ws:List Int)(lv:Int):(fv ws lv).Nodup:=by
 unfold fv tM
 refine List.Pairwise.map _ (fun a b h=>?_) (List.nodup_range.filter _)
 omega
theorem Gs {xs:List Int}(h:xs.Nodup){i:Nat}{x:Int}(e:xs[i]?=some x):¬x∈xs.take i:=fun z=>by
 obtain ⟨j,hj,ej⟩:=List.mem_iff_getElem.mp z
 rw [List.getElem_take] at ej
 rw [List.length_take] at hj
 have h1:xs[j]?=some x:=by rw [List.getElem?_eq_getElem (by omega),ej]
 have:=(List.getElem?_inj (by omega:j < xs.length) h).mp (h1.trans e.symm)
 omega
def Gu (H:Hp)(x0 x1 x2 x3:V)(ws:List Int)(p:Addr)(as:List Addr)(i:Nat)(σ:St)(H':Hp):Prop:=av H H'/\H' p=some (.lst (as.map V.ref))/\iV H H' as (cS ws i)/\∃a b c,σ=[some x0,some x1,some x2,some x3,some (.ref p),a,b,c]
def Gv (H:Hp)(x0 x1 x2 x3:V)(ws:List Int)(p pn:Addr)(as:List Addr)(at_:Int)(N:List Int)(i:Nat)(σ:St)(H':Hp):Prop:=av H H'/\H' p=some (.lst (as.map V.ref))/\H' pn=some (.lst (N.map V.int))/\(∃cs,iV H H' as cs/\cs.length=ws.length/\∀(j:Nat) c,cs[j]?=some c->c=if ws.getD j 0 < at_ then [ws.getD j 0] else if (j:Int)∈N.take i then [at_] else [])/\∃b c,σ=[some x0,some x1,some x2,some x3,some (.ref p),some (.int at_),b,c]
def Gw (H:Hp)(x0 x1 x2 x3:V)(ws:List Int)(p:Addr)(as:List Addr)(i:Nat)(σ:St)(H':Hp):Prop:=av H H'/\H' p=some (.lst (as.map V.ref))/\iV H H' as (cS ws (10+(i:Int)))/\∃a b c,σ=[some x0,some x1,some x2,some x3,some (.ref p),a,b,c]
inductive rC (K:W.Frag)(Z:Adr)(vs:List V)(H:Hp)(Q:VK)(E:XK):Prop | mk (w bk rl:Addr) (g:Cfg) (n0:aI) (rs:List Row):vs=[.ref w,.int (ai n0 rs).ws.length,.int g.ds.length]->WAt (clZ Z) K H w bk rl g n0 rs->cH g->bR g (ai n0 rs)->(∀H',av H H'->Q (.bl true) H')->rC K Z vs H Q E
include T dB gI kg dh in
theorem B6:FF P w K mg base (CXf P w) 6 "_law_once" "_law_once" ur yz (rC K Z):=fkF gX fun vs H Q E h=>by
 obtain ⟨w,bk,rl,g,n0,rs,rfl,hW,hg,hn,q⟩:=h
 k_all
 refine seg 4 (ah (aw (ja (aE o6 (by rfl) T.bE bp (pa2 (pv' 3) (cV (v:=.ty "list") (by rfl) T.eC cW rfl))) (lB (dc0 dh hr.dn (pa2 (mY ["_law_spot"] [none] (cA (pv' 3)) (fun _ _ _ _=>(aF (i:=0) (show (["_law_spot"]:List Str).Nodup by decide +kernel) rfl orL)) (fun _ _ _ _=>gh) (fun _ _ _ _=>(bX (pa1 (pv' 0))))) (pv' 4))))))) fun zt4 zh4 ze4=>?_
 refine seg 3 (ae (cy sD rfl (bq (by rfl) T.cb (pa1 af)) (aF (i:=7) gX.nd rfl orL) (ah (aJ (A3 (dm' (pv' 0) gI hr.dn bj (pa1 (pv' 7))) en) (ah (a6 (lG PySem.F.plainAttrs_list PySem.F.slot_list_append PySem.F.type_list_append dO (ao au (pv' 4) (dm' (pv' 0) gI hr.dn bj (pa1 (pv' 7)))) (pa1 (aO aU af (pv' 7)))))) (aA)))) zh4) fun zt3 zh3 ze3=>?_
 refine seg 2 (ae (cy sD rfl (bq (by rfl) T.cb (pa1 (pv' 2))) (aF (i:=5) gX.nd rfl orL) (ah (cy sD rfl (cA (dm' (pv' 0) kg hr.dn bg (pa1 (pv' 5)))) (aF (i:=6) gX.nd rfl orL) (ah (a6 (lG PySem.F.plainAttrs_list PySem.F.slot_list_append PySem.F.type_list_append dO (ao au (pv' 4) (pv' 6)) (pa1 (pv' 5)))))))) zh3) fun zt2 zh2 ze2=>?_
 refine seg 1 (ae (AI ["_law_k"] [none] (iy:=4) gX.nd rfl rfl (bq (by rfl) T.cb (pa1 (pv' 1))) (fun _ _ _ _=>(aF (i:=0) (show (["_law_k"]:List Str).Nodup by decide +kernel) rfl orL)) (fun _ _ _ _=>gh) (fun _ _ _ _=>(bX g8))) zh2) fun zt1 zh1 ze1=>?_
 refine ⟨_,ae (aD (i:=3) gX.nd rfl orL (dP (pv' 0) dB hr.dn bj)) zh1,?_⟩
 have l6:=hg.sh.l6
 have k30:=hg.k30
 have hwl:=hn.wl
 obtain ⟨dx,dl,gl,hob,_⟩:=id hW.ob
 k_mem
 refine mgo hob rfl ⟨_,_,_,_,_,_,rfl,hW,fun sp hsp=>?_⟩
 (generalize hE:upd H sp _=H1 at *;have s1:=pA hE hsp;have e1:=i8 hE;clear hE)
 k_mem
 refine ⟨by omega,by omega,?_⟩
 rw [Int.toNat_natCast]
 have hwl30:(ai n0 rs).ws.length<=30:=by omega
 have hwr:=hn.wr
 have hun:=hn.un
 generalize hws:(ai n0 rs).ws=ws at *
 refine wY (fun i acc H'=>av H1 H'/\∃as,acc=as.map V.ref/\iV H1 H' as (List.replicate i [])) ⟨av.refl _,[],rfl,rfl,List.nodup_nil,(fun a ha=>by cases ha),fun j a c e _=>by simp at e⟩ rfl ?_ ?_
 ·rintro i acc H' hi ⟨s2,as,rfl,hF⟩
  k_upd
  refine ⟨by rw [List.length_map,hF.1,List.length_replicate,sizeLine_eq];omega,fun N hN=>?_⟩
  k_mem
  refine ⟨by decide,fun p hp=>?_⟩
  refine hN _ _ ⟨s2.lay hp,as++[p],by rw [List.map_append];rfl,?_⟩
  have:=hF.push (c:=[]) hp (s2.free hp)
  rw [List.replicate_succ']
  exact this
 rintro acc H2 ⟨s2,as,rfl,hF⟩ p hp
 have nP:∀a∈as,a≠p:=hF.ne hp
 (generalize hE:upd H2 p _=H3 at *;have s3:=pA hE hp;have e3:=i8 hE;clear hE)
 have hF3:=hF.same s3
 have hW3:=(hW.same s1).same (s2.trans s3)
 have s13:=s2.trans s3
 k_mem
 refine ⟨by omega,by omega,?_⟩
 rw [Int.toNat_natCast]
 have hF0:iV H1 H3 as (cS ws (0:Nat)):=by
  have e:cS ws ((0:Nat):Int)=List.replicate ws.length []:=by
   unfold cS
   refine List.ext_getElem (by simp) fun j h1 h2=>?_
   rw [List.getElem_map,List.getElem_replicate]
   have:=hwr _ (List.getElem_mem (by simpa using h1):ws[j]'(by simpa using h1)∈ws)
   k_upd
   rw [if_neg (by omega)]
  rw [e];exact hF3
 k_upd
 refine bF (Gu H1 (.ref w) (.int ws.length) (.int g.ds.length) (.ref sp) ws p as) ⟨s13,e3,hF0,_,_,_,rfl⟩ ?_ ?_
 ·rintro L σ H4 hL ⟨s4,e4,hF4,a1,a2,a3,rfl⟩
  have hW4:=(hW.same s1).same s4
  obtain ⟨dx4,dl4,gl4,hob4,_⟩:=id hW4.ob
  rw [Int.zero_add]
  k_mem
  refine mgo hob4 rfl ⟨_,_,_,_,_,_,_,rfl,hW4,by rw [hws];omega,fun _ pn H5 hpn s5 e5=>?_,fun z=>absurd ⟨by omega,by omega⟩ z⟩
  rw [hws] at e5
  k_mem
  have nF:∀a∈as,a≠pn:=hF4.ne hpn
  have hsl:(cS ws (L:Int)).length=ws.length:=by unfold cS;rw [List.length_map]
  k_upd
  refine ⟨⟨_,SqL.of e5⟩,?_⟩
  k_upd
  refine ff ((fv ws L).map V.int) (Gv H1 (.ref w) (.int ws.length) (.int g.ds.length) (.ref sp) ws p pn as L (fv ws L)) ⟨s4.trans s5,s5 _ _ e4,e5,⟨cS ws L,hF4.same s5,hsl,fun j c ec=>?_⟩,_,_,rfl⟩ (fun i σ H' _ h=>SqL.of h.2.2.1) ?_ ?_
  ·unfold cS at ec
   rw [List.getElem?_map] at ec
   obtain ⟨x,ex,rfl⟩:=Option.map_eq_some_iff.mp ec
   rw [List.getD_eq_getElem?_getD,ex,List.take_zero,if_neg (List.not_mem_nil)]
   rfl
  ·rintro i x σ H6 hx ⟨s6,e6,n6,⟨cs,hF6,hcl,hcs⟩,b1,b2,rfl⟩
   rw [List.getElem?_map] at hx
   obtain ⟨y,ey,rfl⟩:=Option.map_eq_some_iff.mp hx
   obtain ⟨j,hj,hwj,rfl⟩:=yS.mp (List.mem_of_getElem? ey)
   have hja:j < as.length:=by rw [hF6.1,hcl];exact hj
   have ea:as[j]?=some as[j]:=List.getElem?_eq_getElem hja
   have ec:cs[j]?=some cs[j]:=List.getElem?_eq_getElem (by rw [hcl];exact hj)
   have hc0:=hcs j _ ec
   k_upd
   rw [if_neg (by rw [hwj];omega),if_neg (Gs (Gr ws L) ey)] at hc0
   have eaj:=hF6.2.2.2 j _ _ ea ec
   have hn1:=hF6.2.2.1 _ (List.getElem_mem hja)
   k_mem
   refine ⟨_,SqL.of e6,_,fq (k:=j) (by rw [List.getElem?_map,ea];rfl),?_⟩
   k_upd
   refine ⟨.inl ⟨rfl,_,SqL.of eaj⟩,_,eaj,by rw [List.length_map,hc0,sizeLine_eq];simp,?_⟩
   have hma:=List.getElem_mem hja
   k_upd
   refine ⟨iV.puts (as:=as) s6 hn1,by rw [aG (nP _ hma).symm];exact e6,by rw [aG (nF _ hma).symm];exact n6,⟨cs.set j (cs[j]++[(L:Int)]),hF6.put ea ec,by rw [List.length_set];exact hcl,fun j' c e'=>?_⟩,_,_,rfl⟩
   have e3:((j':Int)∈(fv ws (L:Int)).take (i+1))↔((j':Int)∈(fv ws (L:Int)).take i\/(j':Int)=(j:Int)):=by rw [List.take_succ,ey];simp
   simp only [e3]
   rw [List.getElem?_set] at e'
   by_cases hjj:j=j'
   ·subst hjj
    k_upd
    rw [if_pos rfl,if_pos (by rw [hcl];exact hj)] at e'
    cases e'
    rw [hc0,hwj,if_neg (by omega),if_pos (.inr rfl)]
    rfl
   ·rw [if_neg hjj] at e'
    rw [hcs j' c e']
    have:((j':Int)∈(fv ws (L:Int)).take i\/(j':Int)=(j:Int))↔(j':Int)∈(fv ws (L:Int)).take i:=⟨fun z=>z.resolve_right (by omega),.inl⟩
    simp only [this]
  ·rintro σ H6 ⟨s6,e6,n6,⟨cs,hF6,hcl,hcs⟩,b1,b2,rfl⟩
   k_upd
   rw [List.length_map,List.take_length] at hcs
   have ecs:cs=cS ws ((L+1:Nat):Int):=by
    refine List.ext_getElem (by unfold cS;rw [List.length_map];exact hcl) fun j h1 h2=>?_
    have hj:j < ws.length:=by rw [←hcl];exact h1
    rw [hcs j _ (List.getElem?_eq_getElem h1)]
    rw [mT h2 hj,List.getD_eq_getElem?_getD,List.getElem?_eq_getElem hj]
    show (if ws[j] < (L:Int) then [ws[j]] else _)=_
    have hm:((j:Int)∈fv ws (L:Int))↔ws[j]=(L:Int):=by
     rw [yS]
     constructor
     ·rintro ⟨k,hk,h3,h4⟩
      have:j=k:=by omega
      subst this
      rw [List.getD_eq_getElem?_getD,List.getElem?_eq_getElem hj] at h3
      exact h3
     ·intro h3
      k_upd
      exact ⟨j,hj,by rw [List.getD_eq_getElem?_getD,List.getElem?_eq_getElem hj];exact h3,rfl⟩
    by_cases h3:ws[j] < (L:Int)
    ·rw [if_pos h3,if_pos (by omega)]
    ·rw [if_neg h3]
     by_cases h4:ws[j]=(L:Int)
     ·rw [if_pos (hm.mpr h4),if_pos (by omega),h4]
     ·rw [if_neg (fun z=>h4 (hm.mp z)),if_neg (by omega)]
   k_upd
   exact ⟨s6,e6,ecs▸hF6,_,_,_,rfl⟩
 ·rintro σ H4 ⟨s4,e4,hF4,a1,a2,a3,rfl⟩
  k_mem
  have hF10:iV H1 H4 as (cS ws (10+((0:Nat):Int))):=by
   have e:cS ws (10+((0:Nat):Int))=cS ws (g.ds.length:Int):=by
    unfold cS
    refine List.map_congr_left fun x hx=>?_
    have:=hwr x hx
    by_cases h:x < (g.ds.length:Int)
    ·rw [if_pos h,if_pos (by omega)]
    ·rw [if_neg h,if_neg (by omega)]
   rw [e];exact hF4
  k_upd
  refine ⟨by decide,by decide,?_⟩
  k_upd
  refine bF (Gw H1 (.ref w) (.int ws.length) (.int g.ds.length) (.ref sp) ws p as) ⟨s4,e4,hF10,_,_,_,rfl⟩ ?_ ?_
  ·rintro c σ H5 hc ⟨s5,e5,hF5,b1,b2,b3,rfl⟩
   have hW5:=(hW.same s1).same s5
   obtain ⟨dx5,dl5,gl5,hob5,_⟩:=id hW5.ob
   rw [Int.zero_add]
   k_mem
   refine mgo hob5 rfl ⟨_,_,_,_,_,_,_,rfl,hW5,by omega,by omega,fun H6 s6=>?_⟩
   rw [hws]
   have hW6:=hW5.same s6
   obtain ⟨dx6,dl6,gl6,hob6,_⟩:=id hW6.ob
   unfold inC
   k_mem
   by_cases hm:10+(c:Int)∈ws
   ·rw [if_pos hm,if_pos (fun z=>by cases z)]
    k_upd
    refine mgo hob6 rfl ⟨_,_,_,_,_,_,_,rfl,hW6,by omega,by omega,fun H7 s7=>?_⟩
    rw [hws]
    unfold inC
    k_upd
    rw [if_pos hm]
    have s57:=s6.trans s7
    have hF7:=hF5.same s57
    have hj:=List.idxOf_lt_length_iff.mpr hm
    have hwj:=List.getElem_idxOf hj
    generalize ws.idxOf (10+(c:Int))=j at *
    have hsl:(cS ws (10+(c:Int))).length=ws.length:=by unfold cS;rw [List.length_map]
    have hja:j < as.length:=by rw [hF7.1,hsl];exact hj
    have ea:as[j]?=some as[j]:=List.getElem?_eq_getElem hja
    have hjs:j < (cS ws (10+(c:Int))).length:=by rw [hsl];exact hj
    have ec:(cS ws (10+(c:Int)))[j]?=some []:=by
     rw [List.getElem?_eq_getElem hjs,mT hjs hj,if_neg (by rw [hwj];omega)]
    have eaj:=hF7.2.2.2 j _ _ ea ec
    have hma:=List.getElem_mem hja
    have hn1:=hF7.2.2.1 _ hma
    k_mem
    refine ⟨_,SqL.of (s57 _ _ e5),_,fq (k:=j) (by rw [List.getElem?_map,ea];rfl),?_⟩
    k_upd
    refine ⟨.inl ⟨rfl,_,SqL.of eaj⟩,_,eaj,by decide,?_⟩
    have hput:=hF7.put (x:=10+(c:Int)) ea ec
    have ecs:(cS ws (10+(c:Int))).set j ([]++[10+(c:Int)])=cS ws (10+((c+1:Nat):Int)):=by
     refine List.ext_getElem (by rw [List.length_set,hsl];unfold cS;rw [List.length_map]) fun i h1 h2=>?_
     have hi:i < ws.length:=by rw [List.length_set,hsl] at h1;exact h1
     rw [List.getElem_set,mT h2 hi]
     by_cases e:j=i
     ·subst e
      k_upd
      rw [if_pos rfl,hwj,if_pos (by omega)];rfl
     ·rw [if_neg e,mT (by rw [hsl];exact hi) hi]
      have hne:ws[i]≠10+(c:Int):=fun z=>e (hun j i hj hi (by rw [List.getD_eq_getElem?_getD,List.getElem?_eq_getElem hj];show 10<=ws[j];omega) (by rw [List.getD_eq_getElem?_getD,List.getElem?_eq_getElem hj,List.getD_eq_getElem?_getD,List.getElem?_eq_getElem hi];show ws[j]=ws[i];omega))
      by_cases h:ws[i] < 10+(c:Int)
      ·rw [if_pos h,if_pos (by omega)]
      ·rw [if_neg h,if_neg (by omega)]
    rw [ecs] at hput
    k_upd
    exact ⟨iV.puts (as:=as) (s5.trans s57) hn1,by rw [aG (nP _ hma).symm];exact s57 _ _ e5,hput,_,_,_,rfl⟩
   ·rw [if_neg hm,if_neg (fun z=>z rfl)]
    have ecs:cS ws (10+(c:Int))=cS ws (10+((c+1:Nat):Int)):=by
     unfold cS
     refine List.map_congr_left fun x hx=>?_
     have hne:x≠10+(c:Int):=fun z=>hm (z▸hx)
     by_cases h:x < 10+(c:Int)
     ·rw [if_pos h,if_pos (by omega)]
     ·rw [if_neg h,if_neg (by omega)]
    k_upd
    exact ⟨s5.trans s6,s6 _ _ e5,ecs▸hF5.same s6,_,_,_,rfl⟩
  ·rintro σ H5 ⟨s5,e5,hF5,b1,b2,b3,rfl⟩
   k_mem
   have eS:=s5 _ _ e1
   have efin:cS ws (10+((2:Nat):Int))=ws.map fun x=>[x]:=by
    unfold cS
    refine List.map_congr_left fun x hx=>?_
    have:=hwr x hx
    k_upd
    rw [if_pos (by omega)]
   rw [efin] at hF5
   k_upd
   refine ⟨_,_,_,_,rfl,.lst eS,tI,?_⟩
   k_mem
   refine ⟨⟨_,SqL.of eS⟩,?_⟩
   refine tK ws.length (fun i acc H'=>av H5 H'/\∃bs,acc=bs.map V.ref/\iV H5 H' bs ((ws.take i).map fun x=>[x])) ⟨av.refl _,[],rfl,rfl,List.nodup_nil,(fun a ha=>by cases ha),fun j a c e _=>by simp at e⟩ (fun i acc H' hi ⟨s6,_⟩=>⟨_,.int ws[i],SqL.of (s6 _ _ eS),by rw [List.getElem?_map,List.getElem?_eq_getElem hi];rfl⟩) (fun acc H' ⟨s6,_⟩=>⟨_,SqL.of (s6 _ _ eS),by rw [List.length_map];exact Nat.le_refl _⟩) ?_ ?_
   ·rintro i acc H' hi ⟨s6,bs,rfl,hB⟩
    have hbl:=hB.1
    rw [List.length_map,List.length_take] at hbl
    k_upd
    refine ⟨by rw [List.length_map,hbl,sizeLine_eq];omega,fun x H2 y M hM=>?_⟩
    obtain ⟨rfl,hz⟩:=y
    have ez:=hz _ (SqL.of (s6 _ _ eS))
    rw [List.getElem?_map,List.getElem?_eq_getElem hi] at ez
    cases ez
    k_upd
    refine ⟨zp rfl,?_⟩
    k_mem
    refine ⟨by decide,fun p1 hp1=>?_⟩
    refine hM _ _ ⟨s6.lay hp1,bs++[p1],by rw [List.map_append];rfl,?_⟩
    rw [List.take_succ_eq_append_getElem hi,List.map_append]
    exact hB.push (c:=[ws[i]]) hp1 (s6.free hp1)
   rintro acc H' ⟨s6,bs,rfl,hB⟩ pq hpq
   (generalize hE:upd H' pq _=H7 at *;have s7:=pA hE hpq;have e7:=i8 hE;clear hE)
   rw [List.take_length] at hB
   have hl30:(ws.map fun x=>[x]).length<=1000:=by rw [List.length_map];omega
   have hc1:∀c∈ws.map (fun x=>[x]),c.length<=1000:=fun c hc=>by obtain ⟨x,_,rfl⟩:=List.mem_map.mp hc;show 1<=1000;decide
   k_upd
   refine ⟨_,_,_,rfl,(hB.same s7).rep (SqL.of e7) hl30 hc1,((hF5.same s6).same s7).rep (SqL.of ((s6.trans s7) _ _ e5)) hl30 hc1,fun H8 s8=>q _ ?_⟩
   exact s1.trans (s5.trans ((s6.trans s7).trans s8))
variable (mJ:KD P w K mg base (CXf P w) 6 "_law_once" (rC K Z))
noncomputable def KR (Z:Adr):Rw->Addr
 | .lv=>Z.aY
 | .db=>Z.j8
 | .nc=>Z.mf
 | .nr=>Z.fj
 | .ch=>Z.fI
 | .na=>Z.iE
 | .ul=>Z.dR
 | .nt=>Z.iD
 | .ct=>Z.gY
 | .gs=>Z.iG
 | .ce=>Z.gZ
 | .go=>Z.mh
inductive rD (K:W.Frag)(Z:Adr)(vs:List V)(H:Hp)(Q:VK)(E:XK):Prop | mk (w bk rl dd:Addr) (g:Cfg) (n0:aI) (rs:List Row):vs=[.ref w,.ref dd]->WAt (clZ Z) K H w bk rl g n0 rs->cH g->bR g (ai n0 rs)->rs.length < 300->(((∃d,SqT K H dd (ddV d)/\qC d/\(∀r,dD g (ai n0 rs) d=some r->∀H',av H H'->E (.ref (KR Z r)) none H')/\(dD g (ai n0 rs) d=none->∀v H',aB rl H H'->WAt (clZ Z) K H' w bk rl g n0 (rs++[eH g n0 rs d])->vc K H' (ai n0 rs) (bC rs+cL g (ai n0 rs) d) d v->Q v H'))\/
  (SqT K H dd [.str "take back"]/\∃rs' r,rs=rs'++[r]/\∀p H',aB rl H H'->WAt (clZ Z) K H' w bk rl g n0 rs'->SqT K H' p r.deed->Q (.ref p) H')))->rD K Z vs H Q E
include T ji qk mG ql qm jj jk qr mI in
theorem B7:FF P w K mg base (CXf P w) 7 "_law_call" "_law_call" uo yx (rD K Z):=fkF BP fun vs H Q E h=>by
 obtain ⟨w,bk,rl,dd,g,n0,rs,rfl,hW,hg,hn,h300,hc⟩:=h
 k_all
 refine seg 8 (ah (aw (dP (pv' 0) ji hr.dn bg))) fun zt8 zh8 ze8=>?_
 refine seg 7 (ae (aJ (bw (ao aq (pv' 1) af) aC) (ah (aw (dm' (pv' 0) ql hr.dn bg (pa1 (ao aq (pv' 1) af))))) (aA)) zh8) fun zt7 zh7 ze7=>?_
 refine seg 6 (ae (aJ (bw (ao aq (pv' 1) af) aC) (ah (aw (dm' (pv' 0) qm hr.dn bg (pa3 (ao aq (pv' 1) af) (ao aq (pv' 1) af) (ao aq (pv' 1) af))))) (aA)) zh7) fun zt6 zh6 ze6=>?_
 refine seg 5 (ae (aJ (bw (ao aq (pv' 1) af) aC) (ah (aw (dm' (pv' 0) mI hr.dn bg (pa1 (ao aq (pv' 1) af))))) (aA)) zh6) fun zt5 zh5 ze5=>?_
 refine seg 4 (ae (aJ (bw (ao aq (pv' 1) af) aC) (ah (aw (dm' (pv' 0) qr hr.dn bg (pa2 (ao aq (pv' 1) af) (ao aq (pv' 1) af))))) (aA)) zh5) fun zt4 zh4 ze4=>?_
 refine seg 3 (ae (aJ (bw (ao aq (pv' 1) af) aC) (ah (aw (dm' (pv' 0) jk hr.dn bg (pa1 (ao aq (pv' 1) af))))) (aA)) zh4) fun zt3 zh3 ze3=>?_
 refine seg 2 (ae (aJ (bw (ao aq (pv' 1) af) aC) (ah (aw (dm' (pv' 0) jj hr.dn bg (pa1 (ao aq (pv' 1) af))))) (aA)) zh3) fun zt2 zh2 ze2=>?_
 refine seg 1 (ae (aJ (bw (ao aq (pv' 1) af) aC) (ah (aw (dm' (pv' 0) mG hr.dn bg (pa1 (ao aq (pv' 1) af))))) (aA)) zh2) fun zt1 zh1 ze1=>?_
 refine ⟨_,ae (aJ (bw (ao aq (pv' 1) af) aC) (ah (aw (dm' (pv' 0) qk hr.dn bg (pa2 (ao aq (pv' 1) af) (ao aq (pv' 1) af))))) (aA)) zh1,?_⟩
 obtain ⟨⟨dx,dl,gl,hob,hdl,hgl,n1,n2⟩,hB⟩:=id hW
 have l2:=hg.sh.l2
 have l6:=hg.sh.l6
 have lc:=hg.lc
 have wl:=hn.wl
 have gk:=hg.gk
 have full:¬300<=rs.length:=by omega
 k_mem
 rcases hc with ⟨d,hD,ok,qe,q⟩ | ⟨hD,rs2,r,rfl,q⟩
 rotate_left
 ·k_upd
  refine ⟨_,hD,_,rfl,?_⟩
  k_mem
  rw [if_neg (by decide)]
  k_upd
  refine ⟨_,hD,_,rfl,?_⟩
  k_mem
  rw [if_neg (by decide)]
  k_upd
  refine ⟨_,hD,_,rfl,?_⟩
  k_mem
  rw [if_neg (by decide)]
  k_upd
  refine ⟨_,hD,_,rfl,?_⟩
  k_mem
  rw [if_neg (by decide)]
  k_upd
  refine ⟨_,hD,_,rfl,?_⟩
  k_mem
  rw [if_neg (by decide)]
  k_upd
  refine ⟨_,hD,_,rfl,?_⟩
  k_mem
  rw [if_neg (by decide)]
  k_upd
  refine ⟨_,hD,_,rfl,?_⟩
  k_mem
  rw [if_neg (by decide)]
  k_upd
  refine ⟨_,hD,_,rfl,?_⟩
  k_mem
  rw [if_neg (by decide)]
  k_upd
  exact ⟨_,_,hob,rfl,_,_,_,_,_,_,rfl,hW,fun z=>by simp at z,fun rs3 r3 e p H2 k hW2 hp=>by obtain ⟨rfl,rfl⟩:=yg e;exact q p H2 k hW2 hp⟩
 ·cases d with
  | ring l s=>
   refine ⟨_,hD,_,rfl,?_⟩
   k_mem
   rw [if_pos rfl]
   k_upd
   refine mgo hob rfl ⟨_,hD,_,rfl,_,hD,_,rfl,?_⟩
   k_mem
   refine ⟨_,_,_,_,_,_,_,_,rfl,hW,by omega,wl.symm,fun h H2 s2=>qe .lv ?_ H2 s2,fun h h' h3 H2 s2=>qe .db ?_ H2 s2,fun h h' h3 h4 H2 s2=>qe .nc ?_ H2 s2,fun h h' h3 h4=>⟨fun z=>absurd z full,fun _ H2 k2 hW2=>q ?_ _ H2 k2 hW2 rfl⟩⟩
   ·rw [lc] at h
    exact if_pos h
   ·rw [lc] at h'
    exact (if_neg (fun z=>z ⟨h,h'⟩)).trans (if_pos h3)
   ·rw [lc] at h'
    exact (if_neg (fun z=>z ⟨h,h'⟩)).trans ((if_neg (by rw [h3];exact Bool.false_ne_true)).trans (if_neg h4))
   ·rw [lc] at h'
    exact (if_neg (fun z=>z ⟨h,h'⟩)).trans ((if_neg (by rw [h3];exact Bool.false_ne_true)).trans (if_pos h4))
  | rept s=>
   refine ⟨_,hD,_,rfl,?_⟩
   k_mem
   rw [if_neg (by decide)]
   k_upd
   refine ⟨_,hD,_,rfl,?_⟩
   k_mem
   rw [if_pos rfl]
   k_upd
   refine mgo hob rfl ⟨_,hD,_,rfl,?_⟩
   k_mem
   refine ⟨_,_,_,_,_,_,_,rfl,hW,by omega,wl.symm,fun h H2 s2=>qe .nr ?_ H2 s2,fun l r e h H2 s2=>qe .nc ?_ H2 s2,fun l r e h=>⟨fun z=>absurd z full,fun _ p H2 k2 hW2 hT=>q ?_ _ H2 k2 hW2 ⟨p,l,r,rfl,e,hT⟩⟩⟩
   ·simp only [dD]
   ·simp only [dD,e];exact if_neg h
   ·simp only [dD,e];exact if_pos h
  | opn l=>
   refine ⟨_,hD,_,rfl,?_⟩
   k_mem
   rw [if_neg (by decide)]
   k_upd
   refine ⟨_,hD,_,rfl,?_⟩
   k_mem
   rw [if_neg (by decide)]
   k_upd
   refine ⟨_,hD,_,rfl,?_⟩
   k_mem
   rw [if_pos rfl]
   k_upd
   refine mgo hob rfl ⟨_,hD,_,rfl,?_⟩
   k_mem
   refine ⟨_,_,_,_,_,_,_,rfl,hW,by omega,wl.symm,hn.gl,fun h H2 s2=>qe .lv (if_pos h) H2 s2,fun h h' h3 H2 s2=>qe .ch ((if_neg (fun z=>z ⟨h,h'⟩)).trans (if_pos h3)) H2 s2,fun h h' h3=>⟨fun z=>absurd z full,fun _ H2 k2 hW2=>q ((if_neg (fun z=>z ⟨h,h'⟩)).trans (if_neg (by rw [h3];decide))) _ H2 k2 hW2 rfl⟩⟩
  | sht l=>
   refine ⟨_,hD,_,rfl,?_⟩
   k_mem
   rw [if_neg (by decide)]
   k_upd
   refine ⟨_,hD,_,rfl,?_⟩
   k_mem
   rw [if_neg (by decide)]
   k_upd
   refine ⟨_,hD,_,rfl,?_⟩
   k_mem
   rw [if_neg (by decide)]
   k_upd
   refine ⟨_,hD,_,rfl,?_⟩
   k_mem
   rw [if_pos rfl]
   k_upd
   refine mgo hob rfl ⟨_,hD,_,rfl,?_⟩
   k_mem
   refine ⟨_,_,_,_,_,_,_,rfl,hW,by omega,wl.symm,hn.gl,fun h H2 s2=>qe .lv (if_pos h) H2 s2,fun h h' h3 H2 s2=>qe .ch ((if_neg (fun z=>z ⟨h,h'⟩)).trans (if_pos h3)) H2 s2,fun h h' h3=>⟨fun z=>absurd z full,fun _ H2 k2 hW2=>q ((if_neg (fun z=>z ⟨h,h'⟩)).trans (if_neg (by rw [h3];decide))) _ H2 k2 hW2 rfl⟩⟩
  | load k c=>
   refine ⟨_,hD,_,rfl,?_⟩
   k_mem
   rw [if_neg (by decide)]
   k_upd
   refine ⟨_,hD,_,rfl,?_⟩
   k_mem
   rw [if_neg (by decide)]
   k_upd
   refine ⟨_,hD,_,rfl,?_⟩
   k_mem
   rw [if_neg (by decide)]
   k_upd
   refine ⟨_,hD,_,rfl,?_⟩
   k_mem
   rw [if_neg (by decide)]
   k_upd
   refine ⟨_,hD,_,rfl,?_⟩
   k_mem
   rw [if_pos rfl]
   k_upd
   refine mgo hob rfl ⟨_,hD,_,rfl,_,hD,_,rfl,?_⟩
   k_mem
   refine ⟨_,_,_,_,_,_,_,_,rfl,hW,by omega,wl.symm,hg.sh,hn.gl,by omega,ok.1,ok.2,fun h H2 s2=>qe .ul (if_pos h) H2 s2,fun h h' h3 H2 s2=>qe .nt ?_ H2 s2,fun l h h' hl h3 h4 H2 s2=>qe .ct ?_ H2 s2,fun l h h' hl h3 h4 h5 H2 s2=>qe .gs ?_ H2 s2,fun l h h' hl h3 h4 h5=>⟨fun z=>absurd z full,fun _ H2 k2 hW2=>q ?_ _ H2 k2 hW2 rfl⟩⟩
   ·refine (if_neg (fun z=>z ⟨h,h'⟩)).trans ?_
    cases hl:a9 g.ds (ai n0 rs).place c with
    | none=>rfl
    | some l=>exact if_pos (h3 l hl)
   ·refine (if_neg (fun z=>z ⟨h,h'⟩)).trans ?_
    rw [hl]
    exact (if_neg (fun z=>z h3)).trans (if_pos h4)
   ·refine (if_neg (fun z=>z ⟨h,h'⟩)).trans ?_
    rw [hl]
    exact (if_neg (fun z=>z h3)).trans ((if_neg h4).trans (if_neg (by rw [h5];exact Bool.false_ne_true)))
   ·refine (if_neg (fun z=>z ⟨h,h'⟩)).trans ?_
    rw [hl]
    exact (if_neg (fun z=>z h3)).trans ((if_neg h4).trans (if_pos h5))
  | unload c=>
   refine ⟨_,hD,_,rfl,?_⟩
   k_mem
   rw [if_neg (by decide)]
   k_upd
   refine ⟨_,hD,_,rfl,?_⟩
   k_mem
   rw [if_neg (by decide)]
   k_upd
   refine ⟨_,hD,_,rfl,?_⟩
   k_mem
   rw [if_neg (by decide)]
   k_upd
   refine ⟨_,hD,_,rfl,?_⟩
   k_mem
   rw [if_neg (by decide)]
   k_upd
   refine ⟨_,hD,_,rfl,?_⟩
   k_mem
   rw [if_neg (by decide)]
   k_upd
   refine ⟨_,hD,_,rfl,?_⟩
   k_mem
   rw [if_pos rfl]
   k_upd
   refine mgo hob rfl ⟨_,hD,_,rfl,?_⟩
   k_mem
   refine ⟨_,_,_,_,_,_,_,rfl,hW,by omega,wl.symm,hg.sh,hn.gl,ok.1,ok.2,fun h H2 s2=>qe .ce (if_pos h) H2 s2,fun h hl H2 s2=>qe .nt ?_ H2 s2,fun l h hl h3 H2 s2=>qe .gs ?_ H2 s2,fun l h hl h3=>⟨fun z=>absurd z full,fun _ H2 k2 hW2=>q ?_ _ H2 k2 hW2 rfl⟩⟩
   ·refine (if_neg (fun z=>z h)).trans ?_
    simp only [hl]
   ·refine (if_neg (fun z=>z h)).trans ?_
    rw [hl]
    exact if_neg (by rw [h3];exact Bool.false_ne_true)
   ·refine (if_neg (fun z=>z h)).trans ?_
    rw [hl]
    exact if_pos h3
  | wind c l k=>
   refine ⟨_,hD,_,rfl,?_⟩
   k_mem
   rw [if_neg (by decide)]
   k_upd
   refine ⟨_,hD,_,rfl,?_⟩
   k_mem
   rw [if_neg (by decide)]
   k_upd
   refine ⟨_,hD,_,rfl,?_⟩
   k_mem
   rw [if_neg (by decide)]
   k_upd
   refine ⟨_,hD,_,rfl,?_⟩
   k_mem
   rw [if_neg (by decide)]
   k_upd
   refine ⟨_,hD,_,rfl,?_⟩
   k_mem
   rw [if_neg (by decide)]
   k_upd
   refine ⟨_,hD,_,rfl,?_⟩
   k_mem
   rw [if_neg (by decide)]
   k_upd
   refine ⟨_,hD,_,rfl,?_⟩
   k_mem
   rw [if_pos rfl]
   have sp:=hg.speed (ai n0 rs)
   k_upd
   refine mgo hob rfl ⟨_,hD,_,rfl,_,hD,_,rfl,_,hD,_,rfl,?_⟩
   k_mem
   refine ⟨_,_,_,_,_,_,_,_,_,rfl,hW,by omega,wl.symm,hg.sh,hn.gl,lc,sp.1,sp.2,ok.2,fun h H2 s2=>qe .lv (if_pos h) H2 s2,fun h h' h3 H2 s2=>qe .go ((if_neg (fun z=>z ⟨h,h'⟩)).trans (if_pos h3)) H2 s2,fun h h' h3 h4 H2 s2=>qe .na ((if_neg (fun z=>z ⟨h,h'⟩)).trans ((if_neg (by rw [h3];exact Bool.false_ne_true)).trans (if_neg h4))) H2 s2,fun h h' h3 h4=>⟨fun z=>absurd z full,fun _ H2 k2 hW2=>q ((if_neg (fun z=>z ⟨h,h'⟩)).trans ((if_neg (by rw [h3];exact Bool.false_ne_true)).trans (if_pos h4))) _ H2 k2 hW2 rfl⟩⟩
  | fail l=>
   refine ⟨_,hD,_,rfl,?_⟩
   k_mem
   rw [if_neg (by decide)]
   k_upd
   refine ⟨_,hD,_,rfl,?_⟩
   k_mem
   rw [if_neg (by decide)]
   k_upd
   refine ⟨_,hD,_,rfl,?_⟩
   k_mem
   rw [if_neg (by decide)]
   k_upd
   refine ⟨_,hD,_,rfl,?_⟩
   k_mem
   rw [if_neg (by decide)]
   k_upd
   refine ⟨_,hD,_,rfl,?_⟩
   k_mem
   rw [if_neg (by decide)]
   k_upd
   refine ⟨_,hD,_,rfl,?_⟩
   k_mem
   rw [if_neg (by decide)]
   k_upd
   refine ⟨_,hD,_,rfl,?_⟩
   k_mem
   rw [if_neg (by decide)]
   k_upd
   refine ⟨_,hD,_,rfl,?_⟩
   k_mem
   rw [if_pos rfl]
   k_upd
   refine mgo hob rfl ⟨_,hD,_,rfl,?_⟩
   k_mem
   refine ⟨_,_,_,_,_,_,_,rfl,hW,by omega,wl.symm,fun h H2 s2=>qe .lv ?_ H2 s2,fun h h' h3 H2 s2=>qe .ch ?_ H2 s2,fun h h' h3=>⟨fun z=>absurd z full,fun _ H2 k2 hW2=>q ?_ _ H2 k2 hW2 rfl⟩⟩
   ·rw [lc] at h
    exact if_pos h
   ·rw [lc] at h'
    exact (if_neg (fun z=>z ⟨h,h'⟩)).trans (if_pos h3)
   ·rw [lc] at h'
    exact (if_neg (fun z=>z ⟨h,h'⟩)).trans (if_neg (by rw [h3];exact Bool.false_ne_true))
variable (yT:KD P w K mg base (CXf P w) 7 "_law_call" (rD K Z))
inductive rE (K:W.Frag)(Z:Adr)(vs:List V)(H:Hp)(Q:VK)(E:XK):Prop | mk (H0:Hp) (w bk rl p dl cl ll sl wl dd:Addr) (g:Cfg) (lds:List Ld) (n0:aI) (rs:List Row):vs=[.ref w,.ref p,.ref sl,.ref wl,.ref dd]->lA (clZ Z) K H0 H p dl cl ll w bk rl sl wl g lds n0 rs->rs.length < 300->(((∃d,SqT K H dd (ddV d)/\qC d/\dD g (ai n0 rs) d=none/\∀H',bD rl sl wl H H'->lA (clZ Z) K H0 H' p dl cl ll w bk rl sl wl g lds n0 (rs++[eH g n0 rs d])->Q (.bl true) H')\/
  (SqT K H dd [.str "take back"]/\∃rs' r,rs=rs'++[r]/\∀H',bD rl sl wl H H'->lA (clZ Z) K H0 H' p dl cl ll w bk rl sl wl g lds n0 rs'->Q (.bl true) H')))->rE K Z vs H Q E
include T yN dh yT in
theorem B8:FF P w K mg base (CXf P w) 8 "_law_done" "_law_done" uq yy (rE K Z):=fkF qY fun vs H Q E h=>by
 obtain ⟨H0,w,bk,rl,p,dl,cl,ll,sl,wl,dd,g,lds,n0,rs,rfl,hX,h300,hc⟩:=h
 k_all
 refine seg 6 (ah (aw (dc0 dh hr.dn (pa2 (pv' 5) (ao aq (ao au (pv' 2) (jV dY af)) af))))) fun zt6 zh6 ze6=>?_
 refine seg 5 (ae (aJ (bw (ao aq (pv' 4) af) aC) (ah (aw (dc0 dh hr.dn (pa2 (pv' 5) (aP (pa3 (cB jo (ao aq (pv' 4) af) (ao aq (pv' 6) af) (bV _)) (ao aq (pv' 6) af) (ao aq (pv' 4) af))))))) (aA)) zh6) fun zt5 zh5 ze5=>?_
 refine seg 4 (ae (a6 (lG PySem.F.plainAttrs_list PySem.F.slot_list_append PySem.F.type_list_append dO (pv' 3) (pa1 (aP (pa3 (ao aq (ao au (pv' 2) (jV dY af)) af) (ao aq (ao au (pv' 2) (jV dY af)) af) (pv' 4)))))) zh5) fun zt4 zh4 ze4=>?_
 refine seg 3 (ae (a6 (lG PySem.F.plainAttrs_list PySem.F.slot_list_append PySem.F.type_list_append dO (pv' 2) (pa1 (dc0 yN hr.dn (pa3 (pv' 1) (ao au (pv' 2) (jV dY af)) (pv' 4)))))) zh4) fun zt3 zh3 ze3=>?_
 refine seg 2 (ae (aD (i:=6) qY.nd rfl orL (ao aq (ao au (pv' 2) (jV dY af)) af)) zh3) fun zt2 zh2 ze2=>?_
 refine seg 1 (ae (aJ (bw (ao aq (pv' 4) af) aC) (ae (a6 (tG PySem.F.plainAttrs_list PySem.F.slot_list_pop PySem.F.type_list_pop xo (pv' 2))) (ah (aw (dc0 dh hr.dn (pa2 (pv' 5) (ao aq (tG PySem.F.plainAttrs_list PySem.F.slot_list_pop PySem.F.type_list_pop xo (pv' 3)) af)))))) (aA)) zh2) fun zt1 zh1 ze1=>?_
 refine ⟨_,ae (aD (i:=5) qY.nd rfl orL (dc yT hr.dn bg (pa2 (pv' 0) (pv' 4)))) zh1,?_⟩
 obtain ⟨hW,⟨as,hsl,hA⟩,⟨bs,hwl,hB⟩,hNs,hNw,hne,hrun⟩:=id hX.da
 have hg:=hX.cg
 have hn:=hX.snap
 obtain ⟨rr,hrl⟩:=hW.rows
 have nrs:rl≠sl:=hW.off sl hNs
 have nrw:rl≠wl:=hW.off wl hNw
 k_mem
 rcases hc with ⟨d,hD,ok,hrf,q⟩ | ⟨hD,rs2,r,rfl,q⟩
 ·k_upd
  refine ⟨w,bk,rl,dd,g,n0,rs,rfl,hW,hg,hn,h300,.inl ⟨d,hD,ok,fun r e=>(by rw [hrf] at e;cases e),fun _ v H1 k1 hW1 ans=>?_⟩⟩
  have hD1:=hD.keep k1 hrl
  have hsl1:=k1 _ _ nrs.symm hsl
  have hwl1:=k1 _ _ nrw.symm hwl
  have hA1:fP (ie K H1) as (ig n0 rs):=hA.imp fun a x h=>h.keep k1 hrl
  have hB1:c8 K H1 bs rs:=hB.keep k1 hrl
  have sa1:av H0 H1:=hX.sa.keeps k1 hX.fr
  obtain ⟨as1,a,rfl,hSt⟩:=Dh hA1
  obtain ⟨gt,lt,ht,dt,h1,h2,h3,h4,h5⟩:=hSt.un
  obtain ⟨w0,ew0,nw0⟩:=FR d
  have hal:=hA1.1
  have hbl:=hB1.1
  rw [vZ,List.length_append,List.length_singleton] at hal
  k_mem
  refine ⟨_,hD1,_,ew0,?_⟩
  k_mem
  rw [if_neg nw0]
  k_upd
  refine ⟨_,SqL.of hsl1,_,mP,?_⟩
  k_mem
  refine ⟨_,h1,_,rfl,?_⟩
  k_mem
  refine ⟨.inl ⟨rfl,_,SqL.of hsl1⟩,_,SqL.of hsl1,_,mP,?_⟩
  k_mem
  refine ⟨p,dl,cl,ll,a,dd,g,lds,ai n0 rs,bC rs,d,rfl,hX.su.same sa1,hg,hn,hSt,hD1,ok,hrf,fun b H2 s2 hb=>?_⟩
  k_mem
  refine ⟨_,s2 _ _ hsl1,cY (by rw [List.length_map,List.length_append,List.length_singleton];omega),?_⟩
  have k3:L2.aB sl H2 (upd H2 sl (HO.lst (List.map V.ref (as1++[a])++[V.ref b]))):=(aB.of (av.refl H2)).put
  have e3:upd H2 sl (HO.lst (List.map V.ref (as1++[a])++[V.ref b])) sl=some (HO.lst ((as1++[a]++[b]).map V.ref)):=by rw [ag];simp
  generalize upd H2 sl (HO.lst (List.map V.ref (as1++[a])++[V.ref b]))=H3 at *
  have hW3:=(hW1.same s2).own hNs k3 e3
  have hwl3:=k3 _ _ hne.symm (s2 _ _ hwl1)
  have hb3:=hb.keep k3 (s2 _ _ hsl1)
  have h13:=(s2.tup h1).keep k3 (s2 _ _ hsl1)
  obtain ⟨gt2,lt2,ht2,dt2,hb31,_⟩:=hb3.un
  k_mem
  refine ⟨.inl ⟨rfl,_,SqL.of hwl3⟩,_,SqL.of e3,_,FU,?_⟩
  k_mem
  refine ⟨_,h13,_,rfl,_,SqL.of e3,_,mP,?_⟩
  k_mem
  refine ⟨_,hb31,_,rfl,by decide,fun tp htp=>?_⟩
  (generalize hE:upd H3 tp _=H4 at *;have f4:=pA hE htp;have e4:=i8 hE;clear hE)
  k_upd
  refine ⟨_,f4 _ _ hwl3,cY (by rw [List.length_map];omega),?_⟩
  have k5:L2.aB wl H4 (upd H4 wl (HO.lst (List.map V.ref bs++[V.ref tp]))):=(aB.of (av.refl H4)).put
  have e5:upd H4 wl (HO.lst (List.map V.ref bs++[V.ref tp])) wl=some (HO.lst ((bs++[tp]).map V.ref)):=by rw [ag];simp
  generalize upd H4 wl (HO.lst (List.map V.ref bs++[V.ref tp]))=H5 at *
  have hwl4:=f4 _ _ hwl3
  have hW5:=(hW3.same f4).own hNw k5 e5
  have hD5:SqT K H5 dd (ddV d):=(f4.tup ((s2.tup hD1).keep k3 (s2 _ _ hsl1))).keep k5 hwl4
  have hsl5:=k5 _ _ hne (f4 _ _ e3)
  have h45:SqT K H5 ht (nV (ai n0 rs).e):=(f4.tup ((s2.tup h4).keep k3 (s2 _ _ hsl1))).keep k5 hwl4
  have hb51:=(f4.tup hb31).keep k5 hwl4
  have K05:bD rl sl wl H H5:=((((bD.a k1).trans (bD.of s2)).trans (bD.b k3)).trans (bD.of f4)).trans (bD.c k5)
  have hX5:lA (clZ Z) K H0 H5 p dl cl ll w bk rl sl wl g lds n0 (rs++[eH g n0 rs d]):=hX.to K05 ⟨hW5,⟨as1++[a]++[b],hsl5,?_⟩,⟨bs++[tp],e5,?_⟩,hNs,hNw,hne,.snoc hrun ok hrf⟩
  rotate_left
  ·rw [nW]
   exact fP.push (hA1.imp fun a x h=>(((h.same s2).keep k3 (s2 _ _ hsl1)).same f4).keep k5 hwl4) ((hb3.same f4).keep k5 hwl4)
  ·exact ((((hB1.same s2).keep k3 (s2 _ _ hsl1)).same f4).keep k5 hwl4).push ⟨dd,(SqT.of e4).keep k5 hwl4,hD5⟩
  have ans5:vc K H5 (ai n0 rs) (bC rs+cL g (ai n0 rs) d) d v:=(((ans.same s2).keep k3 (s2 _ _ hsl1)).same f4).keep k5 hwl4
  have qq:∀H',av H5 H'->Q (.bl true) H':=fun H' s=>q H' (K05.trans (bD.of s)) (hX5.same s)
  clear hX5 K05 hW5 hW3 hW1 hsl1 hwl1 hA1 hB1 sa1 h13 hb31 hb3 hwl3 k3 f4 k5 hD1
  k_mem
  by_cases hr:∃s,d=.rept s
  ·obtain ⟨s,rfl⟩:=hr
   obtain ⟨pa,l,r,rfl,he,hpa⟩:=ans5
   rw [he] at h45
   k_upd
   refine ⟨_,hD5,_,rfl,?_⟩
   k_mem
   rw [if_pos rfl]
   k_upd
   refine ⟨_,hD5,_,rfl,_,h45,_,rfl,?_⟩
   k_mem
   refine ⟨_,h45,_,rfl,_,hD5,_,rfl,by decide,fun tq htq=>?_⟩
   have f6:=(av.refl H5).lay (o:=HO.tup [V.bl (decide (s=r)),V.int r,V.int s]) htq
   k_upd
   refine ⟨_,_,_,rfl,mL (f6.tup hpa) (by show 3<=100000;decide) ?_,mL (SqT.of ag) (by show 3<=100000;decide) ?_,fun H' s'=>qq H' (f6.trans s')⟩
   all_goals
    intro x hx
    simp only [List.mem_cons,List.not_mem_nil,or_false] at hx
    rcases hx with rfl | rfl | rfl<;>rfl
  ·obtain ⟨w1,ew1,nw1⟩:=FT (d:=d) fun s e=>hr ⟨s,e⟩
   have ev:=ans5.int fun s e=>hr ⟨s,e⟩
   subst ev
   k_upd
   refine ⟨_,hD5,_,ew1,?_⟩
   k_mem
   rw [if_neg nw1]
   k_upd
   refine ⟨_,SqL.of hsl5,_,mP,?_⟩
   k_mem
   refine ⟨_,hb51,_,rfl,?_⟩
   k_mem
   exact ⟨_,_,_,rfl,.flat rfl,.flat rfl,qq⟩
 ·k_upd
  refine ⟨w,bk,rl,dd,g,n0,rs2++[r],rfl,hW,hg,hn,h300,.inr ⟨hD,rs2,r,rfl,fun pp H1 k1 hW1 hpp=>?_⟩⟩
  have hD1:=hD.keep k1 hrl
  have hsl1:=k1 _ _ nrs.symm hsl
  have hwl1:=k1 _ _ nrw.symm hwl
  have hA1:fP (ie K H1) as (ig n0 (rs2++[r])):=hA.imp fun a x h=>h.keep k1 hrl
  have hB1:c8 K H1 bs (rs2++[r]):=hB.keep k1 hrl
  rw [nW] at hA1
  obtain ⟨as1,a,rfl,hA2,_⟩:=hA1.last
  obtain ⟨bs1,b,rfl,hB2,dd2,hb1,hb2⟩:=hB1.last
  obtain ⟨dr,hdr⟩:=hrun.deeds r (by simp)
  k_mem
  refine ⟨_,hD1,_,rfl,?_⟩
  k_mem
  rw [if_pos rfl]
  k_upd
  refine ⟨.inl ⟨rfl,_,SqL.of hsl1⟩,_,hsl1,.ref a,by simp,?_⟩
  have k3:L2.aB sl H1 (upd H1 sl (HO.lst (List.map V.ref (as1++[a])).dropLast)):=(aB.of (av.refl H1)).put
  have e3:upd H1 sl (HO.lst (List.map V.ref (as1++[a])).dropLast) sl=some (HO.lst (as1.map V.ref)):=by rw [ag];simp
  generalize upd H1 sl (HO.lst (List.map V.ref (as1++[a])).dropLast)=H3 at *
  have hwl3:=k3 _ _ hne.symm hwl1
  k_mem
  refine ⟨.inl ⟨rfl,_,SqL.of hwl3⟩,_,hwl3,.ref b,by simp,?_⟩
  have k5:L2.aB wl H3 (upd H3 wl (HO.lst (List.map V.ref (bs1++[b])).dropLast)):=(aB.of (av.refl H3)).put
  have e5:upd H3 wl (HO.lst (List.map V.ref (bs1++[b])).dropLast) wl=some (HO.lst (bs1.map V.ref)):=by rw [ag];simp
  generalize upd H3 wl (HO.lst (List.map V.ref (bs1++[b])).dropLast)=H5 at *
  have K05:bD rl sl wl H H5:=((bD.a k1).trans (bD.b k3)).trans (bD.c k5)
  have hX5:lA (clZ Z) K H0 H5 p dl cl ll w bk rl sl wl g lds n0 rs2:=hX.to K05 ⟨(hW1.own hNs k3 e3).own hNw k5 e5,⟨as1,k5 _ _ hne e3,hA2.imp fun a x h=>(h.keep k3 hsl1).keep k5 hwl3⟩,⟨bs1,e5,(hB2.keep k3 hsl1).keep k5 hwl3⟩,hNs,hNw,hne,hrun.inv.1⟩
  have lenr:=E5 dr
  k_mem
  refine ⟨_,(hb1.keep k3 hsl1).keep k5 hwl3,_,rfl,?_⟩
  k_mem
  refine ⟨_,_,_,rfl,mL ((hpp.keep k3 hsl1).keep k5 hwl3) (by rw [hdr];omega) (by rw [hdr];exact xZ dr),mL ((hb2.keep k3 hsl1).keep k5 hwl3) (by rw [hdr];omega) (by rw [hdr];exact xZ dr),fun H' s=>q H' (K05.trans (bD.of s)) (hX5.same s)⟩
variable (qs:KD P w K mg base (CXf P w) 8 "_law_done" (rE K Z))
def I9 (Z:Adr)(K:W.Frag)(H0 H:Hp)(p dl cl ll w bk rl sl wl a:Addr)(g:Cfg)(lds:List Ld)(n0:aI)(i:Nat)(σ:St)(H':Hp):Prop:=∃rs,bD rl sl wl H H'/\lA (clZ Z) K H0 H' p dl cl ll w bk rl sl wl g lds n0 rs/\rs.length<=i/\∃t u,σ=[some (.ref a),some (.ref p),some (.int g.ds.length),some (.int lds.length),some (.ref w),some (.ref sl),some (.ref wl),t,u,none,none,none,none,none,none]
theorem Am {C:Cl}{K:W.Frag}{H0 H:Hp}{p dl cl ll w bk rl sl wl:Addr}{g:Cfg}{lds:List Ld}{n0:aI}{rs:List Row}(h:lA C K H0 H p dl cl ll w bk rl sl wl g lds n0 rs):(lds.length:Int)=((ai n0 rs).ws.length:Int):=by
 rw [h.snap.wl,h.su.ek,List.length_map]
theorem B9 {g:Cfg}{n0:aI}{rs:List Row}(hg:cH g)(h0:bR g n0)(h:Run g n0 rs)(k:Nat):bC (rs.take k)<=bC rs:=by
 rcases ck (rs.take k) with e | ⟨rs',r,e⟩
 ·rw [e];exact h.now hg
 ·rw [e,dw]
  have hm:r∈rs:=List.mem_of_mem_take (i:=k) (by rw [e];simp)
  exact ((h.mem hg h0).2 r hm).2.2.2.2
theorem Kl {g:Cfg}{n0:aI}{rs:List Row}(hg:cH g)(h0:bR g n0)(h:Run g n0 rs):∀k,k<=rs.length->cQ n0 rs (bC (rs.take k))=(gu n0 rs k).ws:=by
 induction h with
 | nil=>intro k _;rw [List.take_nil];show n0.ws=(ai n0 (List.take k [])).ws;rw [List.take_nil];rfl
 | @snoc rs d h ok hr ih=>
  intro k hk
  rw [List.length_append,List.length_singleton] at hk
  by_cases hl:k<=rs.length
  ·have e1:(rs++[eH g n0 rs d]).take k=rs.take k:=List.take_append_of_le_length hl
   unfold gu
   rw [e1,dX]
   have ihk:=ih k hl
   unfold gu at ihk
   unfold lM
   by_cases he:(eH g n0 rs d).ended<=bC (rs.take k)
   ·rw [if_pos he]
    have he':bC rs+cL g (ai n0 rs) d<=bC (rs.take k):=he
    have h1:=B9 hg h0 h k
    have h2:=dz hg (ai n0 rs) d
    rw [←ihk,(h.behind hg (by omega)).2]
    show (aV g (ai n0 rs) d).ws=_
    cases d with
    | wind c l kd=>rfl
    | _=>exact absurd he' (by show ¬bC rs+1<=_;omega)
   ·rw [if_neg he];exact ihk
  ·have ek:k=(rs++[eH g n0 rs d]).length:=by rw [List.length_append,List.length_singleton];omega
   have hR:Run g n0 (rs++[eH g n0 rs d]):=.snoc h ok hr
   unfold gu
   rw [ek,List.take_length]
   exact (hR.behind hg (Int.le_refl _)).2
def Jb (Hb:Hp)(K:W.Frag)(n0:aI)(rs:List Row)(x0 x1 x2 x3 x4 x5 x6:V)(j:Nat)(σ:St)(H':Hp):Prop:=av Hb H'/\∃pe t u b c d e f,σ=[some x0,some x1,some x2,some x3,some x4,some x5,some x6,t,u,some (.ref pe),b,c,d,e,f]/\H' pe=some (.lst ((gu n0 rs j).ws.map V.int))
def Ew (Hb:Hp)(K:W.Frag)(n0:aI)(rs:List Row)(ts:List Int)(x0 x1 x2 x3 x4 x5 x6 xd xe xj xb xf:V)(t:Option V)(i:Nat)(σ:St)(H':Hp):Prop:=av Hb H'/\∃e f,σ=[some x0,some x1,some x2,some x3,some x4,some x5,some x6,t,some xd,some xe,some xj,some xb,some xf,e,f]/\∀k y,i=k+1->ts[k]?=some y->∃pn,f=some (.ref pn)/\H' pn=some (.lst ((cQ n0 rs y).map V.int))
noncomputable def uU (K:W.Frag)(Z:Adr):Sp:=fun vs H Q _=>∃(a:Addr) (ns:List Int),vs=[.ref a]/\SqL K H a (ns.map V.int)/\ns.length<=63/\∀H',Q (.bl true) H'
include T mQ mR dB kT fL gm df mS dh qp mJ qs in
theorem Jc:FF P w K mg base (CXf P w) 9 "law" "law" uu Eh (uU K Z):=fkF dQ fun vs H Q E h=>by
 obtain ⟨a,ns,rfl,hS,hn,q⟩:=h
 k_all
 refine seg 10 (ah (aw (ja (dc0 dh hr.dn (pa2 (dP (pv' 4) dB hr.dn bj) (pv' 9))) (lB (dc mJ hr.dn bg (pa3 (pv' 4) (pv' 3) (pv' 2))))))) fun zt10 zh10 ze10=>?_
 refine seg 9 (ae (cy sD rfl (bq (by rfl) T.cb (pa1 (aE ax (by rfl) T.bQ a7 (pa1 (pv' 6))))) (aF (i:=10) dQ.nd rfl orL) (ae (kh (ao au (pv' 6) (pv' 10)) (fA rfl (aH (aF (i:=11) dQ.nd rfl orL) (aH (aF (i:=12) dQ.nd rfl orL) (aH (aF (i:=8) dQ.nd rfl orL) c9))))) (ae (cy sD rfl (cA (ao au (bX (pa2 (bX (pa2 (pv' 11) (pv' 12))) (bh (tL rfl) (by rfl) T.eC cW (pa1 (bh w8 (by rfl) T.cb xQ (pa2 (pv' 11) (aO aU (pv' 12) af))))))) (bh eQ (by rfl) T.nJ jl (pa1 (cB DZ (ao aq (ao au (pv' 6) (jV dY af)) af) af (bV _)))))) (aF (i:=13) dQ.nd rfl orL) (ae (aD (i:=14) dQ.nd rfl orL (dm' (pv' 4) df hr.dn bg (pa1 (pv' 13)))) (ah (aJ (iZ (cT (bU (dc0 fL hr.dn (pa3 (pv' 14) (pv' 3) (pv' 2))))) (fQ (eP (lP (pv' 13) (pv' 12)) (eL (dq (xn hr.units0) (pv' 14) (pv' 9) (bV _)))).pt)).pt (ah (aw eF)) (aA))))) (ae (aJ (cT (bU (dc0 kT hr.dn (dU (ao au (pv' 1) af) (pa4 (pv' 9) (pv' 14) (pv' 8) (ao aq (ao au (pv' 5) (pv' 10)) af)))))) (ah (aw eF)) (aA)) (ah (aD (i:=9) dQ.nd rfl orL (pv' 14))))))) zh10) fun zt9 zh9 ze9=>?_
 refine seg 8 (ae (aJ (cT (bU (dc0 dh hr.dn (pa2 (pv' 9) (mY ["_law_one"] [none] (cA (ao au (pv' 1) af)) (fun _ _ _ _=>(aF (i:=0) (show (["_law_one"]:List Str).Nodup by decide +kernel) rfl orL)) (fun _ _ _ _=>gh) (fun _ _ _ _=>(ao (show IxR _ (rK K) from aq) (pv' 0) af))))))) (ah (aw eF)) (aA)) zh9) fun zt8 zh8 ze8=>?_
 refine seg 7 (ae (aD (i:=9) dQ.nd rfl orL (dm' (pv' 4) df hr.dn bg (pa1 af))) zh8) fun zt7 zh7 ze7=>?_
 refine seg 6 (ae (cy sD rfl (tS (by rfl) T.cb (pa2 af (aE (nZ rfl) (by rfl) T.Ei zk (pa2 (aE ax (by rfl) T.bQ a7 (pa1 (pv' 0))) af)))) (aF (i:=7) dQ.nd rfl orL) (ae (aD (i:=8) dQ.nd rfl orL (dc0 gm hr.dn (pa3 (pv' 1) (pv' 5) (dc0 mQ hr.dn (pa2 (pv' 0) (pv' 7)))))) (ah (aJ (iZ (cT (bU (dc qs hr.dn bg (dU (pv' 4) (pa4 (pv' 1) (pv' 5) (pv' 6) (pv' 8)))))) (fQ (cT (bU (dc mJ hr.dn bg (pa3 (pv' 4) (pv' 3) (pv' 2))))))).pt (ah (aw eF)) (aA))))) zh7) fun zt6 zh6 ze6=>?_
 refine seg 5 (ae (aD (i:=6) dQ.nd rfl orL (bX g8)) zh6) fun zt5 zh5 ze5=>?_
 refine seg 4 (ae (aD (i:=5) dQ.nd rfl orL (bX (pa1 (dc0 mR hr.dn (pa1 (pv' 1)))))) zh5) fun zt4 zh4 ze4=>?_
 refine seg 3 (ae (aD (i:=4) dQ.nd rfl orL (dc qp hr.dn bg (pa1 (pv' 1)))) zh4) fun zt3 zh3 ze3=>?_
 refine seg 2 (ae (aD (i:=3) dQ.nd rfl orL (aE ax (by rfl) T.bQ a7 (pa1 (ao au (pv' 1) af)))) zh3) fun zt2 zh2 ze2=>?_
 refine seg 1 (ae (aD (i:=2) dQ.nd rfl orL (aE ax (by rfl) T.bQ a7 (pa1 (ao au (pv' 1) af)))) zh2) fun zt1 zh1 ze1=>?_
 refine ⟨_,ae (aD (i:=1) dQ.nd rfl orL (dc0 mS hr.dn (pa2 (pv' 0) af))) zh1,?_⟩
 k_mem
 refine ⟨a,ns,30,rfl,hS,by omega,by omega,fun p dl cl ll ds ls slow fast lds H1 s1 fp fdl fcl fll hP hsh hlen hgd hsp hlm hld=>?_⟩
 have hU:ym ds ls slow fast lds:=⟨hsh,hlen,hgd,hsp,by omega,fun x hx=>(hld x hx).1⟩
 have l2:=hU.sh.l2
 have l6:=hU.sh.l6
 k_mem
 refine ⟨_,SqL.of hP.ob,_,rfl,_,.inl (SqL.of hP.od),?_⟩
 rw [List.length_map]
 k_mem
 obtain ⟨ats0,hol,hTl⟩:=id hP.ol
 k_upd
 refine ⟨_,SqL.of hP.ob,_,rfl,_,.inl (SqL.of hol),?_⟩
 have hatl:=hTl.1
 rw [List.length_map,hatl]
 k_mem
 refine ⟨p,dl,cl,ll,ds,ls,slow,fast,lds,_,rfl,hP,hsh,hlen,hgd,hsp,hU.l30,hU.gl,fun wk bk rl N H2 s2 frl fwk hW=>?_⟩
 k_mem
 refine ⟨p,dl,cl,ll,ds,ls,slow,fast,lds,N,rfl,⟨(hP.same s2).ob,(hP.same s2).od,(hP.same s2).oc,(hP.same s2).ol,(hP.same s2).ek⟩,l2,l6,hU.l30,fun st H3 s3 hst=>?_⟩
 k_mem
 refine ⟨by decide,fun sl hsl=>?_⟩
 (generalize hE:upd H3 sl _=H4 at *;have f4:=pA hE hsl;have e4:=i8 hE;clear hE)
 have hWa:=(hW.same s3).grow hsl f4 e4
 k_mem
 refine ⟨by decide,fun wl hwl=>?_⟩
 (generalize hE:upd H4 wl _=H5 at *;have f5:=pA hE hwl;have e5:=i8 hE;clear hE)
 have nsw:sl≠wl:=ak e4 hwl
 have hWb:=hWa.grow hwl f5 e5
 have s25:=(s3.trans f4).trans f5
 have s15:=s2.trans s25
 have hsl1:H1 sl=none:=(s2.trans s3).free hsl
 have hwl1:H1 wl=none:=((s2.trans s3).trans f4).free hwl
 have hX:lA (clZ Z) K H1 H5 p dl cl ll wk bk rl sl wl (fh ds ls slow fast lds fun q=>(N q\/q=sl)\/q=wl) lds (cE ds ls lds) []:=⟨⟨hP.ob,hP.od,hP.oc,hP.ol,hP.ek⟩,s15,frl,hsl1,hwl1,⟨hWb,⟨[st],f5 _ _ e4,fP.nil.push ((hst.same f4).same f5)⟩,⟨[],e5,c8.nil⟩,.inl (.inr rfl),.inr rfl,nsw,.nil⟩,hU.cfg _,hU.snap _⟩
 clear hWa hWb hst
 k_mem
 refine ⟨_,.inl ((s1.trans s15).seq hS),?_⟩
 rw [List.length_map]
 k_mem
 have hj:(if (65:Int) < (ns.length:Int) then 65 else (ns.length:Int))=ns.length:=by rw [if_neg (by omega)]
 rw [hj]
 k_upd
 refine ⟨⟨by decide,by decide,by omega,by omega⟩,?_⟩
 k_upd
 refine bF (I9 Z K H1 H5 p dl cl ll wk bk rl sl wl a (fh ds ls slow fast lds fun q=>(N q\/q=sl)\/q=wl) lds (cE ds ls lds)) ⟨[],bD.of (av.refl _),hX,Nat.le_refl _,_,_,rfl⟩ ?_ ?_
 ·rintro i σ H7 hi ⟨rs,k7,hX7,hrl,t,u,rfl⟩
  k_mem
  refine ⟨a,ns,5+(i:Int),rfl,hX7.sa.seq (s1.seq hS),by omega,by omega,fun c=>?_⟩
  k_mem
  obtain ⟨as,hsl6,hA6⟩:=hX7.da.st
  k_upd
  refine ⟨p,dl,cl,ll,sl,_,lds,_,rs,c,rfl,hX7.setup,hX7.cg,hX7.snap,⟨as,hsl6,hA6⟩,fun dd d H8 s8 hd ok hr=>?_,fun hrs dd H8 s8 hd=>?_⟩
  ·k_mem
   k_upd
   refine ⟨H1,wk,bk,rl,p,dl,cl,ll,sl,wl,dd,_,lds,_,rs,rfl,hX7.same s8,by omega,.inl ⟨d,hd,ok,hr,fun H9 k9 hX9=>?_⟩⟩
   k_mem
   refine ⟨wk,bk,rl,_,_,_,by rw [Am hX9],hX9.da.wk,hX9.cg,hX9.snap,fun H10 s10=>?_⟩
   k_mem
   exact ⟨_,(k7.trans (bD.of s8)).trans (k9.trans (bD.of s10)),hX9.same s10,by rw [List.length_append,List.length_singleton];omega,_,_,rfl⟩
  ·obtain ⟨rs2,r,rfl⟩:∃rs2 r,rs=rs2++[r]:=by
    rcases ck rs with z | z
    ·exact absurd z hrs
    ·exact z
   k_mem
   refine ⟨H1,wk,bk,rl,p,dl,cl,ll,sl,wl,dd,_,lds,_,rs2++[r],rfl,hX7.same s8,by omega,.inr ⟨hd,rs2,r,rfl,fun H9 k9 hX9=>?_⟩⟩
   k_mem
   refine ⟨wk,bk,rl,_,_,_,by rw [Am hX9],hX9.da.wk,hX9.cg,hX9.snap,fun H10 s10=>?_⟩
   k_mem
   exact ⟨_,(k7.trans (bD.of s8)).trans (k9.trans (bD.of s10)),hX9.same s10,by rw [List.length_append,List.length_singleton] at hrl;omega,_,_,rfl⟩
 ·rintro σ H7 ⟨rs,k7,hX7,hrl,t,u,rfl⟩
  have hl60:rs.length<=60:=by omega
  have hg:=hX7.cg
  have hmem:=hX7.da.run.mem hg hX7.c0
  have hrun:=hX7.da.run
  have hnow0:=hrun.now hg
  k_mem
  obtain ⟨dx,dl2,gl2,hob,_⟩:=id hX7.da.wk.ob
  k_upd
  refine mgo hob rfl ⟨_,_,_,_,_,_,_,rfl,hX7.da.wk,fun _ pe H8 hpe s8 epe=>?_,fun z=>absurd ⟨Int.le_refl _,hnow0⟩ z⟩
  have e0:cQ (cE ds ls lds) rs 0=lds.map fun x=>x.2.1:=(hrun.zero hg rfl).2.1
  rw [e0] at epe
  have hX8:=hX7.same s8
  have hP8:=hX8.setup
  k_mem
  obtain ⟨ats8,hol8,hTl8⟩:=id hP8.ol
  k_upd
  refine ⟨_,SqL.of hP8.ob,_,rfl,?_⟩
  k_mem
  refine ⟨⟨_,SqL.of hol8⟩,?_⟩
  have l30:=hU.l30
  refine AL (fun x=>.int x.2.1) (ls:=lds) ⟨ats8,SqL.of hol8,hTl8⟩ (by rw [sizeLine_eq];omega) rfl (fun a1 x1 ht N hN=>?_) fun ly hly=>?_
  ·k_mem
   k_upd
   exact ⟨_,ht,_,rfl,hN⟩
  (generalize hE:upd H8 ly _=H9 at *;have s9:=pA hE hly;have e9:=i8 hE;clear hE)
  have epe9:=s9 _ _ epe
  k_upd
  refine ⟨_,_,.lst (((lds.map fun x=>x.2.1).map V.int).map Dt.flat),rfl,lJ (SqL.of epe9) (by rw [List.length_map];omega),lJ (SqL.of (by rw [e9,List.map_map];rfl)) (by rw [List.length_map];omega),fun Hb sb=>?_⟩
  have hXb:=hX8.same (s9.trans sb)
  have epeb:=sb _ _ epe9
  obtain ⟨bs,hwl,hB⟩:=hXb.da.ro
  obtain ⟨as,hsl,hA⟩:=hXb.da.st
  have hbl:=hB.1
  k_mem
  refine ⟨_,.inl (SqL.of hwl),?_⟩
  rw [List.length_map,hbl]
  k_mem
  refine ⟨by omega,by omega,?_⟩
  rw [Int.toNat_natCast]
  have hcfg:=hXb.cg
  k_upd
  refine bF (Jb Hb K (cE ds ls lds) rs (.ref a) (.ref p) (.int (ds.length:Nat)) (.int lds.length) (.ref wk) (.ref sl) (.ref wl)) ⟨av.refl _,pe,_,_,_,_,_,_,_,rfl,epeb⟩ ?_ ?_
  ·rintro j σ Hc hj ⟨sc,pe2,t2,u2,b2,c2,d2,e2,f2,rfl,epe2⟩
   obtain ⟨r,er⟩:∃r,rs[j]?=some r:=⟨_,List.getElem?_eq_getElem hj⟩
   obtain ⟨ra,era⟩:∃ra,bs[j]?=some ra:=⟨_,List.getElem?_eq_getElem (by omega)⟩
   obtain ⟨dd,hd1,hd2⟩:=hB.2 j ra r era er
   obtain ⟨d,ok,hrf,hro⟩:=hrun.deedAt er
   have edd:r.deed=ddV d:=by rw [hro];rfl
   have ebg:r.began=bC (rs.take j):=by rw [hro];rfl
   have etk:rs.take (j+1)=rs.take j++[r]:=by rw [List.take_succ,er];rfl
   have een:r.ended=bC (rs.take (j+1)):=by rw [etk,dw]
   have esn:gu (cE ds ls lds) rs (j+1)=r.sn:=BM _ _ er
   have esn2:r.sn=aV (fh ds ls slow fast lds fun q=>(N q\/q=sl)\/q=wl) (gu (cE ds ls lds) rs j) d:=by rw [hro];rfl
   have hr3:=hmem.2 r (List.mem_of_getElem? er)
   have hnj:=hrun.snapAt hg hX7.c0 j
   have hnj1:=hrun.snapAt hg hX7.c0 (j+1)
   have htk:=v7 hg hnj hrf
   have ed500:r.ended - r.began<=500:=by
    have:r.ended=r.began+cL (fh ds ls slow fast lds fun q=>(N q\/q=sl)\/q=wl) (gu (cE ds ls lds) rs j) d:=by rw [hro];rfl
    omega
   have hsp:∀y,r.began<=y->y<=r.ended->(y < r.ended->cQ (cE ds ls lds) rs y=(gu (cE ds ls lds) rs j).ws)/\(¬y < r.ended->cQ (cE ds ls lds) rs y=(gu (cE ds ls lds) rs (j+1)).ws):=fun y h1 h2=>⟨fun h=>(hrun.mid hg hX7.c0 er h1 h).2,fun h=>by rw [show y=bC (rs.take (j+1)) by omega];exact Kl hg hX7.c0 hrun (j+1) hj⟩
   rw [edd] at hd2
   rw [Int.zero_add]
   k_mem
   refine ⟨_,SqL.of (sc _ _ hwl),_,fq (k:=j) (by rw [List.getElem?_map,era];rfl),?_⟩
   k_mem
   refine ⟨_,sc.tup hd1,rfl,?_⟩
   k_mem
   refine ⟨by decide,fun q1 hq1=>?_⟩
   (generalize hE:upd Hc q1 _=Hd at *;have sd:=pA hE hq1;have ed:=i8 hE;clear hE)
   k_upd
   refine ⟨_,_,rfl,fun q2 hq2=>?_⟩
   (generalize hE:upd Hd q2 _=He at *;have se:=pA hE hq2;have ee:=i8 hE;clear hE)
   k_upd
   refine ⟨q2,r.began,(r.ended+1 - r.began).toNat,rfl,by rw [ee];congr 2;omega,by omega,by omega,by have:=hmem.1;omega,fun q3 hq3=>?_⟩
   (generalize hE:upd He q3 _=Hf at *;have sf:=pA hE hq3;have ef:=i8 hE;clear hE)
   k_mem
   refine ⟨by decide,fun q4 hq4=>?_⟩
   (generalize hE:upd Hf q4 _=Hg at *;have sg:=pA hE hq4;have eg:=i8 hE;clear hE)
   have scg:=((sd.trans se).trans sf).trans sg
   have sbg:=sc.trans scg
   obtain ⟨rsx,rx,ersx⟩:∃rs' r',rs=rs'++[r']:=by
    rcases ck rs with z | z
    ·rw [z] at hj;exact absurd hj (Nat.not_lt_zero _)
    ·exact z
   obtain ⟨bsx,bx,ebx,_,hbx⟩:∃as' a,bs=as'++[a]/\c8 K Hb as' rsx/\sU K Hb a rx:=(ersx▸hB:c8 K Hb bs (rsx++[rx])).last
   obtain ⟨ddx,hx1,hx2⟩:=hbx
   k_upd
   refine ⟨_,SqL.of (sbg _ _ hwl),_,(by rw [ebx];exact mP),?_⟩
   k_mem
   refine ⟨_,sbg.tup hx1,_,fq (k:=1) rfl,?_⟩
   k_mem
   have hts:∃(ts:List Int) (pt:Addr),Hg pt=some (.lst (ts.map V.int))/\atI [V.ref q1,V.ref q3] (if decide (rx.ended<=300)=true then 1 else 0)=some (.ref pt)/\(∀y∈ts,r.began<=y/\y<=r.ended)/\∃k,ts.length=k+1/\ts[k]?=some r.ended:=by
    by_cases h3:rx.ended<=300
    ·k_upd
     refine ⟨(List.range (r.ended+1 - r.began).toNat).map (fun (i:Nat)=>r.began+(i:Int)),q3,sg _ _ ef,by rw [if_pos (decide_eq_true h3)];rfl,fun y hy=>?_,(r.ended - r.began).toNat,by rw [List.length_map,List.length_range];omega,?_⟩
     ·obtain ⟨i,hi,rfl⟩:=List.mem_map.mp hy
      rw [List.mem_range] at hi
      omega
     ·rw [List.getElem?_map,List.getElem?_range (by omega)]
      show some (r.began+_)=_
      congr 1;omega
    ·k_upd
     refine ⟨[r.began,r.ended],q1,((se.trans sf).trans sg) _ _ ed,by rw [if_neg (fun z=>h3 (of_decide_eq_true z))];rfl,fun y hy=>?_,1,rfl,rfl⟩
     simp only [List.mem_cons,List.not_mem_nil,or_false] at hy
     omega
   obtain ⟨ts,pt,ept,eat,hyb,kl,hkl,ekl⟩:=hts
   k_upd
   refine ⟨_,SqL.of eg,_,eat,?_⟩
   k_mem
   refine ⟨⟨_,SqL.of ept⟩,?_⟩
   have epg:=scg _ _ epe2
   have hkj:(gu (cE ds ls lds) rs j).ws.length<=30:=by rw [hnj.wl];exact hg.k30
   k_upd
   refine ff (ts.map V.int) (Ew Hg K (cE ds ls lds) rs ts (.ref a) (.ref p) (.int (ds.length:Nat)) (.int lds.length) (.ref wk) (.ref sl) (.ref wl) (.ref dd) (.ref pe2) (.int j) (.int r.began) (.int r.ended) t2) ⟨av.refl _,_,_,rfl,fun k y e=>by omega⟩ (fun i σ H' _ h=>SqL.of (h.1 _ _ ept)) ?_ ?_
   ·rintro i x σ Hh hx ⟨sh,e3,f3,rfl,hlast⟩
    rw [List.getElem?_map] at hx
    obtain ⟨y,ey,rfl⟩:=Option.map_eq_some_iff.mp hx
    obtain ⟨y0,y1⟩:=hyb y (List.mem_of_getElem? ey)
    have hXh:=hXb.same (sbg.trans sh)
    obtain ⟨dxh,dlh,glh,hobh,_⟩:=id hXh.da.wk.ob
    k_mem
    refine mgo hobh rfl ⟨_,_,_,_,_,_,_,rfl,hXh.da.wk,fun _ pn Hi hpn si epn=>?_,fun z=>absurd ⟨by omega,by omega⟩ z⟩
    have hsn:∃m,bR (fh ds ls slow fast lds fun q=>(N q\/q=sl)\/q=wl) m/\cQ (cE ds ls lds) rs y=m.ws:=by
     obtain ⟨h1,h2⟩:=hsp y y0 y1
     by_cases h:y < r.ended
     ·k_upd
      exact ⟨_,hnj,h1 h⟩
     ·k_upd
      exact ⟨_,hnj1,h2 h⟩
    obtain ⟨m,hm,em⟩:=hsn
    have hml:(lds.length:Int)=(m.ws.length:Int):=by rw [hm.wl];show _=(((lds.map fun x=>x.1).length:Nat):Int);rw [List.length_map]
    k_mem
    refine ⟨pn,m.ws,(ds.length:Nat),by rw [hml],by rw [epn,em],fun z hz=>hm.wr z hz,Eu hm (by decide),Eu hm (by decide),by omega,fun Hj sj=>?_⟩
    k_mem
    have fin:Ew Hg K (cE ds ls lds) rs ts (.ref a) (.ref p) (.int (ds.length:Nat)) (.int lds.length) (.ref wk) (.ref sl) (.ref wl) (.ref dd) (.ref pe2) (.int j) (.int r.began) (.int r.ended) t2 (i+1) [some (V.ref a),some (V.ref p),some (V.int (ds.length:Nat)),some (V.int lds.length),some (V.ref wk),some (V.ref sl),some (V.ref wl),t2,some (V.ref dd),some (V.ref pe2),some (V.int j),some (V.int r.began),some (V.int r.ended),some (V.int y),some (V.ref pn)] Hj:=⟨(sh.trans si).trans sj,_,_,rfl,fun k z e ez=>by
     have:k=i:=by omega
     subst this
     rw [ey] at ez;cases ez
     k_upd
     exact ⟨pn,rfl,sj _ _ epn⟩⟩
    k_upd
    split
    ·rename_i h
     have e1:=(hsp y y0 y1).1 h
     k_upd
     refine ⟨_,SqL.of (sj _ _ epn),_,SqL.of (((sh.trans si).trans sj) _ _ epg),by rw [List.all_map];exact List.all_eq_true.mpr fun _ _=>rfl,by rw [List.all_map];exact List.all_eq_true.mpr fun _ _=>rfl,?_⟩
     rw [uN,e1,decide_eq_true rfl]
     exact fin
    ·exact fin
   ·rintro σ Hh ⟨sh,e3,f3,rfl,hlast⟩
    rw [List.length_map] at hlast
    obtain ⟨pn,rfl,epn⟩:=hlast kl r.ended hkl ekl
    rw [(hsp r.ended (by omega) (Int.le_refl _)).2 (Int.lt_irrefl _)] at epn
    have hXh:=hXb.same (sbg.trans sh)
    have hPh:=hXh.setup
    obtain ⟨ash,hslh,hAh⟩:=hXh.da.st
    obtain ⟨sta,esta⟩:∃sta,ash[j]?=some sta:=by
     refine ⟨_,List.getElem?_eq_getElem ?_⟩
     rw [hAh.1,ig,List.length_cons,List.length_map];omega
    have hSt:=hAh.2 j sta _ esta (BL _ _ (Nat.le_of_lt hj))
    obtain ⟨gt,lt,ht,dt,u1,u2,u3,u4,u5⟩:=hSt
    k_mem
    refine ⟨_,SqL.of hPh.ob,_,rfl,_,SqL.of hslh,_,fq (k:=j) (by rw [List.getElem?_map,esta];rfl),?_⟩
    k_mem
    refine ⟨_,u1,_,rfl,?_⟩
    k_upd
    refine ⟨dl,pe2,pn,dd,_,_,d,rfl,hPh.od,sh _ _ epg,?_,(sbg.trans sh).tup hd2,hXh.cg,hnj,hrf,ok,fun Hi si=>?_⟩
    ·rw [epn,esn,esn2]
    k_mem
    exact ⟨(scg.trans sh).trans si |> sc.trans,pn,_,_,_,_,_,_,_,rfl,si _ _ epn⟩
  ·rintro σ Hc ⟨sc,pe2,t2,u2,b2,c2,d2,e2,f2,rfl,epe2⟩
   have hXc:=hXb.same sc
   obtain ⟨dxc,dlc,glc,hobc,_⟩:=id hXc.da.wk.ob
   have elast:(gu (cE ds ls lds) rs rs.length).ws=(ai (cE ds ls lds) rs).ws:=by unfold gu;rw [List.take_length]
   rw [elast] at epe2
   have hwl2:=hXc.snap.wl
   k_mem
   refine mgo hobc rfl ⟨_,_,_,_,_,_,rfl,hXc.da.wk,fun ps hps=>?_⟩
   (generalize hE:upd Hc ps _=Hd at *;have sd:=pA hE hps;have ed:=i8 hE;clear hE)
   have k30:=hXc.cg.k30
   k_upd
   refine ⟨_,_,.lst (((ai (cE ds ls lds) rs).ws.map V.int).map Dt.flat),rfl,lJ (SqL.of ed) (by omega),lJ (SqL.of (sd _ _ epe2)) (by omega),fun He se=>?_⟩
   have hXe:=hXc.same (sd.trans se)
   k_mem
   refine ⟨wk,bk,rl,_,_,rs,by rw [Am hXe];rfl,hXe.da.wk,hXe.cg,hXe.snap,fun Hf sf=>?_⟩
   k_upd
   exact q Hf
include T mQ mR dB kT fL gm df mS dh qp mJ qs in
theorem Jd:FF P w K mg base CX0 9 "law" "law" uu Eh (uU K Z):=(Jc T mQ mR dB kT fL gm df mS dh qp mJ qs).calm fun vs H Q E h=>h
end
theorem Je {l:W.OpenLaw}{w:World}{K:W.Frag}{h:Heap}{mg:Str->Option Value}{fa:Addr}(X:K.In h)(G:h.Ns mainGlobals mg)(hfa:mg "law"=some (.ref fa)){C0 C1 C2 C3 C4 C5 C6 C7 C8 C9 C10 C11 C12 C13 C14 C15 C16 C17 C18 C19 C20 C21 C22 C23 C24:Addr}{ta_KINDS:Addr}{tk_KINDS_0 tk_KINDS_1:Tok}{tn_KINDS:Nat}{ts_KINDS:Array (Option Value)}{ta_CAGE_SPOTS:Addr}{tk_CAGE_SPOTS_0 tk_CAGE_SPOTS_1:Tok}{to_CAGE_SPOTS:Option Addr}{tn_CAGE_SPOTS:Nat}{ts_CAGE_SPOTS:Array (Option Value)}(fx:G9 K C0 C1 C2 C3 C4 C5 C6 C7 C8 C9 C10 C11 C12 C13 C14 C15 C16 C17 C18 C19 C20 C21 C22 C23 C24 ta_KINDS tk_KINDS_0 tk_KINDS_1 tn_KINDS ts_KINDS ta_CAGE_SPOTS tk_CAGE_SPOTS_0 tk_CAGE_SPOTS_1 to_CAGE_SPOTS tn_CAGE_SPOTS ts_CAGE_SPOTS)
 : ∃Z:Adr,∃fd:FuncData,(∀(s:Shared) (v:Value),BindsTo s fd ⟨[v],[]⟩ [("_law_script",v)])/\∀base:Heap,K.In base->base.Ns mainGlobals mg->gP l.prog w K mg base CX0 9 fa fd ["_law_script"] (uU K Z):=by
 obtain ⟨z_len,z_list,z_enumerate,z_zip,z_range,z_abs,z_isinstance,z_int,z_bool,z_tuple,z_str,z_min,z_sorted,m0,m1,m2,m3,m4,m5,m6,m7,m8,m9,m10,m11,m12,m13,m14,m15,m16,m17,m18,m19,m20,m21,m22,m23,m24,n_MOST_LOADS,n_FEWEST_STROKES,n_MOST_STROKES,n_FEWEST_LEVELS,n_MOST_LEVELS,n_GREATEST_DEPTH,n_GREATEST_SPEED,n_MOST_DEEDS,n_KINDS,lt_KINDS,n_CAGE_SPOTS,lt_CAGE_SPOTS,cl20,na20_kinds,na20_where,na20_many,cl21,na21_codes,na21_failed,na21_state,cl22,na22_place,na22_opened,na22_bells,na22_yard,cl23,na23_first,na23_most,na23_rows,cl24,na24_depths,na24_slow,na24_fast,na24_goals,na24_log,l0,x0,x1,x2,x3,x4,x5,x6,x7,x8,x9,x10,x11,x12,x13,x14,x15,x16,x17,x18,d0,d1,d2,d3,d4,d5,d6,d7,d8,d9,d10,d11,d12,d13,d14,d15,d16,d17,d18,d19,d20,d21,d22,d23,d24,d25,d26,d27,d28,d29,d30,d31,d32,d33,d34,d35,d36,d37,d38,d39,d40,d41,d42,d43,d44,d45,d46,d47,d48,d49,d50,d51,d52,d53,d54,d55,d56,d57,d58,d59,d60,d61,d62,d63,d64,d65,d66,d67,d68,d69,d70,d71,d72,d73,d74,d75,d76,d77,d78,d79,d80,d81,d82,d83,d84,d85⟩:=fx
 obtain ⟨f0,_,b0,F0⟩:=d0
 obtain ⟨f1,_,b1,F1⟩:=d1
 obtain ⟨f2,_,b2,F2⟩:=d2
 obtain ⟨f3,_,b3,F3⟩:=d3
 obtain ⟨f4,_,b4,F4⟩:=d4
 obtain ⟨f5,_,b5,F5⟩:=d5
 obtain ⟨f6,_,b6,F6⟩:=d6
 obtain ⟨f7,_,b7,F7⟩:=d7
 obtain ⟨f8,_,b8,F8⟩:=d8
 obtain ⟨f9,_,b9,F9⟩:=d9
 obtain ⟨f10,_,b10,F10⟩:=d10
 obtain ⟨f11,_,b11,F11⟩:=d11
 obtain ⟨f12,_,b12,F12⟩:=d12
 obtain ⟨f13,_,b13,F13⟩:=d13
 obtain ⟨f14,_,b14,F14⟩:=d14
 obtain ⟨f15,_,b15,F15⟩:=d15
 obtain ⟨f16,_,b16,F16⟩:=d16
 obtain ⟨f17,_,b17,F17⟩:=d17
 obtain ⟨f18,_,b18,F18⟩:=d18
 obtain ⟨f19,_,b19,F19⟩:=d19
 obtain ⟨f20,_,b20,F20⟩:=d20
 obtain ⟨f21,_,b21,F21⟩:=d21
 obtain ⟨f22,_,b22,F22⟩:=d22
 obtain ⟨f23,_,b23,F23⟩:=d23
 obtain ⟨f24,_,b24,F24⟩:=d24
 obtain ⟨f25,_,b25,F25⟩:=d25
 obtain ⟨f26,_,b26,F26⟩:=d26
 obtain ⟨f27,_,b27,F27⟩:=d27
 obtain ⟨f28,_,b28,F28⟩:=d28
 obtain ⟨f29,_,b29,F29⟩:=d29
 obtain ⟨f30,_,b30,F30⟩:=d30
 obtain ⟨f31,_,b31,F31⟩:=d31
 obtain ⟨f32,_,b32,F32⟩:=d32
 obtain ⟨f33,_,b33,F33⟩:=d33
 obtain ⟨f34,_,b34,F34⟩:=d34
 obtain ⟨f35,_,b35,F35⟩:=d35
 obtain ⟨f36,_,b36,F36⟩:=d36
 obtain ⟨f37,_,b37,F37⟩:=d37
 obtain ⟨f38,_,b38,F38⟩:=d38
 obtain ⟨f39,_,b39,F39⟩:=d39
 obtain ⟨f40,_,b40,F40⟩:=d40
 obtain ⟨f41,_,b41,F41⟩:=d41
 obtain ⟨f42,_,b42,F42⟩:=d42
 obtain ⟨f43,_,b43,F43⟩:=d43
 obtain ⟨f44,_,b44,F44⟩:=d44
 obtain ⟨f45,_,b45,F45⟩:=d45
 obtain ⟨f46,_,b46,F46⟩:=d46
 obtain ⟨f47,_,b47,F47⟩:=d47
 obtain ⟨f48,_,b48,F48⟩:=d48
 obtain ⟨f49,_,b49,F49⟩:=d49
 obtain ⟨f50,_,b50,F50⟩:=d50
 obtain ⟨f51,_,b51,F51⟩:=d51
 obtain ⟨f52,_,b52,F52⟩:=d52
 obtain ⟨f53,_,b53,F53⟩:=d53
 obtain ⟨f54,_,b54,F54⟩:=d54
 obtain ⟨f55,_,b55,F55⟩:=d55
 obtain ⟨f56,_,b56,F56⟩:=d56
 obtain ⟨f57,_,b57,F57⟩:=d57
 obtain ⟨f58,_,b58,F58⟩:=d58
 obtain ⟨f59,_,b59,F59⟩:=d59
 obtain ⟨f60,_,b60,F60⟩:=d60
 obtain ⟨f61,_,b61,F61⟩:=d61
 obtain ⟨f62,_,b62,F62⟩:=d62
 obtain ⟨f63,_,b63,F63⟩:=d63
 obtain ⟨f64,_,b64,F64⟩:=d64
 obtain ⟨f65,_,b65,F65⟩:=d65
 obtain ⟨f66,_,b66,F66⟩:=d66
 obtain ⟨f67,_,b67,F67⟩:=d67
 obtain ⟨f68,_,b68,F68⟩:=d68
 obtain ⟨f69,_,b69,F69⟩:=d69
 obtain ⟨f70,_,b70,F70⟩:=d70
 obtain ⟨f71,_,b71,F71⟩:=d71
 obtain ⟨f72,_,b72,F72⟩:=d72
 obtain ⟨f73,_,b73,F73⟩:=d73
 obtain ⟨f74,_,b74,F74⟩:=d74
 obtain ⟨f75,_,b75,F75⟩:=d75
 obtain ⟨f76,_,b76,F76⟩:=d76
 obtain ⟨f77,_,b77,F77⟩:=d77
 obtain ⟨f78,_,b78,F78⟩:=d78
 obtain ⟨f79,_,b79,F79⟩:=d79
 obtain ⟨f80,_,b80,F80⟩:=d80
 obtain ⟨f81,_,b81,F81⟩:=d81
 obtain ⟨f82,_,b82,F82⟩:=d82
 obtain ⟨f83,_,b83,F83⟩:=d83
 obtain ⟨f84,_,b84,F84⟩:=d84
 obtain ⟨f85,_,b85,F85⟩:=d85
 have e:=hfa.symm.trans (W.mg_of X G b85)
 cases e
 obtain ⟨oc,od,kV,dc,pm,an,cd,ct,sl,rfl,ll,cc⟩:=F85.ex
 let Z:Adr:=⟨C0,C1,C2,C3,C4,C5,C6,C7,C8,C9,C10,C11,C12,C13,C14,C15,C16,C17,C18,C19,C20,C21,C22,C23,C24,ta_KINDS,ta_CAGE_SPOTS⟩
 refine ⟨Z,W.fnOf "law" "law" (di uu) (bN uu) (aj uu) .none kV dc pm an cd ct,fun s v=>.of_eq rfl,fun base _ _=>?_⟩
 have T:Txt l.prog w K mg base Z:=⟨W.mg_none_of X G z_len,W.mg_none_of X G z_list,W.mg_none_of X G z_enumerate,W.mg_none_of X G z_zip,W.mg_none_of X G z_range,W.mg_none_of X G z_abs,W.mg_none_of X G z_isinstance,W.mg_none_of X G z_int,W.mg_none_of X G z_bool,W.mg_none_of X G z_tuple,W.mg_none_of X G z_str,W.mg_none_of X G z_min,W.mg_none_of X G z_sorted,KI.txt X G n_MOST_LOADS,KI.txt X G n_FEWEST_STROKES,KI.txt X G n_MOST_STROKES,KI.txt X G n_FEWEST_LEVELS,KI.txt X G n_MOST_LEVELS,KI.txt X G n_GREATEST_DEPTH,KI.txt X G n_GREATEST_SPEED,KI.txt X G n_MOST_DEEDS,⟨_,W.mg_of X G n_KINDS,rfl⟩,fun H=>.inr ⟨_,_,_,lt_KINDS,rfl,rfl,(by show 2<=sizeLine;decide),.cons ⟨_,rfl⟩ (.cons ⟨_,rfl⟩ .nil)⟩,⟨_,lt_KINDS,rfl,rfl⟩,⟨_,W.mg_of X G n_CAGE_SPOTS,rfl⟩,fun H=>.inr ⟨_,_,_,lt_CAGE_SPOTS,rfl,rfl,(by show 2<=sizeLine;decide),.cons ⟨_,rfl⟩ (.cons ⟨_,rfl⟩ .nil)⟩,W.mg_of X G m0,W.mg_of X G m1,W.mg_of X G m2,W.mg_of X G m3,W.mg_of X G m4,W.mg_of X G m5,W.mg_of X G m6,W.mg_of X G m7,W.mg_of X G m8,W.mg_of X G m9,W.mg_of X G m10,W.mg_of X G m11,W.mg_of X G m12,W.mg_of X G m13,W.mg_of X G m14,W.mg_of X G m15,W.mg_of X G m16,W.mg_of X G m17,W.mg_of X G m18,W.mg_of X G m19,W.mg_of X G m20,W.mg_of X G m21,W.mg_of X G m22,W.mg_of X G m23,W.mg_of X G m24,cl20,na20_kinds,na20_where,na20_many,cl21,na21_codes,na21_failed,na21_state,cl22,na22_place,na22_opened,na22_bells,na22_yard,cl23,na23_first,na23_most,na23_rows,cl24,na24_depths,na24_slow,na24_fast,na24_goals,na24_log,(x0 l0).ex,x0 l0,(x1 l0).ex,x1 l0,(x2 l0).ex,x2 l0,(x3 l0).ex,x3 l0,(x4 l0).ex,x4 l0,(x5 l0).ex,x5 l0,(x6 l0).ex,x6 l0,(x7 l0).ex,x7 l0,(x8 l0).ex,x8 l0,(x9 l0).ex,x9 l0,(x10 l0).ex,x10 l0,(x11 l0).ex,x11 l0,(x12 l0).ex,x12 l0,(x13 l0).ex,x13 l0,(x14 l0).ex,x14 l0,(x15 l0).ex,x15 l0,(x16 l0).ex,x16 l0,(x17 l0).ex,x17 l0,(x18 l0).ex,x18 l0⟩
 have D0:=KD.mk (W.mg_of X G b0) F0 F0.b2 (yI T)
 have D4:=KN.mk b4 F4 F4.b3 (xA T)
 have D7:=KM.mk cl20 b7 F7 F7.b1 (vw T)
 have D8:=KM.mk cl20 b8 F8 F8.b2 (sH T)
 have D10:=KM.mk cl20 b10 F10 F10.b1 (oA T)
 have D12:=KD.mk (W.mg_of X G b12) F12 F12.b1 (uD T)
 have D14:=KN.mk b14 F14 F14.b2 (vx T)
 have D20:=KD.mk (W.mg_of X G b20) F20 F20.b1 (sI T)
 have D21:=KD.mk (W.mg_of X G b21) F21 F21.b1 (vy T)
 have D23:=KD.mk (W.mg_of X G b23) F23 F23.b2 (yJ T)
 have D26:=KD.mk (W.mg_of X G b26) F26 F26.b2 (sJ T)
 have D27:=KD.mk (W.mg_of X G b27) F27 F27.b2 (vz T)
 have D28:=KN.mk b28 F28 F28.b5 (rh T)
 have D30:=KN.mk b30 F30 F30.b3 (xB T)
 have D32:=KM.mk cl23 b32 F32 F32.b1 (uF T)
 have D33:=KM.mk cl23 b33 F33 F33.b1 (yK T)
 have D34:=KM.mk cl23 b34 F34 F34.b1 (uG T)
 have D59:=KD.mk (W.mg_of X G b59) F59 F59.b1 (Ab T)
 have D60:=KD.mk (W.mg_of X G b60) F60 F60.b2 (Gh T)
 have D61:=KD.mk (W.mg_of X G b61) F61 F61.b3 (BR T)
 have D62:=KD.mk (W.mg_of X G b62) F62 F62.b2 (Ac T)
 have D70:=KD.mk (W.mg_of X G b70) F70 F70.b3 (Gj T)
 have D71:=KD.mk (W.mg_of X G b71) F71 F71.b3 (BS T)
 have D72:=KD.mk (W.mg_of X G b72) F72 F72.b2 (Ad T)
 have D73:=KD.mk (W.mg_of X G b73) F73 F73.b2 (Ae T)
 have D74:=KD.mk (W.mg_of X G b74) F74 F74.b1 (Af T)
 have D75:=KD.mk (W.mg_of X G b75) F75 F75.b2 (Ag T)
 have D1:=KD.mk (W.mg_of X G b1) F1 F1.b2 (uH T D0)
 have D2:=KD.mk (W.mg_of X G b2) F2 F2.b2 (vA T D0)
 have D3:=KD.mk (W.mg_of X G b3) F3 F3.b2 (uI T D0)
 have D13:=KD.mk (W.mg_of X G b13) F13 F13.b2 (uJ T D12)
 have D16:=KM.mk cl21 b16 F16 F16.b2 (sL T D12)
 have D22:=KD.mk (W.mg_of X G b22) F22 F22.b2 (uK T D21)
 have D31:=KM.mk cl23 b31 F31 F31.b5 (vB T D33)
 have D36:=KM.mk cl23 b36 F36 F36.b2 (mW T D33)
 have D47:=KM.mk cl24 b47 F47 F47.b1 (oI T D32)
 have D49:=KM.mk cl24 b49 F49 F49.b2 (mX T D10)
 have D51:=KM.mk cl24 b51 F51 F51.b2 (iY T D34)
 have D52:=KM.mk cl24 b52 F52 F52.b1 (xE T D33)
 have D55:=KM.mk cl24 b55 F55 F55.b1 (uL T D7 D34)
 have D57:=KM.mk cl24 b57 F57 F57.b2 (rn T D8 D34)
 have D64:=KD.mk (W.mg_of X G b64) F64 F64.b1 (yM T D61)
 have D65:=KD.mk (W.mg_of X G b65) F65 F65.b2 (Ah T D61)
 have D66:=KD.mk (W.mg_of X G b66) F66 F66.b3 (Ai T D61)
 have D76:=KD.mk (W.mg_of X G b76) F76 F76.b3 (BX T D70 D71 D72 D73 D75)
 have D78:=KD.mk (W.mg_of X G b78) F78 F78.b3 (qa T D70)
 have D79:=KD.mk (W.mg_of X G b79) F79 F79.b3 (qc T D70)
 have D83:=KD.mk (W.mg_of X G b83) F83 F83.b5 (yO T D70)
 have D84:=KD.mk (W.mg_of X G b84) F84 F84.b3 (sM T D59)
 have D5:=KM.mk cl20 b5 F5 F5.b3 (xF T D8 D2)
 have D6:=KM.mk cl20 b6 F6 F6.b3 (yP T D8 D1)
 have D9:=KM.mk cl20 b9 F9 F9.b2 (rq T D1)
 have D11:=KM.mk cl20 b11 F11 F11.b1 (xG T D4)
 have D15:=KM.mk cl21 b15 F15 F15.b3 (vC T D1)
 have D17:=KM.mk cl21 b17 F17 F17.b2 (vD T D1)
 have D18:=KM.mk cl21 b18 F18 F18.b3 (xH T D1)
 have D19:=KM.mk cl21 b19 F19 F19.b1 (vE T D14)
 have D24:=KD.mk (W.mg_of X G b24) F24 F24.b3 (uP T D22)
 have D25:=KD.mk (W.mg_of X G b25) F25 F25.b2 (yQ T D22)
 have D35:=KM.mk cl23 b35 F35 F35.b2 (rz T D7 D36)
 have D37:=KN.mk b37 F37 F37.b6 (vF T D4 D14 D20 D26 D28 D30 D3 D13)
 have D48:=KM.mk cl24 b48 F48 F48.b4 (uR T D31 D49 D52)
 have D54:=KM.mk cl24 b54 F54 F54.b2 (mF T D22)
 have D67:=KD.mk (W.mg_of X G b67) F67 F67.b1 (Ak T D60 D61 D64 D65)
 have D80:=KD.mk (W.mg_of X G b80) F80 F80.b3 (uS T D78 D79)
 have D29:=KM.mk cl22 b29 F29 F29.b1 (rA T D28 D11 D19)
 have D53:=KM.mk cl24 b53 F53 F53.b1 (uT T D34 D54)
 have D56:=KM.mk cl24 b56 F56 F56.b2 (qi T D35)
 have D58:=KM.mk cl24 b58 F58 F58.b2 (qj T D34 D9)
 have D68:=KD.mk (W.mg_of X G b68) F68 F68.b2 (Al T D60 D66 D67)
 have D38:=KM.mk cl24 b38 F38 F38.b3 (vG T D34 D15 D48 D29)
 have D39:=KM.mk cl24 b39 F39 F39.b2 (sN T D34 D16 D48 D29)
 have D40:=KM.mk cl24 b40 F40 F40.b2 (vH T D34 D17 D48 D29)
 have D43:=KM.mk cl24 b43 F43 F43.b4 (oO T D34 D1 D48 D29)
 have D46:=KM.mk cl24 b46 F46 F46.b4 (vI T D27 D34 D1 D49 D18 D24 D25 D48 D29)
 have D50:=KM.mk cl24 b50 F50 F50.b2 (qo T D23 D53)
 have D63:=KD.mk (W.mg_of X G b63) F63 F63.b2 (B4 T (W.mg_of X G b63) F63 F63.b2)
 have D69:=KD.mk (W.mg_of X G b69) F69 F69.b1 (B5 T D37)
 have D41:=KM.mk cl24 b41 F41 F41.b2 (oP T D43)
 have D42:=KM.mk cl24 b42 F42 F42.b2 (oQ T D43)
 have D44:=KM.mk cl24 b44 F44 F44.b3 (vJ T D7 D34 D2 D51 D5 D48 D29 D50)
 have D45:=KM.mk cl24 b45 F45 F45.b2 (sO T D8 D34 D51 D6 D48 D29 D50)
 have D82:=KD.mk (W.mg_of X G b82) F82 F82.b3 (B6 T D55 D57 D58 D63)
 have D77:=KD.mk (W.mg_of X G b77) F77 F77.b2 (B7 T D47 D38 D39 D40 D46 D41 D42 D44 D45)
 have D81:=KD.mk (W.mg_of X G b81) F81 F81.b5 (B8 T D76 D63 D77)
 exact Jd T D62 D74 D55 D83 D84 D80 D56 D68 D63 D69 D82 D81 _ _ F85
theorem Ca {K:W.Frag}{Z:Adr}{H:Hp}{a:Addr}{ns:List Int}(hl:ns.length<=63)(hS:SqL K H a (ns.map V.int)){Q:VK}{E:XK}(q:∀H',Q (.bl true) H'):uU K Z [.ref a] H Q E:=⟨a,ns,rfl,hS,hl,q⟩
noncomputable def SPl (K:W.Frag):Sp:=fun vs H Q _=>∃(a:Addr) (ns:List Int),vs=[.ref a]/\SqL K H a (ns.map V.int)/\ns.length<=63/\∀H',Q (.bl true) H'
theorem KS {l:W.OpenLaw}{q:Program}{loose:List Str}{XP:(Str->Option Value)->Heap->Prop}{YP:World->Heap->Prop}{d:DefRec}{K:Params->W.Frag}(hn:l.most=some 63)(hdf:d.params.defaults=[])
  (hY:∀(w:World) (h:Heap),YP w h->(K w.params).In h)
  (F:∀(w:World) (mg:Str->Option Value) (fa:Addr) (h:Heap),(K w.params).In h->h.Ns mainGlobals mg->mg d.name=some (.ref fa)->
   ∃Z:Adr,∃fd:FuncData,(∀(s:Shared) (u:Value),BindsTo s fd ⟨[u],[]⟩ [("_law_script",u)])/\∀base:Heap,(K w.params).In base->base.Ns mainGlobals mg->gP l.prog w (K w.params) mg base CX0 9 fa fd ["_law_script"] (uU (K w.params) Z)) :
  W.WalkO q loose XP YP l.row.toRowW d [] (fun f vs=>PySem.call f vs):=
 L2.EW (n:=63) (k:=9) (x:="_law_script") (CX:=fun _=>CX0) (sp:=fun w=>SPl (K w.params)) hn (by decide) hdf ⟨rfl,by decide,by decide⟩ hY
  (fun w mg fa h a b c=>let ⟨Z,fd,b1,b2⟩:=F w mg fa h a b c;⟨fd,b1,fun base x y=>(b2 base x y).imp fun vs H Q E ⟨a,ns,e,hS,hl,q⟩=>by subst e;exact Ca hl hS q⟩) (fun _ _ a ns hl _ hS=>⟨a,ns,rfl,hS,hl,fun _=>rfl⟩) fun _ _ _ _ _ z=>z
end K38
local macro_rules | `(tactic| walk_at "m_is") => `(tactic| (delta L2.Xm; kts_exm))
local macro_rules | `(tactic| walk_at "h_is") => `(tactic| (delta L2.Kt; kit_is))
local macro_rules | `(tactic| walk_at "n_is") => `(tactic| (delta L2.NI; k_is))
local macro_rules | `(tactic| walk_at "a_is") => `(tactic| (delta L2.aS; k_is))
local macro_rules | `(tactic| walk_at "i_is") => `(tactic| (apply L2.KI.mk; k_is))
local macro_rules | `(tactic| walk_at "c_is") => `(tactic| (apply L2.Cls.mk; iterate 4 k_is))
local macro_rules | `(tactic| walk_at "o_is") => `(tactic| (apply L2.C0I.mk; k_is; exact rfl; k_is; exact rfl; exact rfl))
local macro_rules | `(tactic| walk_at "x_is") => `(tactic| (apply L2.XI.mk; k_is; k_is; exact rfl; exact rfl; k_is; k_is))
local macro_rules | `(tactic| walk_at "d_is") => `(tactic| (apply L2.DI.mk; iterate 4 k_is))
local macro_rules | `(tactic| walk_at "e_is") => `(tactic| (apply L2.MI.mk; iterate 5 k_is))
local macro_rules | `(tactic| walk_at "t_is") => `(tactic| (apply L2.II.mk; iterate 7 k_is))
open PySem PySem.W PyProof.Rows
set_option maxRecDepth 100000 in
set_option maxHeartbeats 0 in
theorem PySem.Challenge.cw_cagebells_k38_whole_one_place_each_holds : PySem.Challenge.rw_cagebells_k38_whole_one_place_each.Holds := by
 refine hd ?_
 k_fill
 refine K38.KS (l:=PySem.Challenge.rw_cagebells_k38_whole_one_place_each) rfl rfl (fun w h Y=>W.kIn_of Y) ?F
 case F=>
  intro w mg fa h KX G hmg
  apply K38.Je KX G hmg
  apply K38.G9.mk
  iterate 13 k_is
  iterate 25 walk_at "n_is"
  iterate 8 walk_at "i_is"
  iterate 4 k_is
  walk_at "c_is"
  iterate 3 walk_at "a_is"
  walk_at "c_is"
  iterate 3 walk_at "a_is"
  walk_at "c_is"
  iterate 4 walk_at "a_is"
  walk_at "c_is"
  iterate 3 walk_at "a_is"
  walk_at "c_is"
  iterate 5 walk_at "a_is"
  walk_at "o_is"
  iterate 19 walk_at "x_is"
  iterate 4 walk_at "d_is"
  walk_at "t_is"
  iterate 7 walk_at "e_is"
  iterate 2 walk_at "d_is"
  walk_at "t_is"
  iterate 5 walk_at "e_is"
  iterate 8 walk_at "d_is"
  walk_at "t_is"
  walk_at "e_is"
  walk_at "t_is"
  iterate 6 walk_at "e_is"
  walk_at "t_is"
  iterate 21 walk_at "e_is"
  iterate 27 walk_at "d_is"
