import PyProof.Rows.All
import OpenK.KLine
import KE.RegKIsAll
import KE.RegKTryMore
import Lean
import PyProof.EqAt
import PyProof.EqKinds
import PyProof.TupleCall
import KE.KTupSum
import KE.KItem
import PySem.Challenge.RW_cagebells_k32_whole_every_answer
set_option Elab.async false
set_option linter.all false
set_option maxRecDepth 100000
set_option compiler.extract_closed false
noncomputable abbrev WA:=PySem.W.Frag
theorem WB{α β}{l:List α}(f:α→β):(l.map f).length=l.length:=List.length_map f
namespace PySem.W.Fast
noncomputable abbrev T:=True
theorem t:T:=⟨⟩
def tw4203610584656468274:=t
def tw15438028789909842369:=t
def tw1917735166467751639:=t
def tw7803841389314116483:=t
def tw861502493610598483:=t
def tw11938172151560616342:=t
def tw8156932348028877967:=t
def tw14797863916429433284:=t
def tw13049043944605299518:=t
def tw13406377419850843074:=t
def tw7774113678449685934:=t
def tw4038046598495731775:=t
def tw9435304862710438004:=t
def tw18430476961869974472:=t
def tw13359257691425115219:=t
def tw10321690164698994850:=t
def tw8917917961894373751:=t
def tw13797646191491285992:=t
def tw9721000390032803332:=t
def tw18017129668781235815:=t
def tw17723881924890802966:=t
def tw9023412946914863120:=t
def tw3071672057996947647:=t
def tw6605169337270321112:=t
def tw15018716904364860632:=t
def tw17391296394322583936:=t
def tw14565471765716263578:=t
def tw12801011179776067266:=t
def tw12145756527313086355:=t
def tw13257414776242894994:=t
def tw15279809834360698895:=t
def tw3603697650439363286:=t
def tw2127061852082412059:=t
def tw3507769193172341495:=t
def tw11589282660436910429:=t
def tw8176730645128964420:=t
def tw9385439782273163706:=t
def tw16945406819829945896:=t
def tw13557862171009465336:=t
def tw17047726808428361225:=t
def tw8122695690928665766:=t
def tw5010956058597451964:=t
def tw12528533614272120300:=t
def tw6594970650091316094:=t
def tw13385558918117058561:=t
def tw9004299641416957276:=t
def tw3208522521903949160:=t
def tw10368827614151553891:=t
def tw561727478393794602:=t
def tw1149798457248472902:=t
def tw727924238349540522:=t
def tw9872438946963307937:=t
def tw12091442091272426231:=t
def tw18335596039185421423:=t
def tw13298828918039433023:=t
def tw578191462805490351:=t
def tw2466311954974566718:=t
def tw9162645422354645296:=t
def tw4091352561680426876:=t
def tw12461081396071149458:=t
def tw14334995849660946996:=t
def tw16506471722634982818:=t
def tw12528221419883600679:=t
def tw8044325682031459534:=t
def tw12858089460409395330:=t
def tw15805137534098808535:=t
def tw7900394595670775223:=t
def tw726351398001015727:=t
def tw4545961482378311905:=t
def tw5055593616971399804:=t
def tw11009225556382593827:=t
def tw2875624504187281209:=t
def tw8546256303203405941:=t
def tw16746677531222629524:=t
def tw5226586810942512283:=t
def tw15138174406397646402:=t
def tw14556482736207283325:=t
def tw11373181179767321252:=t
def tw14801369171006070438:=t
def tw4449799235075362730:=t
def tw5338801713223979382:=t
def tw10624116801336726872:=t
def tw12396662096508845406:=t
def tw261171577418715137:=t
def tw15418378422589880096:=t
def tw5459702643516471331:=t
def tw14811107726043686439:=t
def tw9931937742245647033:=t
def tw12524954882073270795:=t
def tw6128106870883400570:=t
def tw17694573340227235524:=t
def tw3997487885647526937:=t
def tw14715273107921467267:=t
def tw15267169705364848929:=t
def tw14958820412457663293:=t
def tw8191318114535113306:=t
def tw11272164335830466941:=t
def tw3328811466098603303:=t
def tw15060872555676474952:=t
def tw15685335758407661847:=t
def tw11263768400469242888:=t
def tw14940998509354871970:=t
def tw15227483606004533461:=t
def tw11859619671507778021:=t
def tw5874822333441161849:=t
def tw12138319994727072339:=t
def tw12041797014711123256:=t
def tw8278001386518606062:=t
def tw16998588944726240723:=t
def tw17346623794827051843:=t
def tw3945831679567021610:=t
def tw16822532161544500889:=t
def tw3099597729799864441:=t
def tw13669536469129627823:=t
def tw17871049288011112270:=t
def tw15401437161963490237:=t
def tw7374399212775623666:=t
def tw211337195705725219:=t
def tw7372170664606466022:=t
def tw14932756227218503593:=t
def tw10611411778653204182:=t
def tw17339309145561079191:=t
def tw17518593693041627797:=t
def tw8535803893964050539:=t
def tw17267597263503486738:=t
def tw11692469974320434101:=t
def tw10741264400317747893:=t
def tw10186303709888756887:=t
def tw17188069144378779261:=t
def tw9646623106273453227:=t
def tw8432719020341155521:=t
def tw12147665669636231765:=t
def tw7164969610272591079:=t
def tw14520296925931582552:=t
def tw15418674001244492974:=t
def tw8622715204490130888:=t
def tw1599053048872161195:=t
def tw13861969467909019144:=t
def tw12330612334027959195:=t
def tw2483321941437592071:=t
def tw3671519592330383864:=t
def tw16766484511958638138:=t
def tw7046044490832178742:=t
def tw16140922888777852060:=t
def tw2358075552688931204:=t
def tw1342123614928995077:=t
def tw14727194681476072466:=t
def tw4859391219904099992:=t
def tw4600438763894957952:=t
def tw14560624547652848805:=t
def tw599730875272715187:=t
def tw16902085369446701243:=t
def tw8297923619242306668:=t
def tw360634875079729221:=t
def tw17397653436517662659:=t
def tw7792700002687035005:=t
def tw12747814925858328940:=t
def tw7478123994339007903:=t
def tw12441744018607269044:=t
def tw5694767641087392711:=t
def tw16309811473084048462:=t
def tw11525993766095887173:=t
def tw9869809959619462935:=t
def tw4490611911172417597:=t
def tw3303267245142563540:=t
def tw8915285831880473931:=t
def tw16721508838639397229:=t
def tw8318101203651539667:=t
def tw1922157984580058403:=t
def tw5953359166732830163:=t
def tw9285211346045004284:=t
def tw9223045988441327695:=t
def tw16654469307462801742:=t
def tw17963105932079019327:=t
def tw6044648929357246223:=t
def tw17382457898008728272:=t
def tw6575520176995025181:=t
def tw10085292869130188298:=t
def tw11107512795663914464:=t
def tw4773484457636388862:=t
def tw9757595895972200118:=t
def tw13394580363473044415:=t
def tw6607644564249050058:=t
def tw3778530596728393105:=t
def tw2399617604181995578:=t
def tw1956775160557780875:=t
def tw5662061979359257339:=t
def tw4884199854448574:=t
def tw13459084325293418506:=t
def tw15142666989864626641:=t
def tw12315944733273679750:=t
def tw1062514266329012355:=t
def tw17678831435119133177:=t
def tw10297410513487048360:=t
def tw10295913840692754127:=t
def tw14811890972901180937:=t
def tw15590096980072825465:=t
def tw6984818610989830729:=t
def tw14859695947638507448:=t
def tw11033627544408312984:=t
def tw4189273013823423559:=t
def tw3953844824629472508:=t
def tw11512705759438076691:=t
def tw3344036261162260069:=t
def tw4408816720484365081:=t
def tw2087409540819079288:=t
def tw13069393092227542028:=t
def tw1158361714356455011:=t
def tw16864618592142003386:=t
def tw14294133066467233204:=t
def tw8212203176049278890:=t
def tw5285915839522022235:=t
def tw10395332584310045583:=t
def tw11449968299874610285:=t
def tw2708214617527550399:=t
def tw15932183184989994656:=t
def tw987426779421491659:=t
def tw4607425872040536859:=t
def tw2576523973992343609:=t
def tw6327569006664949090:=t
def tw6191700953566675008:=t
def tw14391293386007564604:=t
def tw16260866306193365299:=t
def tw5086489192560080304:=t
def tw15012102849882553082:=t
def tw14260533273033392520:=t
def tw10146569101766770184:=t
def tw14577027041581768965:=t
def tw17658959251048325594:=t
def tw15481805183316651443:=t
def tw8833860146974802555:=t
def tw3652199383789512132:=t
def tw15621116118777243554:=t
def tw6060609690816243450:=t
def tw2925816871977632210:=t
def tw4524658085876675188:=t
def tw4561898282857576226:=t
def tw14341141199694864594:=t
def tw5404398260228975080:=t
def tw4290864757253303354:=t
def tw7350462372000428638:=t
def tw12843764043397292189:=t
def tw10312438410070409164:=t
def tw9496581404884138560:=t
def tw9806118890596472461:=t
def tw7353485770183898095:=t
def tw6046103115902281144:=t
def tw12773500944031208451:=t
def tw3433779192033484610:=t
def tw86012387029904805:=t
def tw6408400580700104982:=t
def tw11434409910335936926:=t
def tw12298192366917762067:=t
def tw7403982271040965895:=t
def tw5462360663327728810:=t
def tw12750670339961964742:=t
def tw4946147512530127568:=t
def tw2597523674469684444:=t
def tw14689541978594310382:=t
def tw3726453103677007866:=t
def tw1474264761786122189:=t
def tw7828442866392281868:=t
def tw15792790952358468732:=t
def tw2259672571474061568:=t
def tw1835201335921387983:=t
def tw4903002758410956813:=t
def tw13468011388731342839:=t
def tw7985883749528016586:=t
def tw7151132215420815488:=t
def tw13160504802963445071:=t
def tw10539347186207431242:=t
def tw7220529860990300233:=t
def tw3500664145855060485:=t
def tw18048741565030583774:=t
def tw7091221385724896812:=t
def tw4993863958327201973:=t
def tw3328118118096588273:=t
def tw2997480634906808460:=t
def tw14995258362815363992:=t
def tw17472340661787783526:=t
def tw14934011241717051027:=t
def tw4971374062829452455:=t
def tw8047209995159408440:=t
def tw11401859456886640639:=t
def tw13313058339493701161:=t
def tw258204147387103276:=t
def tw8171798328758944481:=t
def tw18101783494082082527:=t
def tw11207431853666184334:=t
def tw16753820520455620202:=t
def tw12954591660760965231:=t
def tw17082689572870858151:=t
def tw7611196895359807804:=t
def tw1887573119177674980:=t
def tw12151077715039277381:=t
def tw1986786360949550309:=t
def tw13956191218907399338:=t
def tw4683681711962371626:=t
def tw14782954611325821827:=t
def tw5449563278759341024:=t
def tw3308634892276815127:=t
def tw13462424878891718212:=t
def tw8865387616306378214:=t
def tw3985964047577975286:=t
def tw15978794797337165890:=t
def tw9536688357841153863:=t
def tw8219003486749837733:=t
def tw7424060955962978353:=t
def tw6828597562223498359:=t
def tw4548300405975405348:=t
def tw4436474186459923750:=t
def tw3641951560692057861:=t
def tw3198059409981156222:=t
def tw3042748168174471775:=t
def tw2595618661548880785:=t
def tw17760279517084355780:=t
def tw17590705303994421779:=t
def tw17318462890700432884:=t
def tw14827714588952709054:=t
def tw14760874974797668852:=t
def tw13851971633180934007:=t
def tw13142635158332540280:=t
def tw1205274952441263945:=t
def tw11368310244458860372:=t
def tw12550775161083096063:=t
def tw11564986514327137767:=t
def tw9461873434466728008:=t
def tw6248682570935725439:=t
def tw10958628066121416707:=t
def tw14935467056822913822:=t
def tw17338325484393633139:=t
def tw8733291241859026926:=t
def tw3300257896294614128:=t
def tw7322748291113730364:=t
def tw9860861378791804195:=t
def tw87601786513091389:=t
def tw12382822922155266910:=t
def tw15171223727094530161:=t
def tw6945566481307383155:=t
def tw18220031379085947620:=t
def tw14546174082565282566:=t
def tw5537553045615171315:=t
def tw3543459598558145280:=t
def tw2941924889016668590:=t
def tw16248296213531012650:=t
def tw15402603294489630176:=t
def tw3239113980409921550:=t
def tw11063759124802658401:=t
def tw15254633091992210921:=t
def tw9689729476882780088:=t
def tw8002303944043701648:=t
def tw3681537716864247207:=t
def tw8157277791214410489:=t
def tw9972681490609642005:=t
def tw8331849164307833061:=t
def tw896239598344801917:=t
def tw16409965706819354750:=t
def tw4635989785427082552:=t
def tw1932759071263863916:=t
def tw8997383693586321770:=t
def tw11962351593759143498:=t
def tw10026605065719503897:=t
def tw14196522196718054806:=t
def tw3235425350174046738:=t
def tw11907897558876765624:=t
def tw8912161614967838395:=t
def tw5890639436620234070:=t
def tw18418582437962087742:=t
def tw2629151800749243262:=t
def tw18367749455379333440:=t
def tw3721919958574915784:=t
def tw1000662321505670351:=t
def tw9456574344343218679:=t
def tw7480016910919988345:=t
def tw5438652380644606353:=t
def tw15779231459743154856:=t
def tw13757698761724263525:=t
def tw12772213712371865176:=t
def tw7053471978191194526:=t
def tw1537541725227008683:=t
def tw9977182230042388008:=t
def tw9879335643197240621:=t
def tw6968137755033780318:=t
def tw6472337539984862722:=t
def tw5702276774652866934:=t
def tw2455152089536381482:=t
def tw2353497105660221152:=t
def tw1979317910248211280:=t
def tw17351735930882485243:=t
def tw16670775579421159206:=t
def tw16120054744476736488:=t
def tw13855379610559885079:=t
def tw12269216009862288129:=t
def tw11429584451438056573:=t
def tw5725222548895626118:=t
def tw4860023922305330110:=t
def tw2132029292895624192:=t
def tw17883462748017686043:=t
def tw16947231599799070506:=t
def tw11095110211248682772:=t
def tw10228342955482612591:=t
def tw17271881437230615512:=t
def tw11707130962622978684:=t
def tw3297117884562324255:=t
def tw15166322114958858414:=t
def tw3520257249291928256:=t
def tw8840235324560252208:=t
def tw2167315655227761912:=t
def tw15214748959534726111:=t
def tw15235614512728720:=t
def tw14261769069557060686:=t
def tw6128145076113358165:=t
def tw5037459499596335280:=t
def tw14170518179582410385:=t
def tw6194202620331982285:=t
def tw16802631365582062104:=t
def tw8392358500681263680:=t
def tw8757050672659960515:=t
def tw7787813539459594420:=t
def tw6084841979344569690:=t
def tw5515903443438498500:=t
def tw5467331546851215429:=t
def tw2595585439558603231:=t
def tw17312402878845073609:=t
def tw16109456028575089023:=t
def tw14537775516033599862:=t
def tw16053306600634468012:=t
def tw7766106395892283477:=t
def tw2333105410213810865:=t
def tw10341888390210383824:=t
def tw15577281813014381367:=t
def tw13571862603940711859:=t
def tw938635154573522699:=t
def tw5306753302271460952:=t
def tw2035134559735372757:=t
def tw9592300441314626372:=t
def tw890339118813698166:=t
def tw8115137120850386438:=t
def tw6188973233030003785:=t
def tw18003772858949239459:=t
def tw15621415185263527259:=t
def tw4413860948169739490:=t
def tw866717566613908145:=t
def tw7764699552788554220:=t
def tw5221592684559293012:=t
def tw1630143524128594353:=t
def tw12091130801917272685:=t
def tw10149570385669482864:=t
def tw9969077435446430640:=t
def tw9947508896943372755:=t
def tw991626836265849350:=t
def tw9215358943560890414:=t
def tw7007286002206832825:=t
def tw6542358382571353910:=t
def tw6508132753307246276:=t
def tw577049184839899653:=t
def tw5634867526602368427:=t
def tw5171440476677080432:=t
def tw463774138113389760:=t
def tw4565167180653195659:=t
def tw4470585836733325578:=t
def tw4267111383703672358:=t
def tw4211115844707057057:=t
def tw2983494736656345032:=t
def tw2956708394376553000:=t
def tw2228412568605170491:=t
def tw18310463660012746435:=t
def tw18094105663378112561:=t
def tw17916429707943930468:=t
def tw17659185236578331656:=t
def tw16132249320637822498:=t
def tw15764947353670896545:=t
def tw15326580083554890809:=t
def tw14849461344987154502:=t
def tw14847308668706973960:=t
def tw1467881925912835984:=t
def tw14074196154385387334:=t
def tw13484562703626004877:=t
def tw13465540834166320765:=t
def tw12669407529647801677:=t
def tw12627051441459223148:=t
def tw12408111787983249662:=t
def tw11853640710764476214:=t
def tw11513857634932158529:=t
def tw11824586356888161845:=t
def tw8327717152232216106:=t
def tw9784134513789038367:=t
def tw8159993647027272844:=t
def tw6751970477201280107:=t
def tw6105849179199505303:=t
def tw28018229315631829:=t
def tw2400638427578300857:=t
def tw2314633323536394700:=t
def tw1956260828630720203:=t
def tw14226173905949225808:=t
def tw11384182702204212275:=t
def tw1442379640649564109:=t
def tw6880980288501444468:=t
def tw4858918184162951299:=t
def tw1142673529048489019:=t
def tw2692750590507578028:=t
def tw1045582712504079209:=t
def tw6953138203311097117:=t
def tw9510108024173832781:=t
def tw9387514328989991554:=t
def tw7882045510503734624:=t
def tw3713540243193553862:=t
def tw2135409205425526673:=t
def tw1683588176727124409:=t
def tw1401067106901849026:=t
def tw12960429369202013873:=t
def tw12717557048674177747:=t
def tw11408881796089955267:=t
def tw14904681115217272601:=t
def tw12020253756985099128:=t
def tw2731476521559533851:=t
def tw523537741815420091:=t
def tw6329614223026926184:=t
def tw4026147355466621588:=t
def tw2216542800690825051:=t
def tw16232239604740543338:=t
def tw13205091638197436094:=t
def tw9950792792127014553:=t
def tw9201617497623189827:=t
def tw8285278889055680438:=t
def tw6690350156832105676:=t
def tw3075201292733833056:=t
def tw2641800013201688601:=t
def tw2546767868308347339:=t
def tw15861351967447197489:=t
def tw14219159868682941630:=t
def tw13937768818610491111:=t
def tw12652081859355081885:=t
def tw11066385474520676512:=t
def tw16607193741793207195:=t
def tw12930229547647579594:=t
def tw11076892268299887525:=t
def tw8413399678365625193:=t
def tw9719393640593047967:=t
def tw9404705873571188630:=t
def tw8210202977690762169:=t
def tw7926090574327391632:=t
def tw7921390202802761869:=t
def tw6170744672141170255:=t
def tw5816495043963226922:=t
def tw5812350808301622050:=t
def tw4944497897694004105:=t
def tw4334401890000744311:=t
def tw431221854992830470:=t
def tw3897268976836264337:=t
def tw3277229846650655979:=t
def tw2528511596961503537:=t
def tw209982475168477708:=t
def tw1998347030407657756:=t
def tw1864683662541468164:=t
def tw1835071406663858368:=t
def tw18073898193381586223:=t
def tw17852080271459398996:=t
def tw17558320327384617127:=t
def tw1725486776273817318:=t
def tw1719895430356276633:=t
def tw17184031218471190783:=t
def tw16860917588515726111:=t
def tw16691165463884887630:=t
def tw16116027297012810434:=t
def tw15925456577456769635:=t
def tw14904287247971174143:=t
def tw1484650774730072618:=t
def tw14710976976299594304:=t
def tw14321067358777074657:=t
def tw14172470266813156586:=t
def tw13831308528885131752:=t
def tw11837218909656210887:=t
def tw10956520680868813917:=t
def tw10826640976665885199:=t
def tw9363214764283991203:=t
def tw4580019852769339753:=t
def tw727553628536289456:=t
def tw18383651708701053236:=t
def tw4323258101793500111:=t
def tw8319933024895762948:=t
def tw3436067635600285980:=t
def tw1866716027138748530:=t
def tw18400553757987027518:=t
def tw12549542988036985293:=t
def tw243476719192100926:=t
def tw9584292182412213727:=t
def tw9402243437249704421:=t
def tw8222940686941784037:=t
def tw609457278022895560:=t
def tw4493901809537577575:=t
def tw4449297822257671152:=t
def tw3992765435912101610:=t
def tw16728255500844073214:=t
def tw15969335453137586327:=t
def tw14938211915633500526:=t
def tw14540961386073393648:=t
def tw13439652990877377571:=t
def tw12670982853097334264:=t
def tw12314708539913122752:=t
def tw11481637867367846703:=t
def tw11280630913190679075:=t
def tw11267315532378154396:=t
def tw11212356425047092601:=t
def tw10886659093417053267:=t
def tw2034817482908223496:=t
def tw13265978090383273239:=t
def tw12405761042648551022:=t
def tw9910136688757260964:=t
def tw8854275682344465072:=t
def tw8282588126930224528:=t
def tw6621635546502472408:=t
def tw4843829748527759242:=t
def tw17689344090056996911:=t
def tw14800370929953404514:=t
def tw12731152576971404446:=t
def tw10627929193734500438:=t
def tw10118262284458037933:=t
def tw5665240888008139550:=t
def tw5449601097390414333:=t
def tw3110587219445414310:=t
def tw13631397514672939371:=t
def tw12003660372656728261:=t
def tw10374632558016547081:=t
def tw14284835775768690865:=t
def tw12064304430848566033:=t
def tw8374155422468719031:=t
def tw16873086082458093902:=t
def tw14404928986312190071:=t
def tw12125097214300078407:=t
def tw6522051377940421278:=t
def tw8950108695139179302:=t
def tw8185545411690514434:=t
def tw7217548393331319763:=t
def tw7001957589650049515:=t
def tw6798380500665416597:=t
def tw6631347999910079877:=t
def tw5960047855520388891:=t
def tw5217270863462422736:=t
def tw3831019782443316194:=t
def tw3592811809046731828:=t
def tw3419001889969749887:=t
def tw3238445694619138142:=t
def tw2046362190076281809:=t
def tw17877845533520812795:=t
def tw14611616552423853409:=t
def tw1405720946626083897:=t
def tw14022695629967993375:=t
def tw13215348057498601715:=t
def tw12369848792361866835:=t
def tw11502921971960690029:=t
def tw11161164713144168021:=t
def tw643336161829623379:=t
def tw15910123707662034135:=t
def tw9919008367099125623:=t
def tw9358312197846296583:=t
def tw772564365185477556:=t
def tw6858818405166986180:=t
def tw5994696166404524948:=t
def tw5002640475654186023:=t
def tw447263597446747957:=t
def tw443766864951011646:=t
def tw3475869608268796686:=t
def tw2950685276103557050:=t
def tw2084650752826471497:=t
def tw1717767836212652739:=t
def tw16682895059504647277:=t
def tw16626521671886133394:=t
def tw16615150188913437886:=t
def tw16108870410212019532:=t
def tw15499940227032437249:=t
def tw1495895850433845275:=t
def tw13812277999558781770:=t
def tw13421457143807847188:=t
def tw12488014758255163090:=t
def tw12459912946257978736:=t
def tw10258873121960336067:=t
def tw9848817304349107530:=t
def tw8760152093665844161:=t
def tw8080008513338510535:=t
def tw5832305185047221409:=t
def tw5444512763150141072:=t
def tw5362036446546632119:=t
def tw4039707410889071942:=t
def tw2403389108928632939:=t
def tw18328257000508772394:=t
def tw16003985067176294414:=t
def tw15539815450414544023:=t
def tw15173544498738437827:=t
def tw14703100239697439463:=t
def tw13444670453868202053:=t
def tw10910644110388302437:=t
def tw11898673842065290130:=t
def tw2483420100392427323:=t
def tw1825952489489211193:=t
def tw16756451883985382160:=t
def tw10510056951384868246:=t
def tw6822071536725586909:=t
def tw446995266069924076:=t
def tw2244103112122482387:=t
def tw1915925776726481438:=t
def tw1708089923452030704:=t
def tw3919386906821981792:=t
def tw6356304189028158447:=t
def tw6278996535519779258:=t
def tw6056707288978253535:=t
def tw4096438862311573950:=t
def tw3300454383303005205:=t
def tw2570914705882880060:=t
def tw16723463757517087524:=t
def tw16279288168775177219:=t
def tw14842496431369740429:=t
def tw14592624751514493413:=t
def tw14553807712399142462:=t
def tw13953587524928339648:=t
def tw13257283266767686631:=t
def tw13034982811429478159:=t
def tw10861573186032746274:=t
def tw10698057553749749337:=t
def tw8060666987683057360:=t
def tw7484994123860896570:=t
def tw5239429619861171699:=t
def tw4684226298888400098:=t
def tw4077048163395320219:=t
def tw17713387462200973399:=t
def tw17680797132471856694:=t
def tw16583815154217966991:=t
def tw16217903435359918192:=t
def tw15699961213505342161:=t
def tw14785633479632635281:=t
def tw13601115934706021691:=t
def tw13349420017058727143:=t
def tw13164499291161521807:=t
def tw12435058653956393420:=t
def tw10988764466652934233:=t
def tw10236332898609347644:=t
def tw8739830900816887780:=t
def tw4734895289157585001:=t
def tw2187251505897268136:=t
def tw11738243743197964597:=t
def tw9959121941294770655:=t
def tw9818998656811842119:=t
def tw9796564346219866840:=t
def tw977512076041815475:=t
def tw9768418358887946270:=t
def tw9678289623588505577:=t
def tw9676783613728631035:=t
def tw9630203353718772412:=t
def tw9619071485814978506:=t
def tw9592521066531166775:=t
def tw9553971096990549364:=t
def tw9530734954097333506:=t
def tw9495317472360511255:=t
def tw9433028549170029634:=t
def tw9399754086935153974:=t
def tw9388066449989048879:=t
def tw9320515035125037321:=t
def tw9317495090193701157:=t
def tw9252304221032618942:=t
def tw9104974531708491489:=t
def tw908480701973217441:=t
def tw9003107776662980439:=t
def tw8996207646774452837:=t
def tw8995945545434573385:=t
def tw8981176238543900561:=t
def tw896878414759379649:=t
def tw8924819469995637033:=t
def tw8919978131948313185:=t
def tw8916268530333523031:=t
def tw8908233856664302321:=t
def tw885948055608056263:=t
def tw8833496514701923757:=t
def tw8752102160057688731:=t
def tw8646635810480103244:=t
def tw8565224436197482051:=t
def tw8480184845173159842:=t
def tw8431482922422412695:=t
def tw8428246938381088814:=t
def tw8356303796347215682:=t
def tw8274446707539698164:=t
def tw8272569733616993153:=t
def tw8185220541750880888:=t
def tw8166255043249204926:=t
def tw8151759404152838978:=t
def tw8006371003960147343:=t
def tw7943549864190904611:=t
def tw7942791058656714990:=t
def tw7873786274422454737:=t
def tw7867829370405329436:=t
def tw786537726763496527:=t
def tw7837367980739423823:=t
def tw761803264340522177:=t
def tw7607420049574824106:=t
def tw7592715696027808041:=t
def tw757356599333046425:=t
def tw7538781388859322016:=t
def tw7509565986652818475:=t
def tw7485256538410118956:=t
def tw7422445781565681216:=t
def tw7249310025045793396:=t
def tw7231845647793152400:=t
def tw7212858340449540239:=t
def tw7181997581385953548:=t
def tw7086961617601330827:=t
def tw699815216081779126:=t
def tw6973427100653255629:=t
def tw694261584828832409:=t
def tw6900931685637148767:=t
def tw6782663255696616371:=t
def tw6733606326906232124:=t
def tw6701911527682315725:=t
def tw6651725471809605288:=t
def tw6557801498797044033:=t
def tw6549852094080907030:=t
def tw6548459193220583526:=t
def tw651700358538967526:=t
def tw6469784823511061222:=t
def tw640624198105042115:=t
def tw6338894885288841830:=t
def tw6325675986683464353:=t
def tw628631919661052299:=t
def tw6284410105664486691:=t
def tw6259241058660970061:=t
def tw6229817132586351632:=t
def tw6145912378217320015:=t
def tw6125853113672642322:=t
def tw6094820017090691545:=t
def tw6030501089693204938:=t
def tw5992840812097835891:=t
def tw5920806927976990809:=t
def tw5845002605336314091:=t
def tw5832146486336120021:=t
def tw5805800948307579973:=t
def tw5711038861398032994:=t
def tw5667099127317398114:=t
def tw5622701340561072331:=t
def tw5610444585433571239:=t
def tw5522115075389312692:=t
def tw5498123283257192965:=t
def tw5483103596317574428:=t
def tw547895379624588593:=t
def tw542563422162235373:=t
def tw539538531456391632:=t
def tw5395340147747708899:=t
def tw5388589039460942527:=t
def tw5369961537445033690:=t
def tw5344687154915797982:=t
def tw5342471268416680606:=t
def tw5341297951324810720:=t
def tw5322009542560784348:=t
def tw5289818103960998278:=t
def tw5263133172445716209:=t
def tw5233118043267047457:=t
def tw5205737364524765896:=t
def tw5137589814051832496:=t
def tw5101696844757716304:=t
def tw5072417060200589145:=t
def tw506581581156960101:=t
def tw5008593111378822452:=t
def tw5000232492035539693:=t
def tw4938610541543285704:=t
def tw4906484309439969231:=t
def tw4772062507164038959:=t
def tw4766597723019941021:=t
def tw4757880891971583632:=t
def tw4704452742865826424:=t
def tw4693966885379303072:=t
def tw4547051000311932777:=t
def tw4538635040379822027:=t
def tw4517560463748656503:=t
def tw4483904966330829159:=t
def tw4382473104129494423:=t
def tw4341293187932698999:=t
def tw4333590680753393835:=t
def tw4321966507151631593:=t
def tw4313010194945074917:=t
def tw4309217394794523951:=t
def tw429539710256275620:=t
def tw424408320835691240:=t
def tw4186743451310774866:=t
def tw4171853373547519906:=t
def tw4102176305081739490:=t
def tw4075453323654395381:=t
def tw4063829332388037331:=t
def tw4051853165826885262:=t
def tw3971525946579005399:=t
def tw3851428956369438258:=t
def tw3846801734645722302:=t
def tw384561282630992784:=t
def tw3801850119919557013:=t
def tw3719891259706897012:=t
def tw3717076922277056940:=t
def tw3676754643040562684:=t
def tw3581434408401558974:=t
def tw354308444213283272:=t
def tw3456351732281881909:=t
def tw3438699932752214802:=t
def tw3382625519597670723:=t
def tw3374319085511977134:=t
def tw3365755272349913518:=t
end PySem.W.Fast
section
open PySem PySem.W PyProof.Rows
set_option maxHeartbeats 0 in
open_top hd for PySem.Challenge.rw_cagebells_k32_whole_every_answer
end
set_option Elab.async false
set_option linter.all false
set_option maxRecDepth 100000
namespace L2
open PySem PySem.Spec PyProof.Rows
noncomputable abbrev Key:=Sum Int Str
noncomputable def MU:Key->Value->Bool
 | .inl k,v=>Value.isInt k v
 | .inr x,v=>Value.isStrOf x v
noncomputable def Qc (w:World):Key->Int
 | .inl k=>hashInt k
 | .inr x=>hashStr w x
theorem dG:∀{k:Key} {v:Value},MU k v=true->(∃i t,k=Sum.inl i/\v=Value.int i t)\/(∃x t,k=Sum.inr x/\v=Value.str x t)
 | .inl i,v,h=>by
  obtain ⟨t,e⟩:=Value.isInt_shape (k:=i) (v:=v) h
  exact .inl ⟨i,t,rfl,e⟩
 | .inr x,v,h=>by
  obtain ⟨t,e⟩:=Value.isStrOf_shape (x:=x) (v:=v) h
  exact .inr ⟨x,t,rfl,e⟩
theorem Ny (a b:Int):decide ((Sum.inl a:Key)=Sum.inl b)=(a == b):=by
 by_cases e:a=b
 ·subst e;simp
 ·have h:¬(Sum.inl a:Key)=Sum.inl b:=fun q=>e (Sum.inl.inj q)
  rw [decide_eq_false h]
  exact (beq_eq_false_iff_ne.mpr e).symm
theorem Nz (a b:Str):decide ((Sum.inr a:Key)=Sum.inr b)=decide (a=b):=by
 by_cases e:a=b
 ·subst e;simp
 ·have h:¬(Sum.inr a:Key)=Sum.inr b:=fun q=>e (Sum.inr.inj q)
  rw [decide_eq_false h,decide_eq_false e]
theorem NA (a:Int)(b:Str):decide ((Sum.inl a:Key)=Sum.inr b)=false:=decide_eq_false (fun q=>nomatch q)
theorem NB (a:Str)(b:Int):decide ((Sum.inr a:Key)=Sum.inl b)=false:=decide_eq_false (fun q=>nomatch q)
noncomputable def B3 (prog:Program)(w:World):PySem.KeyKind prog w Key where
 is:=MU
 hash:=Qc w
 inj:=fun v a b ha hb=>by
  rcases dG ha with ⟨i,t,rfl,rfl⟩ | ⟨x,t,rfl,rfl⟩
  ·rcases dG hb with ⟨j,u,rfl,e⟩ | ⟨y,u,rfl,e⟩
   ·injection e with e1 _;rw [e1]
   ·exact nomatch e
  ·rcases dG hb with ⟨j,u,rfl,e⟩ | ⟨y,u,rfl,e⟩
   ·exact nomatch e
   ·injection e with e1 _;rw [e1]
 byValue:=fun k v h=>by
  rcases dG h with ⟨i,t,rfl,rfl⟩ | ⟨x,t,rfl,rfl⟩<;>rfl
 pyHash:=fun hv h=>by
  rcases dG hv with ⟨i,t,rfl,rfl⟩ | ⟨x,t,rfl,rfl⟩
  ·exact wpAny_pyHash_int h
  ·exact wpAny_pyHash_str h
 eqBool:=fun hu hv h=>by
  rcases dG hu with ⟨i,t,rfl,rfl⟩ | ⟨x,t,rfl,rfl⟩
  ·rcases dG hv with ⟨j,u,rfl,rfl⟩ | ⟨y,u,rfl,rfl⟩
   ·rw [Ny] at h;exact wpAny_eqBool_int h
   ·rw [NA] at h;exact SeqAt.EqAt.int_str i t y u _ _ _ _ h
  ·rcases dG hv with ⟨j,u,rfl,rfl⟩ | ⟨y,u,rfl,rfl⟩
   ·rw [NB] at h;exact SeqAt.EqAt.str_int x t j u _ _ _ _ h
   ·rw [Nz] at h;exact wpAny_eqBool_str h
 «strs»:=fun k x t v h=>by
  rcases dG h with ⟨i,u,rfl,e⟩ | ⟨y,u,rfl,e⟩
  ·exact nomatch e
  ·injection e with e1 _
   subst e1
   cases v<;>rfl
inductive V where
 | non | bl (b:Bool) | int (i:Int) | str (x:Str) | byt (b:Array UInt8) | flt (b:UInt64) | ref (a:Addr) | ty (n:String)
 deriving DecidableEq
noncomputable def cf:V->Value->Prop
 | .non,u=>u=Value.none
 | .bl b,u=>u=Value.bool b
 | .int i,u=>∃t,u=Value.int i t
 | .str x,u=>∃t,u=Value.str x t
 | .byt b,u=>∃t,u=Value.bytes b t
 | .flt b,u=>∃t,u=Value.float b t
 | .ref a,u=>u=Value.ref a
 | .ty n,u=>u=Value.type n
noncomputable abbrev bL:List V->List Value->Prop:=Paired cf
theorem bL.length {xs:List V}{us:List Value}(r:bL xs us):xs.length=us.length:=Paired.length r
theorem bL.get:∀{xs:List V} {us:List Value} {i:Nat} {x:V},bL xs us->xs[i]?=some x->∃u,us[i]?=some u/\cf x u
 | _,_,_,_,.nil,e=>by simp at e
 | _,_,0,_,.cons r _,e=>by simp at e;subst e;exact ⟨_,rfl,r⟩
 | _,_,i+1,x,.cons _ t,e=>by
  obtain ⟨u,h1,h2⟩:=bL.get (i:=i) (x:=x) t (by simpa using e)
  exact ⟨u,by simpa using h1,h2⟩
theorem bL.set {x:V}{u:Value}(r:cf x u):∀{xs:List V} {us:List Value} (i:Nat),bL xs us->bL (xs.set i x) (us.set i u)
 | _,_,_,.nil=>.nil
 | _,_,0,.cons _ t=>.cons r t
 | _,_,i+1,.cons q t=>.cons q (bL.set r i t)
theorem bL.append:∀{xs ys:List V} {us ws:List Value},bL xs us->bL ys ws->bL (xs++ys) (us++ws)
 | _,_,_,_,.nil,s=>s
 | _,_,_,_,.cons r t,s=>.cons r (bL.append t s)
theorem bL.take:∀{xs:List V} {us:List Value} (n:Nat),bL xs us->bL (xs.take n) (us.take n)
 | _,_,0,_=>.nil
 | _,_,_+1,.nil=>.nil
 | _,_,n+1,.cons r t=>.cons r (bL.take n t)
theorem bL.drop:∀{xs:List V} {us:List Value} (n:Nat),bL xs us->bL (xs.drop n) (us.drop n)
 | _,_,0,r=>r
 | _,_,_+1,.nil=>.nil
 | _,_,n+1,.cons _ t=>bL.drop n t
noncomputable def Au:Option V->Option Value->Prop
 | some v,some u=>cf v u
 | none,none=>True
 | _,_=>False
noncomputable def KV {κ:Type}:List (κ×V)->List (κ×Value)->Prop:=Paired fun (p:κ×V) (q:κ×Value)=>p.1=q.1/\cf p.2 q.2
noncomputable def kV:Key->V
 | .inl i=>.int i
 | .inr x=>.str x
inductive HO where
 | lst (xs:List V)
 | tup (xs:List V)
 | dK (kvs:List (Key×V)) | dT (kvs:List (List Key×V))
 | set (S:Int->Bool) (n:Nat)
 | ins (C dx:Addr) (fs:List (Str×V))
 | own (x:Addr)
 | xd (fs:List (Str×V))
 | met (f x:Addr)
 | rng (lo hi:Int)
 | frz (o:Obj) (u:HO)
 | tbl (ps:Array Value)
 | ext (φ:Heap->Prop)
noncomputable abbrev Hp:=Addr->Option HO
noncomputable def upd (H:Hp)(a:Addr)(o:HO):Hp:=fun b=>if b=a then some o else H b
theorem ah {H:Hp}{a:Addr}{o:HO}:upd H a o a=some o:=by unfold upd;rw [if_pos rfl]
theorem aL {H:Hp}{a b:Addr}{o:HO}(h:b≠a):upd H a o b=H b:=by unfold upd;rw [if_neg h]
theorem Lj {H:Hp}{a:Addr}{o u:HO}:upd (upd H a o) a u=upd H a u:=by
 funext b;unfold upd;split<;>rfl
theorem av {H:Hp}{a b:Addr}{o:HO}(h:H a=some o)(h':H b=none):a≠b:=by
 intro e;subst e;rw [h] at h';cases h'
def iI (h:Heap)(a:Addr)(items:Array Value):Prop:=∃o,h.get? a=some o/\(o.cls=.type "tuple"/\∃n,o.data=.seq items n)/\o.dict=none
theorem iI.tup {h:Heap}{a:Addr}{items:Array Value}(x:iI h a items):IsTup h a items:=let ⟨o,e,c,_⟩:=x;⟨o,e,c⟩
theorem iI.lt {h:Heap}{a:Addr}{items:Array Value}(x:iI h a items):a < h.objs.size:=let ⟨_,e,_⟩:=x;Heap.lt_size e
theorem iI.new (h:Heap)(items:Array Value):iI (h.push {cls:=.type "tuple",data:=.seq items}) h.objs.size items:=⟨_,Heap.get?_push_size _ rfl,⟨rfl,_,rfl⟩,rfl⟩
section
variable (P:Program)(w:World)
noncomputable def fO (H:Hp)(h:Heap)(a:Addr):HO->Prop
 | .lst xs=>xs.length<=sizeLine/\∃(its:List Value) (n:Nat),bL xs its/\h.get? a=some {cls:=.type "list",data:=.seq its.toArray n}
 | .tup xs=>xs.length<=sizeLine/\∃its:List Value,bL xs its/\iI h a its.toArray
 | .dK kvs=>kvs.length<=sizeLine/\(a == sysModules)=false/\∃vs,KV kvs vs/\h.DictOf (B3 P w) a vs
 | .dT kvs=>kvs.length<=sizeLine/\(a == sysModules)=false/\∃xs:List (List Key×Addr×Value),
   Paired (fun (p:List Key×V) (q:List Key×Addr×Value)=>p.1=q.1/\H q.2.1=some (.tup (p.1.map kV))/\cf p.2 q.2.2) kvs xs/\
   ∃o es ep,h.get? a=some o/\o.ExactDict/\o.data=.dict es ep/\es.toList=xs.map (entryOfKey (tupleKind (B3 P w)))/\(xs.map (·.1)).Nodup
 | .set S n=>h.SetOf (intKind P w) a S n
 | .ins C dx fs=>H dx=some (.own a)/\fs.length<=1000/\dx≠a/\h.get? a=some (W.instObj C dx)/\
   ∃mA,h.Ns1 dx mA/\(∀f,Au (fs.lookup f) (mA f))/\PySem.Within mA (fs.map (·.1))
 | .own _=>∃o,h.get? a=some o
 | .xd fs=>∃mA,h.Ns1 a mA/\∀f,Au (fs.lookup f) (mA f)
 | .rng lo hi=>∃t u v,h.get? a=some {cls:=.type "range",data:=.fields #[.int lo t,.int hi u,.int 1 v]}
 | .frz o u=>h.get? a=some o/\fO H h a u
 | .tbl ps=>h.get? a=some {cls:=.none,data:=.fields ps}
 | .met f x=>h.get? a=some (W.methodObj (.ref f) (.ref x))
 | .ext φ=>φ h/\(∃o,h.get? a=some o)/\∀h1 h2:Heap,φ h1->(∀o,h1.get? a=some o->h2.get? a=some o)->φ h2
def HOk (H:Hp)(h:Heap):Prop:=∀a o,H a=some o->fO P w H h a o
end
section
variable {P:Program}{w:World}{H H':Hp}{h h':Heap}{a:Addr}{o:HO}
theorem fO.lt (x:fO P w H h a o):a < h.objs.size:=by
 cases o with
 | lst xs=>obtain ⟨_,_,_,_,e⟩:=x;exact Heap.lt_size e
 | tup xs=>obtain ⟨_,_,_,p⟩:=x;exact p.lt
 | dK kvs=>obtain ⟨_,_,_,_,o,_,_,e,_⟩:=x;exact Heap.lt_size e
 | dT kvs=>obtain ⟨_,_,_,_,o,_,_,e,_⟩:=x;exact Heap.lt_size e
 | set S n=>obtain ⟨o,_,_,_,e,_⟩:=x;exact Heap.lt_size e
 | ins C dx fs=>obtain ⟨_,_,_,e,_⟩:=x;exact Heap.lt_size e
 | own y=>obtain ⟨_,e⟩:=x;exact Heap.lt_size e
 | xd fs=>obtain ⟨_,⟨_,_,_,e,_⟩,_⟩:=x;exact Heap.lt_size e
 | rng lo hi=>obtain ⟨_,_,_,e⟩:=x;exact Heap.lt_size e
 | frz ob u=>obtain ⟨e,_⟩:=x;exact Heap.lt_size e
 | tbl ps=>exact Heap.lt_size (show h.get? a=some _ from x)
 | met f y=>exact Heap.lt_size (show h.get? a=some _ from x)
 | ext φ=>obtain ⟨_,⟨_,e⟩,_⟩:=x;exact Heap.lt_size e
theorem Paired.mapP {α β:Type}{F G:α->β->Prop}:∀{l₁:List α} {l₂:List β},Paired F l₁ l₂->(∀a b,F a b->G a b)->Paired G l₁ l₂
 | _,_,.nil,_=>.nil
 | _,_,.cons r t,f=>.cons (f _ _ r) (Paired.mapP t f)
theorem fO.stay (x:fO P w H h a o)(k:∀b u,(b=a\/H b=some (.own a))->h.get? b=some u->h'.get? b=some u)
  (ho:∀b,H b=some (.own a)->H' b=some (.own a)) (ht:∀b xs,H b=some (.tup xs)->H' b=some (.tup xs)):fO P w H' h' a o:=by
 induction o with
 | lst xs=>obtain ⟨z,its,n,r,e⟩:=x;exact ⟨z,its,n,r,k _ _ (.inl rfl) e⟩
 | tup xs=>obtain ⟨z,its,r,ob,e,c⟩:=x;exact ⟨z,its,r,ob,k _ _ (.inl rfl) e,c⟩
 | dK kvs=>obtain ⟨z,y,vs,r,ob,es,ep,e,c⟩:=x;exact ⟨z,y,vs,r,ob,es,ep,k _ _ (.inl rfl) e,c⟩
 | dT kvs=>
  obtain ⟨z,y,xs,r,ob,es,ep,e,c⟩:=x
  exact ⟨z,y,xs,Paired.mapP r fun p q z=>⟨z.1,ht _ _ z.2.1,z.2.2⟩,ob,es,ep,k _ _ (.inl rfl) e,c⟩
 | set S n=>obtain ⟨ob,es,ep,t,e,c⟩:=x;exact ⟨ob,es,ep,t,k _ _ (.inl rfl) e,c⟩
 | ins C dx fs=>
  obtain ⟨d,z,ne,e,mA,⟨od,es,ep,e2,c⟩,r⟩:=x
  exact ⟨ho _ d,z,ne,k _ _ (.inl rfl) e,mA,⟨od,es,ep,k _ _ (.inr d) e2,c⟩,r⟩
 | own y=>obtain ⟨ob,e⟩:=x;exact ⟨ob,k _ _ (.inl rfl) e⟩
 | xd fs=>obtain ⟨mA,⟨od,es,ep,e,c⟩,r⟩:=x;exact ⟨mA,⟨od,es,ep,k _ _ (.inl rfl) e,c⟩,r⟩
 | rng lo hi=>obtain ⟨t,u,v,e⟩:=x;exact ⟨t,u,v,k _ _ (.inl rfl) e⟩
 | frz ob u ih=>obtain ⟨e,q⟩:=x;exact ⟨k _ _ (.inl rfl) e,ih q⟩
 | tbl ps=>
  have e:h.get? a=some {cls:=.none,data:=.fields ps}:=x
  show h'.get? a=some {cls:=.none,data:=.fields ps}
  exact k a _ (.inl rfl) e
 | met f y=>
  have e:h.get? a=some (W.methodObj (.ref f) (.ref y)):=x
  show h'.get? a=some (W.methodObj (.ref f) (.ref y))
  exact k a _ (.inl rfl) e
 | ext φ=>obtain ⟨p,⟨o,e⟩,st⟩:=x;exact ⟨st _ _ p fun o q=>k _ _ (.inl rfl) q,⟨o,k _ _ (.inl rfl) e⟩,st⟩
theorem HOk.lt (x:HOk P w H h)(e:H a=some o):a < h.objs.size:=(x a o e).lt
theorem HOk.fresh (x:HOk P w H h)(e:h.objs.size<=a):H a=none:=by
 cases q:H a with
 | none=>rfl
 | some u=>exact absurd (Nat.lt_of_lt_of_le (x.lt q) e) (Nat.lt_irrefl _)
theorem HOk.kept (x:HOk P w H h)(k:∀b u,h.get? b=some u->h'.get? b=some u):HOk P w H h':=fun a o e=>
 (x a o e).stay (fun b u _ q=>k b u q) (fun _ q=>q) fun _ _ q=>q
theorem HOk.laid (x:HOk P w H h)(k:∀b u,h.get? b=some u->h'.get? b=some u)(hp:h.objs.size<=a)(new:fO P w (upd H a o) h' a o):HOk P w (upd H a o) h':=fun b u e=>by
 have hn:=x.fresh hp
 by_cases hb:b=a
 ·subst hb;rw [ah] at e;cases e;exact new
 ·rw [aL hb] at e
  exact (x b u e).stay (fun c v _ q=>k c v q) (fun c q=>by rw [aL (av q hn)];exact q) fun c xs q=>by rw [aL (av q hn)];exact q
end
def Rd (H:Hp)(a:Addr)(u:HO):Prop:=H a=some u\/∃o,H a=some (.frz o u)
theorem Rd.ok {P:Program}{w:World}{H:Hp}{h:Heap}{a:Addr}{u:HO}(r:Rd H a u)(x:HOk P w H h):fO P w H h a u:=by
 rcases r with r | ⟨o,r⟩
 ·exact x a u r
 ·obtain ⟨_,q⟩:=x a _ r
  exact q
noncomputable def Mut:Option HO->Prop
 | some (.lst _)=>True
 | some (.dK _)=>True
 | some (.dT _)=>True
 | some (.set _ _)=>True
 | some (.ins _ _ _)=>True
 | some (.ext _)=>True
 | _=>False
section
variable {P:Program}{w:World}{H:Hp}{h h':Heap}{x e:Addr}{o':HO}
theorem HOk.write (ok:HOk P w H h)(mu:Mut (H x))(he:e=x\/H e=some (.own x))(k:∀b u,b≠e->h.get? b=some u->h'.get? b=some u)(heo:∃u,h'.get? e=some u)
  (new:fO P w (upd H x o') h' x o'):HOk P w (upd H x o') h':=fun b u q=>by
 have nown:∀c y,H c=some (.own y)->c≠x:=fun c y r z=>by subst z;rw [r] at mu;exact mu
 have ntup:∀c xs,H c=some (.tup xs)->c≠x:=fun c xs r z=>by subst z;rw [r] at mu;exact mu
 by_cases hb:b=x
 ·subst hb;rw [ah] at q;cases q;exact new
 ·rw [aL hb] at q
  by_cases hbe:b=e
  ·have q':H b=some (.own x):=by
    rcases he with z | z
    ·exact absurd (hbe.trans z) hb
    ·rw [hbe];exact z
   rw [q] at q';cases q'
   obtain ⟨v,hv⟩:=heo
   exact ⟨v,by rw [hbe];exact hv⟩
  ·refine (ok b u q).stay (fun c v hc r=>k c v ?_ r) (fun c r=>by rw [aL (nown c b r)];exact r) fun c xs r=>by rw [aL (ntup c xs r)];exact r
   rcases hc with rfl | hc
   ·exact hbe
   ·rintro rfl
    rcases he with z | z
    ·exact nown c b hc z
    ·rw [hc] at z;cases z;exact hb rfl
end
structure Un (fs ex:List Addr)(H H':Hp)(h h':Heap):Prop where
 keep:∀b o,h.get? b=some o->H b=none->b∉fs->b∉ex->h'.get? b=some o
 slot:∀b o,h.get? b=some o->H b=none->b∈fs->b∉ex->∃sl,h'.get? b=some {o with slots:=sl}
 free:∀b o,h.get? b=some o->H b=none->b∉ex->H' b=none
 there:∀b o,h.get? b=some o->b∉ex->∃o',h'.get? b=some o'
 tups:∀b xs,H b=some (.tup xs)->H' b=some (.tup xs)
 frzs:∀b o u,H b=some (.frz o u)->H' b=some (.frz o u)
 tbls:∀b ps,H b=some (.tbl ps)->∃more,H' b=some (.tbl (ps++more))
section
variable {fs fs' ex ex':List Addr}{H H1 H2:Hp}{h h1 h2 h':Heap}{a x e:Addr}{o:HO}
theorem Un.any (u:Un fs ex H H1 h h1){b:Addr}{ob:Obj}(q:h.get? b=some ob)(n:H b=none)(hx:b∉ex):∃sl,h1.get? b=some {ob with slots:=sl}:=by
 by_cases hb:b∈fs
 ·exact u.slot b ob q n hb hx
 ·exact ⟨ob.slots,u.keep b ob q n hb hx⟩
theorem Un.kept (k:∀b u,h.get? b=some u->h'.get? b=some u):Un fs ex H H h h':=
 ⟨fun b ob q _ _ _=>k b ob q,fun b ob q _ _ _=>⟨ob.slots,k b ob q⟩,fun _ _ _ n _=>n,fun b ob q _=>⟨ob,k b ob q⟩,fun _ _ q=>q,fun _ _ _ q=>q,fun _ ps q=>⟨#[],by rw [q];simp⟩⟩
theorem Un.refl:Un fs ex H H h h:=Un.kept fun _ _ q=>q
theorem Un.laid (k:∀b u,h.get? b=some u->h'.get? b=some u)(hp:h.objs.size<=a)(hn:H a=none):Un fs ex H (upd H a o) h h' where
 keep:=fun b u q _ _ _=>k b u q
 slot:=fun b u q _ _ _=>⟨u.slots,k b u q⟩
 free:=fun b u q n _=>by rw [aL (Nat.ne_of_lt (Nat.lt_of_lt_of_le (Heap.lt_size q) hp))];exact n
 there:=fun b u q _=>⟨u,k b u q⟩
 tups:=fun b xs q=>by rw [aL (av q hn)];exact q
 frzs:=fun b u xs q=>by rw [aL (av q hn)];exact q
 tbls:=fun b ps q=>⟨#[],by rw [aL (av q hn),q];simp⟩
theorem Un.write (mu:Mut (H x))(he:e=x\/H e=some (.own x))(k:∀b u,b≠e->h.get? b=some u->h'.get? b=some u)(heo:∃u,h'.get? e=some u):Un fs ex H (upd H x o) h h':=by
 have hx:∀b,H b=none->b≠x:=fun b n z=>by subst z;rw [n] at mu;exact mu
 have hb:∀b,H b=none->b≠e:=fun b n z=>by
  subst z
  rcases he with r | r
  ·exact hx b n r
  ·rw [n] at r;cases r
 have hm:∀b u,H b=some u->¬Mut (some u)->b≠x:=fun b u q nm z=>by subst z;rw [q] at mu;exact nm mu
 refine ⟨fun b u q n _ _=>k b u (hb b n) q,fun b u q n _ _=>⟨u.slots,k b u (hb b n) q⟩,fun b u q n _=>by rw [aL (hx b n)];exact n,fun b u q _=>?_,
  fun b xs q=>by rw [aL (hm b _ q fun z=>z)];exact q,fun b u xs q=>by rw [aL (hm b _ q fun z=>z)];exact q,fun b ps q=>⟨#[],by rw [aL (hm b _ q fun z=>z),q];simp⟩⟩
 by_cases hbe:b=e
 ·subst hbe;exact heo
 ·exact ⟨u,k b u hbe q⟩
end
noncomputable def trk (h:Heap)(H:Hp):List Addr:=(List.range h.objs.size).filter fun a=>(H a).isSome
noncomputable def B4 (h:Heap)(H:Hp):Heap:=W.hideAll h (trk h H)
theorem HY (h:Heap)(H:Hp):(B4 h H).objs.size=h.objs.size:=W.hideAll_size _ _
theorem Jn {h:Heap}{H:Hp}{b:Addr}{o:Obj}(e:h.get? b=some o)(n:H b=none):(B4 h H).get? b=some o:=
 W.hideAll_get _ e fun hm=>by
  have q:(H b).isSome=true:=(List.mem_filter.mp hm).2
  rw [n] at q;simp at q
theorem Lk {h:Heap}{H:Hp}{b:Addr}{o:Obj}(e:(B4 h H).get? b=some o):h.get? b=some o/\H b=none:=by
 have e':h.get? b=some o:=W.of_hideAll (trk h H) e
 refine ⟨e',?_⟩
 cases q:H b with
 | none=>rfl
 | some x=>
  have hm:b∈trk h H:=List.mem_filter.mpr ⟨List.mem_range.mpr (Heap.lt_size e'),by simp [q]⟩
  have z:(B4 h H).get? b=none:=W.hideAll_none (trk h H) hm
  rw [z] at e;cases e
noncomputable def Ll (g h:Heap)(L:Addr):List (Addr×Obj):=(List.range h.objs.size).filterMap fun a=>if a=L\/(g.get? a).isSome=true then none else (h.get? a).map fun o=>(a,o)
noncomputable def tU (g h:Heap)(L d:Addr):List (Addr×Obj):=(Ll g h L).filter fun p=>decide (p.1≠d)
structure Mod (K:WA)(mg:Str->Option Value)(base:Heap):Prop where
 kin:K.In base
 glob:base.Ns mainGlobals mg
 blt:∃mb,base.Ns builtinsNs mb/\∀x:Str,x≠"__name__"->mb x=bootBuiltins x
 nolimit:base.NoLimit
structure Cx where
 prog:Program
 w:World
 K:WA
 mg:Str->Option Value
 base:Heap
 A:Around
 N:List Str
 s₀:Shared
 H₀:Hp
 env:Env
 outer:List Env
 stack:List Env
 ex:List Addr
 fn:Str->Bool
 calm:Bool
 pn:List (Addr×Obj)
 xe:Value->Shared->Prop
noncomputable def frs (l:List Env):List Addr:=l.filterMap (·.frame)
noncomputable abbrev Cx.fs (X:Cx):List Addr:=frs X.outer
def Vis (sc:Scope)(x:Str):Prop:=sc.names.lookup x=some .local\/sc.names.lookup x=some .cell\/sc.names.lookup x=some .free
def Loc (sc:Scope)(x:Str):Prop:=sc.names.lookup x=some .local\/sc.names.lookup x=some .cell
def Qd (env:Env)(h:Heap)(m:Str->Option Value)(x:Str)(u:Value):Prop:=
 (env.kindOf x=some .local/\m x=some u)\/((env.kindOf x=some .cell\/env.kindOf x=some .free)/\∃c,env.cells.lookup x=some c/\h.IsCell c (some u))
structure Cx.Ok (X:Cx):Prop where
 mod:Mod X.K X.mg X.base
 kind:X.env.scope.kind=.function
 glob:X.env.globals=mainGlobals
 blt:X.env.builtins=builtinsNs
 above:X.s₀.heap.objs.size<=X.env.locals
 inj:∀x y c,X.env.cells.lookup x=some c->X.env.cells.lookup y=some c->x=y
 has:∀x,(X.env.kindOf x=some .cell\/X.env.kindOf x=some .free)->∃c,X.env.cells.lookup x=some c
 cab:∀x c,X.fn x=true->X.env.cells.lookup x=some c->X.s₀.heap.objs.size<=c
 hd:X.calm=true->X.A.handled=none
 frames:X.A.frames=some X.stack
 stk:X.stack=X.outer\/(X.stack=X.env::X.outer/\X.env.frame=some X.env.locals)
 exf:∀b∈X.ex,b≠X.env.locals/\∀x c,X.env.cells.lookup x=some c->c≠b
 bs:∀b o,X.base.get? b=some o->X.s₀.heap.get? b=some o/\X.H₀ b=none
 bsz:X.base.objs.size<=X.s₀.heap.objs.size
 noex:∀b o,X.base.get? b=some o->b∉X.ex
 exfs:∀b∈X.ex,b∉X.fs
 funs:X.s₀.heap.FunFrames X.base X.outer
 frf:∀b∈X.fs,X.H₀ b=none
structure Inv (X:Cx)(pins:List (Addr×Obj))(σ:List (Option V))(H:Hp)(s:Shared):Prop where
 ok:X.Ok
 os:s.os=X.s₀.os
 bare:AllBare s.gens
 base:Un X.fs X.ex X.H₀ H X.s₀.heap s.heap
 loc:∃m,s.heap.Ns X.env.locals m/\∀(i:Nat) (x:Str) (v:V),X.N[i]?=some x->σ[i]?=some (some v)->Vis X.env.scope x->∃u,cf v u/\Qd X.env s.heap m x u
 cell:∀x c,X.env.cells.lookup x=some c->∃v,s.heap.IsCell c v
 free:H X.env.locals=none
 freeC:∀x c,X.env.cells.lookup x=some c->H c=none
 pin:∀p∈X.pn++pins,s.heap.get? p.1=some p.2/\H p.1=none/\p.1≠X.env.locals/\p.1∉X.fs/\∀v,p.2.data≠.cell v
 hok:HOk X.prog X.w H s.heap
 len:σ.length=X.N.length
section
variable {X:Cx}{pins:List (Addr×Obj)}{σ:List (Option V)}{H H':Hp}{s:Shared}{h':Heap}
theorem Cx.Ok.nofr (ok:X.Ok){b:Addr}{o:Obj}(e:X.base.get? b=some o):b∉X.fs:=fun hb=>by
 have:=(ok.funs.mem hb).1
 rw [e] at this;cases this
theorem Inv.bs (I:Inv X pins σ H s):∀b o,X.base.get? b=some o->s.heap.get? b=some o/\H b=none:=fun b o e=>
 ⟨I.base.keep b o (I.ok.bs b o e).1 (I.ok.bs b o e).2 (I.ok.nofr e) (I.ok.noex b o e),I.base.free b o (I.ok.bs b o e).1 (I.ok.bs b o e).2 (I.ok.noex b o e)⟩
theorem Inv.bk (I:Inv X pins σ H s):∀b o,X.base.get? b=some o->s.heap.get? b=some o:=fun b o e=>(I.bs b o e).1
theorem Inv.mod (I:Inv X pins σ H s):Mod X.K X.mg X.base:=I.ok.mod
theorem Inv.kIn (I:Inv X pins σ H s):X.K.In s.heap:=I.ok.mod.kin.keeps I.bk
theorem Inv.fr (I:Inv X pins σ H s):∃m,Fr X.base X.env.locals s.heap m:=
 let ⟨m,hn,_⟩:=I.loc
 ⟨m,hn,I.bk,Nat.le_trans I.ok.bsz I.ok.above⟩
theorem Inv.lt (I:Inv X pins σ H s):X.env.locals < s.heap.objs.size:=let ⟨_,hn,_⟩:=I.loc;hn.lt
theorem Inv.sz (I:Inv X pins σ H s):X.s₀.heap.objs.size<=s.heap.objs.size:=Nat.le_trans I.ok.above (Nat.le_of_lt I.lt)
theorem Inv.nofs (I:Inv X pins σ H s){a:Addr}(h:s.heap.objs.size<=a):a∉X.fs:=fun hb=>by
 obtain ⟨_,o,ho,_⟩:=I.ok.funs.mem hb
 exact absurd (Nat.lt_of_lt_of_le (Heap.lt_size ho) (Nat.le_trans I.sz h)) (Nat.lt_irrefl _)
theorem Inv.cne (I:Inv X pins σ H s):∀x c,X.env.cells.lookup x=some c->c≠X.env.locals:=fun x c e z=>by
 obtain ⟨v,o,ho,hd⟩:=I.cell x c e
 obtain ⟨m,⟨o',es,ep,ho',hd',_⟩,_⟩:=I.loc
 rw [z,ho'] at ho;cases ho;rw [hd'] at hd;cases hd
theorem Inv.funs (I:Inv X pins σ H s):s.heap.FunFrames X.base X.outer:=by
 have all:∀(l:List Env),(∀b∈frs l,b∈X.fs)->X.s₀.heap.FunFrames X.base l->s.heap.FunFrames X.base l:=by
  intro l
  induction l with
  | nil=>intro _ _;trivial
  | cons env r ih=>
   intro hs hl
   obtain ⟨hk,⟨L,o,hf,hn,ho,hd⟩,hr⟩:=hl
   have hL:L∈X.fs:=hs L (by unfold frs;rw [List.filterMap_cons,hf];exact List.mem_cons_self)
   obtain ⟨sl,e⟩:=I.base.slot L o ho (I.ok.frf L hL) hL fun z=>I.ok.exfs L z hL
   exact ⟨hk,⟨L,_,hf,hn,e,hd⟩,ih (fun b hb=>hs b (by unfold frs;rw [List.filterMap_cons,hf];exact List.mem_cons_of_mem _ hb)) hr⟩
 exact all X.outer (fun _ hb=>hb) I.ok.funs
theorem Inv.stack (I:Inv X pins σ H s):s.heap.FunFrames X.base X.stack:=by
 rcases I.ok.stk with e | ⟨e,hf⟩
 ·rw [e];exact I.funs
 ·rw [e]
  obtain ⟨m,hn,_⟩:=I.loc
  refine .cons (by rw [I.ok.kind];decide) hf hn ?_ I.funs
  exact Heap.get?_none_of_le (Nat.le_trans I.ok.bsz I.ok.above)
theorem Inv.stkSub (I:Inv X pins σ H s):∀b∈frs X.stack,b∈X.env.locals::X.fs:=fun b hb=>by
 rcases I.ok.stk with e | ⟨e,hf⟩
 ·rw [e] at hb;exact List.mem_cons_of_mem _ hb
 ·rw [e] at hb
  unfold frs at hb
  rw [List.filterMap_cons,hf] at hb
  exact hb
theorem Inv.stkFree (I:Inv X pins σ H s):∀b∈frs X.stack,H b=none:=fun b hb=>by
 rcases List.mem_cons.mp (I.stkSub b hb) with e | hb
 ·rw [e];exact I.free
 ·obtain ⟨_,o,ho,_⟩:=I.ok.funs.mem hb
  exact I.base.free b o ho (I.ok.frf b hb) fun z=>I.ok.exfs b z hb
theorem Inv.step {g':Array GenState}{t':Nat}{d':Drawn}{ch:List Addr}(I:Inv X pins σ H s)
  (hch:∀b∈ch,(b∈X.ex\/X.s₀.heap.objs.size<=b)/\b≠X.env.locals/\(∀x c,X.env.cells.lookup x=some c->c≠b)/\∀p∈X.pn++pins,p.1≠b)
  (keep:∀b o,b≠X.env.locals->b∉X.fs->b∉ch->s.heap.get? b=some o->H b=none->h'.get? b=some o)
  (slot:∀b o,b≠X.env.locals->b∈X.fs->b∉ch->s.heap.get? b=some o->H b=none->∃sl,h'.get? b=some {o with slots:=sl}) (free:∀b o,b∉ch->s.heap.get? b=some o->H b=none->H' b=none)
  (there:∀b o,b∉ch->s.heap.get? b=some o->∃o',h'.get? b=some o')
  (tups:∀b xs,H b=some (.tup xs)->H' b=some (.tup xs)) (frzs:∀b o u,H b=some (.frz o u)->H' b=some (.frz o u)) (tbls:∀b ps,H b=some (.tbl ps)->∃more,H' b=some (.tbl (ps++more)))
  (ns:∀m,s.heap.Ns X.env.locals m->h'.Ns X.env.locals m) (hok:HOk X.prog X.w H' h') (hg:AllBare g') :
  Inv X pins σ H' {s with heap:=h',gens:=g',drawn:=d',toks:=t'}:=by
 have neL:∀b o,X.s₀.heap.get? b=some o->b≠X.env.locals:=fun b o e=>Nat.ne_of_lt (Nat.lt_of_lt_of_le (Heap.lt_size e) I.ok.above)
 have neC:∀b o,X.s₀.heap.get? b=some o->b∉X.ex->b∉ch:=fun b o e hx hb=>by
  rcases (hch b hb).1 with z | z
  ·exact hx z
  ·exact absurd (Nat.lt_of_lt_of_le (Heap.lt_size e) z) (Nat.lt_irrefl _)
 have cellK:∀x c,X.env.cells.lookup x=some c->∀v,s.heap.IsCell c v->h'.IsCell c v:=fun x c e v ⟨o,ho,hd⟩=>by
  have nch:c∉ch:=fun z=>(hch c z).2.2.1 x c e rfl
  by_cases hc:c∈X.fs
  ·obtain ⟨sl,q⟩:=slot c o (I.cne x c e) hc nch ho (I.freeC x c e)
   exact ⟨_,q,hd⟩
  ·exact ⟨o,keep c o (I.cne x c e) hc nch ho (I.freeC x c e),hd⟩
 refine ⟨I.ok,I.os,hg,⟨fun b o e n hb hx=>?_,fun b o e n hb hx=>?_,fun b o e n hx=>?_,fun b o e hx=>?_,fun b xs e=>tups b xs (I.base.tups b xs e),fun b o xs e=>frzs b o xs (I.base.frzs b o xs e),fun b ps e=>?_⟩,?_,fun x c e=>?_,?_,fun x c e=>?_,fun p hp=>?_,hok,I.len⟩
 ·exact keep b o (neL b o e) hb (neC b o e hx) (I.base.keep b o e n hb hx) (I.base.free b o e n hx)
 ·obtain ⟨sl,e1⟩:=I.base.slot b o e n hb hx
  obtain ⟨sl',e2⟩:=slot b _ (neL b o e) hb (neC b o e hx) e1 (I.base.free b o e n hx)
  exact ⟨sl',e2⟩
 ·obtain ⟨o',e1⟩:=I.base.there b o e hx
  exact free b o' (neC b o e hx) e1 (I.base.free b o e n hx)
 ·obtain ⟨o',e1⟩:=I.base.there b o e hx
  exact there b o' (neC b o e hx) e1
 ·obtain ⟨m1,e1⟩:=I.base.tbls b ps e
  obtain ⟨m2,e2⟩:=tbls b _ e1
  exact ⟨m1++m2,by rw [e2,Array.append_assoc]⟩
 ·obtain ⟨m,hn,hl⟩:=I.loc
  refine ⟨m,ns m hn,fun i x v e1 e2 e3=>?_⟩
  obtain ⟨u,r,l⟩:=hl i x v e1 e2 e3
  refine ⟨u,r,?_⟩
  rcases l with l | ⟨k,c,e,z⟩
  ·exact .inl l
  ·exact .inr ⟨k,c,e,cellK x c e _ z⟩
 ·obtain ⟨v,z⟩:=I.cell x c e
  exact ⟨v,cellK x c e v z⟩
 ·obtain ⟨m,⟨o,_,_,ho,_⟩,_⟩:=I.loc
  exact free _ o (fun z=>(hch _ z).2.1 rfl) ho I.free
 ·obtain ⟨v,o,ho,hd⟩:=I.cell x c e
  exact free c o (fun z=>(hch c z).2.2.1 x c e rfl) ho (I.freeC x c e)
 ·obtain ⟨e,n,ne,nf,d⟩:=I.pin p hp
  have nch:p.1∉ch:=fun z=>(hch p.1 z).2.2.2 p hp rfl
  exact ⟨keep p.1 p.2 ne nf nch e n,free p.1 p.2 nch e n,ne,nf,d⟩
theorem Inv.un {t':Nat}(I:Inv X pins σ H s)(u:Un X.fs [] H H' s.heap h')(hok:HOk X.prog X.w H' h'):Inv X pins σ H' {s with heap:=h',toks:=t'}:=by
 obtain ⟨m,⟨o,es,ep,ho,r⟩,_⟩:=id I.loc
 obtain ⟨sl,hL⟩:=u.any ho I.free (by simp)
 exact I.step (g':=s.gens) (d':=s.drawn) (ch:=[]) (fun _ z=>nomatch z) (fun b o _ hb _ e n=>u.keep b o e n hb (by simp)) (fun b o _ hb _ e n=>u.slot b o e n hb (by simp)) (fun b o _ e n=>u.free b o e n (by simp)) (fun b o _ e=>u.there b o e (by simp)) u.tups u.frzs u.tbls (fun m' hm=>by
  obtain ⟨o',es',ep',ho',r'⟩:=hm
  rw [ho] at ho';cases ho'
  exact ⟨_,es',ep',hL,r'⟩) hok I.bare
theorem Inv.call {g':Array GenState}{t':Nat}{d':Drawn}{ch:List Addr}(I:Inv X pins σ H s)(u:Un (frs X.stack) ch H H' s.heap h')(hok:HOk X.prog X.w H' h')(hg:AllBare g')
  (hch:∀b∈ch,(b∈X.ex\/X.s₀.heap.objs.size<=b)/\b≠X.env.locals/\(∀x c,X.env.cells.lookup x=some c->c≠b)/\∀p∈X.pn++pins,p.1≠b) :
  Inv X pins σ H' {s with heap:=h',gens:=g',drawn:=d',toks:=t'}:=by
 obtain ⟨m,⟨o,es,ep,ho,r⟩,_⟩:=id I.loc
 obtain ⟨sl,hL⟩:=u.any ho I.free fun z=>(hch _ z).2.1 rfl
 exact I.step (ch:=ch) hch (fun b o hL hb hc e n=>u.keep b o e n (fun z=>(List.mem_cons.mp (I.stkSub b z)).elim hL hb) hc) (fun b o _ _ hc e n=>u.any e n hc) (fun b o hc e n=>u.free b o e n hc) (fun b o hc e=>u.there b o e hc) u.tups u.frzs u.tbls (fun m' hm=>by
  obtain ⟨o',es',ep',ho',r'⟩:=hm
  rw [ho] at ho';cases ho'
  exact ⟨_,es',ep',hL,r'⟩) hok hg
theorem Inv.turned {t':Nat}{it:Addr}(I:Inv X pins σ H s)(k:∀b o,b≠it->s.heap.get? b=some o->h'.get? b=some o)(hn:H it=none)(hL:it≠X.env.locals)
  (h1:it∈X.ex\/X.s₀.heap.objs.size<=it) (h2:∀x c,X.env.cells.lookup x=some c->c≠it) (h3:∀p∈X.pn++pins,p.1≠it):Inv X pins σ H {s with heap:=h',toks:=t'}:=by
 have nit:∀b u,H b=some u->b≠it:=fun b u e z=>by rw [z,hn] at e;cases e
 refine I.step (g':=s.gens) (d':=s.drawn) (ch:=[it]) (fun b hb=>?_) (fun b o _ _ hc e _=>k b o (fun z=>hc (by simp [z])) e) (fun b o _ _ hc e _=>⟨o.slots,k b o (fun z=>hc (by simp [z])) e⟩) (fun _ _ _ _ n=>n)
  (fun b o hc e=>⟨o,k b o (fun z=>hc (by simp [z])) e⟩) (fun _ _ e=>e) (fun _ _ _ e=>e) (fun b ps e=>⟨#[],by rw [e];simp⟩) (fun m hm=>?_) (fun b u e=>?_) I.bare
 ·have e:b=it:=by simpa using hb
  subst e
  exact ⟨h1,hL,h2,h3⟩
 ·obtain ⟨o,es,ep,ho,r⟩:=hm
  exact ⟨o,es,ep,k _ o (Ne.symm hL) ho,r⟩
 ·refine (I.hok b u e).stay (fun c v hc q=>k c v ?_ q) (fun _ q=>q) fun _ _ q=>q
  rcases hc with z | z
  ·rw [z];exact nit b u e
  ·exact nit c _ z
theorem Inv.tok (I:Inv X pins σ H s)(t:Nat):Inv X pins σ H {s with toks:=t}:=I.un (h':=s.heap) (t':=t) Un.refl I.hok
theorem Inv.kept {t':Nat}(I:Inv X pins σ H s)(k:∀b u,s.heap.get? b=some u->h'.get? b=some u):Inv X pins σ H {s with heap:=h',toks:=t'}:=I.un (Un.kept k) (I.hok.kept k)
theorem Inv.laid {a:Addr}{o:HO}{t':Nat}(I:Inv X pins σ H s)(k:∀b u,s.heap.get? b=some u->h'.get? b=some u)(hp:s.heap.objs.size<=a)(new:fO X.prog X.w (upd H a o) h' a o) :
  Inv X pins σ (upd H a o) {s with heap:=h',toks:=t'}:=I.un (Un.laid k hp (I.hok.fresh hp)) (I.hok.laid k hp new)
theorem Inv.write {x e:Addr}{o:HO}{t':Nat}(I:Inv X pins σ H s)(mu:Mut (H x))(he:e=x\/H e=some (.own x))(k:∀b u,b≠e->s.heap.get? b=some u->h'.get? b=some u)(heo:∃u,h'.get? e=some u)
  (new:fO X.prog X.w (upd H x o) h' x o):Inv X pins σ (upd H x o) {s with heap:=h',toks:=t'}:=I.un (Un.write mu he k heo) (I.hok.write mu he k heo new)
theorem Inv.weak {σ':List (Option V)}(I:Inv X pins σ H s)(hl:σ'.length=σ.length)(w:∀(i:Nat) v,σ'[i]?=some (some v)->σ[i]?=some (some v)):Inv X pins σ' H s:=
 ⟨I.ok,I.os,I.bare,I.base,let ⟨m,hn,hl'⟩:=I.loc;⟨m,hn,fun i x v e1 e2 e3=>hl' i x v e1 (w i v e2) e3⟩,I.cell,I.free,I.freeC,I.pin,I.hok,hl.trans I.len⟩
theorem Inv.pins_of {pins':List (Addr×Obj)}(I:Inv X pins σ H s)(h:∀p∈pins',s.heap.get? p.1=some p.2/\H p.1=none/\p.1≠X.env.locals/\p.1∉X.fs/\∀v,p.2.data≠.cell v):Inv X pins' σ H s:=
 ⟨I.ok,I.os,I.bare,I.base,I.loc,I.cell,I.free,I.freeC,fun p hp=>(List.mem_append.mp hp).elim (fun z=>I.pin p (List.mem_append_left _ z)) (h p),I.hok,I.len⟩
theorem yK {N:List Str}(hN:N.Nodup){i j:Nat}{x:Str}(a:N[i]?=some x)(b:N[j]?=some x):i=j:=by
 obtain ⟨h1,e1⟩:=List.getElem?_eq_some_iff.mp a
 obtain ⟨h2,e2⟩:=List.getElem?_eq_some_iff.mp b
 exact (List.getElem_inj hN).mp (e1.trans e2.symm)
theorem wD {M:Model}{A:Around}{E:Value->Shared->Prop}{i:Nat}{x:Str}{v:V}{u:Value}{Q:Unit->Shared->Prop}(I:Inv X pins σ H s)(hN:X.N.Nodup)(hi:X.N[i]?=some x)(hx:Loc X.env.scope x)(r:cf v u)
  (h:∀s',Inv X pins (σ.set i (some v)) H s'->(∃a,Heap.SameBut a s.heap s'.heap/\(a=X.env.locals\/X.env.cells.lookup x=some a))->Q () s') (hf:X.fn x=true\/X.env.scope.names.lookup x=some .local:=by first | exact .inl rfl | exact .inr rfl | assumption):wpAny M A (storeName X.env x u) Q E s:=by
 obtain ⟨m,hn,hl⟩:=id I.loc
 have hcls:(X.env.scope.kind == .class || (X.env.scope.kind == .module && X.env.locals != X.env.globals))=false:=by rw [I.ok.kind];rfl
 have hiσ:i < σ.length:=by rw [I.len];exact (List.getElem?_eq_some_iff.mp hi).1
 have cne:=I.cne
 have tracked:∀{a:Addr} {h':Heap},(∃o,s.heap.get? a=some o/\H a=none)->Heap.SameBut a s.heap h'->HOk X.prog X.w H h':=fun {a h'} ha hs b ob e=>by
  obtain ⟨_,_,hfree⟩:=ha
  refine (I.hok b ob e).stay (fun c w' hc q=>(hs.2 c ?_).trans q) (fun _ q=>q) fun _ _ q=>q
  rintro rfl
  rcases hc with rfl | hc
  ·rw [hfree] at e;cases e
  ·rw [hfree] at hc;cases hc
 rcases hx with hk | hk
 ·refine wpAny_storeName_local hk hn (fun h' hn' hs=>?_) hcls
  obtain ⟨oL,_,_,hoL,_⟩:=id hn
  refine h _ ⟨I.ok,I.os,I.bare,⟨fun b o e n hb hx=>?_,fun b o e n hb hx=>?_,I.base.free,fun b o e hx=>?_,I.base.tups,I.base.frzs,I.base.tbls⟩,⟨_,hn',fun j y v' e1 e2 e3=>?_⟩,fun y c e=>?_,I.free,I.freeC,fun p hp=>?_,tracked ⟨oL,hoL,I.free⟩ hs,by simpa using I.len⟩ ⟨_,hs,.inl rfl⟩
  ·exact (hs.2 b (Nat.ne_of_lt (Nat.lt_of_lt_of_le (Heap.lt_size e) I.ok.above))).trans (I.base.keep b o e n hb hx)
  ·obtain ⟨sl,e1⟩:=I.base.slot b o e n hb hx
   exact ⟨sl,(hs.2 b (Nat.ne_of_lt (Nat.lt_of_lt_of_le (Heap.lt_size e) I.ok.above))).trans e1⟩
  ·obtain ⟨o',e1⟩:=I.base.there b o e hx
   exact ⟨o',(hs.2 b (Nat.ne_of_lt (Nat.lt_of_lt_of_le (Heap.lt_size e) I.ok.above))).trans e1⟩
  ·by_cases hj:j=i
   ·subst hj
    rw [hi] at e1;cases e1
    rw [List.getElem?_set_self hiσ] at e2
    cases e2
    exact ⟨u,r,.inl ⟨hk,by simp⟩⟩
   ·rw [List.getElem?_set_ne (Ne.symm hj)] at e2
    obtain ⟨u',r',q⟩:=hl j y v' e1 e2 e3
    refine ⟨u',r',?_⟩
    rcases q with ⟨k,e⟩ | ⟨k,c,e,z⟩
    ·refine .inl ⟨k,?_⟩
     have:y≠x:=fun e=>hj (yK hN e1 (e▸hi))
     simp [this,e]
    ·exact .inr ⟨k,c,e,z.sameBut hs (cne y c e)⟩
  ·obtain ⟨w',z⟩:=I.cell y c e
   exact ⟨w',z.sameBut hs (cne y c e)⟩
  ·obtain ⟨e,n,ne,nf,d⟩:=I.pin p hp
   exact ⟨(hs.2 p.1 ne).trans e,n,ne,nf,d⟩
 ·have hfn:X.fn x=true:=by
   rcases hf with z | z
   ·exact z
   ·rw [z] at hk;cases hk
  obtain ⟨c,hc⟩:=I.ok.has x (.inl hk)
  obtain ⟨w',z⟩:=I.cell x c hc
  refine wpAny_storeName_cell I.ok.kind hk hc z (fun h' hc' hs=>?_)
  obtain ⟨oc,hoc,hocd⟩:=id z
  refine h {s with heap:=h'} ⟨I.ok,I.os,I.bare,⟨fun b o e n hb hx=>?_,fun b o e n hb hx=>?_,I.base.free,fun b o e hx=>?_,I.base.tups,I.base.frzs,I.base.tbls⟩,⟨m,hn.sameBut hs (Ne.symm (cne x c hc)),fun j y v' e1 e2 e3=>?_⟩,fun y c' e=>?_,I.free,I.freeC,fun p hp=>?_,tracked ⟨oc,hoc,I.freeC x c hc⟩ hs,by simpa using I.len⟩ ⟨c,hs,.inr hc⟩
  ·exact (hs.2 b (Nat.ne_of_lt (Nat.lt_of_lt_of_le (Heap.lt_size e) (I.ok.cab x c hfn hc)))).trans (I.base.keep b o e n hb hx)
  ·obtain ⟨sl,e1⟩:=I.base.slot b o e n hb hx
   exact ⟨sl,(hs.2 b (Nat.ne_of_lt (Nat.lt_of_lt_of_le (Heap.lt_size e) (I.ok.cab x c hfn hc)))).trans e1⟩
  ·obtain ⟨o',e1⟩:=I.base.there b o e hx
   exact ⟨o',(hs.2 b (Nat.ne_of_lt (Nat.lt_of_lt_of_le (Heap.lt_size e) (I.ok.cab x c hfn hc)))).trans e1⟩
  ·by_cases hj:j=i
   ·subst hj
    rw [hi] at e1;cases e1
    rw [List.getElem?_set_self hiσ] at e2
    cases e2
    exact ⟨u,r,.inr ⟨.inl hk,c,hc,hc'⟩⟩
   ·rw [List.getElem?_set_ne (Ne.symm hj)] at e2
    obtain ⟨u',r',q⟩:=hl j y v' e1 e2 e3
    refine ⟨u',r',?_⟩
    rcases q with q | ⟨k,c',e,z'⟩
    ·exact .inl q
    ·refine .inr ⟨k,c',e,z'.sameBut hs ?_⟩
     rintro rfl
     exact hj (yK hN e1 (I.ok.inj _ _ _ e hc▸hi))
  ·by_cases hcc:c'=c
   ·subst hcc;exact ⟨_,hc'⟩
   ·obtain ⟨w2,z2⟩:=I.cell y c' e
    exact ⟨w2,z2.sameBut hs hcc⟩
  ·obtain ⟨e,n,ne,nf,d⟩:=I.pin p hp
   refine ⟨(hs.2 p.1 ?_).trans e,n,ne,nf,d⟩
   intro q
   rw [q,hoc] at e
   have q':oc=p.2:=Option.some.inj e
   exact d w' (by rw [←q'];exact hocd)
theorem kT {M:Model}{A:Around}{E:Value->Shared->Prop}{i:Nat}{x:Str}{v:V}{u:Value}{Q:Unit->Shared->Prop}(I:Inv X pins σ H s)(hN:X.N.Nodup)(hi:X.N[i]?=some x)(hx:Loc X.env.scope x)(r:cf v u)
  (h:∀s',Inv X pins (σ.set i (some v)) H s'->Q () s') (hf:X.fn x=true\/X.env.scope.names.lookup x=some .local:=by first | exact .inl rfl | exact .inr rfl | assumption):wpAny M A (storeName X.env x u) Q E s:=
 wD I hN hi hx r (fun s' I' _=>h s' I') hf
theorem Inv.call' {s':Shared}{ch:List Addr}(I:Inv X pins σ H s)(ho:s'.os=s.os)(u:Un (frs X.stack) ch H H' s.heap s'.heap)(hok:HOk X.prog X.w H' s'.heap)(hg:AllBare s'.gens)
  (hch:∀b∈ch,(b∈X.ex\/X.s₀.heap.objs.size<=b)/\b≠X.env.locals/\(∀x c,X.env.cells.lookup x=some c->c≠b)/\∀p∈X.pn++pins,p.1≠b):Inv X pins σ H' s':=by
 obtain ⟨h',g',d',t',o'⟩:=s'
 have e:o'=s.os:=ho
 subst e
 exact I.call (g':=g') (t':=t') (d':=d') u hok hg hch
end
noncomputable abbrev XK:=Value->Option Addr->Hp->Prop
noncomputable abbrev St:=List (Option V)
noncomputable abbrev VK:=V->Hp->Prop
noncomputable abbrev TE:=St->Hp->VK->Prop
noncomputable abbrev TT:=St->Hp->(Bool->Hp->Prop)->Prop
noncomputable abbrev TA:=St->Hp->(List V->Hp->Prop)->Prop
structure oz where
 nx:St->Hp->Prop
 rt:VK
 bk:St->Hp->Prop:=fun _ _=>False
 ct:St->Hp->Prop:=fun _ _=>False
noncomputable abbrev TS:=oz->St->Hp->Prop
def EP (X:Cx)(pins:List (Addr×Obj))(σ:St)(Q:VK)(u:Value)(s':Shared):Prop:=∃v H',Inv X pins σ H' s'/\cf v u/\Q v H'
def TP (X:Cx)(pins:List (Addr×Obj))(σ:St)(Q:Bool->Hp->Prop)(b:Bool)(s':Shared):Prop:=∃H',Inv X pins σ H' s'/\Q b H'
def AP (X:Cx)(pins:List (Addr×Obj))(σ:St)(Q:List V->Hp->Prop)(us:List Value)(s':Shared):Prop:=∃vs H',Inv X pins σ H' s'/\bL vs us/\Q vs H'
def SP (X:Cx)(pins:List (Addr×Obj))(D:oz)(f:Flow)(s':Shared):Prop:=
 match f with
 | .next=>∃σ' H',Inv X pins σ' H' s'/\D.nx σ' H'
 | .brk=>∃σ' H',Inv X pins σ' H' s'/\D.bk σ' H'
 | .cont=>∃σ' H',Inv X pins σ' H' s'/\D.ct σ' H'
 | .ret u=>∃v σ' H',Inv X pins σ' H' s'/\cf v u/\D.rt v H'
def PE (X:Cx)(e:Expr)(t:TE):Prop:=
 ∀(pins:List (Addr×Obj)) (s:Shared) (σ:St) (H:Hp) (Q:VK),Inv X pins σ H s->t σ H Q->wpAny (model X.prog X.w) X.A (eval e X.env) (EP X pins σ Q) X.xe s
def PT (X:Cx)(e:Expr)(t:TT):Prop:=
 ∀(pins:List (Addr×Obj)) (s:Shared) (σ:St) (H:Hp) (Q:Bool->Hp->Prop),Inv X pins σ H s->t σ H Q->wpAny (model X.prog X.w) X.A (isTrue e X.env (eval e X.env)) (TP X pins σ Q) X.xe s
def PW (X:Cx)(e:Expr)(t:TT):Prop:=
 ∀(cG:Sem Value) (pins:List (Addr×Obj)) (s:Shared) (σ:St) (H:Hp) (Q:Bool->Hp->Prop),Inv X pins σ H s->t σ H Q->wpAny (model X.prog X.w) X.A (isTrue e X.env cG) (TP X pins σ Q) X.xe s
theorem PW.pt {X:Cx}{e:Expr}{t:TT}(h:PW X e t):PT X e t:=h _
def PA (X:Cx)(es:List Expr)(t:TA):Prop:=
 ∀(pos:Pos) (pins:List (Addr×Obj)) (s:Shared) (σ:St) (H:Hp) (Q:List V->Hp->Prop),Inv X pins σ H s->t σ H Q->wpAny (model X.prog X.w) X.A (spliced (backTo pos (starEach es X.env))) (AP X pins σ Q) X.xe s
def PS (X:Cx)(st:Stmt)(t:TS):Prop:=
 ∀(pins:List (Addr×Obj)) (s:Shared) (σ:St) (H:Hp) (D:oz),Inv X pins σ H s->t D σ H->wpAny (model X.prog X.w) X.A (exec st X.env) (SP X pins D) X.xe s
def PSs (X:Cx)(st:List Stmt)(t:TS):Prop:=
 ∀(pins:List (Addr×Obj)) (s:Shared) (σ:St) (H:Hp) (D:oz),Inv X pins σ H s->t D σ H->wpAny (model X.prog X.w) X.A (execs st X.env) (SP X pins D) X.xe s
theorem thn {α:Type}{t:Sem α}{Q Q':α->Shared->Prop}{M:Model}{A:Around}{E:Value->Shared->Prop}{s:Shared}(h:wpAny M A t Q E s)(hQ:∀a s,Q a s->Q' a s):wpAny M A t Q' E s:=wpAny_mono h hQ fun _ _ x=>x
section
variable {X:Cx}
theorem bin {a b:Expr}{ta tb:TE}(ha:PE X a ta)(hb:PE X b tb){pins:List (Addr×Obj)}{s:Shared}{σ:St}{H:Hp}{R:V->V->Hp->Prop}(I:Inv X pins σ H s)(h:ta σ H fun x H1=>tb σ H1 fun y H2=>R x y H2)
  {α:Type} {Q:α->Shared->Prop} {f:Value->Value->Sem α}
  (hf:∀v u s2 x y H2,Inv X pins σ H2 s2->cf x v->cf y u->R x y H2->wpAny (model X.prog X.w) X.A (f v u) Q X.xe s2) :
  wpAny (model X.prog X.w) X.A (eval a X.env) (fun v s₁=>wpAny (model X.prog X.w) X.A (eval b X.env) (fun u s₂=>wpAny (model X.prog X.w) X.A (f v u) Q X.xe s₂) X.xe s₁) X.xe s:=by
 refine thn (ha pins s σ H _ I h) fun v s1 ⟨x,H1,I1,r1,q1⟩=>?_
 refine thn (hb pins s1 σ H1 _ I1 q1) fun u s2 ⟨y,H2,I2,r2,q2⟩=>?_
 exact hf v u s2 x y H2 I2 r1 r2 q2
noncomputable def NC (i:Nat):TE:=fun σ H Q=>∃v,σ[i]?=some (some v)/\Q v H
noncomputable def tC (v:V):TE:=fun _ H Q=>Q v H
theorem ND {i:Nat}{x:Str}{pos:Pos}(hN:X.N[i]?=some x)(hv:Vis X.env.scope x)(hd:(x == ("__debug__":Str))=false:=by decide)(hcd:(x == ("__classdict__":Str))=false:=by decide):PE X (.Name x pos) (NC i):=by
 intro pins s σ H Q I h
 obtain ⟨v,e,h⟩:=h
 obtain ⟨m,hn,hl⟩:=I.loc
 obtain ⟨u,r,l⟩:=hl i x v hN e hv
 have fin:EP X pins σ Q u s:=⟨v,H,I,r,h⟩
 rcases l with ⟨hk,hm⟩ | ⟨hk,c,hc,hcell⟩
 ·exact wpAny_Name (wpAny_loadName_local I.ok.kind hk hn hm fin) hd
 ·rcases hk with hk | hk
  ·exact wpAny_Name (wpAny_loadName_cell I.ok.kind hk hc hcell fin) hd
  ·exact wpAny_Name (wpAny_loadName_free I.ok.kind hk hc hcell fin hcd) hd
theorem af {i j pos}:PE X (.Constant (.int i) j pos) (tC (.int i)):=fun _ _ _ H _ I h=>wpAny_Constant_int ⟨.int i,H,I.tok _,⟨_,rfl⟩,h⟩
theorem fP {b j pos}:PE X (.Constant (.bool b) j pos) (tC (.bl b)):=fun _ _ _ H _ I h=>Constant_bool ⟨.bl b,H,I,rfl,h⟩
theorem eO {j pos}:PE X (.Constant .none j pos) (tC .non):=fun _ _ _ H _ I h=>Constant_none ⟨.non,H,I,rfl,h⟩
theorem aq {x j pos}:PE X (.Constant (.str x) j pos) (tC (.str x)):=fun _ _ _ H _ I h=>Calls.Constant_str ⟨.str x,H,I.tok _,⟨_,rfl⟩,h⟩
def Gl (X:Cx)(x:Str):Prop:=X.env.kindOf x=some .globalImplicit
theorem qW {E:Value->Shared->Prop}{pins:List (Addr×Obj)}{s:Shared}{σ:St}{H:Hp}{x:Str}{u:Value}{pos:Pos}{Q:Value->Shared->Prop}(I:Inv X pins σ H s)(hg:Gl X x)(hm:X.mg x=some u)(h:Q u s)
  (hd:(x == ("__debug__":Str))=false:=by decide):wpAny (model X.prog X.w) X.A (eval (.Name x pos) X.env) Q E s:=
 Calls.Name_function_global I.ok.kind hg (Calls.loadGlobal_global (by rw [I.ok.glob];exact I.mod.glob.keeps I.bk) hm h) hd
theorem tV {E:Value->Shared->Prop}{pins:List (Addr×Obj)}{s:Shared}{σ:St}{H:Hp}{x:Str}{u:Value}{pos:Pos}{Q:Value->Shared->Prop}(I:Inv X pins σ H s)(hg:Gl X x)(hm:X.mg x=none)(hv:bootBuiltins x=some u)(h:Q u s)
  (hn:x≠"__name__":=by decide) (hd:(x == ("__debug__":Str))=false:=by decide):wpAny (model X.prog X.w) X.A (eval (.Name x pos) X.env) Q E s:=by
 obtain ⟨mb,h1,h2⟩:=I.mod.blt
 exact Calls.Name_function_global I.ok.kind hg (Calls.loadGlobal_builtin (by rw [I.ok.glob];exact I.mod.glob.keeps I.bk) hm (by rw [I.ok.blt];exact h1.keeps I.bk) ((h2 x hn).trans hv) h) hd
theorem eh {x:Str}{v:V}{u:Value}{pos:Pos}(hg:Gl X x)(hm:X.mg x=some u)(r:cf v u)(hd:(x == ("__debug__":Str))=false:=by decide):PE X (.Name x pos) (tC v):=
 fun _ _ _ H _ I h=>qW I hg hm ⟨v,H,I,r,h⟩ hd
theorem fm {x:Str}{v:V}{u:Value}{pos:Pos}(hg:Gl X x)(hm:X.mg x=none)(hv:bootBuiltins x=some u)(r:cf v u)(hn:x≠"__name__":=by decide)(hd:(x == ("__debug__":Str))=false:=by decide):PE X (.Name x pos) (tC v):=
 fun _ _ _ H _ I h=>tV I hg hm hv ⟨v,H,I,r,h⟩ hn hd
variable {a b:Expr}{ta tb:TE}{pos:Pos}
def PC (X:Cx)(op:CmpOp)(a b:Expr)(t:TE):Prop:=
 ∀(pins:List (Addr×Obj)) (s:Shared) (σ:St) (H:Hp) (Q:VK),Inv X pins σ H s->t σ H Q->
  wpAny (model X.prog X.w) X.A (eval a X.env) (fun v s₁=>wpAny (model X.prog X.w) X.A (eval b X.env) (fun u s₂=>wpAny (model X.prog X.w) X.A (compareOp op v u) (EP X pins σ Q) X.xe s₂) X.xe s₁) X.xe s
theorem Jo (b:Expr){op:CmpOp}(h:op≠.In)(h2:op≠.NotIn):behindInMarks op b=false:=by
 have e1:(op == CmpOp.In)=false:=by cases op<;>first | rfl | exact absurd rfl h
 have e2:(op == CmpOp.NotIn)=false:=by cases op<;>first | rfl | exact absurd rfl h2
 cases b<;>simp [behindInMarks,e1,e2]
noncomputable def tB (t:TE):TT:=fun σ H Q=>t σ H fun x H1=>∃c,x=.bl c/\Q c H1
theorem Qe {op:CmpOp}{t:TE}(h:PC X op a b t)(h1:behindInMarks op b=false:=by first | exact Jo _ (by decide) (by decide) | rfl):PT X (.Compare a [op] [b] pos) (tB t):=by
 intro pins s σ H Q I hw
 refine wpAny_isTrue_Compare1 (thn (h pins s σ H _ I hw) fun v s1 h1=>thn h1 fun u s2 h2=>thn h2 fun c s3 ⟨x,H1,I1,r1,q1⟩=>?_) h1
 obtain ⟨d,rfl,q⟩:=q1
 cases r1
 exact wpAny_truthy_bool ⟨H1,I1,q⟩
theorem NF {e:Expr}{t:TE}(h:PE X e t)(he:∀cG,isTrue e X.env cG=(do let v ←cG;standAt e.pos;holding [v] (truthy v)):=by intro _;rfl):PT X e (tB t):=by
 intro pins s σ H Q I hw
 refine isTrue_plain (thn (h pins s σ H _ I hw) fun v s1 ⟨x,H1,I1,r1,q1⟩=>?_) (he _)
 obtain ⟨d,rfl,q⟩:=q1
 cases r1
 exact wpAny_truthy_bool ⟨H1,I1,q⟩
variable {tA tB':TT}{tU:List Expr}
noncomputable def O2 (t u:TT):TT:=fun σ H Q=>t σ H fun c H1=>if c=true then u σ H1 Q else Q false H1
noncomputable def tOr (t u:TT):TT:=fun σ H Q=>t σ H fun c H1=>if c=true then Q true H1 else u σ H1 Q
noncomputable def O3 (t:TT):TT:=fun σ H Q=>t σ H fun c H1=>Q (!c) H1
theorem me (ha:PT X a tA):PW X (.BoolOp .And [a] pos) tA:=by
 intro wh pins s σ H Q I h
 refine isTrue_and (thn (ha pins s σ H Q I h) fun c s1 e=>?_)
 cases c with
 | true=>exact isTrue_and_nil e
 | false=>exact e
theorem gw (ha:PT X a tA):PW X (.BoolOp .Or [a] pos) tA:=by
 intro wh pins s σ H Q I h
 refine isTrue_or (thn (ha pins s σ H Q I h) fun c s1 e=>?_)
 cases c with
 | false=>exact isTrue_or_nil e
 | true=>exact e
theorem tW (ha:PT X a tA)(hb:PW X (.BoolOp .And (b::tU) pos) tB'):PW X (.BoolOp .And (a::b::tU) pos) (O2 tA tB'):=by
 intro wh pins s σ H Q I h
 refine isTrue_and (thn (ha pins s σ H _ I h) fun c s1 ⟨H1,I1,q1⟩=>?_)
 cases c with
 | true=>exact hb wh pins s1 σ H1 Q I1 q1
 | false=>exact ⟨H1,I1,q1⟩
theorem iJ (ha:PT X a tA)(hb:PW X (.BoolOp .Or (b::tU) pos) tB'):PW X (.BoolOp .Or (a::b::tU) pos) (tOr tA tB'):=by
 intro wh pins s σ H Q I h
 refine isTrue_or (thn (ha pins s σ H _ I h) fun c s1 ⟨H1,I1,q1⟩=>?_)
 cases c with
 | true=>exact ⟨H1,I1,q1⟩
 | false=>exact hb wh pins s1 σ H1 Q I1 q1
theorem eY (ha:PT X a tA):PT X (.UnaryOp .Not a pos) (O3 tA):=by
 intro pins s σ H Q I h
 exact isTrue_not (ha pins s σ H (fun c H1=>Q (!c) H1) I h)
noncomputable def MV (ta tb:TE):TE:=fun σ H Q=>ta σ H fun x H1=>∃c,x=.bl c/\if c=true then tb σ H1 Q else Q (.bl false) H1
theorem yL {op}{t:TE}(h:PE X a t):PE X (.BoolOp op [a] pos) t:=fun pins s σ H Q I hw=>BoolOp_one (h pins s σ H Q I hw)
theorem NG (ha:PE X a ta)(hb:PE X (.BoolOp .And (b::tU) pos) tb):PE X (.BoolOp .And (a::b::tU) pos) (MV ta tb):=by
 intro pins s σ H Q I h
 refine BoolOp_and (thn (ha pins s σ H _ I h) fun v s1 ⟨x,H1,I1,r1,q1⟩=>?_)
 obtain ⟨c,rfl,q1⟩:=q1
 cases r1
 refine wpAny_truthy_bool ?_
 cases c with
 | true=>exact hb pins s1 σ H1 Q I1 q1
 | false=>exact ⟨.bl false,H1,I1,rfl,q1⟩
noncomputable def tIf (t:TT)(ta tb:TE):TE:=fun σ H Q=>t σ H fun c H1=>if c=true then ta σ H1 Q else tb σ H1 Q
theorem Dj {c:Expr}(hc:PT X c tA)(ha:PE X a ta)(hb:PE X b tb):PE X (.IfExp c a b pos) (tIf tA ta tb):=by
 intro pins s σ H Q I h
 refine wpAny_IfExp (thn (hc pins s σ H _ I h) fun d s1 ⟨H1,I1,q1⟩=>?_)
 cases d with
 | true=>exact ha pins s1 σ H1 Q I1 q1
 | false=>exact hb pins s1 σ H1 Q I1 q1
end
def SqL (K:WA)(H:Hp)(a:Addr)(xs:List V):Prop:=
 Rd H a (.lst xs)\/
  ∃(o:Obj) (its:Array Value) (n:Nat),K.lookup a=some o/\o.cls=.type "list"/\o.dict=none/\o.data=.seq its n/\its.size<=sizeLine/\bL xs its.toList
def SqT (K:WA)(H:Hp)(a:Addr)(xs:List V):Prop:=
 Rd H a (.tup xs)\/
  ∃(o:Obj) (its:Array Value) (n:Nat),K.lookup a=some o/\o.cls=.type "tuple"/\o.data=.seq its n/\its.size<=sizeLine/\bL xs its.toList
noncomputable def Qf:Value->Option V
 | .none=>some .non
 | .bool b=>some (.bl b)
 | .int i _=>some (.int i)
 | .str x _=>some (.str x)
 | .bytes b _=>some (.byt b)
 | .float b _=>some (.flt b)
 | .ref a=>some (.ref a)
 | .type n=>some (.ty n)
 | _=>none
theorem cf.abs {x:V}{u:Value}(r:cf x u):Qf u=some x:=by
 cases x with
 | non=>cases r;rfl
 | bl _=>cases r;rfl
 | int _=>obtain ⟨t,rfl⟩:=r;rfl
 | str _=>obtain ⟨t,rfl⟩:=r;rfl
 | byt _=>obtain ⟨t,rfl⟩:=r;rfl
 | flt _=>obtain ⟨t,rfl⟩:=r;rfl
 | ref _=>cases r;rfl
 | ty _=>cases r;rfl
theorem cf.inj {x y:V}{u:Value}(r:cf x u)(q:cf y u):x=y:=Option.some.inj (r.abs.symm.trans q.abs)
theorem bL.inj:∀{xs ys:List V} {us:List Value},bL xs us->bL ys us->xs=ys
 | _,_,_,.nil,.nil=>rfl
 | _,_,_,.cons r t,.cons r' t'=>by rw [r.inj r',bL.inj t t']
section
variable {X:Cx}{pins:List (Addr×Obj)}{σ:St}{H:Hp}{s:Shared}{a:Addr}{xs ys:List V}
theorem SqL.of {K:WA}(h:H a=some (.lst xs)):SqL K H a xs:=.inl (.inl h)
theorem SqT.of {K:WA}(h:H a=some (.tup xs)):SqT K H a xs:=.inl (.inl h)
theorem Inv.list (I:Inv X pins σ H s)(h:SqL X.K H a xs):∃its:List Value,bL xs its/\PlainL s.heap a its.toArray/\xs.length<=sizeLine:=by
 rcases h with h | ⟨o,its,n,hk,hc,hd,hs,hz,r⟩
 ·obtain ⟨z,its,n,r,e⟩:=h.ok I.hok
  exact ⟨its,r,⟨_,n,e,rfl,rfl,rfl⟩,z⟩
 ·refine ⟨its.toList,r,⟨o,n,I.kIn a o hk,hc,hd,by simpa using hs⟩,?_⟩
  have e:=r.length
  simp only [Array.length_toList] at e
  omega
theorem Inv.tuple (I:Inv X pins σ H s)(h:SqT X.K H a xs):∃its:List Value,bL xs its/\IsTup s.heap a its.toArray/\xs.length<=sizeLine:=by
 rcases h with h | ⟨o,its,n,hk,hc,hs,hz,r⟩
 ·obtain ⟨z,its,r,p⟩:=h.ok I.hok
  exact ⟨its,r,p.tup,z⟩
 ·refine ⟨its.toList,r,⟨o,I.kIn a o hk,hc,n,by simpa using hs⟩,?_⟩
  have e:=r.length
  simp only [Array.length_toList] at e
  omega
theorem Inv.list_inj (I:Inv X pins σ H s)(h:SqL X.K H a xs)(h':SqL X.K H a ys):xs=ys:=by
 obtain ⟨its,r,⟨o,n,e,_,_,d⟩,_⟩:=I.list h
 obtain ⟨its',r',⟨o',n',e',_,_,d'⟩,_⟩:=I.list h'
 rw [e] at e';cases e'
 rw [d] at d'
 injection d' with d1 _
 have:its=its':=by simpa using congrArg Array.toList d1
 subst this
 exact r.inj r'
end
noncomputable abbrev Cx.wish (X:Cx)(E:Value->Shared->Prop):Cx:={X with xe:=E}
noncomputable abbrev Cx.nox (X:Cx):Cx:=X.wish fun _ _=>False
theorem Cx.Ok.wish {X:Cx}(ok:X.Ok)(E:Value->Shared->Prop):(X.wish E).Ok:=
 ⟨ok.mod,ok.kind,ok.glob,ok.blt,ok.above,ok.inj,ok.has,ok.cab,ok.hd,ok.frames,ok.stk,ok.exf,ok.bs,ok.bsz,ok.noex,ok.exfs,ok.funs,ok.frf⟩
theorem Cx.Ok.unwish {X:Cx}{E:Value->Shared->Prop}(ok:(X.wish E).Ok):X.Ok:=
 ⟨ok.mod,ok.kind,ok.glob,ok.blt,ok.above,ok.inj,ok.has,ok.cab,ok.hd,ok.frames,ok.stk,ok.exf,ok.bs,ok.bsz,ok.noex,ok.exfs,ok.funs,ok.frf⟩
section
variable {X:Cx}{pins:List (Addr×Obj)}{σ:St}{H:Hp}{s:Shared}{E:Value->Shared->Prop}
theorem Inv.wish (I:Inv X pins σ H s)(E:Value->Shared->Prop):Inv (X.wish E) pins σ H s:=⟨I.ok.wish E,I.os,I.bare,I.base,I.loc,I.cell,I.free,I.freeC,I.pin,I.hok,I.len⟩
theorem Inv.unwish (I:Inv (X.wish E) pins σ H s):Inv X pins σ H s:=⟨I.ok.unwish,I.os,I.bare,I.base,I.loc,I.cell,I.free,I.freeC,I.pin,I.hok,I.len⟩
theorem SP.unwish {D:oz}{f:Flow}{s':Shared}(h:SP (X.wish E) pins D f s'):SP X pins D f s':=by
 cases f with
 | next=>obtain ⟨σ',H',I,q⟩:=h;exact ⟨σ',H',I.unwish,q⟩
 | brk=>obtain ⟨σ',H',I,q⟩:=h;exact ⟨σ',H',I.unwish,q⟩
 | cont=>obtain ⟨σ',H',I,q⟩:=h;exact ⟨σ',H',I.unwish,q⟩
 | ret u=>obtain ⟨v,σ',H',I,r,q⟩:=h;exact ⟨v,σ',H',I.unwish,r,q⟩
theorem PSs.nox {st:List Stmt}{t:TS}(h:PSs X.nox st t):PSs X st t:=fun pins s σ H D I hw=>
 wpAny_mono (h pins s σ H D (I.wish _) hw) (fun _ _ q=>q.unwish) fun _ _ z=>False.elim z
end
section
variable {X:Cx}{st:Stmt}{tU:List Stmt}{t u:TS}{e:Expr}{te:TE}{pos:Pos}
noncomputable def MW:TS:=fun D σ H=>D.nx σ H
noncomputable def O4 (t u:TS):TS:=fun D σ H=>t {D with nx:=u D} σ H
theorem aA:PSs X [] MW:=fun _ _ σ H _ I h=>wpAny_execs_nil ⟨σ,H,I,h⟩
theorem ae (h1:PS X st t)(h2:PSs X tU u):PSs X (st::tU) (O4 t u):=by
 intro pins s σ H D I h
 refine wpAny_execs_cons (thn (h1 pins s σ H {D with nx:=u D} I h) fun f s1 q=>?_)
 cases f with
 | next=>
  obtain ⟨σ',H',I',q⟩:=q
  exact h2 pins s1 σ' H' D I' q
 | ret v=>exact q
 | brk=>exact q
 | cont=>exact q
theorem ag (h1:PS X st t):PSs X [st] t:=by
 intro pins s σ H D I h
 refine wpAny_execs_cons (thn (h1 pins s σ H D I h) fun f s1 q=>?_)
 cases f with
 | next=>exact wpAny_execs_nil q
 | ret v=>exact q
 | brk=>exact q
 | cont=>exact q
theorem Inv.quiet {pins:List (Addr×Obj)}{σ:St}{H:Hp}{s:Shared}(I:Inv X pins σ H s):interactive X.env=false:=by simp [interactive,I.ok.kind]
noncomputable def MX (te:TE):TS:=fun D σ H=>te σ H fun _ H1=>D.nx σ H1
theorem bN (he:PE X e te)(hs:swapsWith e none pos.line X.env=pure false:=by rfl):PS X (.Expr e pos) (MX te):=by
 intro pins s σ H D I h
 exact wpAny_Expr_any (thn (he pins s σ H _ I h) fun v s1 ⟨x,H1,I1,r1,q1⟩=>⟨σ,H1,I1,q1⟩) I.quiet hs
noncomputable def O5 (te:TE):TS:=fun D σ H=>te σ H D.rt
theorem ax (he:PE X e te):PS X (.Return (some e) pos) (O5 te):=by
 intro pins s σ H D I h
 exact wpAny_Return_some (thn (he pins s σ H _ I h) fun v s1 ⟨x,H1,I1,r1,q1⟩=>⟨x,σ,H1,I1,r1,q1⟩)
noncomputable def O6 (c:TT)(t u:TS):TS:=fun D σ H=>c σ H fun b H1=>if b=true then t D σ H1 else u D σ H1
theorem aM {c:Expr}{a b:List Stmt}{tc:TT}(hc:PT X c tc)(ha:PSs X a t)(hb:PSs X b u):PS X (.If c a b pos) (O6 tc t u):=by
 intro pins s σ H D I h
 refine wpAny_If (thn (hc pins s σ H _ I h) fun d s1 ⟨H1,I1,q1⟩=>?_)
 cases d with
 | true=>exact ha pins s1 σ H1 D I1 q1
 | false=>exact hb pins s1 σ H1 D I1 q1
end
noncomputable abbrev TG:=V->St->Hp->(St->Hp->Prop)->Prop
noncomputable abbrev TGs:=List V->St->Hp->(St->Hp->Prop)->Prop
def PG (X:Cx)(target:Expr)(t:TG):Prop:=
 ∀(pins:List (Addr×Obj)) (s:Shared) (σ:St) (H:Hp) (v:V) (u:Value) (Q:St->Hp->Prop),Inv X pins σ H s->cf v u->t v σ H Q->
  wpAny (model X.prog X.w) X.A (assign target X.env u) (fun _ s'=>∃σ' H',Inv X pins σ' H' s'/\Q σ' H') X.xe s
def PGs (X:Cx)(ts:List Expr)(t:TGs):Prop:=
 ∀(pins:List (Addr×Obj)) (s:Shared) (σ:St) (H:Hp) (vs:List V) (us:List Value) (Q:St->Hp->Prop),Inv X pins σ H s->bL vs us->t vs σ H Q->
  wpAny (model X.prog X.w) X.A (assignInOrder ((assignEach ts X.env).map (·.2)) us) (fun _ s'=>∃σ' H',Inv X pins σ' H' s'/\Q σ' H') X.xe s
noncomputable abbrev NH:=V->V->V->Hp->(Hp->Prop)->Prop
def NJ (X:Cx)(t:NH):Prop:=
 ∀(pins:List (Addr×Obj)) (s:Shared) (σ:St) (H:Hp) (o i v:V) (ov iv u:Value) (Q:Hp->Prop),Inv X pins σ H s->cf o ov->cf i iv->cf v u->t o i v H Q->
  wpAny (model X.prog X.w) X.A (setItem ov iv u) (fun _ s'=>∃H',Inv X pins σ H' s'/\Q H') X.xe s
section
variable {X:Cx}{pos:Pos}
noncomputable def eP (i:Nat):TG:=fun v σ H Q=>Q (σ.set i (some v)) H
theorem aJ {i:Nat}{x:Str}(hN:X.N.Nodup)(hi:X.N[i]?=some x)(hx:Loc X.env.scope x)(hf:X.fn x=true\/X.env.scope.names.lookup x=some .local:=by first | exact .inl rfl | exact .inr rfl | assumption):PG X (.Name x pos) (eP i):=by
 intro pins s σ H v u Q I r h
 exact wpAny_assign_Name (kT I hN hi hx r (fun s' I'=>⟨_,H,I',h⟩) hf)
noncomputable def NK:TGs:=fun vs σ H Q=>vs=[]/\Q σ H
noncomputable def Dk (t:TG)(u:TGs):TGs:=fun vs σ H Q=>∃v r,vs=v::r/\t v σ H fun σ' H'=>u r σ' H' Q
theorem Lm:PGs X [] NK:=by
 intro pins s σ H vs us Q I r h
 obtain ⟨e,h⟩:=h
 subst e
 cases r
 exact assignInOrder_nil ⟨σ,H,I,h⟩
theorem Jp {e:Expr}{es:List Expr}{t:TG}{u:TGs}(h1:PG X e t)(h2:PGs X es u)
  (hs:(assignEach (e::es) X.env).map (·.2)=assign e X.env::(assignEach es X.env).map (·.2):=by rfl):PGs X (e::es) (Dk t u):=by
 intro pins s σ H vs us Q I r h
 obtain ⟨v,vr,e1,h⟩:=h
 subst e1
 cases r with
 | cons r rr=>
  rw [hs]
  refine assignInOrder_cons (thn (h1 pins s σ H _ _ _ I r h) fun _ s1 ⟨σ1,H1,I1,q1⟩=>?_)
  exact h2 pins s1 σ1 H1 _ _ Q I1 rr q1
noncomputable def NL (K:WA)(n:Nat)(t:TGs):TG:=fun v σ H Q=>∃a xs,v=.ref a/\SqT K H a xs/\xs.length=n/\t xs σ H Q
theorem NM {es:List Expr}{k:Nat}{t:TGs}{n:Nat}(hc:X.calm=true)(h:PGs X es t)
  (hn:(assignEach es X.env).length=n:=by rfl) (hst:(assignEach es X.env).findIdx? (·.1)=none:=by rfl):PG X (.Tuple es k pos) (NL X.K n t):=by
 intro pins s σ H v u Q I r hw
 obtain ⟨a,xs,e1,hq,hl,hw⟩:=hw
 subst e1
 cases r
 obtain ⟨its,rv,ht,hz⟩:=I.tuple hq
 refine assign_Tuple_tuple (I.ok.hd hc) ht (by simp [hn,←hl,rv.length]) hst fun h' hx=>?_
 have I1:Inv X pins σ H {s with heap:=h'}:=I.kept (t':=s.toks) fun b o e=>hx b o (Nat.ne_of_lt (Heap.lt_size e)) e
 exact h pins _ σ H xs _ Q I1 (by simpa using rv) hw
noncomputable def O7 (to ti:TE)(t:NH):TG:=fun v σ H Q=>to σ H fun o H1=>ti σ H1 fun i H2=>t o i v H2 fun H3=>Q σ H3
theorem yM {o i:Expr}{to ti:TE}{t:NH}(ho:PE X o to)(hi:PE X i ti)(hs:NJ X t)
  (ha:∀v,assign (.Subscript o i pos) X.env v=(do
   let ov ←holding [v] (eval o X.env)
   let iv ←holding [v,ov] (eval i X.env)
   standAt pos
   holding [v,ov,iv] (setItem ov iv v)
   release [v,ov,iv] []):=by intro _;rfl):PG X (.Subscript o i pos) (O7 to ti t):=by
 intro pins s σ H v u Q I r h
 rw [ha]
 refine wpAny_bind (wpAny_holding (thn (ho pins s σ H _ I h) fun ov s1 ⟨x,H1,I1,r1,q1⟩=>?_))
 refine wpAny_bind (wpAny_holding (thn (hi pins s1 σ H1 _ I1 q1) fun iv s2 ⟨y,H2,I2,r2,q2⟩=>?_))
 refine wpAny_bind (wpAny_standAt (wpAny_bind (wpAny_holding (thn (hs pins s2 σ H2 x y v ov iv u _ I2 r1 r2 r q2) fun _ s3 ⟨H3,I3,q3⟩=>?_))))
 exact wpAny_release ⟨σ,H3,I3,q3⟩
noncomputable def Fl (te:TE)(g:TG):TS:=fun D σ H=>te σ H fun x H1=>g x σ H1 D.nx
theorem oM {tg e:Expr}{te:TE}{g:TG}(he:PE X e te)(hg:PG X tg g)(hs:swapsWithSole [tg] e pos.line X.env=pure false:=by rfl)(hw:swappedStores [tg] e X.env=pure none:=by rfl)
  (h1:(assignEach [tg] X.env).map (·.2)=[assign tg X.env]:=by rfl):PS X (.Assign [tg] e pos) (Fl te g):=by
 intro pins s σ H D I h
 refine wpAny_Assign_stores (thn (he pins s σ H _ I h) fun v s1 ⟨x,H1,I1,r1,q1⟩=>?_) hs hw
 rw [h1]
 exact thn (hg pins s1 σ H1 x v _ I1 r1 q1) fun _ s2 q=>q
theorem aF {i:Nat}{x:Str}{e:Expr}{te:TE}{pos':Pos}(hN:X.N.Nodup)(hi:X.N[i]?=some x)(hx:Loc X.env.scope x)(he:PE X e te)(hs:swapsWith e (some (.Name x pos')) pos.line X.env=pure false:=by rfl)(hf:X.fn x=true\/X.env.scope.names.lookup x=some .local:=by first | exact .inl rfl | exact .inr rfl | assumption) :
  PS X (.Assign [.Name x pos'] e pos) (Fl te (eP i)):=by
 intro pins s σ H D I h
 refine wpAny_Assign_Name (thn (he pins s σ H _ I h) fun v s1 ⟨y,H1,I1,r1,q1⟩=>?_) hs
 exact kT I1 hN hi hx r1 (fun s2 I2=>⟨_,H1,I2,q1⟩) hf
noncomputable def O8 (i j:Nat)(ta:TA):TS:=fun D σ H=>ta σ H fun vs H1=>∃v w,vs=[v,w]/\D.nx ((σ.set i (some v)).set j (some w)) H1
theorem NN {i j:Nat}{x y:Str}{a b:Expr}{ta:TA}{px py pt:Pos}{kt k2 pt2}(hc:X.calm=true)(hN:X.N.Nodup)(hi:X.N[i]?=some x)(hj:X.N[j]?=some y)(hij:i≠j)
  (hx:X.env.scope.names.lookup x=some .local) (hy:X.env.scope.names.lookup y=some .local) (ha:PA X [a,b] ta)
  (hw:swappedStores [.Tuple [.Name x px,.Name y py] kt pt] (.Tuple [a,b] k2 pt2) X.env=pure (some [x,y]))
  (hs:swapsWithSole [.Tuple [.Name x px,.Name y py] kt pt] (.Tuple [a,b] k2 pt2) pos.line X.env=pure false:=by rfl) :
  PS X (.Assign [.Tuple [.Name x px,.Name y py] kt pt] (.Tuple [a,b] k2 pt2) pos) (O8 i j ta):=by
 intro pins s σ H D I h
 rw [exec_Assign_arm]
 refine wpAny_bind (wpAny_standAt ?_)
 rw [hs]
 refine wpAny_bind (wpAny_pure ?_)
 rw [if_neg (by decide)]
 refine wpAny_bind (Tuple_ (thn (ha _ pins s σ H _ I h) fun us s1 ⟨vs,H1,I1,r1,q1⟩=>?_))
 obtain ⟨v,w,e1,q1⟩:=q1
 subst e1
 obtain ⟨u1,u2,rfl,rv,rw'⟩:∃u1 u2,us=[u1,u2]/\cf v u1/\cf w u2:=by
  cases r1 with
  | cons p q=>
   cases q with
   | cons p' q'=>
    cases q'
    exact ⟨_,_,rfl,p,p'⟩
 refine wpAny_newObj_type ?_ (by show 2<=sizeLine;decide)
 have I2:Inv X pins σ H1 {s1 with heap:=s1.heap.push {cls:=.type "tuple",data:=.seq [u1,u2].toArray}}:=I1.kept (t':=s1.toks) fun b o e=>Heap.get?_push_of_some _ e
 rw [hw]
 refine wpAny_bind (wpAny_pure ?_)
 show wpAny (model X.prog X.w) X.A (do rule "assign.swapped-stores";let items ←unpackItems (.ref s1.heap.objs.size) 2 none;assignInOrder [fun v=>bindName X.env y v,fun v=>bindName X.env x v] items.reverse;pure Flow.next) _ _ _
 refine wpAny_bind (wpAny_rule (wpAny_bind (unpackItems_tuple (items:=#[u1,u2]) (I.ok.hd hc) (IsTup.new s1.heap _) fun h' hx'=>?_)))
 have I3:=I2.kept (h':=h') (t':=s1.toks) fun b o e=>hx' b o (Nat.ne_of_lt (Heap.lt_size e)) e
 show wpAny _ _ (assignInOrder [fun v=>bindName X.env y v,fun v=>bindName X.env x v] [u2,u1] >>= fun _=>pure Flow.next) _ _ _
 refine wpAny_bind (assignInOrder_cons (wpAny_bindName (kT I3 hN hj (.inl hy) rw' (fun s2 I4=>?_) (.inr hy))))
 refine assignInOrder_cons (wpAny_bindName (kT I4 hN hi (.inl hx) rv (fun s3 I5=>assignInOrder_nil (wpAny_pure ?_)) (.inr hx)))
 rw [List.set_comm _ _ (Ne.symm hij)] at I5
 exact ⟨_,H1,I5,q1⟩
end
section
variable {X:Cx}{pos:Pos}
noncomputable def Jq (c:TT)(tb:TS):TS:=fun D σ H=>∃W:Nat->St->Hp->Prop,(∃m,W m σ H)/\∀m σ H,W m σ H->
 c σ H fun b H1=>if b=true then ∃N:St->Hp->Prop,(∀σ' H',N σ' H'->∃m',m' < m/\W m' σ' H')/\tb {D with nx:=N,ct:=N,bk:=D.nx} σ H1 else D.nx σ H1
theorem Jr {c:Expr}{body:List Stmt}{tc:TT}{tb:TS}(hp:PassesOwn (model X.prog X.w) X.A X.env X.xe)(hc:PT X c tc)(hb:PSs X body tb):PS X (.While c body [] pos) (Jq tc tb):=by
 intro pins s σ H D I h
 obtain ⟨W,⟨m0,w0⟩,turn⟩:=h
 refine wpAny_While (codeAny_whileLoop (fun n s'=>∃σ' H',Inv X pins σ' H' s'/\W n σ' H') ?_ m0 ⟨σ,H,I,w0⟩)
 rintro n s1 ⟨σ1,H1,I1,w1⟩
 refine wpAny_passesOwn hp (thn (hc pins s1 σ1 H1 _ I1 (turn n σ1 H1 w1)) fun b s2 ⟨H2,I2,q2⟩=>?_)
 cases b with
 | true=>
  obtain ⟨N,hN,q2⟩:=q2
  rw [if_pos rfl]
  refine wpAny_passesOwn hp (thn (hb pins s2 σ1 H2 _ I2 q2) fun f s3 q3=>?_)
  cases f with
  | next=>
   obtain ⟨σ3,H3,I3,n3⟩:=q3
   obtain ⟨m',hm,w3⟩:=hN σ3 H3 n3
   exact ⟨m',hm,σ3,H3,I3,w3⟩
  | cont=>
   obtain ⟨σ3,H3,I3,n3⟩:=q3
   obtain ⟨m',hm,w3⟩:=hN σ3 H3 n3
   exact ⟨m',hm,σ3,H3,I3,w3⟩
  | brk=>exact q3
  | ret v=>exact q3
 | false=>
  rw [if_neg Bool.false_ne_true]
  exact wpAny_execs_nil ⟨σ1,H2,I2,q2⟩
end
structure It where
 go:Nat->Hp->Prop
 yld:Nat->Hp->V->Hp->Prop
 stop:Nat->Hp->Prop
def wF (X:Cx)(pins:List (Addr×Obj))(H:Hp)(b:Addr):Prop:=
 H b=none/\b≠X.env.locals/\b∉X.fs/\(b∈X.ex\/X.s₀.heap.objs.size<=b)/\(∀x c,X.env.cells.lookup x=some c->c≠b)/\∀p∈X.pn++pins,p.1≠b
theorem Inv.fpOk {X:Cx}{pins:List (Addr×Obj)}{σ:St}{H H':Hp}{s:Shared}{b:Addr}(I:Inv X pins σ H s)(hb:s.heap.objs.size<=b)(hn:H' b=none):wF X pins H' b:=by
 refine ⟨hn,Nat.ne_of_gt (Nat.lt_of_lt_of_le I.lt hb),I.nofs hb,.inr (Nat.le_trans I.sz hb),fun x c e z=>?_,fun p hp z=>?_⟩
 ·obtain ⟨v,q⟩:=I.cell x c e
  exact absurd (Nat.lt_of_lt_of_le q.lt (by rw [z];exact hb)) (Nat.lt_irrefl _)
 ·exact absurd (Nat.lt_of_lt_of_le (Heap.lt_size (I.pin p hp).1) (by rw [z];exact hb)) (Nat.lt_irrefl _)
structure HZ (P:Program)(w:World)(K:WA)(tg:Expr)(J:It)(fp:List Addr)(it:Addr)(tn:Nat->Heap->Prop):Prop where
 mem:it∈fp
 obj:∀i h,tn i h->∀b∈fp,∃o,h.get? b=some o/\∀v,o.data≠.cell v
 keep:∀i h h',tn i h->(∀b∈fp,∀o,h.get? b=some o->h'.get? b=some o)->tn i h'
 item:∀(X:Cx),X.prog=P->X.w=w->X.K=K->X.calm=true->∀(i:Nat) (pins:List (Addr×Obj)) (s:Shared) (σ:St) (H:Hp) (E:Value->Shared->Prop),Inv X pins σ H s->(∀b∈fp,wF X pins H b)->tn i s.heap->J.go i H->
  wpAny (model P w) X.A (pyNext (.ref it)) (fun r s1=>∃u,r=some u/\
   wpAny (model P w) X.A (letOwnedTupleGo tg (.ref it) u) (fun _ s2=>∃x H',Inv X pins σ H' s2/\cf x u/\J.yld i H x H'/\tn (i+1) s2.heap/\∀b∈fp,H' b=none) E s1) E s
 done:∀(X:Cx),X.prog=P->X.w=w->X.K=K->X.calm=true->∀(i:Nat) (pins:List (Addr×Obj)) (s:Shared) (σ:St) (H:Hp) (E:Value->Shared->Prop),Inv X pins σ H s->(∀b∈fp,wF X pins H b)->tn i s.heap->J.stop i H->
  wpAny (model P w) X.A (pyNext (.ref it)) (fun r s1=>r=none/\Inv X pins σ H s1) E s
 self:∀(A:Around) (i:Nat) (s:Shared) (Q:Value->Shared->Prop) (E:Value->Shared->Prop),tn i s.heap->Q (.ref it) s->wpAny (model P w) A (pyIter (.ref it)) Q E s
noncomputable abbrev TI:=St->Hp->(It->Hp->Prop)->Prop
def PIE (X:Cx)(pins:List (Addr×Obj))(σ:St)(tg:Expr)(R:It->Hp->Prop)(itv:Value)(s2:Shared):Prop:=
 ∃(it:Addr) (fp:List Addr) (tn:Nat->Heap->Prop) (J:It) (H':Hp),itv=.ref it/\Inv X pins σ H' s2/\HZ X.prog X.w X.K tg J fp it tn/\tn 0 s2.heap/\(∀b∈fp,wF X pins H' b)/\R J H'
def PI (X:Cx)(tg iter:Expr)(wi:TI):Prop:=
 ∀(pins:List (Addr×Obj)) (s:Shared) (σ:St) (H:Hp) (R:It->Hp->Prop),Inv X pins σ H s->wi σ H R->
  wpAny (model X.prog X.w) X.A (eval iter X.env) (fun v s1=>wpAny (model X.prog X.w) X.A (pyIter v) (PIE X pins σ tg R) X.xe s1) X.xe s
theorem MY {M:Model}{A:Around}{E:Value->Shared->Prop}{s:Shared}{tg:Expr}{it:Addr}{u:Value}{o:Obj}{n:String}{vs:Array Value}{Q:Unit->Shared->Prop}(ho:s.heap.get? it=some o)(hc:o.cls=.type n)(hd:o.data=.fields vs)
  (hn:["enumerate","zip","dict_itemiterator","dict_reverseitemiterator","odict_iterator","itertools.zip_longest","itertools.pairwise"].contains n=false) (hQ:Q () s):wpAny M A (letOwnedTupleGo tg (.ref it) u) Q E s:=by
 unfold letOwnedTupleGo
 cases tg<;>first
  | exact wpAny_pure hQ
  | (cases u<;>first
    | exact wpAny_pure hQ
    | (refine wpAny_bind (wpAny_load ho ?_)
       rw [hc,hd]
       show wpAny M A (if (["enumerate","zip","dict_itemiterator","dict_reverseitemiterator","odict_iterator","itertools.zip_longest","itertools.pairwise"].contains n && vs[0]? == some (rawInt _))=true then _ else _) Q E s
       rw [if_neg (by intro h;rw [hn,Bool.false_and] at h;cases h)]
       exact wpAny_pure hQ))
noncomputable def Itl (K:WA)(a:Addr):It:=
 ⟨fun i H=>∃xs x,SqL K H a xs/\xs[i]?=some x,fun i H x H'=>H'=H/\∀xs,SqL K H a xs->xs[i]?=some x,fun i H=>∃xs,SqL K H a xs/\xs.length<=i⟩
noncomputable def Itr (lo:Int)(n:Nat):It:=⟨fun i _=>i < n,fun i H x H'=>H'=H/\x=.int (lo+i),fun i _=>n<=i⟩
theorem Ia {P:Program}{w:World}{K:WA}{tg:Expr}(a it:Addr):HZ P w K tg (Itl K a) [it] it (fun i h=>h.IsListIter it a i) where
 mem:=by simp
 obj:=fun i h st b hb=>by
  have e:b=it:=by simpa using hb
  subst e
  obtain ⟨o,e,c,d⟩:=st
  exact ⟨o,e,fun v z=>by rw [d] at z;cases z⟩
 keep:=fun i h h' st k=>st.at fun o e=>k it (by simp) o e
 item:=by
  intro X hP hw hK hc i pins s σ H E I hf st hg
  subst hP hw hK
  obtain ⟨xs,x,hq,hx⟩:=hg
  obtain ⟨its,rv,p,hz⟩:=I.list hq
  obtain ⟨u,hu,ru⟩:=rv.get hx
  obtain ⟨f0,f1,f2,f3,f4,f5⟩:=hf it (by simp)
  refine wpAny_pyNext_list_item st p.isList (x:=u) (by simpa using hu) fun h' st' sb=>?_
  have I1:Inv X pins σ H {s with heap:=h'}:=I.turned (t':=s.toks) (fun b o hb e=>(sb.2 b hb).trans e) f0 f1 f3 f4 f5
  obtain ⟨o,e,c,d⟩:=id st'
  exact ⟨u,rfl,MY (s:={s with heap:=h'}) e c d (by decide) ⟨x,H,I1,ru,⟨rfl,fun ys hy=>by rw [I.list_inj hy hq];exact hx⟩,st',fun b hb=>(hf b hb).1⟩⟩
 done:=by
  intro X hP hw hK hc i pins s σ H E I hf st hg
  subst hP hw hK
  obtain ⟨xs,hq,hx⟩:=hg
  obtain ⟨its,rv,p,hz⟩:=I.list hq
  obtain ⟨f0,f1,f2,f3,f4,f5⟩:=hf it (by simp)
  have hl:=rv.length
  exact wpAny_pyNext_list_end (I.ok.hd hc) st p.isList (by simp;omega) fun h' eb=>⟨rfl,I.turned (t':=s.toks) (fun b o hb e=>eb b o hb e) f0 f1 f3 f4 f5⟩
 self:=fun _ _ _ _ _ st h=>wpAny_pyIter_listiter st h
theorem Fm {P:Program}{w:World}{K:WA}{tg:Expr}(it:Addr)(lo:Int)(n:Nat):HZ P w K tg (Itr lo n) [it] it (fun i h=>IsRangeIter h it (lo+(i:Nat) * 1) ((n:Int) - (i:Nat)) 1) where
 mem:=by simp
 obj:=fun i h st b hb=>by
  have e:b=it:=by simpa using hb
  subst e
  exact ⟨_,st,fun v z=>by
   have z':Data.fields _=Data.cell v:=z
   cases z'⟩
 keep:=fun i h h' st k=>k it (by simp) _ st
 item:=by
  intro X hP hw hK hc i pins s σ H E I hf st hg
  subst hP hw hK
  obtain ⟨f0,f1,f2,f3,f4,f5⟩:=hf it (by simp)
  have W:=Walks.range (prog:=X.prog) (w:=X.w) (I.ok.hd hc) it lo 1 n
  refine W.item i s _ _ hg st fun v h' tk hv st' kk=>?_
  obtain ⟨t,rfl⟩:=hv
  have I1:Inv X pins σ H {s with heap:=h',toks:=tk}:=I.turned (fun b o hb e=>kk b o (by simpa using hb) e) f0 f1 f3 f4 f5
  refine ⟨_,rfl,MY (s:={s with heap:=h',toks:=tk}) (n:="range_iterator") st' rfl rfl (by decide) ⟨.int (lo+i),H,I1,⟨t,?_⟩,⟨rfl,rfl⟩,st',fun b hb=>(hf b hb).1⟩⟩
  rw [Int.mul_one]
 done:=by
  intro X hP hw hK hc i pins s σ H E I hf st hg
  subst hP hw hK
  obtain ⟨f0,f1,f2,f3,f4,f5⟩:=hf it (by simp)
  exact wpAny_pyNext_range_end (I.ok.hd hc) st (by have:n<=i:=hg;omega) fun h' eb=>⟨rfl,I.turned (t':=s.toks) (fun b o hb e=>eb b o hb e) f0 f1 f3 f4 f5⟩
 self:=fun _ _ _ _ _ st h=>wpAny_pyIter_rangeiter st h
section
variable {X:Cx}{tg:Expr}
noncomputable def MZ (K:WA)(tl:TE):TI:=fun σ H R=>tl σ H fun x H1=>∃a,x=.ref a/\(∃xs,SqL K H1 a xs)/\R (Itl K a) H1
theorem Ln {l:Expr}{tl:TE}(hl:PE X l tl):PI X tg l (MZ X.K tl):=by
 intro pins s σ H R I h
 refine thn (hl pins s σ H _ I h) fun v s1 ⟨x,H1,I1,r1,q1⟩=>?_
 obtain ⟨a,e,⟨xs,hq⟩,q⟩:=q1
 subst e
 cases r1
 obtain ⟨its,rv,p,hz⟩:=I1.list hq
 refine wpAny_pyIter_list p.isList ?_
 refine ⟨s1.heap.objs.size,[s1.heap.objs.size],_,_,H1,rfl,I1.kept (t':=s1.toks) fun b o e=>Heap.get?_push_of_some _ e,Ia a _,⟨_,Heap.get?_push_size _ rfl,rfl,rfl⟩,fun b hb=>?_,q⟩
 have e:b=s1.heap.objs.size:=by simpa using hb
 subst e
 exact I1.fpOk (Nat.le_refl _) (I1.hok.fresh (Nat.le_refl _))
theorem Dl {pins:List (Addr×Obj)}{σ:St}{H:Hp}{s:Shared}{R:It->Hp->Prop}{E:Value->Shared->Prop}{lo hi:Int}{t u v:Tok}{tk:Nat}(I:Inv X pins σ H s)(h1:-(2 ^ 62)<=lo)(h2:lo < 2 ^ 62)(h3:-(2 ^ 62)<=hi)(h4:hi < 2 ^ 62)
  (q:R (Itr lo (hi - lo).toNat) H):wpAny (model X.prog X.w) X.A (pyIter (.ref s.heap.objs.size)) (PIE X pins σ tg R) E {s with heap:=s.heap.push {cls:=.type "range",data:=.fields #[.int lo t,.int hi u,.int 1 v]},toks:=tk}:=by
 refine wpAny_pyIter_range (IsRange.new ..) (small_one h1 h2 h3 h4) ?_
 have I1:Inv X pins σ H {s with heap:=s.heap.push {cls:=.type "range",data:=.fields #[.int lo t,.int hi u,.int 1 v]},toks:=tk}:=I.kept fun b o e=>Heap.get?_push_of_some _ e
 refine ⟨(s.heap.push {cls:=.type "range",data:=.fields #[.int lo t,.int hi u,.int 1 v]}).objs.size,[(s.heap.push {cls:=.type "range",data:=.fields #[.int lo t,.int hi u,.int 1 v]}).objs.size],_,_,H,rfl,
  I1.kept (t':=tk) fun b o e=>Heap.get?_push_of_some _ e,Fm _ lo (hi - lo).toNat,?_,fun b hb=>?_,q⟩
 ·have e1:lo+((0:Nat):Int) * 1=lo:=by simp
  have e2:(((hi - lo).toNat:Nat):Int) - ((0:Nat):Int)=Builtin.Range.rangeSize lo hi 1:=by rw [rangeSize_one];split<;>omega
  show IsRangeIter _ _ (lo+((0:Nat):Int) * 1) ((((hi - lo).toNat:Nat):Int) - ((0:Nat):Int)) 1
  rw [e1,e2]
  exact Heap.get?_push_size _ rfl
 ·have e:b=(s.heap.push {cls:=.type "range",data:=.fields #[.int lo t,.int hi u,.int 1 v]}).objs.size:=by simpa using hb
  subst e
  exact I1.fpOk (Nat.le_refl _) (I1.hok.fresh (Nat.le_refl _))
noncomputable def M0 (ta:TA):TI:=fun σ H R=>ta σ H fun vs H1=>∃j:Int,vs=[.int j]/\-(2 ^ 62)<=j/\j < 2 ^ 62/\R (Itr 0 j.toNat) H1
noncomputable def M3 (ta:TA):TI:=fun σ H R=>ta σ H fun vs H1=>∃i j:Int,vs=[.int i,.int j]/\(-(2 ^ 62)<=i/\i < 2 ^ 62/\-(2 ^ 62)<=j/\j < 2 ^ 62)/\R (Itr i (j - i).toNat) H1
theorem Ib {a:Expr}{ta:TA}{p pos:Pos}(hg:Gl X "range")(hm:X.mg "range"=none)(ha:PA X [a] ta)(hs:starEach [a] X.env=[(false,eval a X.env)]:=by rfl):PI X tg (.Call (.Name "range" p) [a] [] pos) (M0 ta):=by
 intro pins s σ H R I h
 refine Call_ (tV I hg hm boot_range (PyProof.Rows.callWith_type1 (thn (ha pos pins s σ H _ I h) fun us s1 ⟨vs,H1,I1,r1,q1⟩=>?_) hs rfl))
 obtain ⟨j,e,q1,q2,q⟩:=q1
 subst e
 cases r1 with
 | cons r rr=>
  cases rr
  obtain ⟨t,rfl⟩:=r
  exact call_range_1 (Dl I1 (by omega) (by omega) q1 q2 (by simpa using q))
theorem Ic {a b:Expr}{ta:TA}{p pos:Pos}(hg:Gl X "range")(hm:X.mg "range"=none)(ha:PA X [a,b] ta)(hs:starEach [a,b] X.env=[(false,eval a X.env),(false,eval b X.env)]:=by rfl)(hs2:starEach [b] X.env=[(false,eval b X.env)]:=by rfl) :
  PI X tg (.Call (.Name "range" p) [a,b] [] pos) (M3 ta):=by
 intro pins s σ H R I h
 refine Call_ (tV I hg hm boot_range (PyProof.Rows.callWith_type1 (thn (ha pos pins s σ H _ I h) fun us s1 ⟨vs,H1,I1,r1,q1⟩=>?_) (by rw [hs,hs2]) (by rw [hs2];rfl)))
 obtain ⟨i,j,e,⟨q1,q2,q3,q4⟩,q⟩:=q1
 subst e
 cases r1 with
 | cons r rr=>
  cases rr with
  | cons r' rr=>
   cases rr
   obtain ⟨t,rfl⟩:=r
   obtain ⟨t',rfl⟩:=r'
   exact call_range_2 (Dl I1 q1 q2 q3 q4 q)
noncomputable def O9 (wi:TI)(g:TG)(tb:TS):TS:=fun D σ H=>wi σ H fun J H1=>∃W:Nat->Nat->St->Hp->Prop,(∃m,W 0 m σ H1)/\∀i m σ H,W i m σ H->
 (J.stop i H/\D.nx σ H)\/(J.go i H/\∃N:St->Hp->Prop,(∀σ' H',N σ' H'->∃m',m' < m/\W (i+1) m' σ' H')/\∀x H',J.yld i H x H'->g x σ H' fun σ2 H2=>tb {D with nx:=N,ct:=N,bk:=D.nx} σ2 H2)
noncomputable def yN (fp:List Addr)(h:Heap):List (Addr×Obj):=fp.filterMap fun b=>(h.get? b).map fun o=>(b,o)
theorem mf {fp:List Addr}{h:Heap}{b:Addr}{o:Obj}(hb:b∈fp)(e:h.get? b=some o):(b,o)∈yN fp h:=List.mem_filterMap.mpr ⟨b,hb,by rw [e];rfl⟩
theorem Ie {fp:List Addr}{h:Heap}{p:Addr×Obj}(hp:p∈yN fp h):p.1∈fp/\h.get? p.1=some p.2:=by
 obtain ⟨b,hb,e⟩:=List.mem_filterMap.mp hp
 cases q:h.get? b with
 | none=>rw [q] at e;cases e
 | some o=>
  rw [q] at e
  have e':(b,o)=p:=Option.some.inj e
  subst e'
  exact ⟨hb,q⟩
theorem Inv.pinned {pins:List (Addr×Obj)}{σ:St}{H:Hp}{s:Shared}{fp:List Addr}(I:Inv X pins σ H s)(hf:∀b∈fp,wF X pins H b)(ho:∀b∈fp,∃o,s.heap.get? b=some o/\∀v,o.data≠.cell v):Inv X (pins++yN fp s.heap) σ H s:=
 I.pins_of fun p hp=>(List.mem_append.mp hp).elim (fun z=>I.pin p (List.mem_append_right _ z)) fun z=>by
  obtain ⟨hb,e⟩:=Ie z
  obtain ⟨f0,f1,f2,_⟩:=hf p.1 hb
  obtain ⟨o,e',d⟩:=ho p.1 hb
  rw [e] at e';cases e'
  exact ⟨e,f0,f1,f2,d⟩
theorem Inv.unpinned {pins pl:List (Addr×Obj)}{σ:St}{H:Hp}{s:Shared}(I:Inv X (pins++pl) σ H s):Inv X pins σ H s:=I.pins_of fun p hp=>I.pin p (List.mem_append_right _ (List.mem_append_left _ hp))
theorem en {iter:Expr}{body:List Stmt}{wi:TI}{g:TG}{tb:TS}{pos:Pos}(hp:PassesOwn (model X.prog X.w) X.A X.env X.xe)(hc:X.calm=true)(hi:PI X tg iter wi)(hg:PG X tg g)(hb:PSs X body tb)
  (hs:∀x,foldedSetIterable iter X.env x=pure x:=by intro _;rfl):PS X (.For tg iter body [] pos) (O9 wi g tb):=by
 intro pins s σ H D I h
 refine wpAny_For (thn (hi pins s σ H _ I h) fun v s1 h1=>thn h1 fun itv s2 h2=>?_) hs
 obtain ⟨it,fp,tn,J,H2,e,I2,T,st2,f2,W,⟨m0,w0⟩,turn⟩:=h2
 subst e
 have stat:∀{H':Hp},(∀b∈fp,H' b=none)->∀b∈fp,wF X pins H' b:=fun hn b hb=>⟨hn b hb,(f2 b hb).2⟩
 refine codeAny_forLoop_any (fun n s'=>∃i σ' H',Inv X pins σ' H' s'/\tn i s'.heap/\(∀b∈fp,H' b=none)/\W i n σ' H') ?_ m0 ⟨0,σ,H2,I2,st2,fun b hb=>(f2 b hb).1,w0⟩
 rintro n s3 ⟨i,σ3,H3,I3,st3,fr3,w3⟩
 rcases turn i n σ3 H3 w3 with ⟨stop,qn⟩ | ⟨go,N,hN,step⟩
 ·refine wpAny_passesOwn hp (thn (T.done X rfl rfl rfl hc i pins s3 σ3 H3 X.xe I3 (stat fr3) st3 stop) fun r s4 ⟨hr,I4⟩=>?_)
  subst hr
  exact wpAny_execs_nil ⟨σ3,H3,I4,qn⟩
 ·refine wpAny_passesOwn hp (thn (T.item X rfl rfl rfl hc i pins s3 σ3 H3 X.xe I3 (stat fr3) st3 go) fun r s4 ⟨u,hr,h4⟩=>?_)
  subst hr
  refine wpAny_passesOwn hp (thn h4 fun _ s5 ⟨x,H5,I5,r5,y5,st5,fr5⟩=>?_)
  have I5':=I5.pinned (stat fr5) (T.obj _ _ st5)
  refine wpAny_passesOwn hp (thn (hg _ s5 σ3 H5 x u _ I5' r5 (step x H5 y5)) fun _ s6 ⟨σ6,H6,I6,q6⟩=>?_)
  refine wpAny_passesOwn hp (thn (hb _ s6 σ6 H6 _ I6 q6) fun f s7 q7=>?_)
  have again:∀{σ7:St} {H7:Hp},Inv X (pins++yN fp s5.heap) σ7 H7 s7->N σ7 H7->∃m,m < n/\∃i σ' H',Inv X pins σ' H' s7/\tn i s7.heap/\(∀b∈fp,H' b=none)/\W i m σ' H':=fun {σ7 H7} I7 n7=>by
   obtain ⟨m',hm,w7⟩:=hN σ7 H7 n7
   refine ⟨m',hm,i+1,σ7,H7,I7.unpinned,T.keep _ _ _ st5 fun b hb o e=>(I7.pin (b,o) (List.mem_append_right _ (List.mem_append_right _ (mf hb e)))).1,fun b hb=>?_,w7⟩
   obtain ⟨o,e,d⟩:=T.obj _ _ st5 b hb
   exact (I7.pin (b,o) (List.mem_append_right _ (List.mem_append_right _ (mf hb e)))).2.1
  cases f with
  | next=>obtain ⟨σ7,H7,I7,n7⟩:=q7;exact again I7 n7
  | cont=>obtain ⟨σ7,H7,I7,n7⟩:=q7;exact again I7 n7
  | brk=>obtain ⟨σ7,H7,I7,q7⟩:=q7;exact ⟨σ7,H7,I7.unpinned,q7⟩
  | ret v=>obtain ⟨x7,σ7,H7,I7,r7,q7⟩:=q7;exact ⟨x7,σ7,H7,I7.unpinned,r7,q7⟩
end
theorem Js {K:WA}{a:Addr}{xs:List V}{g:TG}{tb:TS}{D:oz}{σ:St}{H:Hp}(Pv:Nat->St->Hp->Prop)(h0:Pv 0 σ H)(hl:∀i σ H,i<=xs.length->Pv i σ H->SqL K H a xs)
  (hs:∀i x σ H,xs[i]?=some x->Pv i σ H->g x σ H fun σ2 H2=>tb {D with nx:=Pv (i+1),ct:=Pv (i+1),bk:=D.nx} σ2 H2) (hd:∀σ H,Pv xs.length σ H->D.nx σ H) :
  ∃W:Nat->Nat->St->Hp->Prop,(∃m,W 0 m σ H)/\∀i m σ H,W i m σ H->
   ((Itl K a).stop i H/\D.nx σ H)\/((Itl K a).go i H/\∃N:St->Hp->Prop,(∀σ' H',N σ' H'->∃m',m' < m/\W (i+1) m' σ' H')/\∀x H',(Itl K a).yld i H x H'->g x σ H' fun σ2 H2=>tb {D with nx:=N,ct:=N,bk:=D.nx} σ2 H2):=by
 refine ⟨fun i m σ H=>m=xs.length - i/\i<=xs.length/\Pv i σ H,⟨xs.length,by simp,Nat.zero_le _,h0⟩,?_⟩
 rintro i m σ H ⟨rfl,hi,p⟩
 have q:=hl i σ H hi p
 by_cases hlt:i < xs.length
 ·refine .inr ⟨⟨xs,xs[i],q,by simp [hlt]⟩,Pv (i+1),fun σ' H' p'=>⟨xs.length - (i+1),by omega,rfl,hlt,p'⟩,fun x H' y=>?_⟩
  obtain ⟨e,y⟩:=y
  subst e
  exact hs i x σ _ (y xs q) p
 ·have e:i=xs.length:=by omega
  subst e
  exact .inl ⟨⟨xs,q,Nat.le_refl _⟩,hd σ H p⟩
theorem Ig {lo:Int}{n:Nat}{g:TG}{tb:TS}{D:oz}{σ:St}{H:Hp}(Pv:Nat->St->Hp->Prop)(h0:Pv 0 σ H)
  (hs:∀i σ H,i < n->Pv i σ H->g (.int (lo+i)) σ H fun σ2 H2=>tb {D with nx:=Pv (i+1),ct:=Pv (i+1),bk:=D.nx} σ2 H2) (hd:∀σ H,Pv n σ H->D.nx σ H) :
  ∃W:Nat->Nat->St->Hp->Prop,(∃m,W 0 m σ H)/\∀i m σ H,W i m σ H->
   ((Itr lo n).stop i H/\D.nx σ H)\/((Itr lo n).go i H/\∃N:St->Hp->Prop,(∀σ' H',N σ' H'->∃m',m' < m/\W (i+1) m' σ' H')/\∀x H',(Itr lo n).yld i H x H'->g x σ H' fun σ2 H2=>tb {D with nx:=N,ct:=N,bk:=D.nx} σ2 H2):=by
 refine ⟨fun i m σ H=>m=n - i/\i<=n/\Pv i σ H,⟨n,by simp,Nat.zero_le _,h0⟩,?_⟩
 rintro i m σ H ⟨rfl,hi,p⟩
 by_cases hlt:i < n
 ·refine .inr ⟨hlt,Pv (i+1),fun σ' H' p'=>⟨n - (i+1),by omega,rfl,hlt,p'⟩,fun x H' y=>?_⟩
  obtain ⟨e,y⟩:=y
  subst e y
  exact hs i σ _ hlt p
 ·have e:i=n:=by omega
  subst e
  exact .inl ⟨Nat.le_refl _,hd σ H p⟩
theorem Jt {c:TT}{tb:TS}{D:oz}{σ:St}{H:Hp}(Pv:St->Hp->Prop)(μ:St->Hp->Nat)(h0:Pv σ H)
  (hs:∀σ H,Pv σ H->c σ H fun b H1=>if b=true then tb {D with nx:=fun σ' H'=>Pv σ' H'/\μ σ' H' < μ σ H,ct:=fun σ' H'=>Pv σ' H'/\μ σ' H' < μ σ H,bk:=D.nx} σ H1 else D.nx σ H1)
  (mono:∀σ H Q Q',(∀b H1,Q b H1->Q' b H1)->c σ H Q->c σ H Q'):Jq c tb D σ H:=by
 refine ⟨fun m σ H=>m=μ σ H/\Pv σ H,⟨_,rfl,h0⟩,?_⟩
 rintro m σ H ⟨rfl,p⟩
 refine mono σ H _ _ (fun b H1 q=>?_) (hs σ H p)
 cases b with
 | true=>exact ⟨_,fun σ' H' ⟨p',l⟩=>⟨_,l,rfl,p'⟩,q⟩
 | false=>exact q
noncomputable abbrev R2:=V->V->Hp->VK->Prop
def OpR (X:Cx)(f:Value->Value->Sem Value)(r:R2):Prop:=
 ∀(pins:List (Addr×Obj)) (s:Shared) (σ:St) (H:Hp) (x y:V) (v u:Value) (Q:VK),Inv X pins σ H s->cf x v->cf y u->r x y H Q->
  wpAny (model X.prog X.w) X.A (f v u) (EP X pins σ Q) X.xe s
def UnR (X:Cx)(f:Value->Sem Value)(r:V->Hp->VK->Prop):Prop:=
 ∀(pins:List (Addr×Obj)) (s:Shared) (σ:St) (H:Hp) (x:V) (v:Value) (Q:VK),Inv X pins σ H s->cf x v->r x H Q->
  wpAny (model X.prog X.w) X.A (f v) (EP X pins σ Q) X.xe s
def de (X:Cx)(f:Value)(r:List V->Hp->VK->Prop):Prop:=
 ∀(pins:List (Addr×Obj)) (s:Shared) (σ:St) (H:Hp) (xs:List V) (us:List Value) (Q:VK),Inv X pins σ H s->bL xs us->r xs H Q->
  wpAny (model X.prog X.w) X.A (call f us) (EP X pins σ Q) X.xe s
def Qg (X:Cx)(r:V->Hp->(Bool->Hp->Prop)->Prop):Prop:=
 ∀(pins:List (Addr×Obj)) (s:Shared) (σ:St) (H:Hp) (x:V) (v:Value) (Q:Bool->Hp->Prop),Inv X pins σ H s->cf x v->r x H Q->
  wpAny (model X.prog X.w) X.A (truthy v) (TP X pins σ Q) X.xe s
noncomputable def tOp (r:R2)(ta tb:TE):TE:=fun σ H Q=>ta σ H fun x H1=>tb σ H1 fun y H2=>r x y H2 Q
noncomputable def tUn (r:V->Hp->VK->Prop)(ta:TE):TE:=fun σ H Q=>ta σ H fun x H1=>r x H1 Q
noncomputable def rI (C:Int->Int->Prop)(g:Int->Int->V):R2:=fun x y H Q=>∃i j,x=.int i/\y=.int j/\C i j/\Q (g i j) H
noncomputable def rI0 (g:Int->Int->V):R2:=fun x y H Q=>∃i j,x=.int i/\y=.int j/\Q (g i j) H
noncomputable def rU (g:Int->V):V->Hp->VK->Prop:=fun x H Q=>∃i,x=.int i/\Q (g i) H
section
variable {X:Cx}{a b c:Expr}{ta tb tc:TE}{pos:Pos}
theorem NO (ha:PE X a ta)(hb:PE X b tb){pins:List (Addr×Obj)}{s:Shared}{σ:St}{H:Hp}{R:V->V->Hp->Prop}(I:Inv X pins σ H s)
  (h:ta σ H fun x H1=>tb σ H1 fun y H2=>R x y H2) {Q:Value->Shared->Prop} {f:Value->Value->Sem Value}
  (hf:∀v u s2 x y H2,Inv X pins σ H2 s2->cf x v->cf y u->R x y H2->wpAny (model X.prog X.w) X.A (f v u) Q X.xe s2) :
  wpAny (model X.prog X.w) X.A (eval a X.env) (fun v s₁=>wpAny (model X.prog X.w) X.A (eval b X.env) (fun u s₂=>wpAny (model X.prog X.w) X.A (f v u) Q X.xe s₂) X.xe s₁) X.xe s:=by
 refine thn (ha pins s σ H _ I h) fun v s1 ⟨x,H1,I1,r1,q1⟩=>?_
 refine thn (hb pins s1 σ H1 _ I1 q1) fun u s2 ⟨y,H2,I2,r2,q2⟩=>?_
 exact hf v u s2 x y H2 I2 r1 r2 q2
theorem bc {op:Operator}{r:R2}(ho:OpR X (binaryOp op) r)(ha:PE X a ta)(hb:PE X b tb):PE X (.BinOp a op b pos) (tOp r ta tb):=by
 intro pins s σ H Q I h
 exact wpAny_BinOp (NO ha hb I h fun v u s2 x y H2 I2 rx ry q=>ho pins s2 σ H2 x y v u Q I2 rx ry q)
theorem eQ {op:UnaryOp}{r:V->Hp->VK->Prop}(ho:UnR X (unaryOp op) r)(ha:PE X a ta):PE X (.UnaryOp op a pos) (tUn r ta):=by
 intro pins s σ H Q I h
 exact UnaryOp_ (thn (ha pins s σ H _ I h) fun v s1 ⟨x,H1,I1,r1,q1⟩=>ho pins s1 σ H1 x v Q I1 r1 q1)
theorem opI {f:Value->Value->Sem Value}{C:Int->Int->Prop}{g:Int->Int->Int}
  (rule:∀(i j:Int) (t u:Tok) (s:Shared) (Q:Value->Shared->Prop) (E:Value->Shared->Prop),C i j->Q (.int (g i j) s.toks) {s with toks:=s.toks+1}->wpAny (model X.prog X.w) X.A (f (.int i t) (.int j u)) Q E s) :
  OpR X f (rI C fun i j=>.int (g i j)):=by
 intro pins s σ H x y v u Q I rx ry h
 obtain ⟨i,j,rfl,rfl,hc,q⟩:=h
 obtain ⟨t,rfl⟩:=rx
 obtain ⟨t',rfl⟩:=ry
 exact rule i j t t' s _ _ hc ⟨.int (g i j),H,I.tok _,⟨_,rfl⟩,q⟩
theorem Pa {f:Value->Value->Sem Value}{g:Int->Int->Int}
  (rule:∀(i j:Int) (t u:Tok) (s:Shared) (Q:Value->Shared->Prop) (E:Value->Shared->Prop),Q (.int (g i j) s.toks) {s with toks:=s.toks+1}->wpAny (model X.prog X.w) X.A (f (.int i t) (.int j u)) Q E s) :
  OpR X f (rI0 fun i j=>.int (g i j)):=by
 intro pins s σ H x y v u Q I rx ry h
 obtain ⟨i,j,rfl,rfl,q⟩:=h
 obtain ⟨t,rfl⟩:=rx
 obtain ⟨t',rfl⟩:=ry
 exact rule i j t t' s _ _ ⟨.int (g i j),H,I.tok _,⟨_,rfl⟩,q⟩
theorem Lo {f:Value->Value->Sem Value}{g:Int->Int->Bool}
  (rule:∀(i j:Int) (t u:Tok) (s:Shared) (Q:Value->Shared->Prop) (E:Value->Shared->Prop),Q (.bool (g i j)) s->wpAny (model X.prog X.w) X.A (f (.int i t) (.int j u)) Q E s) :
  OpR X f (rI0 fun i j=>.bl (g i j)):=by
 intro pins s σ H x y v u Q I rx ry h
 obtain ⟨i,j,rfl,rfl,q⟩:=h
 obtain ⟨t,rfl⟩:=rx
 obtain ⟨t',rfl⟩:=ry
 exact rule i j t t' s _ _ ⟨.bl (g i j),H,I,rfl,q⟩
def Ju (i j:Int):Prop:=0 < j/\j < 1073741824
def NP (i j:Int):Prop:=0<=j/\j<=1000000/\i.natAbs < 2 ^ 64
def yO (i j:Int):Prop:=(-(2 ^ 64) < i/\i < 2 ^ 64)\/(-(2 ^ 64) < j/\j < 2 ^ 64)
theorem yO.ok {i j:Int}(h:yO i j):IntMulOk i j:=by
 rcases h with ⟨h1,h2⟩ | ⟨h1,h2⟩
 ·exact .of_left (intBits_le_64 h1 h2)
 ·exact .of_right (intBits_le_64 h1 h2)
theorem NQ:OpR X (binaryOp .Add) (rI0 fun i j=>.int (i+j)):=Pa fun _ _ _ _ _ _ _ q=>add_int q
theorem NR:OpR X (binaryOp .Sub) (rI0 fun i j=>.int (i - j)):=Pa fun _ _ _ _ _ _ _ q=>sub_int q
theorem Fn:OpR X (binaryOp .Mult) (rI yO fun i j=>.int (i * j)):=opI fun _ _ _ _ _ _ _ hc q=>mul_int q hc.ok
theorem Lp:OpR X (binaryOp .FloorDiv) (rI Ju fun i j=>.int (i / j)):=opI fun i j _ _ _ _ _ hc q=>by
 have h1:(0:Int) < j:=hc.1
 have h2:j < 1073741824:=hc.2
 exact floordiv_int (by omega) (by rw [Int.fdiv_eq_ediv_of_nonneg i (by omega)];exact q) (.inl (PyProof.noPylong_small (by omega)))
theorem Jv:OpR X (binaryOp .Mod) (rI (fun _ j=>0 < j) fun i j=>.int (i % j)):=opI fun i j _ _ _ _ _ hc q=>by
 have h1:(0:Int) < j:=hc
 exact mod_int' (by omega) (by rw [Int.fmod_eq_emod_of_nonneg i (by omega)];exact q)
theorem NS:OpR X (binaryOp .Pow) (rI NP fun i j=>.int (i ^ j.toNat)):=opI fun _ _ _ _ _ _ _ hc q=>pow_int_small hc.1 hc.2.1 hc.2.2 q
theorem unI {f:Value->Sem Value}{g:Int->Int}
  (rule:∀(i:Int) (t:Tok) (s:Shared) (Q:Value->Shared->Prop) (E:Value->Shared->Prop),Q (.int (g i) s.toks) {s with toks:=s.toks+1}->wpAny (model X.prog X.w) X.A (f (.int i t)) Q E s) :
  UnR X f (rU fun i=>.int (g i)):=by
 intro pins s σ H x v Q I rx h
 obtain ⟨i,rfl,q⟩:=h
 obtain ⟨t,rfl⟩:=rx
 exact rule i t s _ _ ⟨.int (g i),H,I.tok _,⟨_,rfl⟩,q⟩
theorem NT:UnR X (unaryOp .USub) (rU fun i=>.int (-i)):=unI fun _ _ _ _ _ q=>neg_int q
end
noncomputable def Av:V->V->Bool
 | .non,.non=>true | .non,.int _=>true | .int _,.non=>true | .non,.bl _=>true | .bl _,.non=>true | .non,.str _=>true | .str _,.non=>true
 | .int _,.int _=>true | .bl _,.bl _=>true | .str _,.str _=>true | .byt _,.byt _=>true
 | .int _,.str _=>true | .str _,.int _=>true | .bl _,.str _=>true | .str _,.bl _=>true
 | _,_=>false
noncomputable def rEq:R2:=fun x y H Q=>Av x y=true/\Q (.bl (decide (x=y))) H
noncomputable def rNe:R2:=fun x y H Q=>Av x y=true/\Q (.bl (!decide (x=y))) H
theorem GV {i j:Int}:decide (V.int i=V.int j)=(i == j):=by
 rw [Bool.eq_iff_iff]
 simp
theorem Jw {i j:Bool}:decide (V.bl i=V.bl j)=(i == j):=by
 rw [Bool.eq_iff_iff]
 simp
theorem GW {i j:Str}:decide (V.str i=V.str j)=(i == j):=by
 rw [Bool.eq_iff_iff]
 simp
theorem GX {i j:Array UInt8}:decide (V.byt i=V.byt j)=(i.toList == j.toList):=by
 rw [Bool.eq_iff_iff]
 cases i
 cases j
 simp
section
variable {X:Cx}{a b c:Expr}{ta tb tc:TE}{pos:Pos}
theorem ck {pins:List (Addr×Obj)}{σ:St}{H:Hp}{s:Shared}{Q:VK}{k k':Bool}(I:Inv X pins σ H s)(q:Q (.bl k) H)(e:k=k'):EP X pins σ Q (.bool k') s:=by
 subst e
 exact ⟨.bl k,H,I,rfl,q⟩
theorem M4:OpR X (compareOp .Eq) rEq:=by
 intro pins s σ H x y v u Q I rx ry h
 obtain ⟨hs,q⟩:=h
 cases x with
 | non=>
  cases rx
  cases y with
  | non=>cases ry;exact PySem.EqNone.eq_none_none (ck I q (by simp))
  | bl j=>cases ry;exact PySem.EqNone.eq_none_bool (ck I q (by simp))
  | int j=>obtain ⟨t',rfl⟩:=ry;exact PySem.EqNone.eq_none_int (ck I q (by simp))
  | str j=>obtain ⟨t',rfl⟩:=ry;exact PySem.EqNone.eq_none_str (ck I q (by simp))
  | _=>exact absurd (show false=true from hs) Bool.false_ne_true
 | bl i=>
  cases rx
  cases y with
  | non=>cases ry;exact PySem.EqNone.eq_bool_none (ck I q (by simp))
  | bl j=>cases ry;exact eq_bool (ck I q Jw)
  | str j=>obtain ⟨t',rfl⟩:=ry;exact PySem.EqMixed.eq_bool_str (ck I q (by simp))
  | _=>exact absurd (show false=true from hs) Bool.false_ne_true
 | int i=>
  obtain ⟨t,rfl⟩:=rx
  cases y with
  | non=>cases ry;exact PySem.EqNone.eq_int_none (ck I q (by simp))
  | int j=>obtain ⟨t',rfl⟩:=ry;exact eq_int (ck I q GV)
  | str j=>obtain ⟨t',rfl⟩:=ry;exact PySem.EqMixed.eq_int_str (ck I q (by simp))
  | _=>exact absurd (show false=true from hs) Bool.false_ne_true
 | str i=>
  obtain ⟨t,rfl⟩:=rx
  cases y with
  | non=>cases ry;exact PySem.EqNone.eq_str_none (ck I q (by simp))
  | bl j=>cases ry;exact PySem.EqMixed.eq_str_bool (ck I q (by simp))
  | int j=>obtain ⟨t',rfl⟩:=ry;exact PySem.EqMixed.eq_str_int (ck I q (by simp))
  | str j=>obtain ⟨t',rfl⟩:=ry;exact eq_str (ck I q GW)
  | _=>exact absurd (show false=true from hs) Bool.false_ne_true
 | byt i=>
  obtain ⟨t,rfl⟩:=rx
  cases y with
  | byt j=>obtain ⟨t',rfl⟩:=ry;exact W.eq_bytes (ck I q GX)
  | _=>exact absurd (show false=true from hs) Bool.false_ne_true
 | _=>cases y<;>exact absurd (show false=true from hs) Bool.false_ne_true
theorem Pb:OpR X (compareOp .NotEq) rNe:=by
 intro pins s σ H x y v u Q I rx ry h
 obtain ⟨hs,q⟩:=h
 cases x with
 | non=>
  cases rx
  cases y with
  | non=>cases ry;exact PySem.EqNone.ne_none_none (ck I q (by simp))
  | bl j=>cases ry;exact PySem.EqNone.ne_none_bool (ck I q (by simp))
  | int j=>obtain ⟨t',rfl⟩:=ry;exact PySem.EqNone.ne_none_int (ck I q (by simp))
  | str j=>obtain ⟨t',rfl⟩:=ry;exact PySem.EqNone.ne_none_str (ck I q (by simp))
  | _=>exact absurd (show false=true from hs) Bool.false_ne_true
 | bl i=>
  cases rx
  cases y with
  | non=>cases ry;exact PySem.EqNone.ne_bool_none (ck I q (by simp))
  | bl j=>cases ry;exact ne_bool (ck I q (congrArg not Jw))
  | str j=>obtain ⟨t',rfl⟩:=ry;exact PySem.EqMixed.ne_bool_str (ck I q (by simp))
  | _=>exact absurd (show false=true from hs) Bool.false_ne_true
 | int i=>
  obtain ⟨t,rfl⟩:=rx
  cases y with
  | non=>cases ry;exact PySem.EqNone.ne_int_none (ck I q (by simp))
  | int j=>obtain ⟨t',rfl⟩:=ry;exact ne_int (ck I q (congrArg not GV))
  | str j=>obtain ⟨t',rfl⟩:=ry;exact PySem.EqMixed.ne_int_str (ck I q (by simp))
  | _=>exact absurd (show false=true from hs) Bool.false_ne_true
 | str i=>
  obtain ⟨t,rfl⟩:=rx
  cases y with
  | non=>cases ry;exact PySem.EqNone.ne_str_none (ck I q (by simp))
  | bl j=>cases ry;exact PySem.EqMixed.ne_str_bool (ck I q (by simp))
  | int j=>obtain ⟨t',rfl⟩:=ry;exact PySem.EqMixed.ne_str_int (ck I q (by simp))
  | str j=>obtain ⟨t',rfl⟩:=ry;exact ne_str (ck I q (congrArg not GW))
  | _=>exact absurd (show false=true from hs) Bool.false_ne_true
 | byt i=>
  obtain ⟨t,rfl⟩:=rx
  cases y with
  | byt j=>obtain ⟨t',rfl⟩:=ry;exact W.ne_bytes (ck I q (congrArg not GX))
  | _=>exact absurd (show false=true from hs) Bool.false_ne_true
 | _=>cases y<;>exact absurd (show false=true from hs) Bool.false_ne_true
theorem M5:OpR X (compareOp .Lt) (rI0 fun i j=>.bl (decide (i < j))):=Lo fun _ _ _ _ _ _ _ q=>lt_int q
theorem M6:OpR X (compareOp .LtE) (rI0 fun i j=>.bl (decide (i<=j))):=Lo fun _ _ _ _ _ _ _ q=>le_int q
theorem Pc:OpR X (compareOp .Gt) (rI0 fun i j=>.bl (decide (j < i))):=Lo fun _ _ _ _ _ _ _ q=>gt_int q
theorem M7:OpR X (compareOp .GtE) (rI0 fun i j=>.bl (decide (j<=i))):=Lo fun _ _ _ _ _ _ _ q=>ge_int q
theorem NU:OpR X (compareOp .Is) (fun x y H Q=>y=.non/\Q (.bl (decide (x=.non))) H):=by
 intro pins s σ H x y v u Q I rx ry h
 obtain ⟨rfl,q⟩:=h
 cases ry
 refine is_none_gen (ck I q ?_)
 cases x<;>first
  | (cases rx;rfl)
  | (obtain ⟨t,rfl⟩:=rx;rfl)
theorem Lq:OpR X (compareOp .IsNot) (fun x y H Q=>y=.non/\Q (.bl (!decide (x=.non))) H):=by
 intro pins s σ H x y v u Q I rx ry h
 obtain ⟨rfl,q⟩:=h
 cases ry
 refine isnot_none_gen (ck I q ?_)
 cases x<;>first
  | (cases rx;rfl)
  | (obtain ⟨t,rfl⟩:=rx;rfl)
theorem cy (b:Expr){op:CmpOp}(h:op≠.In:=by decide)(h2:op≠.NotIn:=by decide):behindInMarks op b=false:=by
 have e1:(op == CmpOp.In)=false:=by cases op<;>first | rfl | exact absurd rfl h
 have e2:(op == CmpOp.NotIn)=false:=by cases op<;>first | rfl | exact absurd rfl h2
 cases b<;>simp [behindInMarks,e1,e2]
theorem cN {op:CmpOp}{r:R2}(ho:OpR X (compareOp op) r)(ha:PE X a ta)(hb:PE X b tb)(hm:behindInMarks op b=false):PE X (.Compare a [op] [b] pos) (tOp r ta tb):=by
 intro pins s σ H Q I h
 exact wpAny_Compare1 (NO ha hb I h fun v u s2 x y H2 I2 rx ry q=>ho pins s2 σ H2 x y v u Q I2 rx ry q) hm
noncomputable def oN (t:TE):TT:=fun σ H Q=>t σ H fun x H'=>∃k,x=.bl k/\Q k H'
theorem ip {op:CmpOp}{r:R2}(ho:OpR X (compareOp op) r)(ha:PE X a ta)(hb:PE X b tb)(hm:behindInMarks op b=false):PT X (.Compare a [op] [b] pos) (oN (tOp r ta tb)):=by
 intro pins s σ H Q I h
 refine wpAny_isTrue_Compare1 (thn (ha pins s σ H _ I h) fun v s1 ⟨x,H1,I1,r1,q1⟩=>thn (hb pins s1 σ H1 _ I1 q1) fun u s2 ⟨y,H2,I2,r2,q2⟩=>
  thn (ho pins s2 σ H2 x y v u _ I2 r1 r2 q2) fun c s3 ⟨z,H3,I3,r3,k,e,q3⟩=>?_) hm
 subst e
 cases r3
 exact wpAny_truthy_bool ⟨H3,I3,q3⟩
def Pd (K:WA)(x:V)(H:Hp)(k:Bool):Prop:=
 match x with
 | .non=>k=false
 | .bl b=>k=b
 | .int i=>k=(i != 0)
 | .str y=>y.length<=sizeLine/\k=((y.length:Int) != 0)
 | .byt y=>y.size<=sizeLine/\k=((y.size:Int) != 0)
 | .ref p=>(∃xs,SqL K H p xs/\k=!xs.isEmpty)\/(∃xs,SqT K H p xs/\k=!xs.isEmpty)\/∃kvs,H p=some (.dK kvs)/\k=!kvs.isEmpty
 | _=>False
theorem Fo {κ:Type}{kvs:List (κ×V)}{vs:List (κ×Value)}(r:KV kvs vs):(!vs.isEmpty)=!kvs.isEmpty:=by
 cases r<;>rfl
theorem yP {xs:List V}{its:List Value}(r:bL xs its):(!its.toArray.isEmpty)=!xs.isEmpty:=by
 cases r<;>simp
theorem wG:(sizeLine:Nat) < 2 ^ 63:=by rw [sizeLine_eq];decide
theorem NV:Qg X (fun x H Q=>∃k,Pd X.K x H k/\Q k H):=by
 intro pins s σ H x v Q I rx h
 obtain ⟨k,e,q⟩:=h
 have hl:=wG
 have hs:sizeLine=16777216:=sizeLine_eq
 cases x with
 | non=>
  cases rx
  have e':k=false:=e
  subst e'
  exact truthy_none ⟨H,I,q⟩
 | bl b=>
  cases rx
  have e':k=b:=e
  subst e'
  exact wpAny_truthy_bool ⟨H,I,q⟩
 | int i=>
  obtain ⟨t,rfl⟩:=rx
  have e':k=(i != 0):=e
  subst e'
  exact PySem.P.truthy_int ⟨H,I,q⟩
 | str y=>
  obtain ⟨t,rfl⟩:=rx
  obtain ⟨hy,e'⟩:y.length<=sizeLine/\k=((y.length:Int) != 0):=e
  subst e'
  exact PySem.P.truthy_str (by omega) ⟨H,I.tok _,q⟩
 | byt y=>
  obtain ⟨t,rfl⟩:=rx
  obtain ⟨hy,e'⟩:y.size<=sizeLine/\k=((y.size:Int) != 0):=e
  subst e'
  exact W.truthy_bytes (by omega) ⟨H,I.tok _,q⟩
 | ref p=>
  cases rx
  have e':(∃xs,SqL X.K H p xs/\k=!xs.isEmpty)\/(∃xs,SqT X.K H p xs/\k=!xs.isEmpty)\/∃kvs,H p=some (.dK kvs)/\k=!kvs.isEmpty:=e
  rcases e' with ⟨xs,hx,e'⟩ | ⟨xs,hx,e'⟩ | ⟨kvs,hx,e'⟩
  ·subst e'
   obtain ⟨its,r,pl,hz⟩:=I.list hx
   have hlen:=r.length
   exact wpAny_truthy_list pl.isList (by simp only [List.size_toArray];omega) ⟨H,I.tok _,by rw [yP r];exact q⟩
  ·subst e'
   obtain ⟨its,r,pl,hz⟩:=I.tuple hx
   have hlen:=r.length
   exact truthy_tuple pl (by simp only [List.size_toArray];omega) ⟨H,I.tok _,by rw [yP r];exact q⟩
  ·subst e'
   obtain ⟨hz,hS,vs,r,m⟩:kvs.length<=sizeLine/\(p == sysModules)=false/\∃vs,KV kvs vs/\s.heap.DictOf (B3 X.prog X.w) p vs:=I.hok p _ hx
   have hlen:kvs.length=vs.length:=Paired.length r
   exact wpAny_truthy_dict hS m (by omega) ⟨H,I.tok _,by rw [Fo r];exact q⟩
 | _=>exact (show False from e).elim
theorem yQ (ha:PE X a ta)(he:∀cG,isTrue a X.env cG=(do let v ←cG;standAt a.pos;holding [v] (truthy v))) :
  PT X a (fun σ H Q=>ta σ H fun x H'=>∃k,Pd X.K x H' k/\Q k H'):=by
 intro pins s σ H Q I h
 exact isTrue_plain (thn (ha pins s σ H _ I h) fun v s1 ⟨x,H1,I1,r1,q1⟩=>NV pins s1 σ H1 x v Q I1 r1 q1) (he _)
theorem yR {x:V}{us:List Value}(r:bL [x] us):∃u,us=[u]/\cf x u:=by
 cases r with
 | cons r1 r2=>cases r2;exact ⟨_,rfl,r1⟩
theorem GY {x y:V}{us:List Value}(r:bL [x,y] us):∃u w',us=[u,w']/\cf x u/\cf y w':=by
 cases r with
 | cons r1 r2=>
  cases r2 with
  | cons r3 r4=>cases r4;exact ⟨_,_,rfl,r1,r3⟩
theorem Jx:de X (.builtin "abs") (fun xs H Q=>∃i,xs=[.int i]/\Q (.int (if i < 0 then -i else i)) H):=by
 intro pins s σ H xs us Q I r h
 obtain ⟨i,rfl,q⟩:=h
 obtain ⟨u,rfl,t,rfl⟩:=yR r
 exact call_abs_int fun u tk=>⟨.int (if i < 0 then -i else i),H,I.tok _,⟨_,rfl⟩,q⟩
theorem Ih (hc:X.calm=true):de X (.builtin "min") (fun xs H Q=>∃i j,xs=[.int i,.int j]/\Q (.int (if j < i then j else i)) H):=by
 intro pins s σ H xs us Q I r h
 obtain ⟨i,j,rfl,q⟩:=h
 obtain ⟨u,w',rfl,⟨t,rfl⟩,⟨t',rfl⟩⟩:=GY r
 refine min_two_ints (I.ok.hd hc) fun h' tk k=>⟨_,H,I.kept k,?_,q⟩
 by_cases hj:j < i
 ·rw [if_pos hj,if_pos hj];exact ⟨_,rfl⟩
 ·rw [if_neg hj,if_neg hj];exact ⟨_,rfl⟩
theorem Ii:de X (.type "int") (fun xs H Q=>(∃i,xs=[.int i]/\Q (.int i) H)\/∃k,xs=[.bl k]/\Q (.int (if k then 1 else 0)) H):=by
 intro pins s σ H xs us Q I r h
 rcases h with ⟨i,rfl,q⟩ | ⟨k,rfl,q⟩
 ·obtain ⟨u,rfl,t,rfl⟩:=yR r
  exact call_int_int ⟨.int i,H,I,⟨_,rfl⟩,q⟩
 ·obtain ⟨u,rfl,r1⟩:=yR r
  cases r1
  exact call_int_bool ⟨.int (if k then 1 else 0),H,I.tok _,⟨_,rfl⟩,q⟩
end
structure Fp (h:Heap)(x dx C:Addr)(mA:Str->Option Value):Prop where
 obj:h.get? x=some (W.instObj C dx)
 ns:h.Ns1 dx mA
 ne:dx≠x
theorem Ij {h:Heap}{dx:Addr}{mA:Str->Option Value}(n:h.Ns1 dx mA):∃od,h.get? dx=some od/\∀name,W.lookIn name od=some (mA name):=by
 obtain ⟨o,es,ep,ho,hd,hk,_,hm⟩:=n
 refine ⟨o,ho,fun name=>?_⟩
 have e:=hm name
 unfold nsFind findBy at e
 rw [←Array.find?_toList] at e
 unfold W.lookIn
 rw [hd]
 dsimp only
 split
 ·rename_i y q
  rw [q] at e
  exact congrArg some e
 ·rename_i q
  rw [q] at e
  have a:es.toList.any (·.refKey)=false:=by
   rw [List.any_eq_false]
   intro y hy
   obtain ⟨z,t,hkey⟩:=hk y (Array.mem_toList_iff.mp hy)
   simp [DictEntry.refKey,hkey]
  have a':¬es.toList.any (·.refKey)=true:=by rw [a];exact Bool.false_ne_true
  rw [if_neg a']
  exact congrArg some e
theorem Fp.look {h:Heap}{x dx C:Addr}{mA:Str->Option Value}(I:Fp h x dx C mA):∃od,W.InstAt h x (W.instObj C dx) C (some od)/\∀name,W.lookIn name od=some (mA name):=
 let ⟨od,ho,hl⟩:=Ij I.ns
 ⟨od,⟨I.obj,rfl,rfl,ho⟩,hl⟩
section
variable {prog:Program}{w:World}{A:Around}{E:Value->Shared->Prop}{s:Shared}{K:WA}{x dx C f:Addr}{mA:Str->Option Value}{name:Str}{v:Value}
theorem Lr {expr:Bool}{Q:Value->Shared->Prop}(X:K.In s.heap)(I:Fp s.heap x dx C mA)(hg:W.plainGet K C name=true)(hh:W.hasDictIn K C=true)
  (ha:W.findIn K (.ref C) name=some none) (hv:mA name=some v) (hv':W.handedIn v=true) (h:Q v {s with toks:=s.toks+1}) :
  wpAny (model prog w) A (getAttr (.ref x) name expr) Q E s:=by
 obtain ⟨od,J,hl⟩:=I.look
 exact W.get_value X J (W.plainGet_of hg).1 (W.findObj_own hh ha rfl (by rw [hl,hv])) hv' h
theorem Jy {pl:Sem Bool}{Q:Value×List Value->Shared->Prop}(X:K.In s.heap)(I:Fp s.heap x dx C mA)(hg:W.plainGet K C name=true)
  (hf:W.findIn K (.ref C) name=some (some (.ref f))) (ht:W.isFn K (.ref f)=true) (hv:mA name=none) (h:Q (.ref f,[.ref x]) s) :
  wpAny (model prog w) A (getMethod (.ref x) name pl) Q E s:=by
 obtain ⟨od,J,hl⟩:=I.look
 exact W.method_fn X J (W.plainGet_of hg).1 (W.plainGet_of hg).2 hf (beq_iff_eq.mp ht) (by show (W.lookIn name od).map (·.isSome)=some false;rw [hl,hv];rfl) h
theorem Ls {ns:List Str}{Q:Unit->Shared->Prop}(X:K.In s.heap)(I:Fp s.heap x dx C mA)
  (hs:W.findIn K (.ref C) "__setattr__"=some (some (.builtin "object.__setattr__"))) (hp:W.plainOver K C=true) (ht:W.takerIn K C name=some none) (hh:W.hasDictIn K C=true)
  (hw:PySem.Within mA ns) (hsz:ns.length<=sizeLine)
  (h:∀h',Fp h' x dx C (fun y=>if y=name then some v else mA y)->Heap.SameBut dx s.heap h'->Q () {s with heap:=h',toks:=s.toks+2}) :
  wpAny (model prog w) A (setAttr (.ref x) name v) Q E s:=by
 obtain ⟨od,J,hl⟩:=I.look
 refine W.set_plain X J hs (W.osa_open (s:={s with toks:=s.toks+1}) (r:=none) X J hp ht fun b=>?_)
 obtain ⟨cd,hc,hd'⟩:=W.any_some hh
 have hx:s.heap.get? x=some ⟨.ref C,some dx,.plain,#[]⟩:=I.obj
 refine wpAny_bind (wpAny_pure (wpAny_bind (wpAny_bind (wpAny_loadPart hx (wpAny_bind (W.Looks.here (s:={s with toks:=s.toks+1}) (W.looks_clsIn X hc) ?_))))))
 rw [hd']
 refine wpAny_pure (a:=some dx) (wpAny_bind (wpAny_pure (wpAny_bind ?_)))
 refine wpAny_nsSet1 (s:={s with toks:=s.toks+1}) I.ns fun h' hn2 hs2=>?_
 obtain ⟨oD,esD,epD,hoD,hdD,hcD⟩:=hn2.count (PySem.Within.cons name v hw)
 refine wpAny_bind (wpAny_lookBehind hoD (by rw [hdD];exact pastItsLine_dict (Nat.le_trans hcD (by rw [List.length_cons];omega))) ?_)
 exact wpAny_pure (h _ ⟨(hs2.2 _ (Ne.symm I.ne)).trans I.obj,hn2,I.ne⟩ hs2)
theorem Jz {R:Result->Shared->Prop}{vs:List Value}{kw:List (Str×Value)}(X:K.In s.heap)(hm:W.makesIn K C=true)
  (hi:W.findIn K (.ref C) "__init__"=some (some (.ref f))) (hf:W.typeIn K (.ref f)=some (.type "function"))
  (h:codeAny (model prog w) (A.under (.builtin "type.__call__" ⟨.ref C::vs,kw⟩)) (.call (.ref f) ⟨.ref (s.heap.objs.size+1)::vs,kw⟩) (W.InitBack (s.heap.objs.size+1) R)
   {s with heap:=(s.heap.push W.emptyDict).push (W.instObj C s.heap.objs.size)}) :
  codeAny (model prog w) A (.call (.ref C) ⟨vs,kw⟩) R s:=by
 obtain ⟨hh,g,d,t,os⟩:=s
 exact W.make_core (W.makes_of X hm) (W.looks_findIn X hi) (fun self=>W.bind_fn X self hf) (.inl rfl) h
end
noncomputable def bG (f:Str)(v:V):List (Str×V)->List (Str×V)
 | []=>[(f,v)]
 | (g,x)::r=>if g=f then (g,v)::r else (g,x)::bG f v r
theorem xF (f g:Str)(v:V):∀fs:List (Str×V),(bG f v fs).lookup g=if g=f then some v else fs.lookup g
 | []=>by
  show List.lookup g [(f,v)]=_
  by_cases h:g=f
  ·have hb:(g == f)=true:=beq_iff_eq.mpr h
   simp only [List.lookup,hb,if_pos h]
  ·have hb:(g == f)=false:=beq_eq_false_iff_ne.mpr h
   simp only [List.lookup,hb,if_neg h]
 | (k,x)::r=>by
  have ih:=xF f g v r
  rw [show bG f v ((k,x)::r)=(if k=f then (k,v)::r else (k,x)::bG f v r) from rfl]
  by_cases hk:k=f
  ·rw [if_pos hk]
   by_cases h:g=k
   ·have hb:(g == k)=true:=beq_iff_eq.mpr h
    simp only [List.lookup,hb,if_pos (h.trans hk)]
   ·have hb:(g == k)=false:=beq_eq_false_iff_ne.mpr h
    simp only [List.lookup,hb,if_neg (fun e:g=f=>h (e.trans hk.symm))]
  ·rw [if_neg hk]
   by_cases h:g=k
   ·have hb:(g == k)=true:=beq_iff_eq.mpr h
    simp only [List.lookup,hb,if_neg (fun e:g=f=>hk (h.symm.trans e))]
   ·have hb:(g == k)=false:=beq_eq_false_iff_ne.mpr h
    simp only [List.lookup,hb]
    exact ih
theorem wH (f:Str)(v:V):∀fs:List (Str×V),f∈(bG f v fs).map (·.1)/\∀g,g∈fs.map (·.1)->g∈(bG f v fs).map (·.1)
 | []=>⟨by simp [bG],fun g h=>by simp at h⟩
 | (k,x)::r=>by
  obtain ⟨i1,i2⟩:=wH f v r
  rw [show bG f v ((k,x)::r)=(if k=f then (k,v)::r else (k,x)::bG f v r) from rfl]
  by_cases hk:k=f
  ·rw [if_pos hk]
   subst hk
   exact ⟨by simp,fun g h=>by simpa using h⟩
  ·rw [if_neg hk]
   refine ⟨?_,fun g h=>?_⟩
   ·rw [List.map_cons]
    exact List.mem_cons_of_mem _ i1
   ·rw [List.map_cons] at h ⊢
    rcases List.mem_cons.mp h with e | e
    ·exact List.mem_cons.mpr (.inl e)
    ·exact List.mem_cons_of_mem _ (i2 g e)
theorem oO (f:Str)(v:V):∀fs:List (Str×V),(bG f v fs).length<=fs.length+1
 | []=>by simp [bG]
 | (k,x)::r=>by
  have ih:=oO f v r
  rw [show bG f v ((k,x)::r)=(if k=f then (k,v)::r else (k,x)::bG f v r) from rfl]
  by_cases hk:k=f
  ·rw [if_pos hk,List.length_cons,List.length_cons];omega
  ·rw [if_neg hk,List.length_cons,List.length_cons];omega
theorem Au.some_of {v:V}{o:Option Value}(r:Au (some v) o):∃u,o=some u/\cf v u:=by
 cases o with
 | none=>exact (show False from r).elim
 | some u=>exact ⟨u,rfl,r⟩
theorem Au.none_of {o:Option Value}(r:Au none o):o=none:=by
 cases o with
 | none=>rfl
 | some u=>exact (show False from r).elim
theorem Ik {v:V}{u:Value}(r:cf v u):W.handedIn u=true:=by
 cases v with
 | non=>cases (show u=Value.none from r);rfl
 | bl b=>cases (show u=Value.bool b from r);rfl
 | int i=>obtain ⟨t,e⟩:=(show ∃t,u=Value.int i t from r);cases e;rfl
 | str x=>obtain ⟨t,e⟩:=(show ∃t,u=Value.str x t from r);cases e;rfl
 | byt b=>obtain ⟨t,e⟩:=(show ∃t,u=Value.bytes b t from r);cases e;rfl
 | flt b=>obtain ⟨t,e⟩:=(show ∃t,u=Value.float b t from r);cases e;rfl
 | ref a=>cases (show u=Value.ref a from r);rfl
 | ty n=>cases (show u=Value.type n from r);rfl
section
variable {P:Program}{w:World}{H H':Hp}{h h':Heap}{a C dx:Addr}{fs fs':List (Str×V)}
theorem B5 (hok:HOk P w H h)(e:H a=some (.ins C dx fs)):∃mA,Fp h a dx C mA/\(∀f,Au (fs.lookup f) (mA f))/\PySem.Within mA (fs.map (·.1))/\fs.length<=1000/\H dx=some (.own a):=by
 obtain ⟨d,z,ne,ob,mA,n,r,q⟩:=(show fO P w H h a (.ins C dx fs) from hok a _ e)
 exact ⟨mA,⟨ob,n,ne⟩,r,q,z,d⟩
end
structure Cls (K:WA)(C:Addr):Prop where
 pg:W.plainGet K C Str.empty=true
 hd:W.hasDictIn K C=true
 po:W.plainOver K C=true
 sa:W.findIn K (.ref C) "__setattr__"=some (some (.builtin "object.__setattr__"))
theorem Cls.get {K:WA}{C:Addr}(c:Cls K C)(f:Str):W.plainGet K C f=true:=c.pg
def bA (K:WA)(C:Addr)(f:Str):Prop:=W.findIn K (.ref C) f=some none
theorem bA.taker {K:WA}{C:Addr}{f:Str}(n:bA K C f):W.takerIn K C f=some none:=by
 unfold W.takerIn
 rw [show W.findIn K (.ref C) f=some none from n]
 rfl
structure Fq (K:WA)(C:Addr)(m:Str)(f:Addr):Prop where
 at_:W.findIn K (.ref C) m=some (some (.ref f))
 fn:W.isFn K (.ref f)=true
 kp:W.keepIn K (.ref f)=true
section
variable {X:Cx}{pins:List (Addr×Obj)}{σ:St}{H:Hp}{s:Shared}{a C dx:Addr}{fs:List (Str×V)}{f:Str}{v:V}{A:Around}{E:Value->Shared->Prop}
theorem Fs {b:Bool}{Q:Value->Shared->Prop}(I:Inv X pins σ H s)(e:H a=some (.ins C dx fs))(c:Cls X.K C)(n:bA X.K C f)(l:fs.lookup f=some v)
  (h:∀u s',Inv X pins σ H s'->cf v u->Q u s'):wpAny (model X.prog X.w) A (getAttr (.ref a) f b) Q E s:=by
 obtain ⟨mA,O,r,_,_,_⟩:=B5 I.hok e
 obtain ⟨u,hu,ru⟩:=Au.some_of (v:=v) (o:=mA f) (by rw [←l];exact r f)
 exact Lr I.kIn O (c.get f) c.hd n hu (Ik ru) (h u _ (I.tok _) ru)
theorem tX {m:Str}{g:Addr}{pl:Sem Bool}{Q:Value×List Value->Shared->Prop}(I:Inv X pins σ H s)(e:H a=some (.ins C dx fs))(c:Cls X.K C)(k:Fq X.K C m g)(l:fs.lookup m=none)
  (h:Q (.ref g,[.ref a]) s):wpAny (model X.prog X.w) A (getMethod (.ref a) m pl) Q E s:=by
 obtain ⟨mA,O,r,_,_,_⟩:=B5 I.hok e
 have hn:mA m=none:=Au.none_of (by rw [←l];exact r m)
 exact Jy I.kIn O (c.get m) k.at_ k.fn hn h
theorem Ft {y:V}{u:Value}{Q:Unit->Shared->Prop}(I:Inv X pins σ H s)(e:H a=some (.ins C dx fs))(c:Cls X.K C)(n:bA X.K C f)(hl:fs.length < 1000)(ry:cf y u)
  (h:∀s',Inv X pins σ (upd H a (.ins C dx (bG f y fs))) s'->Q () s'):wpAny (model X.prog X.w) A (setAttr (.ref a) f u) Q E s:=by
 obtain ⟨mA,O,r,wi,_,ho⟩:=B5 I.hok e
 have hz:(fs.map (·.1)).length<=sizeLine:=by rw [WB,sizeLine_eq];omega
 refine Ls I.kIn O c.sa c.po n.taker c.hd wi hz fun h' O' sb=>h _ ?_
 have hd:∃o,h'.get? dx=some o:=let ⟨o,_,_,e',_⟩:=O'.ns;⟨o,e'⟩
 refine I.write (x:=a) (e:=dx) (by rw [e];exact True.intro) (.inr ho) (fun b q hb z=>(sb.2 b hb).trans z) hd ?_
 refine ⟨by rw [aL O.ne];exact ho,?_,O.ne,O'.obj,_,O'.ns,fun g=>?_,fun g hg=>?_⟩
 ·have:=oO f y fs;omega
 ·show Au ((bG f y fs).lookup g) (if g=f then some u else mA g)
  rw [xF]
  by_cases q:g=f
  ·rw [if_pos q,if_pos q];exact ry
  ·rw [if_neg q,if_neg q];exact r g
 ·by_cases q:g=f
  ·rw [q];exact (wH f y fs).1
  ·refine (wH f y fs).2 g (wi g fun z=>hg ?_)
   show (if g=f then some u else mA g)=none
   rw [if_neg q];exact z
theorem Inv.made (I:Inv X pins σ H s):Inv X pins σ (upd (upd H s.heap.objs.size (.own (s.heap.objs.size+1))) (s.heap.objs.size+1) (.ins C s.heap.objs.size []))
  {s with heap:=(s.heap.push W.emptyDict).push (W.instObj C s.heap.objs.size)}:=by
 have e1:(s.heap.push W.emptyDict).get? s.heap.objs.size=some W.emptyDict:=Heap.get?_push_size s.heap rfl
 have e2:((s.heap.push W.emptyDict).push (W.instObj C s.heap.objs.size)).get? (s.heap.objs.size+1)=some (W.instObj C s.heap.objs.size):=by
  have:=Heap.get?_push_size (s.heap.push W.emptyDict) (o:=W.instObj C s.heap.objs.size) rfl
  rwa [Heap.size_push] at this
 have e3:(s.heap.push W.emptyDict).Ns s.heap.objs.size (fun _=>none):=⟨W.emptyDict,#[],_,e1,rfl,(fun e he=>absurd he (by simp)),fun _=>rfl⟩
 have I1:=I.laid (a:=s.heap.objs.size) (o:=.own (s.heap.objs.size+1)) (h':=s.heap.push W.emptyDict) (t':=s.toks) (fun b u q=>Heap.get?_push_of_some _ q) (Nat.le_refl _) ⟨_,e1⟩
 refine I1.laid (a:=s.heap.objs.size+1) (o:=.ins C s.heap.objs.size []) (t':=s.toks) (fun b u q=>Heap.get?_push_of_some _ q) (Nat.le_of_eq (Heap.size_push _ _)) ?_
 have ne:s.heap.objs.size≠s.heap.objs.size+1:=Nat.ne_of_lt (Nat.lt_succ_self _)
 refine ⟨by rw [aL ne,ah],Nat.zero_le _,ne,e2,fun _=>none,(Heap.Ns1.of_empty e3).at fun o q=>Heap.get?_push_of_some _ q,fun _=>True.intro,fun y hy=>absurd rfl hy⟩
theorem Lu {prog:Program}{w:World}{env:Env}{e:Expr}{f:Str}{pos:Pos}{s:Shared}{Q:Value->Shared->Prop}(hb:attributeBase e f env (eval e env)=eval e env)
  (h:wpAny (model prog w) A (eval e env) (fun o s₁=>wpAny (model prog w) A (getAttr o f true) Q E s₁) E s):wpAny (model prog w) A (eval (.Attribute e f pos) env) Q E s:=
 Attribute_any_ h (by rw [arm_eval_Attribute,hb])
end
noncomputable def Pe (K:WA)(ta:TE)(f:Str):TE:=fun σ H Q=>ta σ H fun x H1=>∃a C dx fs v,x=.ref a/\H1 a=some (.ins C dx fs)/\Cls K C/\bA K C f/\fs.lookup f=some v/\Q v H1
noncomputable def Pf (K:WA)(ta tv:TE)(f:Str):TS:=fun D σ H=>tv σ H fun y H1=>ta σ H1 fun x H2=>∃a C dx fs,x=.ref a/\H2 a=some (.ins C dx fs)/\Cls K C/\bA K C f/\fs.length < 1000/\
 D.nx σ (upd H2 a (.ins C dx (bG f y fs)))
section
variable {X:Cx}{o e value:Expr}{f:Str}{pos pos' tpos:Pos}{ta tv:TE}
theorem NW (he:PE X e ta)(hb:attributeBase e f X.env (eval e X.env)=eval e X.env):PE X (.Attribute e f pos) (Pe X.K ta f):=by
 intro pins s σ H Q I h
 refine Lu hb (thn (he pins s σ H _ I h) fun u s1 ⟨x,H1,I1,rx,a,C,dx,fs,v,ex,ea,c,n,l,q⟩=>?_)
 subst ex
 obtain rfl:u=Value.ref a:=rx
 exact Fs I1 ea c n l fun u' s2 I2 ru=>⟨v,H1,I2,ru,q⟩
theorem NX (ha:PE X o ta)(hv:PE X value tv)(hs:swapsWith value (some (.Attribute o f pos')) pos.line X.env=pure false):PS X (.Assign [.Attribute o f pos'] value pos) (Pf X.K ta tv f):=by
 intro pins s σ H D I h
 refine plainObj_wpAny_Assign_Attribute (thn (hv pins s σ H _ I h) fun u s1 ⟨y,H1,I1,ry,q⟩=>thn (ha pins s1 σ H1 _ I1 q) fun ov s2 ⟨x,H2,I2,rx,a,C,dx,fs,ex,ea,c,n,l,q2⟩=>?_) hs
 subst ex
 obtain rfl:ov=Value.ref a:=rx
 exact Ft I2 ea c n l ry fun s3 I3=>⟨σ,_,I3,q2⟩
theorem M8 {pl:Sem Bool}{m:Str}{apos:Pos}{args:List Expr}{pins:List (Addr×Obj)}{s:Shared}{σ:St}{H:Hp}{Q:Value->Shared->Prop}{te:TE}(he:PE X e te)(I:Inv X pins σ H s)
  (h:te σ H fun x H1=>∃a C dx fs g,x=.ref a/\H1 a=some (.ins C dx fs)/\Cls X.K C/\Fq X.K C m g/\fs.lookup m=none/\
   ∀s1,Inv X pins σ H1 s1->wpAny (model X.prog X.w) X.A (callWith pos (.ref g) [.ref a] (backTo pos (starEach args X.env)) (backToKw pos (keywordEach [] X.env))) Q X.xe s1)
  (ht:eval (.Call (.Attribute e m apos) args [] pos) X.env=(do
   let ov ←eval e X.env
   standAt apos.atName
   let (f,first) ←holding [ov] (getMethod ov m pl)
   callWith pos f first (backTo pos (starEach args X.env)) (backToKw pos (keywordEach [] X.env)))) :
  wpAny (model X.prog X.w) X.A (eval (.Call (.Attribute e m apos) args [] pos) X.env) Q X.xe s:=by
 refine W.methodCall_KW (pl:=pl) (thn (he pins s σ H _ I h) fun u s1 ⟨x,H1,I1,rx,a,C,dx,fs,g,ex,ea,c,k,l,q⟩=>?_) ht
 subst ex
 obtain rfl:u=Value.ref a:=rx
 exact tX I1 ea c k l (q s1 I1)
end
structure eo (k:Nat)(A:Around):Prop where
 hd:A.handled=none
 dp:A.depth+3 * k+5 < recursionLimit
 un:A.units+16 * k+200 < cLine
theorem eo.mono {j k:Nat}{A:Around}(r:eo k A)(h:j<=k):eo j A:=⟨r.hd,by have:=r.dp;omega,by have:=r.un;omega⟩
theorem eo.deeper {k:Nat}{A:Around}(r:eo (k+1) A)(env:Env):eo k (A.deeper env):=
 ⟨r.hd,by have:=r.dp;show A.depth+1+3 * k+5 < _;omega,by have:=r.un;show A.units+3+16 * k+200 < _;omega⟩
theorem Fu {A:Around}{C:Addr}{us:List Value}{kw:List (Str×Value)}:(A.under (.builtin "type.__call__" ⟨.ref C::us,kw⟩)).depth=A.depth+1:=by
 first | rfl | simp [Around.under,Code.weight,Code.isCreation,Code.isGuard,Code.isCaller,Code.frames,Code.isFrame,guardIds]
theorem Fv {A:Around}{C:Addr}{us:List Value}{kw:List (Str×Value)}:(A.under (.builtin "type.__call__" ⟨.ref C::us,kw⟩)).units=A.units+1:=by
 first | rfl | simp [Around.under,Code.cUnits,Code.frames,Code.isFrame]
theorem eo.make {k:Nat}{A:Around}(r:eo (k+1) A)(C:Addr)(us:List Value)(kw:List (Str×Value)):eo k (A.under (.builtin "type.__call__" ⟨.ref C::us,kw⟩)):=
 ⟨r.hd,by have:=r.dp;rw [Fu];omega,by have:=r.un;rw [Fv];omega⟩
theorem eo.depth {k:Nat}{A:Around}(r:eo k A):A.depth < recursionLimit:=by have:=r.dp;omega
theorem eo.units0 {k:Nat}{A:Around}(r:eo k A):A.units < cLine:=by have:=r.un;omega
noncomputable def Aw:TA:=fun _ H Q=>Q [] H
noncomputable def om (ta:TE)(tr:TA):TA:=fun σ H Q=>ta σ H fun x H1=>tr σ H1 fun xs H2=>Q (x::xs) H2
section
variable {X:Cx}{e:Expr}{es:List Expr}{te:TE}{t:TA}{pos:Pos}
theorem iK:PA X [] Aw:=fun _ _ _ _ H Q I h=>Calls.spliced_nil ⟨[],H,I,.nil,h⟩
theorem cq (ha:PE X e te)(hr:PA X es t)(hs:starEach (e::es) X.env=(false,eval e X.env)::starEach es X.env:=by rfl):PA X (e::es) (om te t):=by
 intro pos pins s σ H Q I h
 rw [hs]
 show wpAny _ _ (spliced ((false,eval e X.env)::backTo pos (starEach es X.env))) _ _ s
 refine Calls.spliced_cons (thn (ha pins s σ H _ I h) fun u s1 ⟨x,H1,I1,r1,q1⟩=>?_)
 exact thn (hr pos pins s1 σ H1 _ I1 q1) fun us s2 ⟨xs,H2,I2,r2,q2⟩=>⟨x::xs,H2,I2,.cons r1 r2,q2⟩
noncomputable def Pg (t:TA):TE:=fun σ H Q=>t σ H fun xs H1=>xs.length<=sizeLine/\∀p,H1 p=none->Q (.ref p) (upd H1 p (.tup xs))
noncomputable def Ph (t:TA):TE:=fun σ H Q=>t σ H fun xs H1=>xs.length<=sizeLine/\∀p,H1 p=none->Q (.ref p) (upd H1 p (.lst xs))
theorem aY {x1}(h:PA X es t):PE X (.Tuple es x1 pos) (Pg t):=by
 intro pins s σ H Q I hq
 refine wpAny_Tuple_spliced (thn (h pos pins s σ H _ I hq) fun us s1 ⟨xs,H1,I1,r,z,q⟩=>⟨by rw [←r.length];exact z,?_⟩)
 have hf:H1 s1.heap.objs.size=none:=I1.hok.fresh (Nat.le_refl _)
 refine ⟨.ref s1.heap.objs.size,upd H1 s1.heap.objs.size (.tup xs),I1.laid (t':=s1.toks) (fun b u e=>Heap.get?_push_of_some _ e) (Nat.le_refl _) ?_,rfl,q _ hf⟩
 exact ⟨z,us,r,⟨_,Heap.get?_push_size _ rfl,⟨rfl,_,rfl⟩,rfl⟩⟩
theorem bj (h:PA X es t):PE X (.List es pos) (Ph t):=by
 intro pins s σ H Q I hq
 refine wpAny_List_spliced (thn (h pos pins s σ H _ I hq) fun us s1 ⟨xs,H1,I1,r,z,q⟩=>⟨by rw [←r.length];exact z,?_⟩)
 have hf:H1 s1.heap.objs.size=none:=I1.hok.fresh (Nat.le_refl _)
 refine ⟨.ref s1.heap.objs.size,upd H1 s1.heap.objs.size (.lst xs),I1.laid (t':=s1.toks) (fun b u e=>Heap.get?_push_of_some _ e) (Nat.le_refl _) ?_,rfl,q _ hf⟩
 exact ⟨z,us,0,r,Heap.get?_push_size _ rfl⟩
end
noncomputable abbrev Sp:=List V->Hp->VK->XK->Prop
noncomputable abbrev CXT:=List Env->Hp->Shared->XK->Value->Shared->Prop
structure Fw (P:Program)(w:World)(K:WA)(mg:Str->Option Value)(base:Heap)(A:Around)(outer:List Env)(s:Shared)(H:Hp):Prop where
 frames:A.frames=some outer
 mod:Mod K mg base
 bs:∀b o,base.get? b=some o->s.heap.get? b=some o/\H b=none
 bsz:base.objs.size<=s.heap.objs.size
 funs:s.heap.FunFrames base outer
 frf:∀b∈frs outer,H b=none
 hok:HOk P w H s.heap
 bare:AllBare s.gens
def CE (outer:List Env)(P:Program)(w:World)(H:Hp)(s:Shared)(Q:VK)(u:Value)(s':Shared):Prop:=
 ∃v H',s'.os=s.os/\AllBare s'.gens/\Un (frs outer) [] H H' s.heap s'.heap/\HOk P w H' s'.heap/\cf v u/\Q v H'
def CR (CX:CXT)(outer:List Env)(P:Program)(w:World)(H:Hp)(s:Shared)(Q:VK)(E:XK)(r:Result)(s':Shared):Prop:=
 match r with
 | .ok (.ret u)=>CE outer P w H s Q u s'
 | .ok _=>False
 | .error e=>CX outer H s E e s'
structure gv (P:Program)(w:World)(K:WA)(mg:Str->Option Value)(base:Heap)(CX:CXT)(k:Nat)(f:Addr)(fd:FuncData)(ps:List Str)(sp:Sp):Prop where
 len:∀vs H Q E,sp vs H Q E->vs.length=ps.length
 run:∀(A:Around) (outer:List Env) (s:Shared) (H:Hp) (args:Args) (us:List Value) (vs:List V) (Q:VK) (E:XK),eo k A->Fw P w K mg base A outer s H->BindsTo s fd args (ps.zip us)->bL vs us->sp vs H Q E->
  codeAny (model P w) A (.call (.ref f) args) (CR CX outer P w H s Q E) s
theorem gv.imp {P:Program}{w:World}{K:WA}{mg:Str->Option Value}{base:Heap}{CX:CXT}{k:Nat}{f:Addr}{fd:FuncData}{ps:List Str}{sp sp':Sp}(F:gv P w K mg base CX k f fd ps sp)
  (h:∀vs H Q E,sp' vs H Q E->sp vs H Q E):gv P w K mg base CX k f fd ps sp':=
 ⟨fun vs H Q E q=>F.len vs H Q E (h _ _ _ _ q),fun A outer s H args us vs Q E hr he hb hv hs=>F.run A outer s H args us vs Q E hr he hb hv (h _ _ _ _ hs)⟩
theorem Fw.make {P:Program}{w:World}{K:WA}{mg:Str->Option Value}{base:Heap}{A:Around}{outer:List Env}{s:Shared}{H:Hp}(e:Fw P w K mg base A outer s H)(C:Addr)(us:List Value)(kw:List (Str×Value)) :
  Fw P w K mg base (A.under (.builtin "type.__call__" ⟨.ref C::us,kw⟩)) outer s H:=⟨by first | exact e.frames | (simpa [Around.under,Code.envs,Code.isFrame,pushEnvs] using e.frames),e.mod,e.bs,e.bsz,e.funs,e.frf,e.hok,e.bare⟩
section
variable {X:Cx}{pins:List (Addr×Obj)}{σ:St}{H:Hp}{s s':Shared}
theorem Inv.env0 (I:Inv X pins σ H s):Fw X.prog X.w X.K X.mg X.base X.A X.stack s H:=
 ⟨I.ok.frames,I.ok.mod,I.bs,Nat.le_trans I.ok.bsz I.sz,I.stack,I.stkFree,I.hok,I.bare⟩
theorem Inv.after {Q:VK}{u:Value}(I:Inv X pins σ H s)(h:CE X.stack X.prog X.w H s Q u s'):EP X pins σ Q u s':=by
 obtain ⟨v,H',os,bare,un,hok,r,q⟩:=h
 obtain ⟨hh,g,d,t,os'⟩:=s'
 obtain rfl:os'=s.os:=os
 exact ⟨v,H',I.call (h':=hh) (g':=g) (d':=d) (t':=t) (ch:=[]) un hok bare (fun b z=>absurd z (by simp)),r,q⟩
end
noncomputable def GZ (sp:Sp)(dvs:List V)(E:XK)(t:TA):TE:=fun σ H Q=>t σ H fun vs H1=>sp (vs++dvs) H1 Q E
noncomputable def Dm (C:Addr)(m:Str)(sp:Sp)(dvs:List V)(E:XK)(ta:TE)(t:TA):TE:=fun σ H Q=>ta σ H fun x H1=>∃a dx fs,x=.ref a/\H1 a=some (.ins C dx fs)/\fs.lookup m=none/\
 t σ H1 fun vs H2=>sp (x::(vs++dvs)) H2 Q E
noncomputable def JA (C:Addr)(sp:Sp)(dvs:List V)(E:XK)(t:TA):TE:=fun σ H Q=>t σ H fun vs H1=>∀x dx,H1 x=none->H1 dx=none->dx≠x->
 sp (.ref x::(vs++dvs)) (upd (upd H1 dx (.own x)) x (.ins C dx [])) (fun v H2=>v=.non/\Q (.ref x) H2) E
def eJ (K:WA)(fd:FuncData)(ps:List Str)(ds:List Value):Prop:=
 ∀(s:Shared) (us:List Value),K.In s.heap->(us++ds).length=ps.length->BindsTo s fd ⟨us,[]⟩ (ps.zip (us++ds))
theorem eJ.all {K:WA}{fd:FuncData}{ps:List Str}(h:∀us:List Value,us.length=ps.length->bindArgs fd ⟨us,[]⟩=pure (ps.zip us)):eJ K fd ps []:=fun s us _ hl=>by
 rw [List.append_nil] at hl ⊢
 exact .of_eq (h us hl)
def fQ (CX:CXT)(X:Cx)(E:XK):Prop:=∀(pins:List (Addr×Obj)) (σ:St) (H:Hp) (s:Shared) (e:Value) (s':Shared),Inv X pins σ H s->CX X.stack H s E e s'->X.xe e s'
section
variable {X:Cx}{CX:CXT}{k:Nat}{f C:Addr}{fd:FuncData}{ps:List Str}{sp:Sp}{dvs:List V}{ds:List Value}{E:XK}{x m:Str}{p pos apos:Pos}{e o:Expr}{es:List Expr}{ta:TE}{t:TA}
theorem Fx {pins:List (Addr×Obj)}{σ:St}{H:Hp}{s:Shared}{Q:VK}{us:List Value}{vs:List V}(F:gv X.prog X.w X.K X.mg X.base CX k f fd ps sp)(hr:eo k X.A)(hb:eJ X.K fd ps ds)(hd:bL dvs ds)(hx:fQ CX X E)
  (I:Inv X pins σ H s) (r:bL vs us) (h:sp (vs++dvs) H Q E):wpAny (model X.prog X.w) X.A (call (.ref f) us) (EP X pins σ Q) X.xe s:=by
 have r2:bL (vs++dvs) (us++ds):=r.append hd
 have hl:(us++ds).length=ps.length:=by rw [←r2.length];exact F.len _ _ _ _ h
 refine wpAny_call (codeAny_mono (F.run X.A X.stack s H ⟨us,[]⟩ (us++ds) (vs++dvs) Q E hr I.env0 (hb s us I.kIn hl) r2 h) fun r s' hq=>?_)
 cases r with
 | error e=>exact hx pins σ H s e s' I hq
 | ok fl=>
  cases fl with
  | ret u=>exact I.after hq
  | next=>exact False.elim hq
  | brk=>exact False.elim hq
  | cont=>exact False.elim hq
theorem Lv (F:gv X.prog X.w X.K X.mg X.base CX k f fd ps sp)(hr:eo k X.A)(hg:Gl X x)(hm:X.mg x=some (.ref f))(hk:W.keepIn X.K (.ref f)=true)(hb:eJ X.K fd ps ds)(hd:bL dvs ds)(hx:fQ CX X E)
  (ha:PA X (e::es) t) (hdb:(x == ("__debug__":Str))=false:=by decide) (he:starEach (e::es) X.env=(false,eval e X.env)::starEach es X.env:=by rfl) (hpl:(backTo pos (starEach es X.env)).any (·.1)=false:=by rfl) :
  PE X (.Call (.Name x p) (e::es) [] pos) (GZ sp dvs E t):=by
 intro pins s σ H Q I h
 refine wpAny_Call_Name_kw (qW I hg hm ?_ hdb)
 refine W.callWith_K (h₀:=X.base) I.ok.mod.kin hk (thn (ha pos pins s σ H _ I h) fun us s1 ⟨vs,H1,I1,r,q⟩=>⟨I1.kIn,?_⟩) he hpl
 exact Fx F hr hb hd hx I1 r q
theorem Lw {pl:Sem Bool}(he:PE X o ta)(c:Cls X.K C)(hm:Fq X.K C m f)(F:gv X.prog X.w X.K X.mg X.base CX k f fd ps sp)(hr:eo k X.A)(hb:eJ X.K fd ps ds)(hd:bL dvs ds)(hx:fQ CX X E)(ha:PA X (e::es) t)
  (hst:starEach (e::es) X.env=(false,eval e X.env)::starEach es X.env:=by rfl) (hpl:(backTo pos (starEach es X.env)).any (·.1)=false:=by rfl)
  (ht:eval (.Call (.Attribute o m apos) (e::es) [] pos) X.env=(do
   let ov ←eval o X.env
   standAt apos.atName
   let (f,first) ←holding [ov] (getMethod ov m pl)
   callWith pos f first (backTo pos (starEach (e::es) X.env)) (backToKw pos (keywordEach [] X.env))):=by rfl) :
  PE X (.Call (.Attribute o m apos) (e::es) [] pos) (Dm C m sp dvs E ta t):=by
 intro pins s σ H Q I h
 refine W.methodCall_KW (pl:=pl) (thn (he pins s σ H _ I h) fun u s1 ⟨x,H1,I1,rx,a,dx,fs,ex,ea,l,q⟩=>?_) ht
 subst ex
 obtain rfl:u=Value.ref a:=rx
 refine tX I1 ea c hm l ?_
 refine W.callWith_K (first:=[.ref a]) (h₀:=X.base) I.ok.mod.kin hm.kp (thn (ha pos pins s1 σ H1 _ I1 q) fun us s2 ⟨vs,H2,I2,r,q2⟩=>⟨I2.kIn,?_⟩) hst hpl
 exact Fx (us:=.ref a::us) (vs:=.ref a::vs) F hr hb hd hx I2 (.cons rfl r) q2
theorem JB {pl:Sem Bool}(he:PE X o ta)(c:Cls X.K C)(hm:Fq X.K C m f)(F:gv X.prog X.w X.K X.mg X.base CX k f fd ps sp)(hr:eo k X.A)(hb:eJ X.K fd ps ds)(hd:bL dvs ds)(hx:fQ CX X E)
  (ht:eval (.Call (.Attribute o m apos) [] [] pos) X.env=(do
   let ov ←eval o X.env
   standAt apos.atName
   let (f,first) ←holding [ov] (getMethod ov m pl)
   callWith pos f first (backTo pos (starEach [] X.env)) (backToKw pos (keywordEach [] X.env))):=by rfl) :
  PE X (.Call (.Attribute o m apos) [] [] pos) (Dm C m sp dvs E ta Aw):=by
 intro pins s σ H Q I h
 refine W.methodCall_KW (pl:=pl) (thn (he pins s σ H _ I h) fun u s1 ⟨x,H1,I1,rx,a,dx,fs,ex,ea,l,q⟩=>?_) ht
 subst ex
 obtain rfl:u=Value.ref a:=rx
 refine tX I1 ea c hm l ?_
 exact W.callWith_K0 (first:=[.ref a]) I1.kIn hm.kp (Fx (us:=[.ref a]) (vs:=[.ref a]) F hr hb hd hx I1 (.cons rfl .nil) q)
structure Mk (K:WA)(C f:Addr):Prop where
 makes:W.makesIn K C=true
 init:W.findIn K (.ref C) "__init__"=some (some (.ref f))
 fn:W.isFn K (.ref f)=true
 kp:W.keepIn K (.ref C)=true
theorem JC {pins:List (Addr×Obj)}{σ:St}{H:Hp}{s:Shared}{Q:VK}{us:List Value}{vs:List V}(M:Mk X.K C f)(F:gv X.prog X.w X.K X.mg X.base CX k f fd ps sp)(hr:eo (k+1) X.A)(hb:eJ X.K fd ps ds)(hd:bL dvs ds)
  (hx:fQ CX X E) (I:Inv X pins σ H s) (r:bL vs us)
  (h:∀x dx,H x=none->H dx=none->dx≠x->sp (.ref x::(vs++dvs)) (upd (upd H dx (.own x)) x (.ins C dx [])) (fun v H2=>v=.non/\Q (.ref x) H2) E) :
  wpAny (model X.prog X.w) X.A (call (.ref C) us) (EP X pins σ Q) X.xe s:=by
 have hq:=h (s.heap.objs.size+1) s.heap.objs.size (I.hok.fresh (Nat.le_succ _)) (I.hok.fresh (Nat.le_refl _)) (Nat.ne_of_lt (Nat.lt_succ_self _))
 have I2:=Inv.made (C:=C) I
 have r2:bL (V.ref (s.heap.objs.size+1)::(vs++dvs)) (Value.ref (s.heap.objs.size+1)::(us++ds)):=.cons rfl (r.append hd)
 have hl:(Value.ref (s.heap.objs.size+1)::us++ds).length=ps.length:=by
  have e:=r2.length
  rw [F.len _ _ _ _ hq] at e
  exact e.symm
 refine wpAny_call (Jz (f:=f) I.kIn M.makes M.init (beq_iff_eq.mp M.fn) (codeAny_mono (F.run _ X.stack _ _ ⟨Value.ref (s.heap.objs.size+1)::us,[]⟩ (Value.ref (s.heap.objs.size+1)::(us++ds)) _ _ E (hr.make C us [])
  (I2.env0.make C us []) (hb _ (Value.ref (s.heap.objs.size+1)::us) I2.kIn hl) r2 hq) fun r s' hq'=>?_))
 cases r with
 | error e=>exact hx pins σ _ _ e s' I2 hq'
 | ok fl=>
  cases fl with
  | ret u=>
   obtain ⟨v,H',I3,rv,ev,q3⟩:=I2.after hq'
   subst ev
   exact ⟨rv,⟨V.ref (s.heap.objs.size+1),H',I3,rfl,q3⟩⟩
  | next=>exact False.elim hq'
  | brk=>exact False.elim hq'
  | cont=>exact False.elim hq'
theorem Lx (M:Mk X.K C f)(F:gv X.prog X.w X.K X.mg X.base CX k f fd ps sp)(hr:eo (k+1) X.A)(hg:Gl X x)(hm:X.mg x=some (.ref C))(hb:eJ X.K fd ps ds)(hd:bL dvs ds)(hx:fQ CX X E)
  (ha:PA X (e::es) t) (hdb:(x == ("__debug__":Str))=false:=by decide) (he:starEach (e::es) X.env=(false,eval e X.env)::starEach es X.env:=by rfl) (hpl:(backTo pos (starEach es X.env)).any (·.1)=false:=by rfl) :
  PE X (.Call (.Name x p) (e::es) [] pos) (JA C sp dvs E t):=by
 intro pins s σ H Q I h
 refine wpAny_Call_Name_kw (qW I hg hm ?_ hdb)
 refine W.callWith_K (h₀:=X.base) I.ok.mod.kin M.kp (thn (ha pos pins s σ H _ I h) fun us s1 ⟨vs,H1,I1,r,q⟩=>⟨I1.kIn,?_⟩) he hpl
 exact JC M F hr hb hd hx I1 r q
end
structure aB (N P:List Str)(sc:Scope):Prop where
 kind:sc.kind=.function
 co:sc.isCoroutine=false
 gen:sc.isGenerator=false
 nd:N.Nodup
 pre:N.take P.length=P
 par:∀x∈P,sc.names.lookup x=some .local\/sc.names.lookup x=some .cell
 nofree:∀y∈sc.names,y.2≠.free
theorem Bj {kindOf:Str->Option NameKind}{x:Str}:∀{binds:List (Str×Value)} {m:Str->Option Value},(∀v,(x,v)∉binds)->bindL kindOf binds m x=m x
 | [],_,_=>rfl
 | (n,v)::r,m,h=>by
  unfold bindL
  rw [Bj fun w hw=>h w (List.mem_cons_of_mem _ hw)]
  split
  ·have:x≠n:=by rintro rfl;exact h v List.mem_cons_self
   simp [this]
  ·rfl
theorem Bk {kindOf:Str->Option NameKind}{x:Str}:∀{binds:List (Str×Value)} {m:Str->Option Value},(∀v,(x,v)∉binds)->bindC kindOf binds m x=m x
 | [],_,_=>rfl
 | (n,v)::r,m,h=>by
  unfold bindC
  rw [Bk fun w hw=>h w (List.mem_cons_of_mem _ hw)]
  split
  ·rfl
  ·have:x≠n:=by rintro rfl;exact h v List.mem_cons_self
   simp [this]
theorem Bl {kindOf:Str->Option NameKind}{x:Str}{v:Value}:∀{P:List Str} {vs:List Value} {i:Nat} {m:Str->Option Value},P.Nodup->P[i]?=some x->vs[i]?=some v->kindOf x=some .local->
  bindL kindOf (P.zip vs) m x=some v
 | [],_,_,_,_,h,_,_=>by simp at h
 | _::_,[],_,_,_,_,h,_=>by simp at h
 | p::P,w::vs,0,m,nd,h1,h2,hk=>by
  simp at h1 h2;subst h1;subst h2
  show bindL kindOf ((p,w)::P.zip vs) m p=_
  unfold bindL
  rw [Bj fun v hv=>(List.nodup_cons.mp nd).1 (List.of_mem_zip hv).1,if_pos hk]
  simp
 | p::P,w::vs,i+1,m,nd,h1,h2,hk=>by
  show bindL kindOf ((p,w)::P.zip vs) m x=_
  unfold bindL
  exact Bl (i:=i) (List.nodup_cons.mp nd).2 (by simpa using h1) (by simpa using h2) hk
theorem Bm {kindOf:Str->Option NameKind}{x:Str}{v:Value}:∀{P:List Str} {vs:List Value} {i:Nat} {m:Str->Option Value},P.Nodup->P[i]?=some x->vs[i]?=some v->kindOf x≠some .local->
  bindC kindOf (P.zip vs) m x=some v
 | [],_,_,_,_,h,_,_=>by simp at h
 | _::_,[],_,_,_,_,h,_=>by simp at h
 | p::P,w::vs,0,m,nd,h1,h2,hk=>by
  simp at h1 h2;subst h1;subst h2
  show bindC kindOf ((p,w)::P.zip vs) m p=_
  unfold bindC
  rw [Bk fun v hv=>(List.nodup_cons.mp nd).1 (List.of_mem_zip hv).1,if_neg hk]
  simp
 | p::P,w::vs,i+1,m,nd,h1,h2,hk=>by
  show bindC kindOf ((p,w)::P.zip vs) m x=_
  unfold bindC
  exact Bm (i:=i) (List.nodup_cons.mp nd).2 (by simpa using h1) (by simpa using h2) hk
noncomputable def oo (N:List Str)(vs:List V):St:=vs.map some++List.replicate (N.length - vs.length) none
noncomputable def yS (CX:CXT)(P:Program)(w:World)(K:WA)(mg:Str->Option Value)(base:Heap)(N:List Str)(qual:Str)(scope:Scope)(f:Addr)(cd:Value)(A:Around)(outer:List Env)(s:Shared)(H:Hp)(E:XK):Cx where
 prog:=P
 w:=w
 K:=K
 mg:=mg
 base:=base
 A:=A.deeper (envOfC qual scope s.heap.objs.size f cd)
 N:=N
 s₀:=s
 H₀:=H
 env:=envOfC qual scope s.heap.objs.size f cd
 outer:=outer
 stack:=envOfC qual scope s.heap.objs.size f cd::outer
 ex:=[]
 calm:=true
 fn:=fun _=>true
 pn:=[]
 xe:=fun e s'=>wpAny (model P w) (A.deeper (envOfC qual scope s.heap.objs.size f cd)) (leaving (envOfC qual scope s.heap.objs.size f cd) e) (fun _ s''=>CX outer H s E e s'') (fun e' s''=>CX outer H s E e' s'') s'
theorem Dn {sc:Scope}{n:Nat}{x:Str}(h:sc.names.lookup x=some .cell):∃c,(cellsFrom n sc.names []).lookup x=some c:=by
 have q:=W.cellsFrom_some sc.names n [] (.inl h)
 exact Option.isSome_iff_exists.mp q
theorem Il {CX:CXT}{P:Program}{w:World}{K:WA}{mg:Str->Option Value}{base:Heap}{N ps:List Str}{qual:Str}{scope:Scope}{f:Addr}{cd:Value}{A:Around}{outer:List Env}{s s1:Shared}{H:Hp}{E:XK}{us:List Value}{vs:List V}
  (S:aB N ps scope) (hd:A.handled=none) (e0:Fw P w K mg base A outer s H) (hl:vs.length=ps.length) (r:bL vs us)
  (x:InCallC s s.heap.objs.size (bindL (envOfC qual scope s.heap.objs.size f cd).kindOf (ps.zip us) fun _=>none) (cellsFrom (s.heap.objs.size+1) scope.names []) (bindC (envOfC qual scope s.heap.objs.size f cd).kindOf (ps.zip us) fun _=>none) s1) :
  Inv (yS CX P w K mg base N qual scope f cd A outer s H E) [] (oo N vs) H s1:=by
 have hpl:ps.length<=N.length:=by have:=congrArg List.length S.pre;rw [List.length_take] at this;omega
 obtain ⟨h1,tk,rfl,hk⟩:=x.done
 have noA:∀b:Addr,b∉(yS CX P w K mg base N qual scope f cd A outer s H E).ex:=fun b z=>absurd (show b∈([]:List Addr) from z) (by simp)
 refine ⟨⟨e0.mod,S.kind,rfl,rfl,Nat.le_refl _,fun y z c h1 h2=>?_,fun y hy=>?_,fun y c _ h=>?_,fun _=>hd,Around.frames_deeper e0.frames,.inr ⟨rfl,rfl⟩,fun b z=>absurd z (noA b),e0.bs,e0.bsz,fun b _ _=>noA b,fun b z=>absurd z (noA b),e0.funs,e0.frf⟩,
  rfl,e0.bare,Un.kept hk,⟨_,x.toInCall.ns,fun i y v h1 h2 h3=>?_⟩,fun y c h=>⟨_,x.cell y c h⟩,e0.hok.fresh (Nat.le_refl _),fun y c h=>?_,fun p hp=>absurd (show p∈([]:List (Addr×Obj)) from hp) (by simp),e0.hok.kept hk,?_⟩
 ·exact name_of_addr x.apart (PySem.mem_of_lookup h1) (PySem.mem_of_lookup h2)
 ·have hy:scope.names.lookup y=some .cell\/scope.names.lookup y=some .free:=hy
  rcases hy with hy | hy
  ·exact Dn hy
  ·exact absurd rfl (S.nofree _ (PySem.mem_of_lookup hy))
 ·exact Nat.le_of_lt (x.above y c (PySem.mem_of_lookup h))
 ·have hi:i < vs.length:=by
   unfold oo at h2
   by_cases hi:i < vs.length
   ·exact hi
   ·rw [List.getElem?_append_right (by simpa using hi)] at h2
    rw [List.getElem?_replicate] at h2
    split at h2<;>cases h2
  have ha:vs[i]?=some v:=by
   unfold oo at h2
   rw [List.getElem?_append_left (by simpa using hi),List.getElem?_map] at h2
   cases e:vs[i]? with
   | none=>rw [e] at h2;cases h2
   | some a=>rw [e] at h2;cases h2;rfl
  obtain ⟨u,hu,rv⟩:=r.get ha
  have hp:ps[i]?=some y:=by
   rw [←S.pre,List.getElem?_take_of_lt (by omega)];exact h1
  have ndP:ps.Nodup:=by rw [←S.pre];exact S.nd.sublist (List.take_sublist _ _)
  refine ⟨u,rv,?_⟩
  rcases S.par y (List.mem_of_getElem? hp) with k | k
  ·exact .inl ⟨k,Bl ndP hp hu k⟩
  ·obtain ⟨c,e⟩:=Dn (n:=s.heap.objs.size+1) k
   refine .inr ⟨.inl k,c,e,?_⟩
   have q:=x.cell y c e
   rw [Bm ndP hp hu (by show scope.names.lookup y≠_;rw [k];decide)] at q
   exact q
 ·exact e0.hok.fresh (Nat.le_of_lt (x.above y c (PySem.mem_of_lookup h)))
 ·unfold oo
  show _=N.length
  rw [List.length_append,WB,List.length_replicate]
  omega
theorem M9 {CX:CXT}{P:Program}{w:World}{K:WA}{mg:Str->Option Value}{base:Heap}{k:Nat}{f:Addr}{name qual:Str}{params:Arguments}{body:List Stmt}{scope:Scope}{dV kV doc pm cdv ct oc:Value}{an od:Option Addr}
  {osl:Array (Option Value)} {N ps:List Str} {sp:Sp} (lk:K.lookup f=some ⟨oc,od,.func (W.fnOf name qual params body scope dV kV doc pm an cdv ct),osl⟩) (hcd:W.codeIn K cdv qual=true) (S:aB N ps scope)
  (len:∀vs H Q E,sp vs H Q E->vs.length=ps.length)
  (hbody:∀(A:Around) (outer:List Env) (s:Shared) (H:Hp) (vs:List V) (Q:VK) (E:XK),eo k (A.deeper (envOfC qual scope s.heap.objs.size f cdv))->sp vs H Q E->
   ∃t,PSs (yS CX P w K mg base N qual scope f cdv A outer s H E) body t/\t {nx:=fun _ H'=>Q .non H',rt:=Q} (oo N vs) H) :
  gv P w K mg base CX (k+1) f (W.fnOf name qual params body scope dV kV doc pm an cdv ct) ps sp:=by
 refine ⟨len,fun A outer s H args us vs Q E hr e0 hb r hsp=>?_⟩
 have hl:=len _ _ _ _ hsp
 have KX:K.In s.heap:=e0.mod.kin.keeps fun b o e=>(e0.bs b o e).1
 have lim:s.heap.NoLimit:=e0.mod.nolimit.keeps fun b o e=>(e0.bs b o e).1
 have hkind:∀y∈ps.zip us,scope.names.lookup y.1=some .local\/(scope.names.lookup y.1=some .cell/\((cellsFrom (s.heap.objs.size+1) scope.names []).lookup y.1).isSome=true):=fun ⟨n,v⟩ hy=>by
  rcases S.par n (List.of_mem_zip hy).1 with q | q
  ·exact .inl q
  ·exact .inr ⟨q,W.cellsFrom_some _ _ _ (.inl q)⟩
 refine codeAny_call_function hr.depth (KX _ _ lk) rfl S.co S.gen rfl (W.codeRec_of KX hcd) (hb _ _ _ _ ?_)
 refine wpAny_newFunctionEnv_cells S.kind hkind fun env he s1 x=>?_
 subst he
 refine ⟨lim.keeps x.toInCall.keep,codeAny_func ?_⟩
 obtain ⟨t,ht,hq⟩:=hbody A outer s H vs Q E (hr.deeper _) hsp
 have I:Inv (yS CX P w K mg base N qual scope f cdv A outer s H E) [] (oo N vs) H s1:=Il S hr.hd e0 hl r x
 refine wpAny_mono (ht [] s1 (oo N vs) H _ I hq) (fun fl s' hs=>?_) fun e s' hs=>hs
 have fin:∀{σ':St} {H':Hp} {v:V} {u:Value},Inv (yS CX P w K mg base N qual scope f cdv A outer s H E) [] σ' H' s'->cf v u->Q v H'->CE outer P w H s Q u s':=
  fun {σ' H' v u} J rv q=>⟨v,H',J.os,J.bare,J.base,J.hok,rv,q⟩
 cases fl with
 | ret u=>
  obtain ⟨v,σ',H',J,rv,q⟩:=hs
  exact fin J rv q
 | next=>
  obtain ⟨σ',H',J,q⟩:=hs
  exact fin (v:=V.non) (u:=Value.none) J rfl q
 | brk=>
  obtain ⟨_,_,_,q⟩:=hs
  exact False.elim q
 | cont=>
  obtain ⟨_,_,_,q⟩:=hs
  exact False.elim q
section
variable {X:Cx}{x:Str}{p pos:Pos}{e:Expr}{es:List Expr}{t:TA}{id T:String}{r:List V->Hp->VK->Prop}
noncomputable def tCB (r:List V->Hp->VK->Prop)(t:TA):TE:=fun σ H Q=>t σ H fun vs H1=>r vs H1 Q
theorem aE (hc:de X (.builtin id) r)(hg:Gl X x)(hm:X.mg x=none)(hv:bootBuiltins x=some (.builtin id))(ha:PA X (e::es) t)(hn:x≠"__name__":=by decide)(hdb:(x == ("__debug__":Str))=false:=by decide)
  (he:starEach (e::es) X.env=(false,eval e X.env)::starEach es X.env:=by rfl) (hpl:(backTo pos (starEach es X.env)).any (·.1)=false:=by rfl):PE X (.Call (.Name x p) (e::es) [] pos) (tCB r t):=by
 intro pins s σ H Q I h
 refine wpAny_Call_Name_kw (tV I hg hm hv ?_ hn hdb)
 exact PyProof.Rows.callWith_builtin1 (thn (ha pos pins s σ H _ I h) fun us s1 ⟨vs,H1,I1,r1,q1⟩=>hc pins s1 σ H1 vs us Q I1 r1 q1) he hpl
theorem bw (hc:de X (.type T) r)(hg:Gl X x)(hm:X.mg x=none)(hv:bootBuiltins x=some (.type T))(ha:PA X (e::es) t)(hn:x≠"__name__":=by decide)(hdb:(x == ("__debug__":Str))=false:=by decide)
  (he:starEach (e::es) X.env=(false,eval e X.env)::starEach es X.env:=by rfl) (hpl:(backTo pos (starEach es X.env)).any (·.1)=false:=by rfl):PE X (.Call (.Name x p) (e::es) [] pos) (tCB r t):=by
 intro pins s σ H Q I h
 refine wpAny_Call_Name_kw (tV I hg hm hv ?_ hn hdb)
 exact PyProof.Rows.callWith_type1 (thn (ha pos pins s σ H _ I h) fun us s1 ⟨vs,H1,I1,r1,q1⟩=>hc pins s1 σ H1 vs us Q I1 r1 q1) he hpl
end
end L2
namespace HT
open PySem PyProof.Rows
section
open PySem.SeqAt
open PySem.AutoSeq1 (wpAny_loadPart')
open PySem.MeetsSeq PySem.MeetsSeq2 PySem.MeetsSeq3
end
section
variable {prog:Program}{w:World}{A:Around}{E:Value->Shared->Prop}{s:Shared}
theorem Ly {t b:Addr}{vs ws:List Value}{Q:Value->Shared->Prop}(ht:IsTup s.heap t vs.toArray)(hb:IsTup s.heap b ws.toArray)(hv:vs≠[])
  (h1:ws=[]->Q (.ref t) s) (h2:ws≠[]->Q (.ref s.heap.objs.size) {s with heap:=s.heap.push {cls:=.type "tuple",data:=.seq (vs++ws).toArray}})
  (hsz:vs.length+ws.length<=sizeLine):wpAny (model prog w) A (binaryOp .Add (.ref t) (.ref b)) Q E s:=by
 obtain ⟨⟨cls,dd,data,sl⟩,ho,hc,n,hd⟩:=id ht
 obtain ⟨⟨cls2,dd2,data2,sl2⟩,ho2,hc2,n2,hd2⟩:=id hb
 simp only at hc hd hc2 hd2
 subst hc hd hc2 hd2
 have e:vs.toArray++ws.toArray=(vs++ws).toArray:=by simp
 by_cases hw:ws=[]
 ·exact concat_meets ⟨_,ho,rfl⟩ ⟨_,ho2,rfl⟩ noFill_tuple_add seq_tuple_add PySem.F.slot_tuple_add PySem.F.entry_tuple_add (PySem.F.args_tuple_add_2 _ _)
   (tuple_addW1 t b vs.toArray ws.toArray n n2 dd dd2 sl sl2 (by simpa using hv) (by simp [hw])) ⟨ho,ho2,h1 hw⟩
 ·refine concat_meets ⟨_,ho,rfl⟩ ⟨_,ho2,rfl⟩ noFill_tuple_add seq_tuple_add PySem.F.slot_tuple_add PySem.F.entry_tuple_add (PySem.F.args_tuple_add_2 _ _)
   (tuple_addW2 t b vs.toArray ws.toArray n n2 dd dd2 sl sl2 (by simpa using hv) (by simpa using hw) (by rw [List.size_toArray,List.size_toArray];exact hsz)) ⟨ho,ho2,?_⟩
  rw [e]
  exact h2 hw
noncomputable def sIx (n d:Nat):Option Int->Nat
 | none=>d
 | some v=>if v < 0 then (v+(n:Int)).toNat else min v.toNat n
theorem Lz (n d k:Nat):sIx n d (some (k:Int))=min k n:=by
 show (if (k:Int) < 0 then ((k:Int)+(n:Int)).toNat else min (k:Int).toNat n)=min k n
 rw [if_neg (by omega),Int.toNat_natCast]
theorem NY (n d:Nat)(hd:d<=n)(o:Option Int):sIx n d o<=n:=by
 cases o with
 | none=>exact hd
 | some v=>
  show (if v < 0 then (v+(n:Int)).toNat else min v.toNat n)<=n
  by_cases hv:v < 0
  ·rw [if_pos hv];omega
  ·rw [if_neg hv];exact Nat.min_le_right _ _
theorem B6 (v:Int)(n d:Nat):(if v < 0 then max (v+(n:Int)) 0 else min v (n:Int))=((sIx n d (some v):Nat):Int):=by
 show (if v < 0 then max (v+(n:Int)) 0 else min v (n:Int))=(((if v < 0 then (v+(n:Int)).toNat else min v.toNat n):Nat):Int)
 by_cases hv:v < 0
 ·simp only [if_pos hv];omega
 ·simp only [if_neg hv];omega
theorem Fy (lo hi:Option Int)(n:Nat):Builtin.Slice.sliceAdjust lo hi 1 (n:Int)=(((sIx n 0 lo:Nat):Int),((sIx n n hi:Nat):Int)):=by
 have h1:¬((1:Int) < 0):=by omega
 unfold Builtin.Slice.sliceAdjust
 simp only [h1,if_false]
 refine Prod.ext ?_ ?_
 ·cases lo with
  | none=>rfl
  | some v=>exact B6 v n 0
 ·cases hi with
  | none=>rfl
  | some v=>exact B6 v n n
theorem Fz (i j:Nat):Builtin.Slice.slicePlaces (i:Int) (j:Int) 1=j - i:=by
 unfold Builtin.Slice.slicePlaces
 have h1:(1:Int) > 0:=by omega
 simp only [h1,if_true,Int.ediv_one]
 split<;>omega
theorem yT {v:Value}{o:Option Int}{Q:Option Int->Shared->Prop}(p:IsPart v o)(h:Q o s):wpAny (model prog w) A (Builtin.Slice.slicePartIndex v) Q E s:=by
 cases p with
 | none=>exact slicePart_none h
 | int i t=>exact slicePart_int h
theorem wI {sl:Addr}{vl vu:Value}{lo hi:Option Int}{n:Nat}{Q:Int×Int×Nat->Shared->Prop}(hs:s.heap.IsSliceOf sl vl vu .none)(pl:IsPart vl lo)(pu:IsPart vu hi)
  (h:Q (((sIx n 0 lo:Nat):Int),1,sIx n n hi - sIx n 0 lo) s):wpAny (model prog w) A (Builtin.Slice.sliceApplied (.ref sl) (pure (n:Int))) Q E s:=by
 obtain ⟨os,hos,hcs,hds⟩:=id hs
 unfold Builtin.Slice.sliceApplied Builtin.Slice.sliceFields
 refine wpAny_bind (wpAny_bind (wpAny_field hos hds (x:=vl) rfl (wpAny_bind (wpAny_field hos hds (x:=vu) rfl (wpAny_bind (wpAny_field hos hds (x:=.none) rfl (wpAny_pure ?_)))))))
 refine wpAny_bind (slicePart_none ?_)
 show wpAny _ _ (if ((1:Int) == 0)=true then _ else _) _ _ s
 rw [if_neg (by decide)]
 refine wpAny_bind (yT pl (wpAny_bind (yT pu (wpAny_bind (wpAny_pure ?_)))))
 show wpAny _ _ (match Builtin.Slice.sliceAdjust lo hi 1 (n:Int) with | (lo,hi)=>pure (lo,(1:Int),Builtin.Slice.slicePlaces lo hi 1)) _ _ s
 rw [Fy lo hi n]
 show wpAny _ _ (pure (((sIx n 0 lo:Nat):Int),(1:Int),Builtin.Slice.slicePlaces ((sIx n 0 lo:Nat):Int) ((sIx n n hi:Nat):Int) 1)) _ _ s
 rw [Fz]
 exact wpAny_pure h
theorem JD (xs:Array Value)(i k:Nat):((List.range k).filterMap fun (m:Nat)=>xs[((i:Int)+(m:Int) * 1).toNat]?).toArray=((xs.toList.drop i).take k).toArray:=by
 have e:(fun (m:Nat)=>xs[((i:Int)+(m:Int) * 1).toNat]?)=fun m=>xs[i+m]?:=by
  funext m
  have:((i:Int)+(m:Int) * 1).toNat=i+m:=by omega
  rw [this]
 rw [e]
 have:=pick_run xs i k
 rw [List.filterMap_map] at this
 have e2:((fun x=>xs[x]?) ∘ fun x=>i+x)=fun m=>xs[i+m]?:=rfl
 rw [e2] at this
 rw [this]
theorem uQ {t sl:Addr}{items:Array Value}{vl vu:Value}{lo hi:Option Int}{Q:Value->Shared->Prop}(ht:IsTup s.heap t items)(hs:s.heap.IsSliceOf sl vl vu .none)(pl:IsPart vl lo)(pu:IsPart vu hi)
  (hw:¬(sIx items.size 0 lo=0/\sIx items.size items.size hi=items.size))
  (h:Q (.ref s.heap.objs.size) {s with heap:=s.heap.push {cls:=.type "tuple",data:=.seq ((items.toList.drop (sIx items.size 0 lo)).take (sIx items.size items.size hi - sIx items.size 0 lo)).toArray}})
  (hsz:items.size<=sizeLine):wpAny (model prog w) A (getItem (.ref t) (.ref sl)) Q E s:=by
 have htake:sizeOk (.seq ((items.toList.drop (sIx items.size 0 lo)).take (sIx items.size items.size hi - sIx items.size 0 lo)).toArray):=by
  show ((items.toList.drop (sIx items.size 0 lo)).take (sIx items.size items.size hi - sIx items.size 0 lo)).toArray.size<=sizeLine
  rw [List.size_toArray,List.length_take,List.length_drop,Array.length_toList]
  omega
 have hj:sIx items.size items.size hi<=items.size:=NY _ _ (Nat.le_refl _) hi
 obtain ⟨os,hos,hcs,hds⟩:=id hs
 have hTs:s.TypeIs (.ref sl) "slice":=⟨os,hos,hcs⟩
 unfold getItem
 try with_reducible refine wpAny_holding ?_
 first | refine wpAny_bind (wpAny_pure ?_) | skip
 refine wpAny_bind (wpAny_sequenceKey ht.typeIs (by decide) ?_)
 refine wpAny_bind (wpAny_callSpecial?_slot (name:=Str.ofString "__getitem__") ht.typeIs PyProof.Rows.slot_tuple_getitem
  (wpAny_call_entry PyProof.Rows.slot_tuple_getitem ht.typeIs entry_tuple_getitem ?_ (args_tuple_getitem _ _)))
 show wpAny _ _ (Builtin.Tuple.tupleItemsOf (.ref t) >>= _) _ _ s
 refine wpAny_bind (tupleItemsOf_ ht ?_)
 refine wpAny_bind (wpAny_typeOf hTs ?_)
 rw [if_pos (by decide)]
 refine wpAny_bind (wI hs pl pu ?_)
 have hno:¬((((sIx items.size 0 lo:Nat):Int) == 0 && (1:Int) == 1 && (sIx items.size items.size hi - sIx items.size 0 lo) == items.size)=true):=by
  intro q
  rw [Bool.and_eq_true,Bool.and_eq_true] at q
  have q1:((sIx items.size 0 lo:Nat):Int)=0:=eq_of_beq q.1.1
  have q2:sIx items.size items.size hi - sIx items.size 0 lo=items.size:=eq_of_beq q.2
  exact hw ⟨by omega,by omega⟩
 show wpAny _ _ (if (((sIx items.size 0 lo:Nat):Int) == 0 && (1:Int) == 1 && (sIx items.size items.size hi - sIx items.size 0 lo) == items.size)=true then _ else _) _ _ s
 rw [if_neg hno,JD]
 first
  | exact wpAny_bind (m:=Builtin.Tuple.tupleExact _) (wpAny_newObj_type (wpAny_pure ⟨_,rfl,wpAny_pure h⟩) htake)
  | exact wpAny_bind (m:=Builtin.Tuple.tupleExact _) (wpAny_newObj_type (wpAny_bind (wpAny_pure (wpAny_pure ⟨_,rfl,wpAny_pure h⟩))) htake)
  | exact wpAny_bind (wpAny_bind (m:=Builtin.Tuple.tupleExact _) (wpAny_newObj_type (wpAny_pure (wpAny_pure ⟨_,rfl,wpAny_pure h⟩)) htake))
  | exact wpAny_bind (wpAny_bind (m:=Builtin.Tuple.tupleExact _) (wpAny_newObj_type (wpAny_pure ⟨_,rfl,wpAny_pure h⟩) htake))
end
end HT
namespace L2
open PySem PySem.Spec PyProof.Rows
noncomputable abbrev TO:=St->Hp->(Option Int->Hp->Prop)->Prop
def PO (X:Cx)(e:Option Expr)(t:TO):Prop:=
 ∀(pins:List (Addr×Obj)) (s:Shared) (σ:St) (H:Hp) (Q:Option Int->Hp->Prop),Inv X pins σ H s->t σ H Q->
  wpAny (model X.prog X.w) X.A (evalPart e X.env) (fun u s'=>∃o H',Inv X pins σ H' s'/\IsPart u o/\Q o H') X.xe s
noncomputable def G0:TO:=fun _ H Q=>Q none H
noncomputable def Na (t:TE):TO:=fun σ H Q=>t σ H fun x H1=>∃i,x=.int i/\Q (some i) H1
section
variable {X:Cx}{e:Expr}{te:TE}{lo hi:Option Expr}{tl th:TO}{pos p2:Pos}
theorem G1:PO X none G0:=by
 intro pins s σ H Q I h
 rw [evalPart_none]
 exact wpAny_pure ⟨none,H,I,.none,h⟩
theorem LA (h:PE X e te):PO X (some e) (Na te):=by
 intro pins s σ H Q I hw
 rw [evalPart_some]
 refine thn (h pins s σ H _ I hw) fun u s1 ⟨x,H1,I1,r1,q1⟩=>?_
 obtain ⟨i,rfl,q⟩:=q1
 obtain ⟨t,rfl⟩:=r1
 exact ⟨some i,H1,I1,.int i t,q⟩
def SlR (X:Cx)(r:V->Option Int->Option Int->Hp->VK->Prop):Prop:=
 ∀(pins:List (Addr×Obj)) (s:Shared) (σ:St) (H:Hp) (x:V) (v vl vu:Value) (lo hi:Option Int) (sl:Addr) (Q:VK),Inv X pins σ H s->cf x v->s.heap.IsSliceOf sl vl vu .none->IsPart vl lo->IsPart vu hi->r x lo hi H Q->
  ∃T id,typeLookup (.type T) "__getitem__"=pure (some (.builtin id))/\s.TypeIs v T/\wpAny (model X.prog X.w) X.A (getItem v (.ref sl)) (EP X pins σ Q) X.xe s
noncomputable def tSl (r:V->Option Int->Option Int->Hp->VK->Prop)(te:TE)(tl th:TO):TE:=fun σ H Q=>te σ H fun x H1=>tl σ H1 fun l H2=>th σ H2 fun u H3=>r x l u H3 Q
theorem yU {r:V->Option Int->Option Int->Hp->VK->Prop}(hr:SlR X r)(he:PE X e te)(hl:PO X lo tl)(hu:PO X hi th):PE X (.Subscript e (.Slice lo hi none p2) pos) (tSl r te tl th):=by
 intro pins s σ H Q I h
 refine Subscript_ (thn (he pins s σ H _ I h) fun v s1 ⟨x,H1,I1,r1,q1⟩=>?_)
 refine wpAny_Slice (thn (hl pins s1 σ H1 _ I1 q1) fun vl s2 ⟨l,H2,I2,pl,q2⟩=>thn (hu pins s2 σ H2 _ I2 q2) fun vu s3 ⟨u,H3,I3,pu,q3⟩=>?_)
 rw [evalPart_none]
 refine wpAny_pure ?_
 have I4:Inv X pins σ H3 {s3 with heap:=s3.heap.push {cls:=.type "slice",data:=.fields #[vl,vu,.none]}}:=I3.kept (t':=s3.toks) fun b ob q=>Heap.get?_push_of_some _ q
 obtain ⟨T,id,hT,ht,hg⟩:=hr pins {s3 with heap:=s3.heap.push {cls:=.type "slice",data:=.fields #[vl,vu,.none]}} σ H3 x v vl vu l u s3.heap.objs.size Q I4 r1 (Heap.IsSliceOf.new ..) pl pu q3
 show wpAny (model X.prog X.w) X.A (subscriptTail e (.Slice lo hi none p2) v (.ref s3.heap.objs.size)) (EP X pins σ Q) X.xe {s3 with heap:=s3.heap.push {cls:=.type "slice",data:=.fields #[vl,vu,.none]}}
 exact tail_any (ops:=[.ref s3.heap.objs.size,v]) ht hT hg (by with_unfolding_all rfl)
noncomputable def uR (xs:List V)(lo hi:Option Int):List V:=(xs.drop (HT.sIx xs.length 0 lo)).take (HT.sIx xs.length xs.length hi - HT.sIx xs.length 0 lo)
theorem jH (xs:List V)(lo hi:Option Int):(uR xs lo hi).length<=xs.length:=by
 unfold uR
 rw [List.length_take,List.length_drop]
 omega
noncomputable def Pj (K:WA):V->Option Int->Option Int->Hp->VK->Prop:=fun x lo hi H Q=>∃a xs,x=.ref a/\SqT K H a xs/\
 ¬(HT.sIx xs.length 0 lo=0/\HT.sIx xs.length xs.length hi=xs.length)/\∀p,H p=none->Q (.ref p) (upd H p (.tup (uR xs lo hi)))
theorem NZ:SlR X (Pj X.K):=by
 intro pins s σ H x v vl vu lo hi sl Q I rx hs pl pu h
 obtain ⟨a,xs,rfl,hx,hw,q⟩:=h
 cases rx
 obtain ⟨its,r,ht,hz⟩:=I.tuple hx
 have hlen:its.toArray.size=xs.length:=by rw [List.size_toArray];exact r.length.symm
 refine ⟨"tuple",_,PyProof.Rows.slot_tuple_getitem.lookup,ht.typeIs,?_⟩
 refine HT.uQ ht hs pl pu (by rw [hlen];exact hw) ?_ (by rw [hlen];exact hz)
 rw [hlen]
 refine ⟨.ref s.heap.objs.size,_,I.laid (t':=s.toks) (o:=.tup (uR xs lo hi)) (fun b ob q=>Heap.get?_push_of_some _ q) (Nat.le_refl _) ?_,rfl,q _ (I.hok.fresh (Nat.le_refl _))⟩
 exact ⟨Nat.le_trans (jH xs lo hi) hz,_,(r.drop (HT.sIx xs.length 0 lo)).take (HT.sIx xs.length xs.length hi - HT.sIx xs.length 0 lo),iI.new _ _⟩
noncomputable def Nb (K:WA):R2:=fun x y H Q=>∃a b xs ys,x=.ref a/\y=.ref b/\SqT K H a xs/\SqT K H b ys/\xs≠[]/\xs.length+ys.length<=sizeLine/\
 (ys=[]->Q (.ref a) H)/\(ys≠[]->∀p,H p=none->Q (.ref p) (upd H p (.tup (xs++ys))))
theorem bL.nil_iff {xs:List V}{us:List Value}(r:bL xs us):us=[]↔xs=[]:=by
 cases r with
 | nil=>simp
 | cons _ _=>simp
theorem G2:OpR X (binaryOp .Add) (Nb X.K):=by
 intro pins s σ H x y v u Q I rx ry h
 obtain ⟨a,b,xs,ys,rfl,rfl,ha,hb,hx,hz,q1,q2⟩:=h
 cases rx
 cases ry
 obtain ⟨its,r1,p1,_⟩:=I.tuple ha
 obtain ⟨its2,r2,p2,_⟩:=I.tuple hb
 refine HT.Ly p1 p2 (fun z=>hx (r1.nil_iff.mp z)) (fun z=>⟨.ref a,H,I,rfl,q1 (r2.nil_iff.mp z)⟩) (fun z=>?_) (by rw [←r1.length,←r2.length];exact hz)
 refine ⟨.ref s.heap.objs.size,_,I.laid (t':=s.toks) (o:=.tup (xs++ys)) (fun b ob q=>Heap.get?_push_of_some _ q) (Nat.le_refl _) ?_,rfl,q2 (fun w=>z (r2.nil_iff.mpr w)) _ (I.hok.fresh (Nat.le_refl _))⟩
 exact ⟨by rw [List.length_append];exact hz,_,r1.append r2,iI.new _ _⟩
end
noncomputable def ixN (n:Nat)(i:Int):Option Nat:=if 0<=i then (if i < n then some i.toNat else none) else if -(n:Int)<=i then some (i+n).toNat else none
noncomputable def atI {α:Type}(xs:List α)(i:Int):Option α:=(ixN xs.length i).bind fun j=>xs[j]?
theorem G3 {n:Nat}{i:Int}{j:Nat}(h:ixN n i=some j):seqIndex? i n=some j/\j < n/\-(n:Int)<=i/\i < n:=by
 unfold ixN at h
 by_cases h0:0<=i
 ·rw [if_pos h0] at h
  by_cases h1:i < n
  ·rw [if_pos h1] at h
   have e:i.toNat=j:=Option.some.inj h
   exact ⟨by rw [seqIndex_of h0 h1,e],by omega,by omega,h1⟩
  ·rw [if_neg h1] at h;cases h
 ·rw [if_neg h0] at h
  by_cases h1:-(n:Int)<=i
  ·rw [if_pos h1] at h
   have e:(i+n).toNat=j:=Option.some.inj h
   exact ⟨by rw [seqIndex_neg (by omega) h1,e],by omega,h1,by omega⟩
  ·rw [if_neg h1] at h;cases h
theorem B7 {α:Type}{xs:List α}{i:Int}{v:α}(h:atI xs i=some v):∃j,seqIndex? i xs.length=some j/\xs[j]?=some v/\j < xs.length/\-(xs.length:Int)<=i/\i < xs.length:=by
 unfold atI at h
 cases e:ixN xs.length i with
 | none=>rw [e] at h;cases h
 | some j=>
  rw [e] at h
  obtain ⟨h1,h2,h3,h4⟩:=G3 e
  exact ⟨j,h1,h,h2,h3,h4⟩
theorem G4 {α:Type}{xs:List α}{j:Nat}{v:α}(h:xs[j]?=some v):atI xs (j:Int)=some v:=by
 have hj:j < xs.length:=(List.getElem?_eq_some_iff.mp h).1
 have e:ixN xs.length (j:Int)=some j:=by
  unfold ixN
  rw [if_pos (by omega),if_pos (by omega)];simp
 unfold atI;rw [e];exact h
theorem JE {α:Type}(xs:List α)(v:α):atI (xs++[v]) (-1)=some v:=by
 have hl:(xs++[v]).length=xs.length+1:=by simp
 have e:ixN (xs++[v]).length (-1)=some xs.length:=by
  unfold ixN
  rw [hl,if_neg (by decide),if_pos (by omega)]
  congr 1
  omega
 unfold atI
 rw [e]
 show (xs++[v])[xs.length]?=some v
 simp
def G5 (b:Expr):Prop:=∀o i,subscripted b false o i=operate [o,i] (getItem o i)
def IxR (X:Cx)(r:R2):Prop:=
 ∀(value slice:Expr) (pins:List (Addr×Obj)) (s:Shared) (σ:St) (H:Hp) (x y:V) (v u:Value) (Q:VK),Inv X pins σ H s->cf x v->cf y u->r x y H Q->
  subscripted slice false v u=operate [v,u] (getItem v u)->wpAny (model X.prog X.w) X.A (subscriptTail value slice v u) (EP X pins σ Q) X.xe s
def MtR (X:Cx)(id:String)(r:V->List V->Hp->VK->Prop):Prop:=
 ∀(pins:List (Addr×Obj)) (s:Shared) (σ:St) (H:Hp) (x:V) (xs:List V) (v:Value) (us:List Value) (Q:VK),Inv X pins σ H s->cf x v->bL xs us->r x xs H Q->
  wpAny (model X.prog X.w) X.A (call (.builtin id) (v::us)) (EP X pins σ Q) X.xe s
section
variable {X:Cx}{a b:Expr}{ta tb:TE}{pos:Pos}
theorem IxR.or {r r':R2}(h:IxR X r)(h':IxR X r'):IxR X (fun x y H Q=>r x y H Q\/r' x y H Q):=by
 intro value slice pins s σ H x y v u Q I rx ry q hs
 rcases q with q | q
 ·exact h value slice pins s σ H x y v u Q I rx ry q hs
 ·exact h' value slice pins s σ H x y v u Q I rx ry q hs
theorem Pk {r:R2}(hr:IxR X r)(ha:PE X a ta)(hb:PE X b tb)(hs:G5 b):PE X (.Subscript a b pos) (tOp r ta tb):=by
 intro pins s σ H Q I h
 exact Subscript_ (NO ha hb I h fun v u s2 x y H2 I2 rx ry q=>hr a b pins s2 σ H2 x y v u Q I2 rx ry q (hs _ _))
noncomputable def N1 (K:WA):R2:=fun x y H Q=>∃p xs i v,x=.ref p/\y=.int i/\SqL K H p xs/\atI xs i=some v/\Q v H
noncomputable def N2 (K:WA):R2:=fun x y H Q=>∃p xs i v,x=.ref p/\y=.int i/\SqT K H p xs/\atI xs i=some v/\Q v H
noncomputable def Pl:R2:=fun x y H Q=>∃z i c,x=.str z/\y=.int i/\z.length<=sizeLine/\atI z.cps.toList i=some c/\Q (.str ⟨#[c]⟩) H
theorem G6:IxR X (N1 X.K):=by
 intro value slice pins s σ H x y v u Q I rx ry h hs
 obtain ⟨p,xs,i,z,rfl,rfl,hq,he,q⟩:=h
 cases rx
 obtain ⟨t,rfl⟩:=ry
 obtain ⟨its,r,pl,hz⟩:=I.list hq
 obtain ⟨j,h1,h2,h3,h4,h5⟩:=B7 he
 obtain ⟨w,ew,rw'⟩:=r.get h2
 have hl:=r.length
 have hn:=wG
 have fin:EP X pins σ Q w s:=⟨z,H,I,rw',q⟩
 by_cases h0:0<=i
 ·have hj:i.toNat=j:=by
   rw [seqIndex_of h0 h5] at h1
   exact Option.some.inj h1
  exact item_listR pl.isList h0 (by omega) (by rw [hj];simpa using ew) fin hs
 ·have hj:(i+(its.toArray.size:Int)).toNat=j:=by
   rw [seqIndex_neg (by omega) h4] at h1
   rw [List.size_toArray,←hl]
   exact Option.some.inj h1
  exact subscriptTail_builtinR (x:=w) pl.isList.typeIs slot_list_getitem.lookup
   (wpAny_getItem_list_neg (Q:=fun r s'=>r=w/\EP X pins σ Q r s') pl.isList (by omega) (by rw [List.size_toArray]<;>omega) (by omega) (by rw [hj];simpa using ew) ⟨rfl,fin⟩) hs
theorem JF:IxR X (N2 X.K):=by
 intro value slice pins s σ H x y v u Q I rx ry h hs
 obtain ⟨p,xs,i,z,rfl,rfl,hq,he,q⟩:=h
 cases rx
 obtain ⟨t,rfl⟩:=ry
 obtain ⟨its,r,pl,hz⟩:=I.tuple hq
 obtain ⟨j,h1,h2,h3,h4,h5⟩:=B7 he
 obtain ⟨w,ew,rw'⟩:=r.get h2
 have hl:=r.length
 have hn:=wG
 have fin:EP X pins σ Q w s:=⟨z,H,I,rw',q⟩
 exact subscriptTail_builtinR (x:=w) pl.typeIs slot_tuple_getitem.lookup
  (getItem_tuple (j:=j) (Q:=fun r s'=>r=w/\EP X pins σ Q r s') pl (by omega) (by omega) (by rw [List.size_toArray,←hl];exact h1) (by simpa using ew) ⟨rfl,fin⟩) hs
theorem N3:IxR X Pl:=by
 intro value slice pins s σ H x y v u Q I rx ry h hs
 obtain ⟨z,i,c,rfl,rfl,hz,he,q⟩:=h
 obtain ⟨t,rfl⟩:=rx
 obtain ⟨t',rfl⟩:=ry
 obtain ⟨j,h1,h2,h3,h4,h5⟩:=B7 he
 have hl:z.cps.toList.length=z.length:=by simp [Str.length]
 rw [hl] at h1 h4 h5
 have hn:=wG
 exact tail_any (typeIs_str s z t) slot_str_getitem.lookup (getItem_str (c:=c) (by
  have e1:decide (i < -(2 ^ 63:Int))=false:=decide_eq_false (by omega)
  have e2:decide (i≥2 ^ 63)=false:=decide_eq_false (by omega)
  rw [e1,e2,Bool.or_false]) (by rw [h1];simpa using h2) ⟨.str ⟨#[c]⟩,H,I.tok _,⟨_,rfl⟩,q⟩) hs
noncomputable def rIx (K:WA):R2:=fun x y H Q=>N1 K x y H Q\/N2 K x y H Q\/Pl x y H Q
theorem JG:IxR X (rIx X.K):=G6.or (JF.or N3)
theorem FA (its:List Value)(n j:Nat)(u:Value):Obj.mapSeq (·.setIfInBounds j u) {cls:=.type "list",data:=.seq its.toArray n}={cls:=.type "list",data:=.seq (its.set j u).toArray n}:=by
 simp [Obj.mapSeq]
theorem Inv.lst {pins:List (Addr×Obj)}{σ:St}{H:Hp}{s:Shared}{p:Addr}{xs:List V}(I:Inv X pins σ H s)(h:H p=some (.lst xs)) :
  ∃(its:List Value) (n:Nat),bL xs its/\s.heap.get? p=some {cls:=.type "list",data:=.seq its.toArray n}/\xs.length<=sizeLine:=by
 obtain ⟨z,its,n,r,e⟩:=I.hok p _ h
 exact ⟨its,n,r,e,z⟩
theorem Inv.lstUpd {pins:List (Addr×Obj)}{σ:St}{H:Hp}{s:Shared}{p:Addr}{xs ys:List V}{its its':List Value}{n n':Nat}{f:Obj->Obj}(I:Inv X pins σ H s)(h:H p=some (.lst xs))
  (ho:s.heap.get? p=some {cls:=.type "list",data:=.seq its.toArray n}) (hf:f {cls:=.type "list",data:=.seq its.toArray n}={cls:=.type "list",data:=.seq its'.toArray n'}) (r:bL ys its') (hz:ys.length<=sizeLine) (t:Nat) :
  Inv X pins σ (upd H p (.lst ys)) {s with heap:=s.heap.update p f,toks:=t}:=by
 have e:(s.heap.update p f).get? p=some {cls:=.type "list",data:=.seq its'.toArray n'}:=by
  rw [Heap.get?_update_self f ho (by rw [hf]<;>rfl),hf]
 refine I.write (x:=p) (e:=p) (by rw [h];trivial) (.inl rfl) (fun b u hb q=>(Heap.get?_update_other _ _ (Ne.symm hb)).trans q) ⟨_,e⟩ ?_
 exact ⟨hz,its',n',r,e⟩
noncomputable def Nd:V->V->V->Hp->(Hp->Prop)->Prop:=fun o i v H Q=>∃p xs k j,o=.ref p/\i=.int k/\H p=some (.lst xs)/\ixN xs.length k=some j/\Q (upd H p (.lst (xs.set j v)))
theorem JH:NJ X Nd:=by
 intro pins s σ H o i v ov iv u Q I ro ri rv h
 obtain ⟨p,xs,k,j,rfl,rfl,hp,hj,q⟩:=h
 cases ro
 obtain ⟨t,rfl⟩:=ri
 obtain ⟨its,n,r,ho,hz⟩:=I.lst hp
 obtain ⟨h1,h2,h3,h4⟩:=G3 hj
 have hl:=r.length
 have hn:=wG
 have I':Inv X pins σ (upd H p (.lst (xs.set j v))) {s with heap:=s.heap.update p (Obj.mapSeq (·.setIfInBounds j u))}:=
  I.lstUpd hp ho (FA its n j u) (r.set rv j) (by rw [List.length_set];exact hz) s.toks
 by_cases h0:0<=k
 ·have hk:k.toNat=j:=by
   rw [seqIndex_of h0 h4] at h1
   exact Option.some.inj h1
  exact W.ki_setAt ho h0 (by omega) (by rw [List.size_toArray,←hl];exact h4) (by rw [hk];exact ⟨_,I',q⟩)
 ·have hk:(k+(its.toArray.size:Int)).toNat=j:=by
   rw [seqIndex_neg (by omega) h3] at h1
   rw [List.size_toArray,←hl]
   exact Option.some.inj h1
  exact W.ki_setBack ho (by omega) (by rw [List.size_toArray,←hl];exact h3) (by omega) (by rw [hk];exact ⟨_,I',q⟩)
theorem B8 (lo hi:Option Int)(n:Nat):(sliceBounds lo hi none n).1=((HT.sIx n 0 lo:Nat):Int)/\(sliceBounds lo hi none n).2.1=((HT.sIx n n hi:Nat):Int)/\(sliceBounds lo hi none n).2.2=1:=by
 refine ⟨?_,?_,rfl⟩
 ·cases lo with
  | none=>simp [sliceBounds,HT.sIx]
  | some i=>
   simp only [sliceBounds,HT.sIx,Option.getD_none,show (1:Int) > 0 by decide,if_true]
   by_cases h:i < 0
   ·simp only [h,if_true]<;>omega
   ·simp only [h,if_false]<;>omega
 ·cases hi with
  | none=>simp [sliceBounds,HT.sIx]
  | some i=>
   simp only [sliceBounds,HT.sIx,Option.getD_none,show (1:Int) > 0 by decide,if_true]
   by_cases h:i < 0
   ·simp only [h,if_true]<;>omega
   ·simp only [h,if_false]<;>omega
theorem Ax (its:List Value)(lo hi:Option Int):slicePick its.toArray lo hi none=((its.drop (HT.sIx its.length 0 lo)).take (HT.sIx its.length its.length hi - HT.sIx its.length 0 lo)).toArray:=by
 obtain ⟨h1,h2,h3⟩:=B8 lo hi its.toArray.size
 unfold slicePick
 rw [h1,h2,h3]
 simp only [sliceRange_one,pick_run,List.size_toArray]<;>rfl
noncomputable def Pm (K:WA):V->Option Int->Option Int->Hp->VK->Prop:=fun x lo hi H Q=>∃a xs,x=.ref a/\SqL K H a xs/\∀p,H p=none->Q (.ref p) (upd H p (.lst (uR xs lo hi)))
theorem LB:SlR X (Pm X.K):=by
 intro pins s σ H x v vl vu lo hi sl Q I rx hs pl pu h
 obtain ⟨a,xs,rfl,hx,q⟩:=h
 cases rx
 obtain ⟨its,r,ht,hz⟩:=I.list hx
 have hlen:=r.length
 refine ⟨"list",_,slot_list_getitem.lookup,ht.isList.typeIs,?_⟩
 refine wpAny_getItem_list_slice ht.isList hs pl pu .none (by simp) ?_ (by rw [List.size_toArray]<;>omega)
 rw [Ax,←hlen]
 refine ⟨.ref s.heap.objs.size,_,I.laid (t':=s.toks) (o:=.lst (uR xs lo hi)) (fun b ob q=>Heap.get?_push_of_some _ q) (Nat.le_refl _) ?_,rfl,q _ (I.hok.fresh (Nat.le_refl _))⟩
 exact ⟨Nat.le_trans (jH xs lo hi) hz,_,0,(r.drop (HT.sIx xs.length 0 lo)).take (HT.sIx xs.length xs.length hi - HT.sIx xs.length 0 lo),Heap.get?_push_size _ rfl⟩
noncomputable def bW:V->Bool
 | .non=>true
 | .bl _=>true
 | .int _=>true
 | .str _=>true
 | _=>false
noncomputable def eqV:V->V->Bool
 | .non,.non=>true
 | .bl a,.bl b=>a == b
 | .bl a,.int b=>(if a then 1 else 0) == b
 | .int a,.bl b=>a == (if b then 1 else 0)
 | .int a,.int b=>a == b
 | .str a,.str b=>a == b
 | _,_=>false
theorem wJ {A:Around}{s:Shared}{y x:V}{u v:Value}(ry:cf y u)(rx:cf x v)(fy:bW y=true)(fx:bW x=true):SeqAt.EqAt A s u v (eqV y x):=by
 cases y with
 | non=>
  cases ry
  cases x with
  | non=>cases rx;exact SeqAt.EqAt.same _
  | bl b=>cases rx;exact SeqAt.EqAt.none_bool b
  | int b=>obtain ⟨t,rfl⟩:=rx;exact SeqAt.EqAt.none_int b t
  | str b=>obtain ⟨t,rfl⟩:=rx;exact SeqAt.EqAt.none_str b t
  | _=>exact absurd (show false=true from fx) Bool.false_ne_true
 | bl a=>
  cases ry
  cases x with
  | non=>cases rx;exact SeqAt.EqAt.bool_none a
  | bl b=>cases rx;exact SeqAt.EqAt.bool_bool a b
  | int b=>obtain ⟨t,rfl⟩:=rx;exact SeqAt.EqAt.bool_int a b t
  | str b=>obtain ⟨t,rfl⟩:=rx;exact SeqAt.EqAt.bool_str a b t
  | _=>exact absurd (show false=true from fx) Bool.false_ne_true
 | int a=>
  obtain ⟨t',rfl⟩:=ry
  cases x with
  | non=>cases rx;exact SeqAt.EqAt.int_none a t'
  | bl b=>cases rx;exact SeqAt.EqAt.int_bool a t' b
  | int b=>obtain ⟨t,rfl⟩:=rx;exact SeqAt.EqAt.int_int a t' b t
  | str b=>obtain ⟨t,rfl⟩:=rx;exact SeqAt.EqAt.int_str a t' b t
  | _=>exact absurd (show false=true from fx) Bool.false_ne_true
 | str a=>
  obtain ⟨t',rfl⟩:=ry
  cases x with
  | non=>cases rx;exact SeqAt.EqAt.str_none a t'
  | bl b=>cases rx;exact SeqAt.EqAt.str_bool a t' b
  | int b=>obtain ⟨t,rfl⟩:=rx;exact SeqAt.EqAt.str_int a t' b t
  | str b=>obtain ⟨t,rfl⟩:=rx;exact SeqAt.EqAt.str_str a t' b t
  | _=>exact absurd (show false=true from fx) Bool.false_ne_true
 | _=>exact absurd (show false=true from fy) Bool.false_ne_true
noncomputable def eqU (x:V)(u:Value):Bool:=match u with
 | .none=>eqV .non x
 | .bool b=>eqV (.bl b) x
 | .int i _=>eqV (.int i) x
 | .str z _=>eqV (.str z) x
 | _=>false
theorem FC {x y:V}{u:Value}(r:cf y u)(f:bW y=true):eqU x u=eqV y x:=by
 cases y with
 | non=>cases r;rfl
 | bl b=>cases r;rfl
 | int i=>obtain ⟨t,rfl⟩:=r;rfl
 | str z=>obtain ⟨t,rfl⟩:=r;rfl
 | _=>exact absurd (show false=true from f) Bool.false_ne_true
theorem uS {x:V}:∀{xs:List V} {us:List Value},bL xs us->xs.all bW=true->us.any (eqU x)=xs.any fun y=>eqV y x
 | _,_,.nil,_=>rfl
 | y::xs,u::us,.cons r t,f=>by
  rw [List.all_cons,Bool.and_eq_true] at f
  rw [List.any_cons,List.any_cons,FC r f.1,uS t f.2]
theorem kU {A:Around}{s:Shared}{x:V}{v:Value}(rx:cf x v)(fx:bW x=true):∀{xs:List V} {us:List Value},bL xs us->xs.all bW=true->∀u∈us,SeqAt.EqAt A s u v (eqU x u)
 | _,_,.nil,_=>fun u hu=>by cases hu
 | y::xs,u::us,.cons r t,f=>fun u' hu=>by
  rw [List.all_cons,Bool.and_eq_true] at f
  rcases List.mem_cons.mp hu with rfl | hu
  ·rw [FC r f.1];exact wJ r rx f.1 fx
  ·exact kU rx fx t f.2 u' hu
noncomputable def inV (x:V)(xs:List V):Bool:=xs.any fun y=>eqV y x
noncomputable def rIn (K:WA)(neg:Bool):R2:=fun x y H Q=>∃p xs,y=.ref p/\(SqL K H p xs\/SqT K H p xs)/\bW x=true/\xs.all bW=true/\Q (.bl (if neg then !inV x xs else inV x xs)) H
theorem Im:OpR X (compareOp .In) (rIn X.K false):=by
 intro pins s σ H x y v u Q I rx ry h
 obtain ⟨p,xs,rfl,hq,fx,fs,q⟩:=h
 cases ry
 rcases hq with hq | hq
 ·obtain ⟨its,r,pl,hz⟩:=I.list hq
  refine SeqAt.in_listAt (eqU x) pl.isList (fun w hw=>kU rx fx r fs w (by simpa using hw)) ⟨.bl _,H,I,rfl,?_⟩
  rw [show its.toArray.any (eqU x)=its.any (eqU x) by simp,uS r fs]
  exact q
 ·obtain ⟨its,r,pl,hz⟩:=I.tuple hq
  refine SeqAt.in_tupleAt (eqU x) pl (fun w hw=>kU rx fx r fs w (by simpa using hw)) ⟨.bl _,H,I,rfl,?_⟩
  rw [show its.toArray.any (eqU x)=its.any (eqU x) by simp,uS r fs]
  exact q
theorem B9:OpR X (compareOp .NotIn) (rIn X.K true):=by
 intro pins s σ H x y v u Q I rx ry h
 obtain ⟨p,xs,rfl,hq,fx,fs,q⟩:=h
 cases ry
 rcases hq with hq | hq
 ·obtain ⟨its,r,pl,hz⟩:=I.list hq
  refine SeqAt.notIn_listAt (eqU x) pl.isList (fun w hw=>kU rx fx r fs w (by simpa using hw)) ⟨.bl _,H,I,rfl,?_⟩
  rw [show its.toArray.any (eqU x)=its.any (eqU x) by simp,uS r fs]
  exact q
 ·obtain ⟨its,r,pl,hz⟩:=I.tuple hq
  refine SeqAt.notIn_tupleAt (eqU x) pl (fun w hw=>kU rx fx r fs w (by simpa using hw)) ⟨.bl _,H,I,rfl,?_⟩
  rw [show its.toArray.any (eqU x)=its.any (eqU x) by simp,uS r fs]
  exact q
theorem Ca:de X (.builtin "len") (fun xs H Q=>∃p ys,xs=[.ref p]/\(SqL X.K H p ys\/SqT X.K H p ys)/\Q (.int ys.length) H):=by
 intro pins s σ H xs us Q I r h
 obtain ⟨p,ys,rfl,hq,q⟩:=h
 obtain ⟨u,rfl,rx⟩:=yR r
 cases rx
 have hn:=wG
 rcases hq with hq | hq
 ·obtain ⟨its,r',pl,hz⟩:=I.list hq
  have hlen:=r'.length
  exact Calls.call_len_list pl.isList (by simp only [List.size_toArray]<;>omega) ⟨.int ys.length,H,I.tok _,⟨s.toks+1,by rw [List.size_toArray,hlen]⟩,q⟩
 ·obtain ⟨its,r',pl,hz⟩:=I.tuple hq
  have hlen:=r'.length
  exact len_tuple pl (by simp only [List.size_toArray]<;>omega) ⟨.int ys.length,H,I.tok _,⟨s.toks+1,by rw [List.size_toArray,hlen]⟩,q⟩
theorem Cb:de X (.type "list") (fun xs H Q=>∃p ys,xs=[.ref p]/\(SqL X.K H p ys\/SqT X.K H p ys)/\∀l,H l=none->Q (.ref l) (upd H l (.lst ys))):=by
 intro pins s σ H xs us Q I r h
 obtain ⟨p,ys,rfl,hq,q⟩:=h
 obtain ⟨u,rfl,rx⟩:=yR r
 cases rx
 have fin:∀(its:List Value),bL ys its->ys.length<=sizeLine->∀(h':Heap) (c':Nat),(∀b o',s.heap.get? b=some o'->h'.get? b=some o')->
   h'.get? s.heap.objs.size=some {cls:=.type "list",dict:=none,data:=.seq its.toArray c',slots:=#[]}->EP X pins σ Q (.ref s.heap.objs.size) {s with heap:=h'}:=fun its r' hz h' c' kp e=>
  ⟨.ref s.heap.objs.size,_,I.laid (t':=s.toks) kp (Nat.le_refl _) (show fO X.prog X.w _ h' _ (.lst ys) from ⟨hz,its,c',r',e⟩),rfl,q _ (I.hok.fresh (Nat.le_refl _))⟩
 rcases hq with hq | hq
 ·obtain ⟨its,r',pl,hz⟩:=I.list hq
  have hlen:=r'.length
  obtain ⟨o,ho,hc,n,hd⟩:=pl.isList
  exact call_list_seq p (.inl rfl) ho hc hd (fun h' c' kp e=>fin its r' hz h' c' kp e) (by simp only [List.size_toArray]<;>omega)
 ·obtain ⟨its,r',pl,hz⟩:=I.tuple hq
  have hlen:=r'.length
  obtain ⟨o,ho,hc,n,hd⟩:=pl
  exact call_list_seq p (.inr rfl) ho hc hd (fun h' c' kp e=>fin its r' hz h' c' kp e) (by simp only [List.size_toArray]<;>omega)
theorem Ay:de X (.type "tuple") (fun xs H Q=>∃p ys,xs=[.ref p]/\((SqL X.K H p ys/\∀l,H l=none->Q (.ref l) (upd H l (.tup ys)))\/(SqT X.K H p ys/\Q (.ref p) H))):=by
 intro pins s σ H xs us Q I r h
 obtain ⟨p,ys,rfl,h⟩:=h
 obtain ⟨u,rfl,rx⟩:=yR r
 cases rx
 rcases h with ⟨hq,q⟩ | ⟨hq,q⟩
 ·obtain ⟨its,r',pl,hz⟩:=I.list hq
  have hlen:=r'.length
  refine call_tuple_list pl.isList (fun h' kp=>?_) (by simp only [List.size_toArray]<;>omega)
  have I1:Inv X pins σ H {s with heap:=h'}:=I.kept (t':=s.toks) kp
  have I2:Inv X pins σ (upd H h'.objs.size (.tup ys)) {s with heap:=h'.push {cls:=.type "tuple",data:=.seq its.toArray}}:=
   I1.laid (t':=s.toks) (fun b o e=>Heap.get?_push_of_some _ e) (Nat.le_refl _) (show fO X.prog X.w _ _ _ (.tup ys) from ⟨hz,its,r',iI.new _ _⟩)
  exact ⟨.ref h'.objs.size,_,I2,rfl,q _ (I1.hok.fresh (Nat.le_refl _))⟩
 ·obtain ⟨its,r',pl,hz⟩:=I.tuple hq
  exact call_tuple_same pl ⟨.ref p,H,I,rfl,q⟩
def tyV (K:WA)(T:String)(x:V)(H:Hp):Prop:=match x with
 | .str _=>T="str"
 | .int _=>T="int"
 | .ref p=>(T="list"/\∃xs,SqL K H p xs)\/(T="tuple"/\∃o,K.lookup p=some o/\o.cls=.type "tuple"/\o.dict=none)\/
   (T="dict"/\((∃kvs,H p=some (.dK kvs))\/∃kvs,H p=some (.dT kvs)))\/(T="set"/\∃S n,H p=some (.set S n))
 | _=>False
theorem JI {pins:List (Addr×Obj)}{σ:St}{H:Hp}{s:Shared}{T:String}{x:V}{v:Value}(I:Inv X pins σ H s)(r:cf x v)(ty:tyV X.K T x H) :
  s.TypeIs v T/\∀a,v=.ref a->∃ob,s.heap.get? a=some ob/\ob.dict=none:=by
 cases x with
 | str z=>
  obtain ⟨t,rfl⟩:=r
  cases (show T="str" from ty)
  exact ⟨typeIs_str s z t,fun _ e=>nomatch e⟩
 | int i=>
  obtain ⟨t,rfl⟩:=r
  cases (show T="int" from ty)
  exact ⟨typeIs_int s i t,fun _ e=>nomatch e⟩
 | ref p=>
  cases r
  rcases ty with ⟨rfl,xs,hq⟩ | ⟨rfl,o,hk,hc,hd⟩ | ⟨rfl,hk⟩ | ⟨rfl,S,n,hk⟩
  ·obtain ⟨its,_,pl,_⟩:=I.list hq
   refine ⟨pl.isList.typeIs,fun a e=>?_⟩
   cases e
   obtain ⟨o,n,e,c,hd,_⟩:=pl
   exact ⟨o,e,hd⟩
  ·refine ⟨⟨o,I.kIn p o hk,hc⟩,fun a e=>?_⟩
   cases e
   exact ⟨o,I.kIn _ o hk,hd⟩
  ·have z:∃o,s.heap.get? p=some o/\o.ExactDict:=by
    rcases hk with ⟨kvs,hk⟩ | ⟨kvs,hk⟩
    ·obtain ⟨_,_,_,_,o,_,_,e,ex,_⟩:=I.hok p _ hk
     exact ⟨o,e,ex⟩
    ·obtain ⟨_,_,_,_,o,_,_,e,ex,_⟩:=I.hok p _ hk
     exact ⟨o,e,ex⟩
   obtain ⟨o,e,ex⟩:=z
   refine ⟨⟨o,e,ex.1⟩,fun a e2=>?_⟩
   cases e2
   exact ⟨o,e,ex.2.1⟩
  ·obtain ⟨o,_,_,_,e,ex,_⟩:=I.hok p _ hk
   refine ⟨⟨o,e,ex.1⟩,fun a e2=>?_⟩
   cases e2
   exact ⟨o,e,ex.2.1⟩
 | _=>exact False.elim ty
noncomputable def Pn (K:WA)(T:String)(r:V->List V->Hp->VK->Prop)(to:TE):TE:=fun σ H Q=>to σ H fun x H1=>tyV K T x H1/\r x [] H1 Q
noncomputable def tBM (K:WA)(T:String)(r:V->List V->Hp->VK->Prop)(to:TE)(t:TA):TE:=fun σ H Q=>to σ H fun x H1=>tyV K T x H1/\t σ H1 fun xs H2=>r x xs H2 Q
variable {o e:Expr}{es:List Expr}{to:TE}{t:TA}{name:Str}{apos cpos:Pos}{T id:String}{r:V->List V->Hp->VK->Prop}
theorem FD (pa:PlainAttrs T)(slot:Slot T name id)(hty:typeOf (.builtin id)=pure (.type "method_descriptor"))(hm:MtR X id r)(ho:PE X o to)
  (hbase:attributeBase o name X.env (eval o X.env)=eval o X.env:=by rfl) (hline:(apos.endLine == cpos.line)=true:=by rfl):PE X (.Call (.Attribute o name apos) [] [] cpos) (Pn X.K T r to):=by
 intro pins s σ H Q I h
 refine wpAny_Call_method0_late hbase hline (thn (ho pins s σ H _ I h) fun v s1 ⟨x,H1,I1,r1,ty,q1⟩=>?_)
 obtain ⟨h1,h2⟩:=JI I1 r1 ty
 exact ⟨T,id,pa,slot,hty,h1,h2,Calls.callWith_builtin rfl (PySem.evalArgs_none (hm pins s1 σ H1 x [] v [] Q I1 r1 .nil q1))⟩
theorem sS (pa:PlainAttrs T)(slot:Slot T name id)(hty:typeOf (.builtin id)=pure (.type "method_descriptor"))(hm:MtR X id r)(ho:PE X o to)(ha:PA X (e::es) t)
  (hbase:attributeBase o name X.env (eval o X.env)=eval o X.env:=by rfl)
  (hfew:((backTo cpos (starEach (e::es) X.env)).all (fun x=>!x.1) && (backToKw cpos (keywordEach [] X.env)).all (fun x=>x.1.isSome)
   && decide ((e::es).length+([]:List Keyword).length+(if ([]:List Keyword).isEmpty then 0 else 1) < 30))=true:=by rfl)
  (hline:(apos.endLine == cpos.line)=true:=by rfl) (hs:starEach (e::es) X.env=(false,eval e X.env)::starEach es X.env:=by rfl) (hplain:(backTo cpos (starEach es X.env)).any (·.1)=false:=by rfl) :
  PE X (.Call (.Attribute o name apos) (e::es) [] cpos) (tBM X.K T r to t):=by
 intro pins s σ H Q I h
 refine wpAny_Call_method_late hbase hfew hline rfl (thn (ho pins s σ H _ I h) fun v s1 ⟨x,H1,I1,r1,ty,q1⟩=>?_)
 obtain ⟨h1,h2⟩:=JI I1 r1 ty
 refine ⟨T,id,pa,slot,hty,h1,h2,?_⟩
 have hA:=ha cpos pins s1 σ H1 _ I1 q1
 rw [hs] at hA ⊢
 refine Calls.callWith_builtin (by show (false || (backTo cpos (starEach es X.env)).any (·.1))=false;rw [hplain]<;>rfl) (Calls.evalArgs_plain ?_)
 exact thn hA fun us s2 ⟨vs,H2,I2,r2,q2⟩=>hm pins s2 σ H2 x vs v us Q I2 r1 r2 q2
end
def MtM (X:Cx)(id:String)(r:V->List V->Hp->VK->Prop):Prop:=
 ∀(pins:List (Addr×Obj)) (s:Shared) (σ:St) (H:Hp) (x:V) (xs:List V) (v:Value) (us:List Value) (Q:VK),Inv X pins σ H s->cf x v->bL xs us->r x xs H Q->
  wpAny (model X.prog X.w) X.A (call (.builtin id) (v::us)) (EP X pins σ Q) X.xe s
theorem bL.one:∀{x:V} {us:List Value},bL [x] us->∃u,us=[u]/\cf x u
 | _,_,.cons r .nil=>⟨_,rfl,r⟩
theorem bL.two:∀{x y:V} {us:List Value},bL [x,y] us->∃u v,us=[u,v]/\cf x u/\cf y v
 | _,_,_,.cons r (.cons q .nil)=>⟨_,_,rfl,r,q⟩
theorem bL.zero:∀{us:List Value},bL [] us->us=[]
 | _,.nil=>rfl
theorem bL.dropLast {xs:List V}{us:List Value}(h:bL xs us):bL xs.dropLast us.dropLast:=by
 induction h with
 | nil=>exact .nil
 | cons r t ih=>
  cases t with
  | nil=>exact .nil
  | cons q t'=>exact .cons r ih
theorem FE {α:Type}(l:List α):l.eraseIdx (l.length - 1)=l.dropLast:=by
 induction l with
 | nil=>rfl
 | cons a r ih=>
  cases r with
  | nil=>rfl
  | cons b r=>
   have e:(a::b::r).length - 1=((b::r).length - 1)+1:=by
    have h1:(a::b::r).length=r.length+2:=rfl
    have h2:(b::r).length=r.length+1:=rfl
    omega
   rw [e,List.eraseIdx_cons_succ,ih]
   all_goals rfl
theorem Bn (its:List Value):∀(k:Nat) (acc:List Value),
  List.foldl (fun x1 x2=>x1++x2) acc.toArray (List.replicate k its.toArray)=(acc++(List.replicate k its).flatten).toArray
 | 0,acc=>by simp
 | k+1,acc=>by
  have e:acc.toArray++its.toArray=(acc++its).toArray:=by simp
  have e2:(acc++its)++(List.replicate k its).flatten=acc++(List.replicate (k+1) its).flatten:=by
   rw [List.replicate_succ,List.flatten_cons,List.append_assoc]
  rw [←e2,←Bn its k (acc++its),←e,List.replicate_succ,List.foldl_cons]
section
variable {X:Cx}{pins:List (Addr×Obj)}{σ:St}{H:Hp}{s:Shared}{l b:Addr}{xs ys zs:List V}
theorem Inv.lset {its its':List Value}{n:Nat}{f:Array Value->Array Value}{t':Nat}(I:Inv X pins σ H s)(hH:H l=some (.lst xs))
  (e:s.heap.get? l=some {cls:=.type "list",data:=.seq its.toArray n}) (hf:f its.toArray=its'.toArray) (hv:bL ys its') (hz:ys.length<=sizeLine) :
  Inv X pins σ (upd H l (.lst ys)) {s with heap:=s.heap.update l (Obj.mapSeq f),toks:=t'}:=by
 have q:=PySem.IsL.update e f
 rw [hf] at q
 refine I.write (x:=l) (e:=l) (by rw [hH];exact trivial) (.inl rfl) (fun b' u hb hu=>(Heap.get?_update_other s.heap (Obj.mapSeq f) (Ne.symm hb)).trans hu) ⟨_,q⟩ ?_
 exact ⟨hz,its',_,hv,q⟩
theorem Inv.lnew {its:List Value}{t':Nat}(I:Inv X pins σ H s)(hv:bL ys its)(hz:ys.length<=sizeLine) :
  Inv X pins σ (upd H s.heap.objs.size (.lst ys)) {s with heap:=s.heap.push {cls:=.type "list",data:=.seq its.toArray},toks:=t'}:=
 I.laid (fun _ _ q=>Heap.get?_push_of_some _ q) (Nat.le_refl _) ⟨hz,its,0,hv,Heap.get?_push_size _ rfl⟩
theorem Inv.fresh (I:Inv X pins σ H s):H s.heap.objs.size=none:=I.hok.fresh (Nat.le_refl _)
theorem Inv.lstM (I:Inv X pins σ H s)(hH:H l=some (.lst xs)):xs.length<=sizeLine/\∃(its:List Value) (n:Nat),bL xs its/\xs.length=its.length/\s.heap.get? l=some {cls:=.type "list",data:=.seq its.toArray n}:=by
 obtain ⟨z,its,n,r,e⟩:=I.hok l _ hH
 exact ⟨z,its,n,r,r.length,e⟩
theorem JJ {n:Nat}(h:n<=sizeLine):Builtin.List.listTooLong n=false:=by
 unfold Builtin.List.listTooLong
 exact decide_eq_false (by omega)
end
section
variable {X:Cx}
noncomputable def G7:V->List V->Hp->VK->Prop:=fun x vs H Q=>∃l xs y,x=.ref l/\vs=[y]/\H l=some (.lst xs)/\xs.length < sizeLine/\Q .non (upd H l (.lst (xs++[y])))
theorem Io:MtM X "list.append" G7:=by
 intro pins s σ H x vs v us Q I rx rv h
 obtain ⟨l,xs,y,rfl,rfl,hH,hz,q⟩:=h
 cases rx
 obtain ⟨u,rfl,ru⟩:=rv.one
 obtain ⟨z,its,n,r,hl,e⟩:=I.lstM hH
 refine call_meets F.slot_list_append ⟨_,e,rfl⟩ F.entry_list_append (F.args_list_append_2 _ _) (PySem.list_append l its.toArray n u (by rw [List.size_toArray];omega)) ⟨e,?_⟩
 refine ⟨.non,_,I.lset (its':=its++[u]) hH e (by simp) (r.append (.cons ru .nil)) ?_,rfl,q⟩
 rw [List.length_append,List.length_singleton]
 omega
noncomputable def LC:V->List V->Hp->VK->Prop:=fun x vs H Q=>∃l b xs zs,x=.ref l/\vs=[.ref b]/\H l=some (.lst xs)/\H b=some (.lst zs)/\xs.length+zs.length<=sizeLine/\Q .non (upd H l (.lst (xs++zs)))
theorem O1:MtM X "list.extend" LC:=by
 intro pins s σ H x vs v us Q I rx rv h
 obtain ⟨l,b,xs,zs,rfl,rfl,hH,hB,hz,q⟩:=h
 cases rx
 obtain ⟨u,rfl,ru⟩:=rv.one
 cases ru
 obtain ⟨z,its,n,r,hl,e⟩:=I.lstM hH
 obtain ⟨z2,its2,n2,r2,hl2,e2⟩:=I.lstM hB
 have hsz:its.toArray.size+its2.toArray.size<=sizeLine:=by rw [List.size_toArray,List.size_toArray];omega
 have hlong:¬(!its.toArray.isEmpty && Builtin.List.listTooLong (its.toArray.size+its2.toArray.size))=true:=by
  rw [JJ hsz,Bool.and_false]
  exact Bool.false_ne_true
 refine call_meets F.slot_list_extend ⟨_,e,rfl⟩ F.entry_list_extend (F.args_list_extend_2 _ _)
  (AutoSeq1.list_extend_list_list_0 l its.toArray n b its2.toArray n2 hlong (by rw [List.size_toArray];omega) (by omega)) ⟨e,e2,?_⟩
 refine ⟨.non,_,I.lset (its':=its++its2) hH e (by simp) (r.append r2) ?_,rfl,q⟩
 rw [List.length_append]
 omega
noncomputable def N4:V->List V->Hp->VK->Prop:=fun x vs H Q=>∃l xs y,x=.ref l/\vs=[]/\H l=some (.lst xs)/\xs[xs.length - 1]?=some y/\Q y (upd H l (.lst xs.dropLast))
theorem N5:MtM X "list.pop" N4:=by
 intro pins s σ H x vs v us Q I rx rv h
 obtain ⟨l,xs,y,rfl,rfl,hH,hy,q⟩:=h
 cases rx
 have hus:=rv.zero
 subst hus
 obtain ⟨z,its,n,r,hl,e⟩:=I.lstM hH
 obtain ⟨u,hu,ru⟩:=r.get hy
 have hy':its.toArray[its.toArray.size - 1]?=some u:=by
  show its.toArray[its.length - 1]?=some u
  rw [←Array.getElem?_toList,←hl]
  exact hu
 refine call_meets F.slot_list_pop ⟨_,e,rfl⟩ F.entry_list_pop (F.args_list_pop_1 _) (MeetsSeq.list_pop_last l its.toArray n u hy' (by rw [List.size_toArray];omega)) ⟨e,?_⟩
 refine ⟨y,_,I.lset (its':=its.dropLast) hH e ?_ r.dropLast ?_,ru,q⟩
 ·show its.toArray.eraseIdxIfInBounds (its.toArray.size - 1)=its.dropLast.toArray
  rw [List.size_toArray,List.eraseIdxIfInBounds_toArray,FE]
 ·rw [List.length_dropLast]
  omega
noncomputable def Po:R2:=fun x y H Q=>∃l b xs zs,x=.ref l/\y=.ref b/\H l=some (.lst xs)/\H b=some (.lst zs)/\xs.length+zs.length<=sizeLine/\∀p,H p=none->Q (.ref p) (upd H p (.lst (xs++zs)))
theorem N6:OpR X (binaryOp .Add) Po:=by
 intro pins s σ H x y v u Q I rx ry h
 obtain ⟨l,b,xs,zs,rfl,rfl,hH,hB,hz,q⟩:=h
 cases rx
 cases ry
 obtain ⟨z,its,n,r,hl,e⟩:=I.lstM hH
 obtain ⟨z2,its2,n2,r2,hl2,e2⟩:=I.lstM hB
 refine PySem.P.add_list e e2 ?_ (by rw [List.size_toArray,List.size_toArray];omega)
 have ea:its.toArray++its2.toArray=(its++its2).toArray:=by simp
 rw [ea]
 exact ⟨.ref _,_,I.lnew (t':=s.toks) (r.append r2) (by rw [List.length_append];omega),rfl,q _ I.fresh⟩
end
section
variable {prog:Program}{w:World}{A:Around}{E:Value->Shared->Prop}{s:Shared}
set_option maxRecDepth 100000 in
end
end L2
namespace Att
open PySem PySem.W PySem.Calls PyProof.Rows
theorem yj {P:Params}{h:Heap}:∀(ns:List Int) (vs:List Value),WellAll P h vs (ns.map WData.int)->IntsAre vs ns:=by
 intro ns
 induction ns with
 | nil=>
  intro vs w
  rw [List.map_nil] at w
  cases w
  exact .nil
 | cons n ns ih=>
  intro vs w
  rw [List.map_cons] at w
  cases w with
  | cons a b=>
   cases a
   exact .cons _ _ (ih _ b)
theorem Ip {l:OpenLaw}{n:Nat}(hn:l.most=some n){P:Params}{h:Heap}{args:List WData}{vals:List Value}
  (hpre:l.row.toRowW.claim.pre args=true) (hwl:WellAll P h vals args) :
  ∃a vs ns,vals=[Value.ref a]/\args=[WData.list (ns.map WData.int)]/\h.get? a=some {cls:=.type "list",data:=.seq vs.toArray}/\IntsAre vs ns/\ns.length<=n:=by
 have hsh:WShape.hasAll [] args [.list .int]=true:=(pre_splitW hpre).1
 have hc:l.pre.holds [] {args:=args}=true:=(pre_splitW hpre).2
 obtain ⟨d,r,rfl,h1,h2⟩:=hasAllW_cons hsh
 obtain rfl:=hasAllW_nil h2
 obtain ⟨xs,rfl,h3⟩:=hasW_list h1
 obtain ⟨ns,rfl⟩:=items_int h3
 have hlen:ns.length<=n:=by
  unfold OpenLaw.pre at hc
  have h4:(WTm.not (.lt (.lit (.int (n:Int))) (.len (.arg 0)))).holds [] {args:=[.list (ns.map .int)]}=true:=by
   have h4:=(holds_andW hc).1
   rw [hn] at h4
   exact h4
  have h5:=condW_of h4 (w_not (w_lt w_lit (w_len_list (w_arg rfl))))
  rw [WB] at h5
  refine Nat.le_of_not_lt fun q=>?_
  have q':(n:Int) < ((ns.length:Nat):Int):=by omega
  first
   | (rw [decide_eq_true q'] at h5;exact absurd h5 (by decide))
   | (simp at h5;omega)
 cases hwl with
 | cons w1 w2=>
  cases w2
  cases w1 with
  | list ho hall=>exact ⟨_,_,ns,rfl,rfl,ho,yj ns _ hall,hlen⟩
theorem Iq (l:OpenLaw)(args:List WData):l.row.toRowW.claim.post args (.bool true) args=true:=
 postW_of (r:=l.row.toRowW) (X:=(true == true))
  (show WShape.has [] (.bool true) .bool=true by first | rfl | decide | simp [WShape.has,WShape.arms,WShape.armsAll])
  (show (WTm.eq .res (.lit (.bool true))).value [] {args:=args,res:=some (.bool true),after:=args}=some (.bool (true == true)) from w_eq_bool (w_res rfl) w_lit) rfl
theorem Dp {l:OpenLaw}{n:Nat}{q:Program}{loose:List Str}{XP:(Str->Option Value)->Heap->Prop}{YP:World->Heap->Prop}{d:DefRec}
  (hn:l.most=some n) (hdf:d.params.defaults=[])
  (call:∀(w:World) (s₀ s₁:Shared) (mg mb:Str->Option Value) (fa:Addr) (o:Obj) (pm cd doc:Value) (a:Addr) (vs:List Value) (ns:List Int),
   Ground q loose [] XP w s₀ mg mb s₁.heap->YP w s₁.heap->
   s₁.heap.get? fa=some o->o.data=.func (docDef d.name d.params d.body d.scope pm cd doc)->s₁.heap.CodeRec cd d.name->mg d.name=some (.ref fa)->
   s₁.heap.get? a=some {cls:=.type "list",data:=.seq vs.toArray}->IntsAre vs ns->ns.length<=n->s₁.gens=#[]->
   codeAny (model l.prog w) callerA (.call (.ref fa) ⟨[.ref a],[]⟩) (fun r s'=>r=.ok (.ret (.bool true))/\OldK s₁.heap s'.heap/\s'.os=s₁.os/\AllBare s'.gens) s₁) :
  WalkO q loose XP YP l.row.toRowW d [] (fun f vs=>PySem.call f vs):=by
 intro w s₀ s₁ mg mb G Y fa o pm cd doc dV kV ho hd hcd hD hmg hg args vals as hpre hlay hrd hwl hlo
 obtain rfl:dV=.none:=Dflts.none hD hdf
 obtain rfl:kV=.none:=Dflts.noKw hD
 obtain ⟨a,vs,ns,rfl,rfl,hobj,hints,hlen⟩:=Ip hn hpre hwl
 refine enter_call (codeAny_mono (call w s₀ s₁ mg mb fa o pm cd doc a vs ns G Y ho (fd_plain hd) hcd hmg hobj hints hlen hg) fun r s' hq=>?_)
 obtain ⟨rfl,h2,h3,h4⟩:=hq
 exact ⟨.inl ⟨.bool true,.bool true,[],rfl,fun _=>rfl,.bool true,Iq l _,fun _=>⟨List.Pairwise.nil,fun _ hm=>(nomatch hm)⟩⟩,h2,h3,h4⟩
end Att
namespace L2
open PySem PySem.Spec PyProof.Rows
theorem Bo:∀{vs:List Value} {ns:List Int},IntsAre vs ns->bL (ns.map V.int) vs
 | _,_,.nil=>.nil
 | _,_,.cons n t h=>.cons ⟨t,rfl⟩ (Bo h)
def N7 (H:Hp):Prop:=∀b,H b=none\/∃o xs,H b=some (.frz o (.lst xs))
theorem JK {P:Program}{w:World}{K:WA}{mg mb:Str->Option Value}{CX:CXT}{k:Nat}{fa a:Addr}{fd:FuncData}{x:Str}{sp:Sp}{s₁:Shared}{vs:List Value}{ns:List Int}
  (KX:K.In s₁.heap) (hns:s₁.heap.Ns mainGlobals mg) (hb:s₁.heap.Ns builtinsNs mb) (hbb:∀x:Str,x≠"__name__"->mb x=bootBuiltins x) (hlim:s₁.heap.NoLimit) (hg:s₁.gens=#[])
  (ha:s₁.heap.get? a=some {cls:=.type "list",data:=.seq vs.toArray}) (hi:IntsAre vs ns) (hl:ns.length<=sizeLine) (hr:eo k callerA)
  (F:∀base:Heap,K.In base->base.Ns mainGlobals mg->gv P w K mg base CX k fa fd [x] sp) (hbind:∀(s:Shared) (u:Value),BindsTo s fd ⟨[u],[]⟩ [(x,u)])
  (hsp:∀H:Hp,N7 H->SqL K H a (ns.map V.int)->sp [.ref a] H (fun v _=>v=.bl true) fun _ _ _=>False)
  (hCX:∀H e s',CX [] H s₁ (fun _ _ _=>False) e s'->False) :
  codeAny (model P w) callerA (.call (.ref fa) ⟨[.ref a],[]⟩) (fun r s'=>r=.ok (.ret (.bool true))/\OldK s₁.heap s'.heap/\s'.os=s₁.os/\AllBare s'.gens) s₁:=by
 have rv:=Bo hi
 have lenV:=hi.length
 have core:∀H:Hp,N7 H->SqL K H a (ns.map V.int)->HOk P w H s₁.heap->(∀b,H b≠none->b=a)->(H a≠none->K.lookup a=none)->
   codeAny (model P w) callerA (.call (.ref fa) ⟨[.ref a],[]⟩) (fun r s'=>r=.ok (.ret (.bool true))/\OldK s₁.heap s'.heap/\s'.os=s₁.os/\AllBare s'.gens) s₁:=by
  intro H hO hS hok hA hK
  have base_of:∀{b:Addr} {o:Obj},s₁.heap.get? b=some o->H b=none->(B4 s₁.heap H).get? b=some o:=fun e n=>Jn e n
  have noA:∀{b:Addr} {o:Obj} {es:Array DictEntry} {ep:Nat},s₁.heap.get? b=some o->o.data=.dict es ep->H b=none:=fun {b o es ep} e d=>by
   cases q:H b with
   | none=>rfl
   | some u=>
    have e':b=a:=hA b (by rw [q];simp)
    subst e'
    rw [ha] at e;cases e
    have d':Data.seq vs.toArray _=Data.dict es ep:=d
    cases d'
  have nsK:∀{b:Addr} {m:Str->Option Value},s₁.heap.Ns b m->(B4 s₁.heap H).Ns b m:=fun {b m} ⟨o,es,ep,e,d,r⟩=>⟨o,es,ep,base_of e (noA e d),d,r⟩
  have hKb:K.In (B4 s₁.heap H):=fun b o e=>base_of (KX b o e) (by
   cases q:H b with
   | none=>rfl
   | some u=>
    have e':b=a:=hA b (by rw [q];simp)
    subst e'
    rw [hK (by rw [q];simp)] at e;cases e)
  have hM:Mod K mg (B4 s₁.heap H):=⟨hKb,nsK hns,⟨mb,nsK hb,hbb⟩,let ⟨mc,h1,h2⟩:=hlim;⟨mc,nsK h1,h2⟩⟩
  have e0:Fw P w K mg (B4 s₁.heap H) callerA [] s₁ H:=⟨rfl,hM,fun b o e=>Lk e,Nat.le_of_eq (HY _ _),trivial,fun b hb=>absurd (show b∈([]:List Addr) from hb) (by simp),hok,.of_eq hg⟩
  refine codeAny_mono ((F _ hKb (nsK hns)).run callerA [] s₁ H ⟨[.ref a],[]⟩ [.ref a] [.ref a] _ _ hr e0 (hbind s₁ (.ref a)) (.cons rfl .nil) (hsp H hO hS)) fun r s' h=>?_
  cases r with
  | error e=>exact (hCX H e s' h).elim
  | ok fl=>
   cases fl with
   | next=>exact False.elim h
   | brk=>exact False.elim h
   | cont=>exact False.elim h
   | ret u=>
    obtain ⟨v,H',os,bare,un,hok',r',q⟩:=h
    have q':v=.bl true:=q
    subst q'
    obtain rfl:u=Value.bool true:=r'
    refine ⟨rfl,OldK.of_keep fun b o e=>?_,os,bare⟩
    cases q:H b with
    | none=>exact un.keep b o e q (by intro z;exact absurd (show b∈([]:List Addr) from z) (by simp)) (by simp)
    | some u=>
     rcases hO b with z | ⟨ob,xs,z⟩
     ·rw [q] at z;cases z
     ·have z2:=un.frzs b ob _ z
      obtain ⟨e1,_⟩:=hok b _ z
      obtain ⟨e2,_⟩:=hok' b _ z2
      rw [e] at e1;cases e1
      exact e2
 cases hk:K.lookup a with
 | some o=>
  have e:=KX a o hk
  rw [ha] at e
  cases e
  refine core (fun _=>none) (fun _=>.inl rfl) (.inr ⟨_,vs.toArray,_,hk,rfl,rfl,rfl,by rw [List.size_toArray,lenV];exact hl,by simpa using rv⟩) (fun b u z=>by have z':(none:Option HO)=some u:=z;cases z') (fun b z=>absurd rfl z) fun z=>absurd rfl z
 | none=>
  refine core (fun b=>if b=a then some (.frz {cls:=.type "list",data:=.seq vs.toArray} (.lst (ns.map V.int))) else none) (fun b=>?_) (.inl (.inr ⟨{cls:=.type "list",data:=.seq vs.toArray},if_pos rfl⟩)) (fun b u z=>?_) (fun b z=>?_) fun _=>hk
  ·by_cases hb:b=a
   ·exact .inr ⟨_,_,if_pos hb⟩
   ·exact .inl (if_neg hb)
  ·by_cases hb:b=a
   ·have z':=(if_pos hb).symm.trans z
    cases z'
    subst hb
    exact ⟨ha,by rw [WB];exact hl,vs,_,rv,ha⟩
   ·have z':=(if_neg hb).symm.trans z
    cases z'
  ·by_cases hb:b=a
   ·exact hb
   ·exact absurd (if_neg hb) z
theorem LD {l:W.OpenLaw}{n k:Nat}{q:Program}{loose:List Str}{XP:(Str->Option Value)->Heap->Prop}{YP:World->Heap->Prop}{d:DefRec}{K:Params->WA}{CX:World->CXT}{sp:World->Sp}{x:Str}
  (hn:l.most=some n) (hn2:n<=sizeLine) (hdf:d.params.defaults=[]) (hr:eo k callerA)
  (hY:∀(w:World) (h:Heap),YP w h->(K w.params).In h)
  (F:∀(w:World) (mg:Str->Option Value) (fa:Addr) (h:Heap),(K w.params).In h->h.Ns mainGlobals mg->mg d.name=some (.ref fa)->
   ∃fd:FuncData,(∀(s:Shared) (u:Value),BindsTo s fd ⟨[u],[]⟩ [(x,u)])/\
    ∀base:Heap,(K w.params).In base->base.Ns mainGlobals mg->gv l.prog w (K w.params) mg base (CX w) k fa fd [x] (sp w))
  (hsp:∀(w:World) (H:Hp) (a:Addr) (ns:List Int),ns.length<=n->N7 H->SqL (K w.params) H a (ns.map V.int)->sp w [.ref a] H (fun v _=>v=.bl true) fun _ _ _=>False)
  (hCX:∀(w:World) (H:Hp) (s:Shared) (e:Value) (s':Shared),CX w [] H s (fun _ _ _=>False) e s'->False) :
  W.WalkO q loose XP YP l.row.toRowW d [] (fun f vs=>PySem.call f vs):=by
 refine Att.Dp hn hdf fun w s₀ s₁ mg mb fa o pm cd doc a vs ns G Y ho hd hcd hmg hobj hints hlen hg=>?_
 have KX:=hY w _ Y
 obtain ⟨fd,hb,hF⟩:=F w mg fa _ KX G.T.g hmg
 exact JK KX G.T.g G.T.b G.T.builtins G.T.nolimit hg hobj hints (Nat.le_trans hlen hn2) hr hF hb (fun H hO hS=>hsp w H a ns hlen hO hS) fun H e s'=>hCX w H s₁ e s'
noncomputable def bf (s:Stmt)(j:Nat):Stmt:=match s with
 | .ClassDef _ _ _ body _ _ _ _ _ _ _=>body.getD j (.Pass ⟨0,0,0,0⟩)
 | _=>.Pass ⟨0,0,0,0⟩
noncomputable def et (s:Stmt):Arguments:=match s with
 | .FunctionDef _ a _ _ _ _ _ _ _ _=>a
 | _=>{posonlyargs:=[],args:=[],vararg:=none,kwonlyargs:=[],kw_defaults:=[],kwarg:=none,defaults:=[]}
noncomputable def cH (s:Stmt):List Stmt:=match s with
 | .FunctionDef _ _ b _ _ _ _ _ _ _=>b
 | _=>[]
noncomputable def ak (s:Stmt):Scope:=match s with
 | .FunctionDef _ _ _ _ _ _ sc _ _ _=>sc
 | _=>{kind:=.function,names:=[],isGenerator:=false,isCoroutine:=false}
noncomputable abbrev CX0:CXT:=fun _ _ _ _ _ _=>False
noncomputable abbrev E0:XK:=fun _ _ _=>False
theorem bB {X:Cx}:fQ CX0 X E0:=fun _ _ _ _ _ _ _ h=>h.elim
structure Fun (K:WA)(x qual:Str)(st:Stmt)(f:Addr)(fd:FuncData):Prop where
 ex:∃(oc:Value) (od:Option Addr) (kV doc pm:Value) (an:Option Addr) (cdv ct:Value) (osl:Array (Option Value)),
  fd=W.fnOf x qual (et st) (cH st) (ak st) .none kV doc pm an cdv ct/\K.lookup f=some ⟨oc,od,.func fd,osl⟩/\W.codeIn K cdv qual=true
 kp:W.keepIn K (.ref f)=true
section
variable {P:Program}{w:World}{K:WA}{mg:Str->Option Value}{base:Heap}
theorem Fun.ok {x qual:Str}{st:Stmt}{f:Addr}{fd:FuncData}{N ps:List Str}{k:Nat}{sp:Sp}(F:Fun K x qual st f fd)(S:aB N ps (ak st))(len:∀vs H Q E,sp vs H Q E->vs.length=ps.length)
  (hbody:∀(cdv:Value) (A:Around) (outer:List Env) (s:Shared) (H:Hp) (vs:List V) (Q:VK) (E:XK),eo k (A.deeper (envOfC qual (ak st) s.heap.objs.size f cdv))->sp vs H Q E->
   ∃t,PSs (yS CX0 P w K mg base N qual (ak st) f cdv A outer s H E).nox (cH st) t/\t {nx:=fun _ H'=>Q .non H',rt:=Q} (oo N vs) H):gv P w K mg base CX0 (k+1) f fd ps sp:=by
 obtain ⟨oc,od,kV,doc,pm,an,cdv,ct,osl,rfl,lk,hcd⟩:=F.ex
 refine M9 lk hcd S len fun A outer s H vs Q E hr hsp=>?_
 obtain ⟨t,h,q⟩:=hbody cdv A outer s H vs Q E hr hsp
 exact ⟨t,h.nox,q⟩
theorem Fun.binds {x qual:Str}{st:Stmt}{f:Addr}{fd:FuncData}{ps:List Str}(F:Fun K x qual st f fd)
  (h:∀(kV doc pm:Value) (an:Option Addr) (cdv ct:Value) (us:List Value),us.length=ps.length->bindArgs (W.fnOf x qual (et st) (cH st) (ak st) .none kV doc pm an cdv ct) ⟨us,[]⟩=pure (ps.zip us)):eJ K fd ps []:=by
 obtain ⟨oc,od,kV,doc,pm,an,cdv,ct,osl,rfl,lk,hcd⟩:=F.ex
 exact .all (h kV doc pm an cdv ct)
theorem FG {x qual:Str}{st:Stmt}{f:Addr}{oc:Value}{od an:Option Addr}{osl:Array (Option Value)}{kV doc pm cdv ct:Value}(l:K.lookup f=some ⟨oc,od,.func (W.fnOf x qual (et st) (cH st) (ak st) .none kV doc pm an cdv ct),osl⟩)
  (c:W.codeIn K cdv qual=true) (k:W.keepIn K (.ref f)=true):Fun K x qual st f (W.fnOf x qual (et st) (cH st) (ak st) .none kV doc pm an cdv ct):=⟨⟨oc,od,kV,doc,pm,an,cdv,ct,osl,rfl,l,c⟩,k⟩
end
theorem dE {n:Nat}(h:n<=1000):n < sizeLine:=Nat.lt_of_le_of_lt h (by decide)
section
variable {X:Cx}
theorem pv (i:Nat){x:Str}{pos:Pos}(hN:X.N[i]?=some x:=by rfl)(hv:Vis X.env.scope x:=by first | exact Or.inl rfl | exact Or.inr (Or.inl rfl) | exact Or.inr (Or.inr rfl))(hd:(x == ("__debug__":Str))=false:=by decide)
  (hcd:(x == ("__classdict__":Str))=false:=by decide):PE X (.Name x pos) (NC i):=ND hN hv hd hcd
end
theorem Pp {A B:Prop}(h:B):if false=true then A else B:=by
 rw [if_neg Bool.false_ne_true]
 exact h
theorem Pq {A B:Prop}(h:A):if true=true then A else B:=by
 rw [if_pos rfl]
 exact h
def aw (H H':Hp):Prop:=∀b o,H b=some o->H' b=some o
theorem aw.refl (H:Hp):aw H H:=fun _ _ h=>h
theorem aw.trans {H H1 H2:Hp}(a:aw H H1)(b:aw H1 H2):aw H H2:=fun c o h=>b c o (a c o h)
theorem aw.free {H H':Hp}(e:aw H H'){l:Addr}(h:H' l=Option.none):H l=Option.none:=by
 cases q:H l with
 | none=>rfl
 | some o=>
  rw [e l o q] at h
  cases h
theorem aw.seq {K:WA}{H H':Hp}{a:Addr}{xs:List V}(e:aw H H')(h:SqL K H a xs):SqL K H' a xs:=by
 rcases h with (h | ⟨o,h⟩) | h
 ·exact .inl (.inl (e _ _ h))
 ·exact .inl (.inr ⟨o,e _ _ h⟩)
 ·exact .inr h
end L2
set_option maxHeartbeats 4000000
namespace L2
open PySem PySem.Spec PyProof.Rows
noncomputable def iL (cells:List (Str×Addr)):List (Str×NameKind)->List (Str×Addr)->List (Str×Addr)
 | [],acc=>acc
 | (n,k)::r,acc=>if (k == NameKind.free)=true then (match cells.lookup n with | some c=>iL cells r ((n,c)::acc) | none=>iL cells r acc) else iL cells r acc
theorem iM {scope:Scope}{env:Env}(h:∀y∈scope.names,y.2=.free->∃c,env.cells.lookup y.1=some c):closureFor scope env=pure (iL env.cells scope.names []):=by
 have key:∀(l:List (Str×NameKind)) (acc:List (Str×Addr)),(∀y∈l,y.2=.free->∃c,env.cells.lookup y.1=some c)->
   (forIn l acc fun x s=>if (x.snd == NameKind.free)=true then do
       let c ←cellOf env x.fst
       pure (ForInStep.yield ((x.fst,c)::s))
      else pure (ForInStep.yield s))=(pure (iL env.cells l acc):Sem _):=by
  intro l
  induction l with
  | nil=>intro acc _;rfl
  | cons y r ih=>
   intro acc hy
   obtain ⟨n,k⟩:=y
   have ih':=fun a=>ih a fun z hz=>hy z (List.mem_cons_of_mem _ hz)
   by_cases hk:(k == NameKind.free)=true
   ·obtain ⟨c,hc⟩:=hy (n,k) List.mem_cons_self (by simpa using hk)
    have hc':env.cells.lookup n=some c:=hc
    simp only [List.forIn_cons,hk,if_true,cellOf,hc',pure_bind,iL]
    exact ih' _
   ·simp only [List.forIn_cons,hk,if_false,pure_bind,iL]
    exact ih' _
 simp only [closureFor]
 rw [key _ _ h]
 rfl
theorem yC {cells:List (Str×Addr)}:∀{l:List (Str×NameKind)} {acc:List (Str×Addr)} {x:Str} {c:Addr},(∀x c,acc.lookup x=some c->cells.lookup x=some c)->(iL cells l acc).lookup x=some c->cells.lookup x=some c
 | [],acc,x,c,h,e=>h x c e
 | (n,k)::r,acc,x,c,h,e=>by
  unfold iL at e
  split at e
  ·split at e
   ·rename_i d hd
    refine yC (l:=r) (acc:=(n,d)::acc) (fun y b hy=>?_) e
    rw [List.lookup_cons] at hy
    split at hy
    ·rename_i z
     have zn:y=n:=by simpa using z
     cases hy
     rw [zn];exact hd
    ·exact h y b hy
   ·exact yC h e
  ·exact yC h e
theorem uT {cells:List (Str×Addr)}{x:Str}:∀{l:List (Str×NameKind)} {acc:List (Str×Addr)},(∃c,acc.lookup x=some c)->∃c,(iL cells l acc).lookup x=some c
 | [],acc,h=>h
 | (n,k)::r,acc,h=>by
  unfold iL
  split
  ·split
   ·rename_i d hd
    refine uT (l:=r) ?_
    rw [List.lookup_cons]
    split
    ·exact ⟨_,rfl⟩
    ·exact h
   ·exact uT h
  ·exact uT h
theorem oP {cells:List (Str×Addr)}{x:Str}:∀{l:List (Str×NameKind)} {acc:List (Str×Addr)},l.lookup x=some .free->(∃c,cells.lookup x=some c)->∃c,(iL cells l acc).lookup x=some c
 | [],acc,h,_=>by simp at h
 | (n,k)::r,acc,h,hc=>by
  rw [List.lookup_cons] at h
  unfold iL
  split at h
  ·rename_i z
   have zn:x=n:=by simpa using z
   cases h
   subst zn
   obtain ⟨c,hc⟩:=hc
   rw [if_pos (by decide),hc]
   refine uT ⟨c,?_⟩
   rw [List.lookup_cons]
   simp
  ·split
   ·split
    ·exact oP h hc
    ·exact oP h hc
   ·exact oP h hc
theorem ig {env:Env}:∀{names:List (Str×NameKind)} {x:Str},names.lookup x=some .free->
  (names.map fun (n,k)=>if (k == NameKind.free && env.scope.kind == .function && env.kindOf n == some .cell) then (n,NameKind.cell) else (n,k)).lookup x=some .cell\/
  (names.map fun (n,k)=>if (k == NameKind.free && env.scope.kind == .function && env.kindOf n == some .cell) then (n,NameKind.cell) else (n,k)).lookup x=some .free
 | [],_,h=>by simp at h
 | (n,k)::r,x,h=>by
  have ih:=@ig env r x
  show List.lookup x ((if (k == NameKind.free && env.scope.kind == .function && env.kindOf n == some .cell)=true then (n,NameKind.cell) else (n,k))::_)=_\/List.lookup x ((if (k == NameKind.free && env.scope.kind == .function && env.kindOf n == some .cell)=true then (n,NameKind.cell) else (n,k))::_)=_
  cases hx:x == n with
  | true=>
   simp only [List.lookup_cons,hx] at h
   cases h
   by_cases hc:(NameKind.free == NameKind.free && env.scope.kind == .function && env.kindOf n == some .cell)=true
   ·rw [if_pos hc];left;simp only [List.lookup_cons,hx]
   ·rw [if_neg hc];right;simp only [List.lookup_cons,hx]
  | false=>
   simp only [List.lookup_cons,hx] at h
   by_cases hc:(k == NameKind.free && env.scope.kind == .function && env.kindOf n == some .cell)=true
   ·rw [if_pos hc];simp only [List.lookup_cons,hx];exact ih h
   ·rw [if_neg hc];simp only [List.lookup_cons,hx];exact ih h
theorem ij {env:Env}:∀{names:List (Str×NameKind)} {x:Str},(∀y∈names,y.2≠NameKind.cell)->
  ((names.map fun (n,k)=>if (k == NameKind.free && env.scope.kind == .function && env.kindOf n == some .cell) then (n,NameKind.cell) else (n,k)).lookup x=some .cell\/
  (names.map fun (n,k)=>if (k == NameKind.free && env.scope.kind == .function && env.kindOf n == some .cell) then (n,NameKind.cell) else (n,k)).lookup x=some .free)->names.lookup x=some .free
 | [],_,_,h=>by simp at h
 | (n,k)::r,x,hn,h=>by
  have ih:=@ij env r x fun y hy=>hn y (List.mem_cons_of_mem _ hy)
  have h':List.lookup x ((if (k == NameKind.free && env.scope.kind == .function && env.kindOf n == some .cell)=true then (n,NameKind.cell) else (n,k))::(r.map fun (n,k)=>if (k == NameKind.free && env.scope.kind == .function && env.kindOf n == some .cell) then (n,NameKind.cell) else (n,k)))=some .cell\/List.lookup x ((if (k == NameKind.free && env.scope.kind == .function && env.kindOf n == some .cell)=true then (n,NameKind.cell) else (n,k))::(r.map fun (n,k)=>if (k == NameKind.free && env.scope.kind == .function && env.kindOf n == some .cell) then (n,NameKind.cell) else (n,k)))=some .free:=h
  cases hx:x == n with
  | true=>
   simp only [List.lookup_cons,hx]
   by_cases hc:(k == NameKind.free && env.scope.kind == .function && env.kindOf n == some .cell)=true
   ·have hk:k=NameKind.free:=by
     rw [Bool.and_eq_true,Bool.and_eq_true] at hc
     simpa using hc.1.1
    rw [hk]
   ·rw [if_neg hc] at h'
    simp only [List.lookup_cons,hx] at h'
    rcases h' with h' | h'
    ·exact absurd (Option.some.inj h') (hn (n,k) List.mem_cons_self)
    ·exact h'
  | false=>
   simp only [List.lookup_cons,hx]
   by_cases hc:(k == NameKind.free && env.scope.kind == .function && env.kindOf n == some .cell)=true
   ·rw [if_pos hc] at h';simp only [List.lookup_cons,hx] at h';exact ih h'
   ·rw [if_neg hc] at h';simp only [List.lookup_cons,hx] at h';exact ih h'
noncomputable def blk (X:Cx)(Nc:List Str)(scope:Scope)(C:Addr)(s₀:Shared)(H₀:Hp)(ex:List Addr):Cx:=
 {X with N:=Nc,s₀:=s₀,H₀:=H₀,env:=compEnvC scope (iL X.env.cells scope.names []) C X.env,outer:=X.stack,ex:=ex,fn:=fun _=>false,pn:=[],xe:=fun _ _=>False}
noncomputable def cT (cm:List (Option Nat))(σ:St):St:=cm.map fun o=>match o with
 | none=>none
 | some i=>(σ[i]?).getD none
def Wk (σ σ':St):Prop:=σ.length=σ'.length/\∀(i:Nat) (v:V),σ[i]?=some (some v)->σ'[i]?=some (some v)
noncomputable def yV (wi:TI)(g:TG)(tc:TT)(te:TE)(cm:List (Option Nat)):TE:=fun σ H Q=>wi σ H fun J H1=>∃W:Nat->Nat->List V->Hp->Prop,(∃m,W 0 m [] H1)/\∀i m acc H,W i m acc H->
 (J.stop i H/\∀p,H p=none->Q (.ref p) (upd H p (.lst acc)))\/
 (J.go i H/\acc.length < sizeLine/\∀x H',J.yld i H x H'->g x (cT cm σ) H' fun σ2 H2=>Wk (cT cm σ) σ2/\tc σ2 H2 fun b H3=>if b=true then te σ2 H3 fun v H4=>∃m',m' < m/\W (i+1) m' (acc++[v]) H4 else ∃m',m' < m/\W (i+1) m' acc H3)
def PIf (X:Cx)(ifs:List Expr)(t:TT):Prop:=
 ∀(pins:List (Addr×Obj)) (s:Shared) (σ:St) (H:Hp) (Q:Bool->Hp->Prop),Inv X pins σ H s->t σ H Q->
  wpAny (model X.prog X.w) X.A (forIn ifs true fun c r=>if r=true then do let ok ←isTrue c X.env (eval c X.env);pure (ForInStep.yield ok) else pure (ForInStep.yield r)) (TP X pins σ Q) X.xe s
noncomputable def yk:TT:=fun _ H Q=>Q true H
theorem gH {X:Cx}:PIf X [] yk:=fun _ _ σ H _ I h=>wpAny_pure ⟨H,I,h⟩
theorem mh {X:Cx}{c:Expr}{t:TT}(h:PT X c t):PIf X [c] t:=fun pins s σ H Q I q=>wpAny_tests_one (h pins s σ H Q I q)
theorem Inv.track {X:Cx}{pins:List (Addr×Obj)}{σ:St}{H:Hp}{s:Shared}{D:Addr}{o:HO}(I:Inv X pins σ H s)(hn:H D=none)(h0:X.s₀.heap.objs.size<=D)(hL:D≠X.env.locals)
  (hcl:∀x c,X.env.cells.lookup x=some c->c≠D) (hp:∀p∈X.pn++pins,p.1≠D) (new:fO X.prog X.w (upd H D o) s.heap D o):Inv X pins σ (upd H D o) s:=by
 have hb:∀b u,X.s₀.heap.get? b=some u->b≠D:=fun b u e=>Nat.ne_of_lt (Nat.lt_of_lt_of_le (Heap.lt_size e) h0)
 refine ⟨I.ok,I.os,I.bare,⟨I.base.keep,I.base.slot,fun b u e n hx=>?_,I.base.there,fun b xs e=>?_,fun b u xs e=>?_,fun b ps e=>?_⟩,I.loc,I.cell,?_,fun x c e=>?_,fun p hpp=>?_,fun b u e=>?_,I.len⟩
 ·rw [aL (hb b u e)];exact I.base.free b u e n hx
 ·have q:=I.base.tups b xs e;rw [aL (av q hn)];exact q
 ·have q:=I.base.frzs b u xs e;rw [aL (av q hn)];exact q
 ·obtain ⟨more,q⟩:=I.base.tbls b ps e;exact ⟨more,by rw [aL (av q hn)];exact q⟩
 ·rw [aL (Ne.symm hL)];exact I.free
 ·rw [aL (hcl x c e)];exact I.freeC x c e
 ·obtain ⟨a,b,c⟩:=I.pin p hpp
  exact ⟨a,by rw [aL (hp p hpp)];exact b,c⟩
 ·by_cases hb:b=D
  ·subst hb;rw [ah] at e;cases e;exact new
  ·rw [aL hb] at e
   exact (I.hok b u e).stay (fun c v _ q=>q) (fun c q=>by rw [aL (av q hn)];exact q) fun c xs q=>by rw [aL (av q hn)];exact q
theorem gK {env:Env}{yc:Str}:∀{names:List (Str×NameKind)} {x:Str},(∀z∈names,z.2=NameKind.cell->z.1=yc)->
  ((names.map fun (n,k)=>if (k == NameKind.free && env.scope.kind == .function && env.kindOf n == some .cell) then (n,NameKind.cell) else (n,k)).lookup x=some .cell\/
  (names.map fun (n,k)=>if (k == NameKind.free && env.scope.kind == .function && env.kindOf n == some .cell) then (n,NameKind.cell) else (n,k)).lookup x=some .free)->x=yc\/names.lookup x=some .free
 | [],_,_,h=>by simp at h
 | (n,k)::r,x,hn,h=>by
  have ih:=@gK env yc r x fun y hy=>hn y (List.mem_cons_of_mem _ hy)
  have h':List.lookup x ((if (k == NameKind.free && env.scope.kind == .function && env.kindOf n == some .cell)=true then (n,NameKind.cell) else (n,k))::(r.map fun (n,k)=>if (k == NameKind.free && env.scope.kind == .function && env.kindOf n == some .cell) then (n,NameKind.cell) else (n,k)))=some .cell\/List.lookup x ((if (k == NameKind.free && env.scope.kind == .function && env.kindOf n == some .cell)=true then (n,NameKind.cell) else (n,k))::(r.map fun (n,k)=>if (k == NameKind.free && env.scope.kind == .function && env.kindOf n == some .cell) then (n,NameKind.cell) else (n,k)))=some .free:=h
  cases hx:x == n with
  | true=>
   simp only [List.lookup_cons,hx]
   by_cases hc:(k == NameKind.free && env.scope.kind == .function && env.kindOf n == some .cell)=true
   ·have hk:k=NameKind.free:=by
     rw [Bool.and_eq_true,Bool.and_eq_true] at hc
     simpa using hc.1.1
    rw [hk];exact .inr rfl
   ·rw [if_neg hc] at h'
    simp only [List.lookup_cons,hx] at h'
    rcases h' with h' | h'
    ·have e:=hn (n,k) List.mem_cons_self (Option.some.inj h')
     have:x=n:=by simpa using hx
     exact .inl (this.trans e)
    ·exact .inr h'
  | false=>
   simp only [List.lookup_cons,hx]
   by_cases hc:(k == NameKind.free && env.scope.kind == .function && env.kindOf n == some .cell)=true
   ·rw [if_pos hc] at h';simp only [List.lookup_cons,hx] at h';exact ih h'
   ·rw [if_neg hc] at h';simp only [List.lookup_cons,hx] at h';exact ih h'
noncomputable def gN (yo:Option Str)(C:Addr)(cl:List (Str×Addr)):List (Str×Addr):=match yo with | some yc=>(yc,C+1)::cl | none=>cl
noncomputable def fnG (yo:Option Str):Str->Bool:=match yo with | some yc=>fun x=>x == yc | none=>fun _=>false
noncomputable def JL (X:Cx)(Nc:List Str)(scope:Scope)(yo:Option Str)(C:Addr)(s₀:Shared)(H₀:Hp)(ex:List Addr):Cx:=
 {X with N:=Nc,s₀:=s₀,H₀:=H₀,env:=compEnvC scope (gN yo C (iL X.env.cells scope.names [])) C X.env,outer:=X.stack,ex:=ex,fn:=fnG yo,pn:=[],xe:=fun _ _=>False}
theorem wK {yo:Option Str}{C:Addr}{cl:List (Str×Addr)}{x:Str}(h:yo≠some x):(gN yo C cl).lookup x=cl.lookup x:=by
 cases yo with
 | none=>rfl
 | some yc=>show List.lookup x ((yc,C+1)::cl)=_;rw [List.lookup_cons,show (x == yc)=false by simpa using fun z=>h (by rw [z])]
theorem Ir {yo:Option Str}{C c:Addr}{cl:List (Str×Addr)}{x:Str}(e:(gN yo C cl).lookup x=some c):(yo=some x/\c=C+1)\/(yo≠some x/\cl.lookup x=some c):=by
 by_cases h:yo=some x
 ·rw [h] at e
  have e':List.lookup x ((x,C+1)::cl)=some c:=e
  rw [List.lookup_cons] at e'
  simp at e'
  exact .inl ⟨h,e'.symm⟩
 ·rw [wK h] at e
  exact .inr ⟨h,e⟩
theorem N8 {yo:Option Str}{x:Str}(e:fnG yo x=true):yo=some x:=by
 cases yo with
 | none=>cases e
 | some yc=>rw [show x=yc from eq_of_beq e]
theorem oQ {env:Env}{yo:Option Str}{names:List (Str×NameKind)}{x:Str}(hn:∀z∈names,z.2=NameKind.cell->yo=some z.1)
  (h:(names.map fun (n,k)=>if (k == NameKind.free && env.scope.kind == .function && env.kindOf n == some .cell) then (n,NameKind.cell) else (n,k)).lookup x=some .cell\/
  (names.map fun (n,k)=>if (k == NameKind.free && env.scope.kind == .function && env.kindOf n == some .cell) then (n,NameKind.cell) else (n,k)).lookup x=some .free):yo=some x\/names.lookup x=some .free:=by
 cases yo with
 | none=>exact .inr (ij (fun y hy e=>by cases hn y hy e) h)
 | some yc=>exact (gK (fun z hz e=>(Option.some.inj (hn z hz e)).symm) h).imp (fun e=>by rw [e]) id
section
variable {X:Cx}
theorem wL {tg iter elt:Expr}{ifs:List Expr}{scope:Scope}{pos:Pos}{Nc:List Str}{cm:List (Option Nat)}{g:TG}{tc:TT}{te:TE}{yo:Option Str}{pins:List (Addr×Obj)}{σ:St}{it:Addr}{fp:List Addr}{tn:Nat->Heap->Prop}{J:It}{H2:Hp}{s2:Shared}{W:Nat->Nat->List V->Hp->Prop}{m0:Nat}{h₁:Heap}{QV:VK}{use:Option (Value->Sem Unit)}{R:Value->Shared->Prop}
  (hc:X.calm=true) (hkind:scope.kind=.function) (hcell:∀z∈scope.names,z.2=.cell->yo=some z.1) (hyc:∀yc,yo=some yc->scope.names.lookup yc=some .cell)
  (hfr:∀y∈scope.names,y.2=.free->∃c,X.env.cells.lookup y.1=some c) (hlen:cm.length=Nc.length)
  (hcm:∀(j:Nat) (x:Str) (i:Nat),Nc[j]?=some x->cm[j]?=some (some i)->X.N[i]?=some x/\scope.names.lookup x=some .free/\(X.env.kindOf x=some .cell\/X.env.kindOf x=some .free))
  (hg:∀C s₀ H₀ ex,PG (JL X Nc scope yo C s₀ H₀ ex) tg g) (ht:∀C s₀ H₀ ex,PIf (JL X Nc scope yo C s₀ H₀ ex) ifs tc) (he:∀C s₀ H₀ ex,PE (JL X Nc scope yo C s₀ H₀ ex) elt te)
  (I2:Inv X pins σ H2 s2) (T:HZ X.prog X.w X.K tg J fp it tn) (st2:tn 0 s2.heap) (f2:∀b∈fp,wF X pins H2 b) (w0:W 0 m0 [] H2)
  (turn:∀i m acc H,W i m acc H->(J.stop i H/\∀p,H p=none->QV (.ref p) (upd H p (.lst acc)))\/(J.go i H/\acc.length < sizeLine/\∀x H',J.yld i H x H'->g x (cT cm σ) H' fun σ2 H2=>Wk (cT cm σ) σ2/\tc σ2 H2 fun b H3=>if b=true then te σ2 H3 fun v H4=>∃m',m' < m/\W (i+1) m' (acc++[v]) H4 else ∃m',m' < m/\W (i+1) m' acc H3))
  (hns₁:h₁.Ns (s2.heap.push {cls:=.type "list",dict:=none,data:=.seq ([]:List Value).toArray}).objs.size fun _=>none) (keep1:∀b u,(s2.heap.push {cls:=.type "list",dict:=none,data:=.seq ([]:List Value).toArray}).get? b=some u->h₁.get? b=some u)
  (hcl₁:∀yc,yo=some yc->h₁.IsCell ((s2.heap.push {cls:=.type "list",dict:=none,data:=.seq ([]:List Value).toArray}).objs.size+1) none)
  (fin:∀(s6:Shared) (H5:Hp) (acc:List V) (m:Str->Option Value),s6.heap.Ns (s2.heap.push {cls:=.type "list",dict:=none,data:=.seq ([]:List Value).toArray}).objs.size m->wF X pins (upd H5 s2.heap.objs.size (.lst acc)) (s2.heap.push {cls:=.type "list",dict:=none,data:=.seq ([]:List Value).toArray}).objs.size->
   (∀h',Heap.SameBut (s2.heap.push {cls:=.type "list",dict:=none,data:=.seq ([]:List Value).toArray}).objs.size s6.heap h'->Inv X pins σ (upd H5 s2.heap.objs.size (.lst acc)) {s6 with heap:=h'})->QV (.ref s2.heap.objs.size) (upd H5 s2.heap.objs.size (.lst acc))->
   ∀fl,compPost (model X.prog X.w) X.A X.xe use R (.ref s2.heap.objs.size) (s2.heap.push {cls:=.type "list",dict:=none,data:=.seq ([]:List Value).toArray}).objs.size (.ok fl) s6) :
  codeAny (model X.prog X.w) X.A (.compStart (.ListComp elt [⟨tg,iter,ifs,0⟩] scope pos) 0 (.ref it) (.ref s2.heap.objs.size) (compEnvC scope (gN yo (s2.heap.push {cls:=.type "list",dict:=none,data:=.seq ([]:List Value).toArray}).objs.size (iL X.env.cells scope.names [])) (s2.heap.push {cls:=.type "list",dict:=none,data:=.seq ([]:List Value).toArray}).objs.size X.env))
   (compPost (model X.prog X.w) X.A X.xe use R (.ref s2.heap.objs.size) (s2.heap.push {cls:=.type "list",dict:=none,data:=.seq ([]:List Value).toArray}).objs.size) {s2 with heap:=h₁,toks:=s2.toks+([]:List (Str×Value)).length}:=by
 have hk3:∀b u,s2.heap.get? b=some u->(s2.heap.push {cls:=.type "list",dict:=none,data:=.seq ([]:List Value).toArray}).get? b=some u:=fun b u q=>Heap.get?_push_of_some _ q
 have I3:Inv X pins σ H2 {s2 with heap:=s2.heap.push {cls:=.type "list",dict:=none,data:=.seq ([]:List Value).toArray},toks:=s2.toks}:=I2.kept hk3
 have hD3:(s2.heap.push {cls:=.type "list",dict:=none,data:=.seq ([]:List Value).toArray}).get? s2.heap.objs.size=some {cls:=.type "list",data:=.seq ([]:List Value).toArray}:=Heap.get?_push_size _ rfl
 have hCs:(s2.heap.push {cls:=.type "list",dict:=none,data:=.seq ([]:List Value).toArray}).objs.size=s2.heap.objs.size+1:=Heap.size_push _ _
 have hDn:H2 s2.heap.objs.size=none:=I2.hok.fresh (Nat.le_refl _)
 have st3:tn 0 (s2.heap.push {cls:=.type "list",dict:=none,data:=.seq ([]:List Value).toArray}):=T.keep _ _ _ st2 fun b _ o q=>hk3 b o q
 have fpD:∀b∈fp,b < s2.heap.objs.size:=fun b hb=>by
  obtain ⟨o,e,_⟩:=T.obj _ _ st2 b hb
  exact Heap.lt_size e
 have DX:wF X pins H2 s2.heap.objs.size:=I2.fpOk (Nat.le_refl _) hDn
 generalize hs3:s2.heap.push {cls:=.type "list",dict:=none,data:=.seq ([]:List Value).toArray}=h3 at *
 generalize hDg:s2.heap.objs.size=D at *
 have exX:∀b∈D::fp,wF X pins H2 b:=fun b hb=>by
  rcases List.mem_cons.mp hb with z | z
  ·rw [z];exact DX
  ·exact f2 b z
 have exC:∀b∈D::fp,b < h3.objs.size:=fun b hb=>by
  rcases List.mem_cons.mp hb with z | z
  ·rw [z,hCs];exact Nat.lt_succ_self _
  ·rw [hCs];exact Nat.lt_succ_of_lt (fpD b z)
 have exS:∀b∈D::fp,b∉frs X.stack:=fun b hb z=>by
  obtain ⟨_,n1,n2,_⟩:=exX b hb
  rcases List.mem_cons.mp (I2.stkSub b z) with y | y
  ·exact n1 y
  ·exact n2 y
 have clo:∀x c,(iL X.env.cells scope.names []).lookup x=some c->X.env.cells.lookup x=some c:=fun x c e=>yC (acc:=[]) (fun _ _ z=>by simp at z) e
 have ltX:∀x c,X.env.cells.lookup x=some c->c < h3.objs.size:=fun x c e=>by
  obtain ⟨v,z⟩:=I3.cell x c e
  exact z.lt
 have cloC:∀x c,(gN yo h3.objs.size (iL X.env.cells scope.names [])).lookup x=some c->(yo=some x/\c=h3.objs.size+1)\/(yo≠some x/\X.env.cells.lookup x=some c):=fun x c e=>(Ir e).imp id fun h=>⟨h.1,clo x c h.2⟩
 have cellne:∀b,b < h3.objs.size->(∀x c,X.env.cells.lookup x=some c->c≠b)->∀x c,(gN yo h3.objs.size (iL X.env.cells scope.names [])).lookup x=some c->c≠b:=fun b hb hn x c e=>by
  rcases cloC x c e with ⟨_,z⟩ | ⟨_,z⟩
  ·rw [z];exact Nat.ne_of_gt (Nat.lt_succ_of_lt hb)
  ·exact hn x c z
 let s3:Shared:={s2 with heap:=h3}
 let X':Cx:=JL X Nc scope yo h3.objs.size s3 H2 (D::fp)
 have hX':X'=JL X Nc scope yo h3.objs.size s3 H2 (D::fp):=rfl
 have okX:X'.Ok:=by
  refine ⟨I3.ok.mod,hkind,I3.ok.glob,I3.ok.blt,Nat.le_refl _,fun x y c e1 e2=>(by
   rcases cloC x c e1 with ⟨a1,a2⟩ | ⟨_,a2⟩
   ·rcases cloC y c e2 with ⟨b1,b2⟩ | ⟨_,b2⟩
    ·exact Option.some.inj (a1.symm.trans b1)
    ·exact absurd (ltX y c b2) (by rw [a2];exact Nat.not_lt.mpr (Nat.le_succ _))
   ·rcases cloC y c e2 with ⟨b1,b2⟩ | ⟨_,b2⟩
    ·exact absurd (ltX x c a2) (by rw [b2];exact Nat.not_lt.mpr (Nat.le_succ _))
    ·exact I3.ok.inj x y c a2 b2),fun x hx=>?_,fun x c e z=>(cloC x c z).elim (fun h=>by rw [h.2];exact Nat.le_succ _) (fun h=>absurd (N8 e) h.1),I3.ok.hd,I3.ok.frames,.inl rfl,fun b hb=>⟨Nat.ne_of_lt (exC b hb),cellne b (exC b hb) (exX b hb).2.2.2.2.1⟩,
   I3.bs,?_,fun b o e hb=>?_,exS,I3.stack,I3.stkFree⟩
  ·rcases oQ (env:=X.env) hcell hx with hx' | hx'
   ·exact ⟨h3.objs.size+1,by show List.lookup x (gN yo h3.objs.size _)=_;rw [hx'];show List.lookup x ((x,h3.objs.size+1)::_)=_;rw [List.lookup_cons];simp⟩
   have hmem:(x,NameKind.free)∈scope.names:=by
    have:∀(l:List (Str×NameKind)),l.lookup x=some .free->(x,NameKind.free)∈l:=by
     intro l
     induction l with
     | nil=>intro z;simp at z
     | cons a r ih=>
      obtain ⟨n,k⟩:=a
      intro z
      rw [List.lookup_cons] at z
      split at z
      ·rename_i y
       have yn:x=n:=by simpa using y
       cases z
       rw [yn];exact List.mem_cons_self
      ·exact List.mem_cons_of_mem _ (ih z)
    exact this _ hx'
   have nx:yo≠some x:=fun z=>by rw [hyc x z] at hx';cases hx'
   obtain ⟨c,hc⟩:=oP (acc:=[]) hx' (hfr (x,.free) hmem rfl)
   exact ⟨c,by show List.lookup x (gN yo _ _)=_;rw [wK nx];exact hc⟩
  ·exact Nat.le_trans I3.ok.bsz I3.sz
  ·rcases (exX b hb).2.2.2.1 with z | z
   ·exact I3.ok.noex b o e z
   ·exact absurd (Nat.lt_of_lt_of_le (Heap.lt_size (I3.ok.bs b o e).1) z) (Nat.lt_irrefl _)
 have hσl:(cT cm σ).length=Nc.length:=by
  unfold cT
  rw [WB];exact hlen
 have I4:Inv X' [] (cT cm σ) H2 {s2 with heap:=h₁,toks:=s2.toks+([]:List (Str×Value)).length}:=by
  refine ⟨okX,rfl,I3.bare,Un.kept keep1,⟨_,hns₁,fun j x v e1 e2 e3=>?_⟩,fun x c e=>?_,?_,fun x c e=>(cloC x c e).elim (fun h=>by rw [h.2];exact I3.hok.fresh (Nat.le_succ _)) (fun h=>I3.freeC x c h.2),(fun p hp=>absurd (show p∈([]:List (Addr×Obj)) from hp) (by simp)),I3.hok.kept keep1,hσl⟩
  ·have e2':∃i,cm[j]?=some (some i)/\σ[i]?=some (some v):=by
    unfold cT at e2
    rw [List.getElem?_map] at e2
    cases q:cm[j]? with
    | none=>rw [q] at e2;simp at e2
    | some o=>
     rw [q] at e2
     cases o with
     | none=>simp at e2
     | some i=>
      refine ⟨i,rfl,?_⟩
      simp only [Option.map_some,Option.some.injEq] at e2
      cases q2:σ[i]? with
      | none=>rw [q2] at e2;simp at e2
      | some o2=>rw [q2] at e2;simp at e2;rw [e2]
   obtain ⟨i,ej,ei⟩:=e2'
   obtain ⟨n1,n2,n3⟩:=hcm j x i e1 ej
   obtain ⟨m,hn,hl⟩:=I3.loc
   have n3':Vis X.env.scope x:=by
    rcases n3 with z | z
    ·exact .inr (.inl z)
    ·exact .inr (.inr z)
   obtain ⟨u,r,l⟩:=hl i x v n1 ei n3'
   refine ⟨u,r,?_⟩
   rcases l with ⟨l,_⟩ | ⟨_,c,ec,ic⟩
   ·rcases n3 with z | z
    ·rw [l] at z;cases z
    ·rw [l] at z;cases z
   ·obtain ⟨c',ec'⟩:=oP (cells:=X.env.cells) (acc:=[]) n2 ⟨c,ec⟩
    have hcc:=clo x c' ec'
    rw [ec] at hcc;cases hcc
    obtain ⟨oc,hoc,hdc⟩:=ic
    have nx:yo≠some x:=fun z=>by rw [hyc x z] at n2;cases n2
    refine .inr ⟨?_,c,(by show List.lookup x (gN yo _ _)=_;rw [wK nx];exact ec'),oc,keep1 _ _ hoc,hdc⟩
    exact ig (env:=X.env) n2
  ·rcases cloC x c e with ⟨z0,z⟩ | ⟨_,z⟩
   ·rw [z];exact ⟨none,hcl₁ _ z0⟩
   ·obtain ⟨v,oc,hoc,hdc⟩:=I3.cell x c z
    exact ⟨v,oc,keep1 _ _ hoc,hdc⟩
  ·exact I3.hok.fresh (Nat.le_refl _)
 have stat:∀{H':Hp} {pl:List (Addr×Obj)},(∀b∈fp,H' b=none)->(∀p∈pl,p.1=D)->∀b∈fp,wF X' pl H' b:=fun {H' pl} hn hpl b hb=>
  ⟨hn b hb,Nat.ne_of_lt (exC b (List.mem_cons_of_mem _ hb)),exS b (List.mem_cons_of_mem _ hb),.inl (List.mem_cons_of_mem _ hb),cellne b (exC b (List.mem_cons_of_mem _ hb)) (f2 b hb).2.2.2.2.1,fun p hp z=>by
   have:p∈pl:=(List.mem_append.mp hp).elim (fun z=>absurd (show p∈([]:List (Addr×Obj)) from z) (by simp)) fun z=>z
   have e:=hpl p this
   rw [e] at z
   exact absurd (fpD b hb) (by rw [←z];exact Nat.lt_irrefl _)⟩
 have hDC:D≠h3.objs.size:=by rw [hCs];exact Nat.ne_of_lt (Nat.lt_succ_self _)
 have hDs:D∉frs X.stack:=exS D List.mem_cons_self
 have loop:∀s5:Shared,s5={s2 with heap:=h₁,toks:=s2.toks+([]:List (Str×Value)).length}->
   codeAny (model X.prog X.w) X.A (.compLoop (.ListComp elt [⟨tg,iter,ifs,0⟩] scope pos) 0 (.ref it) (.ref D) (compEnvC scope (gN yo h3.objs.size (iL X.env.cells scope.names [])) h3.objs.size X.env))
    (compPost (model X.prog X.w) X.A X.xe use R (.ref D) h3.objs.size) s5:=by
  rintro s5 rfl
  refine codeAny_loop rfl (fun n s'=>∃i acc its k H',Inv X' [] (cT cm σ) H' s'/\tn i s'.heap/\(∀b∈fp,H' b=none)/\s'.heap.get? D=some {cls:=.type "list",data:=.seq (List.toArray its) k}/\H' D=none/\bL acc its/\acc.length<=sizeLine/\W i n acc H') (fun n s' hI=>?_) m0
   ⟨0,[],[],0,H2,I4,T.keep _ _ _ st3 fun b _ o q=>keep1 b o q,fun b hb=>(f2 b hb).1,keep1 _ _ hD3,hDn,.nil,Nat.zero_le _,w0⟩
  obtain ⟨i,acc,its,k,H5,J5,t5,fr5,d5,dn5,va5,ac5,w5⟩:=hI
  show wpAny _ X.A ((compTurn (.ListComp elt [⟨tg,iter,ifs,0⟩] scope pos) 0 (.ref it) (.ref D) (compEnvC scope (gN yo h3.objs.size (iL X.env.cells scope.names [])) h3.objs.size X.env)).onRaise (fun x=>do noteFrame x (compEnvC scope (gN yo h3.objs.size (iL X.env.cells scope.names [])) h3.objs.size X.env);theTreesLotGoes x)) _ _ s'
  refine wpAny_noted ?_
  rw [compTurn_list]
  have nocell:∀v,({cls:=.type "list",data:=.seq (List.toArray its) k}:Obj).data≠.cell v:=fun v z=>nomatch z
  have P5:Inv X' [(D,{cls:=.type "list",data:=.seq (List.toArray its) k})] (cT cm σ) H5 s':=J5.pins_of fun p hp=>by
   have e:p=(D,{cls:=.type "list",data:=.seq (List.toArray its) k}):=by simpa using hp
   subst e
   exact ⟨d5,dn5,hDC,hDs,nocell⟩
  have pl1:∀p∈[((D,{cls:=.type "list",data:=.seq (List.toArray its) k}):Addr×Obj)],p.1=D:=fun p hp=>by
   have e:p=(D,{cls:=.type "list",data:=.seq (List.toArray its) k}):=by simpa using hp
   rw [e]
  rcases turn i n acc H5 w5 with ⟨stop,qn⟩ | ⟨go,hsz,step⟩
  ·refine wpAny_bind (wpAny_standAt (wpAny_bind (wpAny_mono (T.done X' rfl rfl rfl hc i _ s' _ H5 (fun _ _=>False) P5 (stat fr5 pl1) t5 stop) (fun r s6 ⟨hr,J6⟩=>?_) fun _ _ f=>f.elim)))
   subst hr
   refine wpAny_pure ?_
   obtain ⟨mC,hnC,_⟩:=J6.loc
   have hCn:H5 h3.objs.size=none:=J6.free
   obtain ⟨dg,dg2,_⟩:=J6.pin (D,{cls:=.type "list",data:=.seq (List.toArray its) k}) (by simp)
   refine fin s6 H5 acc mC hnC (I3.fpOk (b:=h3.objs.size) (H':=upd H5 D (.lst acc)) (Nat.le_refl _) (by rw [aL (Ne.symm hDC)];exact hCn)) (fun h' hsb=>?_) (qn D dg2) _
   have toh:∀b u,b≠h3.objs.size->s6.heap.get? b=some u->h'.get? b=some u:=fun b u hb q=>(hsb.2 b hb).trans q
   have hok':HOk X.prog X.w H5 h':=fun a o e=>(J6.hok a o e).stay (fun b u hb q=>toh b u (by
    rintro rfl
    rcases hb with z | z
    ·rw [←z,hCn] at e;cases e
    ·rw [hCn] at z;cases z) q) (fun _ q=>q) fun _ _ q=>q
   have ltC:∀{b:Addr} {u:Obj},h3.get? b=some u->b≠h3.objs.size:=fun q=>Nat.ne_of_lt (Heap.lt_size q)
   have un':Un (frs X.stack) (D::fp) H2 H5 h3 h':=by
    have u:=J6.base
    refine ⟨fun b o e n hb hx=>toh b o (ltC e) (u.keep b o e n hb hx),fun b o e n hb hx=>?_,u.free,fun b o e hx=>?_,u.tups,u.frzs,u.tbls⟩
    ·obtain ⟨sl,q⟩:=u.slot b o e n hb hx
     exact ⟨sl,toh b _ (ltC e) q⟩
    ·obtain ⟨o',q⟩:=u.there b o e hx
     exact ⟨o',toh b _ (ltC e) q⟩
   have J7:Inv X pins σ H5 {s6 with heap:=h'}:=Inv.call' (s':={s6 with heap:=h'}) (ch:=D::fp) I3 J6.os un' hok' J6.bare fun b hb=>by
    obtain ⟨_,n1,n2,n3,n4,n5⟩:=exX b hb
    exact ⟨n3,n1,n4,n5⟩
   obtain ⟨_,n1,n2,n3,n4,n5⟩:=exX D List.mem_cons_self
   have n3':X.s₀.heap.objs.size<=D:=by
    have:=I2.sz
    rw [hDg] at this
    exact this
   exact J7.track (o:=.lst acc) dg2 n3' n1 n4 n5 ⟨ac5,its,k,va5,toh _ _ hDC dg⟩
  ·refine wpAny_bind (wpAny_standAt (wpAny_bind (wpAny_mono (T.item X' rfl rfl rfl hc i _ s' _ H5 (fun _ _=>False) P5 (stat fr5 pl1) t5 go) (fun r s6 ⟨u,hr,h6⟩=>?_) fun _ _ f=>f.elim)))
   subst hr
   refine wpAny_bind (wpAny_mono h6 (fun _ s7 ⟨x,H7,J7,r7,y7,t7,fr7⟩=>?_) fun _ _ f=>f.elim)
   have P7:=J7.pinned (stat fr7 pl1) (T.obj _ _ t7)
   refine wpAny_bind (wpAny_mono (hg _ _ _ _ _ s7 _ H7 x u _ P7 r7 (step x H7 y7)) (fun _ s8 ⟨σ8,H8,J8,wk8,q8⟩=>?_) fun _ _ f=>f.elim)
   refine wpAny_bind (wpAny_mono (ht _ _ _ _ _ s8 σ8 H8 _ J8 q8) (fun b s9 ⟨H9,J9,q9⟩=>?_) fun _ _ f=>f.elim)
   have back:∀{Ha:Hp} {sa:Shared},Inv X' ([(D,{cls:=.type "list",data:=.seq (List.toArray its) k})]++yN fp s7.heap) σ8 Ha sa->
     Inv X' [] (cT cm σ) Ha sa/\tn (i+1) sa.heap/\(∀b∈fp,Ha b=none)/\sa.heap.get? D=some {cls:=.type "list",data:=.seq (List.toArray its) k}/\Ha D=none:=fun {Ha sa} Ja=>by
    refine ⟨(Ja.weak wk8.1 wk8.2).pins_of fun p hp=>absurd hp (by simp),T.keep _ _ _ t7 fun b hb o e=>(Ja.pin (b,o) (List.mem_append_right _ (List.mem_append_right _ (mf hb e)))).1,fun b hb=>?_,?_⟩
    ·obtain ⟨o,e,d⟩:=T.obj _ _ t7 b hb
     exact (Ja.pin (b,o) (List.mem_append_right _ (List.mem_append_right _ (mf hb e)))).2.1
    ·obtain ⟨z1,z2,_⟩:=Ja.pin (D,{cls:=.type "list",data:=.seq (List.toArray its) k}) (by simp)
     exact ⟨z1,z2⟩
   cases b with
   | false=>
    simp only [Bool.false_eq_true,if_false] at q9 ⊢
    obtain ⟨m',hm,w'⟩:=q9
    obtain ⟨z0,z1,z2,z3,z4⟩:=back J9
    exact wpAny_pure ⟨rfl,m',hm,i+1,acc,its,k,H9,z0,z1,z2,z3,z4,va5,ac5,w'⟩
   | true=>
    simp only [if_true] at q9 ⊢
    refine wpAny_bind (wpAny_bind (wpAny_mono (he _ _ _ _ _ s9 σ8 H9 _ J9 q9) (fun y s10 ⟨v,H10,J10,rv,q10⟩=>wpAny_bind ?_) fun _ _ f=>f.elim))
    obtain ⟨m',hm,w'⟩:=q10
    obtain ⟨z0,z1,z2,z3,z4⟩:=back J10
    have hli:=va5.length
    refine call_meets F.slot_list_append ⟨_,z3,rfl⟩ F.entry_list_append (F.args_list_append_2 _ _) (PySem.list_append D its.toArray k y (by rw [List.size_toArray];omega)) ⟨z3,?_⟩
    obtain ⟨k',q⟩:∃k',(s10.heap.update D (Obj.mapSeq (·.push y))).get? D=some {cls:=.type "list",data:=.seq (List.toArray (its++[y])) k'}:=by
     have q:=PySem.IsL.update z3 (·.push y)
     have e:its.toArray.push y=(its++[y]).toArray:=by simp
     rw [e] at q
     exact ⟨_,q⟩
    refine wpAny_pure (wpAny_pure ⟨rfl,m',hm,i+1,acc++[v],its++[y],k',H10,z0.turned (it:=D) (fun b o hb hu=>(Heap.get?_update_other s10.heap (Obj.mapSeq (·.push y)) (Ne.symm hb)).trans hu) z4 hDC (.inl List.mem_cons_self) (cellne D (exC D List.mem_cons_self) (exX D List.mem_cons_self).2.2.2.2.1) (fun p hp=>absurd (show p∈([]:List (Addr×Obj)) from hp) (by simp)),
     T.keep _ _ _ z1 fun b hb o e=>(Heap.get?_update_other s10.heap (Obj.mapSeq (·.push y)) (Nat.ne_of_gt (fpD b hb))).trans e,z2,q,z4,va5.append (.cons rv .nil),by rw [List.length_append,List.length_singleton];omega,w'⟩)
 exact codeAny_compStart_list (loop _ rfl) (T.self X.A 0 _ _ _ (T.keep _ _ _ st3 fun b _ o q=>keep1 b o q) (loop _ rfl))
theorem LF {tg iter elt:Expr}{ifs:List Expr}{scope:Scope}{pos:Pos}{Nc:List Str}{cm:List (Option Nat)}{wi:TI}{g:TG}{tc:TT}{te:TE}
  (hc:X.calm=true) (hi:PI X tg iter wi) (hkind:scope.kind=.function) (hcell:∀y∈scope.names,y.2≠.cell) (hnames:∀y∈scope.names,y.2=.local->scope.names.lookup y.1=some .local)
  (hfree:∀y∈scope.names,y.2=.free->X.env.kindOf y.1=some .cell\/X.env.kindOf y.1=some .free) (hlen:cm.length=Nc.length)
  (hcm:∀(j:Nat) (x:Str) (i:Nat),Nc[j]?=some x->cm[j]?=some (some i)->X.N[i]?=some x/\scope.names.lookup x=some .free/\(X.env.kindOf x=some .cell\/X.env.kindOf x=some .free))
  (hg:∀C s₀ H₀ ex,PG (blk X Nc scope C s₀ H₀ ex) tg g) (ht:∀C s₀ H₀ ex,PIf (blk X Nc scope C s₀ H₀ ex) ifs tc) (he:∀C s₀ H₀ ex,PE (blk X Nc scope C s₀ H₀ ex) elt te)
  (hs:∀x,foldedSetIterable iter X.env x=pure x:=by intro _;rfl):PE X (.ListComp elt [⟨tg,iter,ifs,0⟩] scope pos) (yV wi g tc te cm):=by
 intro pins s σ H Q I h
 rw [eval_ListComp]
 have hfr:∀y∈scope.names,y.2=.free->∃c,X.env.cells.lookup y.1=some c:=fun y hy e=>I.ok.has y.1 (hfree y hy e)
 refine wpAny_comprehension_free (use:=none) rfl hs (iM hfr) hkind hnames (thn (hi pins s σ H _ I h) fun v s1 h1=>thn h1 fun itv s2 h2=>?_)
 obtain ⟨it,fp,tn,J,H2,e,I2,T,st2,f2,W,⟨m0,w0⟩,turn⟩:=h2
 subst e
 refine wpAny_newObj_type (wpAny_newFunctionEnv hcell (by intro y hy;simp at hy) (fun h₁ hns₁ hsb₁=>?_) hkind)
 dsimp only at hns₁ hsb₁ ⊢
 have keepA:∀b u,(s2.heap.push {cls:=.type "list",dict:=none,data:=.seq ([]:List Value).toArray}).get? b=some u->h₁.get? b=some u:=fun b u q=>(hsb₁.2 b (Nat.ne_of_lt (Heap.lt_size q))).trans (Heap.get?_push_of_some _ q)
 exact wL (yo:=none) hc hkind (fun z hz e=>absurd e (hcell z hz)) (fun _ e=>by cases e) hfr hlen hcm hg ht he I2 T st2 f2 w0 turn hns₁ keepA (fun _ e=>by cases e) fun s6 H5 acc m hm _ J qn _=>⟨m,hm,fun h' hsb=>⟨.ref s2.heap.objs.size,_,J h' hsb,rfl,qn⟩⟩
end
theorem N9 {lo:Int}{n:Nat}{g:TG}{tc:TT}{te:TE}{cm:List (Option Nat)}{σ:St}{H:Hp}{Q:VK}(Pv:Nat->List V->Hp->Prop)(h0:Pv 0 [] H)
  (hs:∀i acc H,i < n->Pv i acc H->acc.length < sizeLine/\g (.int (lo+i)) (cT cm σ) H fun σ2 H2=>Wk (cT cm σ) σ2/\tc σ2 H2 fun b H3=>if b=true then te σ2 H3 fun v H4=>Pv (i+1) (acc++[v]) H4 else Pv (i+1) acc H3)
  (mono:∀x σ H N N',(∀σ2 H2,N σ2 H2->N' σ2 H2)->g x σ H N->g x σ H N':=by exact fun _ _ _ _ _ h q=>h _ _ q)
  (monoc:∀σ H N N',(∀b H2,N b H2->N' b H2)->tc σ H N->tc σ H N') (monoe:∀σ H N N',(∀v H2,N v H2->N' v H2)->te σ H N->te σ H N')
  (hd:∀acc H,Pv n acc H->∀p,H p=none->Q (.ref p) (upd H p (.lst acc))) :
  ∃W:Nat->Nat->List V->Hp->Prop,(∃m,W 0 m [] H)/\∀i m acc H,W i m acc H->
   ((Itr lo n).stop i H/\∀p,H p=none->Q (.ref p) (upd H p (.lst acc)))\/
   ((Itr lo n).go i H/\acc.length < sizeLine/\∀x H',(Itr lo n).yld i H x H'->g x (cT cm σ) H' fun σ2 H2=>Wk (cT cm σ) σ2/\tc σ2 H2 fun b H3=>if b=true then te σ2 H3 fun v H4=>∃m',m' < m/\W (i+1) m' (acc++[v]) H4 else ∃m',m' < m/\W (i+1) m' acc H3):=by
 refine ⟨fun i m acc H=>m=n - i/\i<=n/\Pv i acc H,⟨n,by simp,Nat.zero_le _,h0⟩,?_⟩
 rintro i m acc H ⟨rfl,hi,p⟩
 by_cases hlt:i < n
 ·obtain ⟨hz,q⟩:=hs i acc H hlt p
  refine .inr ⟨hlt,hz,fun x H' y=>?_⟩
  obtain ⟨e,y⟩:=y
  subst e y
  refine mono _ _ _ _ _ (fun σ2 H2 ⟨wk,q⟩=>⟨wk,monoc _ _ _ _ (fun b H3 q=>?_) q⟩) q
  cases b with
  | true=>exact monoe _ _ _ _ (fun v H4 q=>⟨n - (i+1),by omega,rfl,hlt,q⟩) q
  | false=>exact ⟨n - (i+1),by omega,rfl,hlt,q⟩
 ·have e:i=n:=by omega
  subst e
  exact .inl ⟨Nat.le_refl _,hd acc H p⟩
theorem yW {lo:Int}{n:Nat}{te:TE}{cm:List (Option Nat)}{σ:St}{H:Hp}{Q:VK}(f:Nat->V)(hn:n<=sizeLine){j:Nat}(hj:(cT cm σ)[j]?=some none)
  (hs:∀i,i < n->∀N:VK,N (f i) H->te ((cT cm σ).set j (some (.int (lo+i)))) H N)
  (hd:∀p,H p=none->Q (.ref p) (upd H p (.lst ((List.range n).map f)))) :
  ∃W:Nat->Nat->List V->Hp->Prop,(∃m,W 0 m [] H)/\∀i m acc H,W i m acc H->
   ((Itr lo n).stop i H/\∀p,H p=none->Q (.ref p) (upd H p (.lst acc)))\/
   ((Itr lo n).go i H/\acc.length < sizeLine/\∀x H',(Itr lo n).yld i H x H'->eP j x (cT cm σ) H' fun σ2 H2=>Wk (cT cm σ) σ2/\yk σ2 H2 fun b H3=>if b=true then te σ2 H3 fun v H4=>∃m',m' < m/\W (i+1) m' (acc++[v]) H4 else ∃m',m' < m/\W (i+1) m' acc H3):=by
 refine ⟨fun i m acc H'=>m=n - i/\i<=n/\H'=H/\acc=(List.range i).map f,⟨n,by simp,Nat.zero_le _,rfl,rfl⟩,?_⟩
 rintro i m acc H' ⟨rfl,hi,rfl,rfl⟩
 by_cases hlt:i < n
 ·refine .inr ⟨hlt,by rw [WB,List.length_range];omega,fun x H' y=>?_⟩
  obtain ⟨e,y⟩:=y
  subst e y
  refine ⟨⟨by simp,fun k v e=>?_⟩,?_⟩
  ·by_cases hk:j=k
   ·subst hk;rw [hj] at e;cases e
   ·rw [List.getElem?_set_ne hk];exact e
  ·unfold yk;dsimp only
   split
   ·refine hs i hlt _ ⟨n - (i+1),by omega,rfl,hlt,rfl,?_⟩
    rw [List.range_succ,List.map_append];rfl
   ·rename_i z;exact absurd rfl z
 ·have e:i=n:=by omega
  subst e
  exact .inl ⟨Nat.le_refl _,hd⟩
theorem Az {K:WA}{a:Addr}{xs:List V}{tc:TT}{te:TE}{cm:List (Option Nat)}{σ:St}{H:Hp}{Q:VK}(p:V->Bool)(f:V->V)(hl:SqL K H a xs)(hn:xs.length<=sizeLine){j:Nat}(hj:(cT cm σ)[j]?=some none)
  (hc:∀x,x∈xs->∀N:Bool->Hp->Prop,N (p x) H->tc ((cT cm σ).set j (some x)) H N)
  (hs:∀x,x∈xs->p x=true->∀N:VK,N (f x) H->te ((cT cm σ).set j (some x)) H N)
  (hd:∀b,H b=none->Q (.ref b) (upd H b (.lst ((xs.filter p).map f)))) :
  ∃W:Nat->Nat->List V->Hp->Prop,(∃m,W 0 m [] H)/\∀i m acc H,W i m acc H->
   ((Itl K a).stop i H/\∀p,H p=none->Q (.ref p) (upd H p (.lst acc)))\/
   ((Itl K a).go i H/\acc.length < sizeLine/\∀x H',(Itl K a).yld i H x H'->eP j x (cT cm σ) H' fun σ2 H2=>Wk (cT cm σ) σ2/\tc σ2 H2 fun b H3=>if b=true then te σ2 H3 fun v H4=>∃m',m' < m/\W (i+1) m' (acc++[v]) H4 else ∃m',m' < m/\W (i+1) m' acc H3):=by
 refine ⟨fun i m acc H'=>m=xs.length - i/\i<=xs.length/\H'=H/\acc=((xs.take i).filter p).map f,⟨xs.length,by simp,Nat.zero_le _,rfl,by simp⟩,?_⟩
 rintro i m acc H' ⟨rfl,hi,rfl,rfl⟩
 by_cases hlt:i < xs.length
 ·have hx:xs[i]?=some xs[i]:=by simp [hlt]
  have hle:(((xs.take i).filter p).map f).length < sizeLine:=by
   rw [WB]
   have:=List.length_filter_le p (xs.take i)
   rw [List.length_take] at this
   omega
  refine .inr ⟨⟨xs,xs[i],hl,hx⟩,hle,fun x H' y=>?_⟩
  obtain ⟨e,y⟩:=y
  subst e
  have hy:=y xs hl
  rw [hx] at hy;cases hy
  have hmem:xs[i]∈xs:=List.getElem_mem hlt
  refine ⟨⟨by simp,fun k v e=>?_⟩,hc _ hmem _ ?_⟩
  ·by_cases hk:j=k
   ·subst hk;rw [hj] at e;cases e
   ·rw [List.getElem?_set_ne hk];exact e
  ·have hstep:((xs.take (i+1)).filter p).map f=((xs.take i).filter p).map f++(if p xs[i] then [f xs[i]] else []):=by
    rw [take_succ_filter p xs i _ hx,List.map_append]
    cases p xs[i]<;>rfl
   cases hp:p xs[i] with
   | true=>
    refine Pq (hs _ hmem hp _ ⟨xs.length - (i+1),by omega,rfl,hlt,rfl,?_⟩)
    rw [hstep,hp];rfl
   | false=>
    refine Pp ⟨xs.length - (i+1),by omega,rfl,hlt,rfl,?_⟩
    rw [hstep,hp];simp
 ·have e:i=xs.length:=by omega
  subst e
  refine .inl ⟨⟨xs,hl,Nat.le_refl _⟩,?_⟩
  rw [List.take_length]
  exact hd
theorem uU {lo:Int}{n:Nat}{tc:TT}{te:TE}{cm:List (Option Nat)}{σ:St}{H:Hp}{Q:VK}(p:Nat->Bool)(f:Nat->V)(hn:n<=sizeLine){j:Nat}(hj:(cT cm σ)[j]?=some none)
  (hc:∀i,i < n->∀N:Bool->Hp->Prop,N (p i) H->tc ((cT cm σ).set j (some (.int (lo+i)))) H N)
  (hs:∀i,i < n->p i=true->∀N:VK,N (f i) H->te ((cT cm σ).set j (some (.int (lo+i)))) H N)
  (hd:∀b,H b=none->Q (.ref b) (upd H b (.lst (((List.range n).filter p).map f)))) :
  ∃W:Nat->Nat->List V->Hp->Prop,(∃m,W 0 m [] H)/\∀i m acc H,W i m acc H->
   ((Itr lo n).stop i H/\∀p,H p=none->Q (.ref p) (upd H p (.lst acc)))\/
   ((Itr lo n).go i H/\acc.length < sizeLine/\∀x H',(Itr lo n).yld i H x H'->eP j x (cT cm σ) H' fun σ2 H2=>Wk (cT cm σ) σ2/\tc σ2 H2 fun b H3=>if b=true then te σ2 H3 fun v H4=>∃m',m' < m/\W (i+1) m' (acc++[v]) H4 else ∃m',m' < m/\W (i+1) m' acc H3):=by
 refine ⟨fun i m acc H'=>m=n - i/\i<=n/\H'=H/\acc=((List.range i).filter p).map f,⟨n,by simp,Nat.zero_le _,rfl,by simp⟩,?_⟩
 rintro i m acc H' ⟨rfl,hi,rfl,rfl⟩
 by_cases hlt:i < n
 ·have hle:(((List.range i).filter p).map f).length < sizeLine:=by
   rw [WB]
   have:=List.length_filter_le p (List.range i)
   rw [List.length_range] at this
   omega
  refine .inr ⟨hlt,hle,fun x H' y=>?_⟩
  obtain ⟨e,y⟩:=y
  subst e y
  refine ⟨⟨by simp,fun k v e=>?_⟩,hc _ hlt _ ?_⟩
  ·by_cases hk:j=k
   ·subst hk;rw [hj] at e;cases e
   ·rw [List.getElem?_set_ne hk];exact e
  ·have hstep:((List.range (i+1)).filter p).map f=((List.range i).filter p).map f++(if p i then [f i] else []):=by
    rw [List.range_succ,List.filter_append,List.map_append]
    cases hp:p i<;>simp [hp]
   cases hp:p i with
   | true=>
    refine Pq (hs _ hlt hp _ ⟨n - (i+1),by omega,rfl,hlt,rfl,?_⟩)
    rw [hstep,hp];rfl
   | false=>
    refine Pp ⟨n - (i+1),by omega,rfl,hlt,rfl,?_⟩
    rw [hstep,hp];simp
 ·have e:i=n:=by omega
  subst e
  exact .inl ⟨Nat.le_refl _,hd⟩
section
variable {X:Cx}
def Nf (i j:Int):Prop:=0 < j/\j < 2 ^ 200
theorem JM:OpR X (binaryOp .FloorDiv) (rI Nf fun i j=>.int (i / j)):=opI fun i j _ _ _ _ _ hc q=>by
 have hj:j.natAbs.log2 < 9000:=by
  have h1:j.natAbs < 2 ^ 200:=by have:=hc.2;have:=hc.1;omega
  have h0:j.natAbs≠0:=by have:=hc.1;omega
  exact Nat.lt_of_lt_of_le ((Nat.log2_lt h0).mpr h1) (by decide)
 have e:i.fdiv j=i / j:=Int.fdiv_eq_ediv_of_nonneg _ (Int.le_of_lt hc.1)
 exact floordiv_int (by have:=hc.1;omega) (by rw [e];exact q) (.inl (PyProof.noPylong_of_log2 hj))
end
theorem bx:bootBuiltins "len"=some (.builtin "len"):=by decide +kernel
theorem aZ:bootBuiltins "isinstance"=some (.builtin "isinstance"):=by decide +kernel
theorem FH:bootBuiltins "min"=some (.builtin "min"):=by decide +kernel
theorem JN:bootBuiltins "abs"=some (.builtin "abs"):=by decide +kernel
theorem Iu:bootBuiltins "sorted"=some (.builtin "sorted"):=by decide +kernel
theorem fR:bootBuiltins "int"=some (.type "int"):=by decide +kernel
theorem G8:bootBuiltins "bool"=some (.type "bool"):=by decide +kernel
theorem JO:bootBuiltins "str"=some (.type "str"):=by decide +kernel
theorem dH:bootBuiltins "list"=some (.type "list"):=by decide +kernel
theorem oR:bootBuiltins "tuple"=some (.type "tuple"):=by decide +kernel
theorem Oa:bootBuiltins "zip"=some (.type "zip"):=by decide +kernel
theorem mi:bootBuiltins "enumerate"=some (.type "enumerate"):=by decide +kernel
noncomputable def FI (X:Cx)(scope:Scope):Bool:=scope.names.all fun y=>y.2 != .free || (X.env.kindOf y.1 == some .cell || X.env.kindOf y.1 == some .free)
noncomputable def Ob (X:Cx)(scope:Scope)(Nc:List Str)(cm:List (Option Nat)):Bool:=(Nc.zip cm).all fun p=>match p.2 with
 | none=>true
 | some i=>X.N[i]? == some p.1 && (scope.names.lookup p.1 == some .free && (X.env.kindOf p.1 == some .cell || X.env.kindOf p.1 == some .free))
theorem oq {X:Cx}{tg iter elt:Expr}{ifs:List Expr}{scope:Scope}{pos:Pos}(Nc:List Str)(cm:List (Option Nat)){wi:TI}{g:TG}{tc:TT}{te:TE}
  (hi:PI X tg iter wi) (hg:∀C s₀ H₀ ex,PG (blk X Nc scope C s₀ H₀ ex) tg g) (ht:∀C s₀ H₀ ex,PIf (blk X Nc scope C s₀ H₀ ex) ifs tc) (he:∀C s₀ H₀ ex,PE (blk X Nc scope C s₀ H₀ ex) elt te)
  (hc:X.calm=true:=by rfl) (hkind:scope.kind=.function:=by rfl) (hcell:∀y∈scope.names,y.2≠.cell:=by decide +kernel) (hnames:∀y∈scope.names,y.2=.local->scope.names.lookup y.1=some .local:=by decide +kernel)
  (hfree:FI X scope=true:=by rfl) (hlen:cm.length=Nc.length:=by rfl) (hcm:Ob X scope Nc cm=true:=by rfl)
  (hs:∀x,foldedSetIterable iter X.env x=pure x:=by intro _;rfl):PE X (.ListComp elt [⟨tg,iter,ifs,0⟩] scope pos) (yV wi g tc te cm):=by
 refine LF hc hi hkind hcell hnames (fun y hy e=>?_) hlen (fun j x i e1 e2=>?_) hg ht he hs
 ·have h:=List.all_eq_true.mp hfree y hy
  rw [e] at h
  simpa using h
 ·have hj:(Nc.zip cm)[j]?=some (x,some i):=by
   rw [List.getElem?_zip_eq_some];exact ⟨e1,e2⟩
  have h:=List.all_eq_true.mp hcm _ (List.mem_of_getElem? hj)
  simpa using h
theorem Oc {CX:CXT}{P:Program}{w:World}{K:WA}{mg:Str->Option Value}{base:Heap}{N:List Str}{qual:Str}{scope:Scope}{f:Addr}{cd:Value}{A:Around}{outer:List Env}{s:Shared}{H:Hp}{E:XK} :
  (yS CX P w K mg base N qual scope f cd A outer s H E).K=K:=rfl
theorem cU {ns:List Int}{k:Int}(h0:0<=k)(h1:k < ns.length):atI (ns.map V.int) k=some (.int (ns.getD k.toNat 0)):=by
 have hl:k.toNat < ns.length:=by omega
 have q:(ns.map V.int)[k.toNat]?=some (.int (ns.getD k.toNat 0)):=by
  rw [List.getElem?_map,List.getD_eq_getElem?_getD,List.getElem?_eq_getElem hl]
  rfl
 have q2:=G4 q
 rw [show ((k.toNat:Nat):Int)=k by omega] at q2
 exact q2
theorem gL {ns:List Int}{k:Nat}(h1:k < ns.length):atI (ns.map V.int) (k:Int)=some (.int (ns.getD k 0)):=by
 have:=cU (ns:=ns) (k:=(k:Int)) (by omega) (by omega)
 simpa using this
theorem JP {ns:List Int}{k:Nat}(h:ns.length<=k):ns.getD k 0=0:=by
 rw [List.getD_eq_getElem?_getD,List.getElem?_eq_none_iff.mpr h];rfl
structure cD (ds:List Int):Prop where
 l2:2<=ds.length
 l6:ds.length<=6
 lo:∀d∈ds,0<=d
 hi:∀d∈ds,d<=500
 up:ds.Pairwise (· < ·)
theorem cD.get {ds:List Int}(h:cD ds){i:Nat}(hi:i < ds.length):0<=ds.getD i 0/\ds.getD i 0<=500:=by
 rw [List.getD_eq_getElem?_getD,List.getElem?_eq_getElem hi,Option.getD_some]
 exact ⟨h.lo _ (List.getElem_mem hi),h.hi _ (List.getElem_mem hi)⟩
theorem cD.lt {ds:List Int}(h:cD ds){i j:Nat}(hij:i < j)(hj:j < ds.length):ds.getD i 0 < ds.getD j 0:=by
 have hi:i < ds.length:=Nat.lt_trans hij hj
 rw [List.getD_eq_getElem?_getD,List.getElem?_eq_getElem hi,List.getD_eq_getElem?_getD,List.getElem?_eq_getElem hj,Option.getD_some,Option.getD_some]
 exact List.pairwise_iff_getElem.mp h.up i j hi hj hij
noncomputable def cG (ds:List Int):Int:=ds.getD (ds.length - 1) 0
theorem cD.le_whole {ds:List Int}(h:cD ds){d:Int}(hd:d∈ds):d<=cG ds:=by
 obtain ⟨i,hi,rfl⟩:=List.getElem_of_mem hd
 have e:ds[i]=ds.getD i 0:=by rw [List.getD_eq_getElem?_getD,List.getElem?_eq_getElem hi];rfl
 rw [e]
 unfold cG
 by_cases hl:i=ds.length - 1
 ·rw [hl];exact Int.le_refl _
 ·exact Int.le_of_lt (h.lt (by omega) (by have:=h.l2;omega))
theorem cD.whole_mem {ds:List Int}(h:cD ds):cG ds∈ds:=by
 have hl:=h.l2
 unfold cG
 rw [List.getD_eq_getElem?_getD,List.getElem?_eq_getElem (by omega:ds.length - 1 < ds.length),Option.getD_some]
 exact List.getElem_mem _
theorem cD.even {n:Nat}{g:Int}(h2:2<=n)(h6:n<=6)(g1:1<=g)(g2:g<=100):cD ((List.range n).map fun (i:Nat)=>g * (i:Int)):=by
 refine ⟨by simpa using h2,by simpa using h6,fun d hd=>?_,fun d hd=>?_,?_⟩
 ·obtain ⟨i,hi,rfl⟩:=List.mem_map.mp hd
  exact Int.mul_nonneg (by omega) (by omega)
 ·obtain ⟨i,hi,rfl⟩:=List.mem_map.mp hd
  have hi':=List.mem_range.mp hi
  have a:g * (i:Int)<=g * 5:=Int.mul_le_mul_of_nonneg_left (by omega) (by omega)
  omega
 ·rw [List.pairwise_map]
  refine List.Pairwise.imp_of_mem (fun {a b} ha hb hab=>?_) List.pairwise_lt_range
  exact Int.mul_lt_mul_of_pos_left (by omega) (by omega)
structure mj (ds:List Int)(l:Int):Prop where
 lo:∀d∈ds,0<=d
 hi:∀d∈ds,d<=l
 up:ds.Pairwise (· < ·)
 l0:-1<=l
theorem mj.nil:mj [] (-1):=⟨by simp,by simp,List.Pairwise.nil,by omega⟩
theorem mj.snoc {ds:List Int}{l r:Int}(h:mj ds l)(h0:0<=r):mj (ds++[l+1+r]) (l+1+r):=by
 have l0:=h.l0
 refine ⟨fun d hd=>?_,fun d hd=>?_,?_,by omega⟩
 ·rcases List.mem_append.mp hd with z | z
  ·exact h.lo d z
  ·have:d=l+1+r:=by simpa using z
   omega
 ·rcases List.mem_append.mp hd with z | z
  ·have:=h.hi d z;omega
  ·have:d=l+1+r:=by simpa using z
   omega
 ·rw [List.pairwise_append]
  refine ⟨h.up,by simp,fun a ha b hb=>?_⟩
  have hb':b=l+1+r:=by simpa using hb
  have:=h.hi a ha;omega
theorem mj.shaft {ds:List Int}{l:Int}(h:mj ds l)(hl:l<=500)(h2:2<=ds.length)(h6:ds.length<=6):cD ds:=
 ⟨h2,h6,h.lo,fun d hd=>Int.le_trans (h.hi d hd) hl,h.up⟩
theorem cD.ends {ds:List Int}(h:cD ds):cD ([0]++(ds.drop 1).take (ds.length - 1 - 1)++[500]):=by
 have l2:=h.l2
 have l6:=h.l6
 have hlen:((ds.drop 1).take (ds.length - 1 - 1)).length=ds.length - 2:=by
  rw [List.length_take,List.length_drop];omega
 have hmem:∀d,d∈(ds.drop 1).take (ds.length - 1 - 1)->0 < d/\d < 500:=fun d hd=>by
  obtain ⟨i,hi,rfl⟩:=List.getElem_of_mem hd
  rw [hlen] at hi
  have e:((ds.drop 1).take (ds.length - 1 - 1))[i]'(by rw [hlen];exact hi)=ds.getD (1+i) 0:=by
   rw [List.getElem_take,List.getElem_drop,List.getD_eq_getElem?_getD,List.getElem?_eq_getElem (by omega)]
   rfl
  rw [e]
  have a:=h.lt (i:=0) (j:=1+i) (by omega) (by omega)
  have b:=h.lt (i:=1+i) (j:=ds.length - 1) (by omega) (by omega)
  have c:=(h.get (i:=0) (by omega)).1
  have d:=(h.get (i:=ds.length - 1) (by omega)).2
  omega
 refine ⟨by simp [hlen]<;>omega,by simp [hlen]<;>omega,fun d hd=>?_,fun d hd=>?_,?_⟩
 ·rcases List.mem_append.mp hd with z | z
  ·rcases List.mem_append.mp z with z | z
   ·have:d=0:=by simpa using z
    omega
   ·have:=hmem d z;omega
  ·have:d=500:=by simpa using z
   omega
 ·rcases List.mem_append.mp hd with z | z
  ·rcases List.mem_append.mp z with z | z
   ·have:d=0:=by simpa using z
    omega
   ·have:=hmem d z;omega
  ·have:d=500:=by simpa using z
   omega
 ·rw [List.pairwise_append,List.pairwise_append]
  refine ⟨⟨by simp,(h.up.drop).take,fun a ha b hb=>?_⟩,by simp,fun a ha b hb=>?_⟩
  ·have ha':a=0:=by simpa using ha
   have:=hmem b hb;omega
  ·have hb':b=500:=by simpa using hb
   rcases List.mem_append.mp ha with z | z
   ·have:a=0:=by simpa using z
    omega
   ·have:=hmem a z;omega
def G9 (J:It)(g:TG)(tb:TS)(D:oz)(σ:St)(H1:Hp):Prop:=∃W:Nat->Nat->St->Hp->Prop,(∃m,W 0 m σ H1)/\∀i m σ H,W i m σ H->
 (J.stop i H/\D.nx σ H)\/(J.go i H/\∃N:St->Hp->Prop,(∀σ' H',N σ' H'->∃m',m' < m/\W (i+1) m' σ' H')/\∀x H',J.yld i H x H'->g x σ H' fun σ2 H2=>tb {D with nx:=N,ct:=N,bk:=D.nx} σ2 H2)
theorem LG (wi:TI)(g:TG)(tb:TS)(D:oz)(σ:St)(H:Hp):O9 wi g tb D σ H=wi σ H fun J H1=>G9 J g tb D σ H1:=rfl
def uV (J:It)(g:TG)(tc:TT)(te:TE)(cm:List (Option Nat))(σ:St)(Q:VK)(H1:Hp):Prop:=∃W:Nat->Nat->List V->Hp->Prop,(∃m,W 0 m [] H1)/\∀i m acc H,W i m acc H->
 (J.stop i H/\∀p,H p=none->Q (.ref p) (upd H p (.lst acc)))\/
 (J.go i H/\acc.length < sizeLine/\∀x H',J.yld i H x H'->g x (cT cm σ) H' fun σ2 H2=>Wk (cT cm σ) σ2/\tc σ2 H2 fun b H3=>if b=true then te σ2 H3 fun v H4=>∃m',m' < m/\W (i+1) m' (acc++[v]) H4 else ∃m',m' < m/\W (i+1) m' acc H3)
theorem JQ (wi:TI)(g:TG)(tc:TT)(te:TE)(cm:List (Option Nat))(σ:St)(H:Hp)(Q:VK):yV wi g tc te cm σ H Q=wi σ H fun J H1=>uV J g tc te cm σ Q H1:=rfl
theorem cI {lo:Int}{n:Nat}{g:TG}{tb:TS}{D:oz}{σ:St}{H:Hp}(Pv:Nat->St->Hp->Prop)(h0:Pv 0 σ H)
  (hs:∀i σ H,i < n->Pv i σ H->g (.int (lo+i)) σ H fun σ2 H2=>tb {D with nx:=Pv (i+1),ct:=Pv (i+1),bk:=D.nx} σ2 H2) (hd:∀σ H,Pv n σ H->D.nx σ H):G9 (Itr lo n) g tb D σ H:=Ig Pv h0 hs hd
theorem qX {K:WA}{a:Addr}(xs:List V){g:TG}{tb:TS}{D:oz}{σ:St}{H:Hp}(Pv:Nat->St->Hp->Prop)(h0:Pv 0 σ H)(hl:∀i σ H,i<=xs.length->Pv i σ H->SqL K H a xs)
  (hs:∀i x σ H,xs[i]?=some x->Pv i σ H->g x σ H fun σ2 H2=>tb {D with nx:=Pv (i+1),ct:=Pv (i+1),bk:=D.nx} σ2 H2) (hd:∀σ H,Pv xs.length σ H->D.nx σ H):G9 (Itl K a) g tb D σ H:=Js Pv h0 hl hs hd
theorem Cc {lo:Int}{n:Nat}{te:TE}{cm:List (Option Nat)}{σ:St}{H:Hp}{Q:VK}(f:Nat->V)(hn:n<=sizeLine){j:Nat}(hj:(cT cm σ)[j]?=some none)
  (hs:∀i,i < n->∀N:VK,N (f i) H->te ((cT cm σ).set j (some (.int (lo+i)))) H N)
  (hd:∀p,H p=none->Q (.ref p) (upd H p (.lst ((List.range n).map f)))):uV (Itr lo n) (eP j) yk te cm σ Q H:=yW f hn hj hs hd
theorem eB {lo:Int}{n:Nat}{tc:TT}{te:TE}{cm:List (Option Nat)}{σ:St}{H:Hp}{Q:VK}(p:Nat->Bool)(f:Nat->V)(hn:n<=sizeLine){j:Nat}(hj:(cT cm σ)[j]?=some none)
  (hc:∀i,i < n->∀N:Bool->Hp->Prop,N (p i) H->tc ((cT cm σ).set j (some (.int (lo+i)))) H N)
  (hs:∀i,i < n->p i=true->∀N:VK,N (f i) H->te ((cT cm σ).set j (some (.int (lo+i)))) H N)
  (hd:∀b,H b=none->Q (.ref b) (upd H b (.lst (((List.range n).filter p).map f)))):uV (Itr lo n) (eP j) tc te cm σ Q H:=uU p f hn hj hc hs hd
theorem xG {K:WA}{a:Addr}{xs:List V}{tc:TT}{te:TE}{cm:List (Option Nat)}{σ:St}{H:Hp}{Q:VK}(p:V->Bool)(f:V->V)(hl:SqL K H a xs)(hn:xs.length<=sizeLine){j:Nat}(hj:(cT cm σ)[j]?=some none)
  (hc:∀x,x∈xs->∀N:Bool->Hp->Prop,N (p x) H->tc ((cT cm σ).set j (some x)) H N)
  (hs:∀x,x∈xs->p x=true->∀N:VK,N (f x) H->te ((cT cm σ).set j (some x)) H N)
  (hd:∀b,H b=none->Q (.ref b) (upd H b (.lst ((xs.filter p).map f)))):uV (Itl K a) (eP j) tc te cm σ Q H:=Az p f hl hn hj hc hs hd
theorem upo {H:Hp}{a b:Addr}{o u:HO}(h:H b=some u)(hn:H a=none):upd H a o b=some u:=by rw [aL (av h hn)];exact h
theorem upn {H:Hp}{a b:Addr}{o:HO}(h:upd H a o b=none):H b=none:=by
 by_cases e:b=a
 ·subst e;rw [ah] at h;cases h
 ·rw [aL e] at h;exact h
theorem aw.lay {H H':Hp}{a:Addr}{o:HO}(s:aw H H')(hn:H' a=none):aw H (upd H' a o):=fun b u e=>upo (s b u e) hn
theorem aw.rewr {H H':Hp}{a:Addr}{o:HO}(s:aw H H')(hn:H a=none):aw H (upd H' a o):=fun b u e=>by rw [aL (av e hn)];exact s b u e
theorem LH {n d:Nat}(h:1<=n):HT.sIx n d (some 1)=1:=by
 have:=HT.Lz n d 1
 rw [show ((1:Nat):Int)=1 from rfl] at this
 omega
theorem Od {n d:Nat}(h:1<=n):HT.sIx n d (some (-1))=n - 1:=by
 have:=HT.B6 (-1) n d
 rw [if_pos (by decide)] at this
 omega
theorem JR (ds:List Int)(h:2<=ds.length):uR (ds.map V.int) (some 1) (some (-1))=((ds.drop 1).take (ds.length - 1 - 1)).map V.int:=by
 unfold uR
 rw [WB,LH (by omega),Od (by omega),List.map_take,List.map_drop]
theorem FJ {ds:List Int}(h:0 < ds.length):atI (ds.map V.int) (-1)=some (.int (cG ds)):=by
 unfold atI ixN
 rw [if_neg (by decide),WB,if_pos (by omega),Option.bind_some,List.getElem?_map,show (-1+(ds.length:Int)).toNat=ds.length - 1 by omega,List.getElem?_eq_getElem (by omega)]
 unfold cG
 rw [List.getD_eq_getElem?_getD,List.getElem?_eq_getElem (by omega)]
 rfl
theorem Bp (ds:List Int):(ds.map V.int).all bW=true:=by
 rw [List.all_eq_true]
 intro x hx
 obtain ⟨d,_,rfl⟩:=List.mem_map.mp hx
 rfl
theorem Ce (a b:Int):eqV (.int a) (.int b)=decide (a=b):=by
 simp [eqV,Bool.beq_eq_decide_eq]
theorem iq (d:Int)(ds:List Int):inV (.int d) (ds.map V.int)=decide (d∈ds):=by
 unfold inV
 rw [List.any_map]
 by_cases h:d∈ds
 ·rw [decide_eq_true h,List.any_eq_true]
  exact ⟨d,h,by simp [Ce]⟩
 ·rw [decide_eq_false h,List.any_eq_false]
  intro x hx
  simp [Ce]
  rintro rfl
  exact h hx
theorem ml {xs:List Int}{i:Nat}{x:V}(h:(xs.map V.int)[i]?=some x):∃z,x=V.int z/\xs[i]?=some z/\z∈xs:=by
 rw [List.getElem?_map] at h
 cases e:xs[i]? with
 | none=>rw [e] at h;cases h
 | some z=>rw [e] at h;exact ⟨z,(Option.some.inj h).symm,rfl,List.mem_of_getElem? e⟩
theorem Hb (d x y:Int):inV (.int d) [.int x,.int y]=decide (d=x\/d=y):=by
 have:=iq d [x,y]
 simpa [eq_comm] using this
theorem FK {w s:Int}(hw:0<=w)(hs:0 < s):0<=(w+s - 1) / s/\w<=(w+s - 1) / s * s/\((w+s - 1) / s - 1) * s < w/\(w+s - 1) / s<=w:=by
 have e:=Int.emod_add_mul_ediv (w+s - 1) s
 have r0:=Int.emod_nonneg (w+s - 1) (by omega:s≠0)
 have r1:=Int.emod_lt_of_pos (w+s - 1) hs
 have e2:s * ((w+s - 1) / s)=(w+s - 1) / s * s:=Int.mul_comm _ _
 have e3:((w+s - 1) / s - 1) * s=(w+s - 1) / s * s - s:=by rw [Int.sub_mul,Int.one_mul]
 have q0:0<=(w+s - 1) / s:=Int.ediv_nonneg (by omega) (by omega)
 refine ⟨q0,by omega,by omega,?_⟩
 by_cases h:(w+s - 1) / s<=w
 ·exact h
 ·exfalso
  have h1:((w+s - 1) / s - 1) * 1<=((w+s - 1) / s - 1) * s:=Int.mul_le_mul_of_nonneg_left (by omega) (by omega)
  omega
end L2
namespace L2
theorem LI {x y i:Int}(h:i=0\/i=1):∃m,(m=x\/m=y)/\atI [V.int x,V.int y] i=some (.int m):=by
 rcases h with rfl | rfl
 ·exact ⟨x,.inl rfl,rfl⟩
 ·exact ⟨y,.inr rfl,rfl⟩
end L2
namespace L2
open PySem PySem.Spec PyProof.Rows
noncomputable def CXf (P:Program)(w:World):CXT:=fun outer H s E e s'=>
 ∃(x:Addr) (cls a0:Value) (H':Hp) (B:Heap),e=.ref x/\s'.os=s.os/\AllBare s'.gens/\Un (frs outer) [] H H' s.heap s'.heap/\HOk P w H' s'.heap/\Heap.FlyingW B outer x cls a0 s'.heap/\
  (∀b o,s'.heap.get? b=some o->(H' b≠none\/∃o0,s.heap.get? b=some o0)->b∉frs outer->B.get? b=some o)/\(∀o,s.heap.get? x≠some o)/\H' x=none/\E cls none H'
theorem fO.there {P:Program}{w:World}{H:Hp}{h:Heap}{a:Addr}{o:HO}(l:fO P w H h a o):∃ob,h.get? a=some ob:=by
 cases o with
 | lst xs=>obtain ⟨_,its,n,_,e⟩:=l;exact ⟨_,e⟩
 | tup xs=>obtain ⟨_,its,_,ob,e,_⟩:=l;exact ⟨_,e⟩
 | dK kvs=>obtain ⟨_,_,_,_,ob,_,_,e,_⟩:=l;exact ⟨_,e⟩
 | dT kvs=>obtain ⟨_,_,_,_,ob,_,_,e,_⟩:=l;exact ⟨_,e⟩
 | set S n=>obtain ⟨ob,_,_,_,e,_⟩:=l;exact ⟨_,e⟩
 | ins C dx fs=>obtain ⟨_,_,_,e,_⟩:=l;exact ⟨_,e⟩
 | own y=>exact l
 | xd fs=>obtain ⟨mA,⟨od,_,_,e,_⟩,_⟩:=l;exact ⟨_,e⟩
 | rng lo hi=>obtain ⟨_,_,_,e⟩:=l;exact ⟨_,e⟩
 | frz ob u=>obtain ⟨e,_⟩:=l;exact ⟨_,e⟩
 | tbl ps=>exact ⟨_,l⟩
 | met f y=>exact ⟨_,l⟩
 | ext φ=>obtain ⟨_,h,_⟩:=l;exact h
section
variable {P:Program}{w:World}{K:WA}{mg:Str->Option Value}{base:Heap}{N:List Str}{qual:Str}{scope:Scope}{f:Addr}{cd:Value}{A:Around}{outer:List Env}{s:Shared}{H:Hp}{E:XK}
noncomputable abbrev cxF (P:Program)(w:World)(K:WA)(mg:Str->Option Value)(base:Heap)(N:List Str)(qual:Str)(scope:Scope)(f:Addr)(cd:Value)(A:Around)(outer:List Env)(s:Shared)(H:Hp)(E:XK):Cx:=
 yS (CXf P w) P w K mg base N qual scope f cd A outer s H E
theorem Hc {pins:List (Addr×Obj)}{σ:St}{H1:Hp}{s1:Shared}{h2:Heap}{x:Addr}{cls a0:Value}{B:Heap}(I:Inv (cxF P w K mg base N qual scope f cd A outer s H E) pins σ H1 s1)
  (hB:∀b o,s1.heap.get? b=some o->(H1 b≠none\/∃o0,s.heap.get? b=some o0)->b∉frs (cxF P w K mg base N qual scope f cd A outer s H E).stack->B.get? b=some o)
  (hfl:Heap.FlyingW B outer x cls a0 h2) (hsl:∀b o,s1.heap.get? b=some o->(∀vs,o.data≠.fields vs)->∃sl,h2.get? b=some {o with slots:=sl}) (hx:∀o,s.heap.get? x≠some o) (hx1:H1 x=none) (q:E cls none H1) :
  CXf P w outer H s E (.ref x) {s1 with heap:=h2}:=by
 have neL:∀b o,s.heap.get? b=some o->b≠s.heap.objs.size:=fun b o e=>Nat.ne_of_lt (Heap.lt_size e)
 have stk:∀b,b∈frs (cxF P w K mg base N qual scope f cd A outer s H E).stack->b=s.heap.objs.size\/b∈frs outer:=fun b hb=>by
  rcases List.mem_cons.mp (I.stkSub b hb) with z | z
  ·exact .inl z
  ·exact .inr z
 have hfree:H1 s.heap.objs.size=none:=I.free
 have st:B.StaysIn h2:=hfl.1
 have frD:∀b∈frs outer,∃o,s.heap.get? b=some o/\∀vs,o.data≠.fields vs:=fun b hb=>(I.ok.funs.mem hb).2
 have u:=I.base
 have nf:∀b o,s.heap.get? b=some o->b∉frs outer->b∉frs (cxF P w K mg base N qual scope f cd A outer s H E).stack:=fun b o e hb z=>(stk b z).elim (neL b o e) hb
 have up:∀b∈frs outer,∀o,s.heap.get? b=some o->∃sl,h2.get? b=some {o with slots:=sl}:=fun b hb o e=>by
  obtain ⟨o',e',d⟩:=frD b hb
  rw [e] at e';cases e'
  obtain ⟨sl,q1⟩:=u.any (b:=b) e (I.ok.frf b hb) (by intro z;exact nomatch z)
  obtain ⟨sl',q2⟩:=hsl b _ q1 d
  exact ⟨sl',q2⟩
 refine ⟨x,cls,a0,H1,B,rfl,I.os,I.bare,⟨fun b o e n hb _=>?_,fun b o e n hb _=>up b hb o e,u.free,fun b o e _=>?_,u.tups,u.frzs,u.tbls⟩,fun b o e=>?_,hfl,fun b o e hh hb=>?_,hx,hx1,q⟩
 ·exact st b o (hB b o (u.keep b o e n hb (by intro z;exact nomatch z)) (.inr ⟨o,e⟩) (nf b o e hb))
 ·by_cases hb:b∈frs outer
  ·obtain ⟨sl,q⟩:=up b hb o e
   exact ⟨_,q⟩
  ·obtain ⟨o',e'⟩:=u.there b o e (by intro z;exact nomatch z)
   exact ⟨o',st b o' (hB b o' e' (.inr ⟨o,e⟩) (nf b o e hb))⟩
 ·have ne:b≠s.heap.objs.size:=fun z=>by rw [z,hfree] at e;cases e
  have inB:∀c v,H1 c≠none->s1.heap.get? c=some v->h2.get? c=some v:=fun c v hc q=>st c v (hB c v q (.inl hc) fun z=>by
   rcases stk c z with y | y
   ·rw [y] at hc;exact hc hfree
   ·obtain ⟨o',e',_⟩:=frD c y
    exact hc (u.free c o' e' (I.ok.frf c y) (by intro z;exact nomatch z)))
  refine (I.hok b o e).stay (fun c v hc q=>inB c v ?_ q) (fun _ q=>q) fun _ _ q=>q
  rcases hc with z | z
  ·rw [z,e];simp
  ·rw [z];simp
 ·
  have there1:∃o1,s1.heap.get? b=some o1:=by
   rcases hh with z | ⟨o0,z⟩
   ·cases q:H1 b with
    | none=>exact absurd q z
    | some v=>exact (I.hok b v q).there
   ·exact u.there b o0 z (by intro z;exact nomatch z)
  obtain ⟨o1,e1⟩:=there1
  have nfb:b∉frs (cxF P w K mg base N qual scope f cd A outer s H E).stack:=fun z=>by
   rcases stk b z with y | y
   ·rcases hh with t | ⟨o0,t⟩
    ·rw [y] at t;exact t hfree
    ·exact neL b o0 t y
   ·exact hb y
  have e2:=hB b o1 e1 hh nfb
  have e3:=st b o1 e2
  have e':h2.get? b=some o:=e
  rw [e3] at e';cases e'
  exact e2
theorem Iv {pins:List (Addr×Obj)}{σ:St}{H1:Hp}{s1:Shared}{h':Heap}{x:Addr}{cls:Value}{args:List Value}(I:Inv (cxF P w K mg base N qual scope f cd A outer s H E) pins σ H1 s1)
  (hx:Heap.MadeExcOf s1.heap h' x cls args) (q:E cls none H1):(cxF P w K mg base N qual scope f cd A outer s H E).xe (.ref x) {s1 with heap:=h'}:=by
 have hn:=hx.new
 have hin:∀env∈(cxF P w K mg base N qual scope f cd A outer s H E).stack,∀b,env.frame=some b->b∈frs (cxF P w K mg base N qual scope f cd A outer s H E).stack:=fun env he b hb=>List.mem_filterMap.mpr ⟨env,he,hb⟩
 have hx1:H1 x=none:=by
  cases q:H1 x with
  | none=>rfl
  | some v=>
   obtain ⟨ob,e⟩:=(I.hok x v q).there
   rw [hn] at e;cases e
 refine wpAny_leaves_madeW (base:=W.hideAll s1.heap (frs (cxF P w K mg base N qual scope f cd A outer s H E).stack)) (h:=s1.heap) (s:={s1 with heap:=h'}) I.ok.frames rfl (fun b o q=>W.of_hideAll _ q) (W.funFrames_hide I.stack hin) hx fun h2 t f1 f2 f3 f4=>?_
 refine Hc (s1:=s1) I (fun b o e _ hb=>W.hideAll_get _ e hb) f1 (fun b o e d=>f4 b o (hx.keeps b o e) d) (fun o e=>?_) hx1 q
 obtain ⟨o',e'⟩:=I.base.there x o e (by intro z;exact nomatch z)
 rw [hn] at e';cases e'
theorem cj:fQ (CXf P w) (cxF P w K mg base N qual scope f cd A outer s H E) E:=by
 rintro pins σ H1 s1 e s2 I ⟨x,cls,a0,H2,B,rfl,os,bare,un,hok,hfl,hB,hx,hx2,q⟩
 have I2:Inv (cxF P w K mg base N qual scope f cd A outer s H E) pins σ H2 s2:=I.call' os un hok bare fun b hb=>absurd hb (by simp)
 refine wpAny_leaves_onW (s:=s2) I.ok.frames rfl hfl fun h2 f1 f2=>?_
 refine Hc I2 (fun b o e hh hb=>hB b o e ?_ hb) f1 (fun b o e d=>f2 b o e d) (fun o e=>?_) hx2 q
 ·rcases hh with z | ⟨o0,z⟩
  ·exact .inl z
  ·obtain ⟨o1,e1⟩:=I.base.there b o0 z (by intro z;exact nomatch z)
   exact .inr ⟨o1,e1⟩
 ·obtain ⟨o1,e1⟩:=I.base.there x o e (by intro z;exact nomatch z)
  exact hx o1 e1
theorem FL:PassesOwn (model P w) (cxF P w K mg base N qual scope f cd A outer s H E).A (cxF P w K mg base N qual scope f cd A outer s H E).env (cxF P w K mg base N qual scope f cd A outer s H E).xe:=PassesOwn.leaving
structure ExC (K:WA)(C:Addr):Prop where
 ex:∃(nm q:Str) (N:Addr) (bs bm:List Value) (hdct:Bool) (sn:List Str) (sub:List Value) (ab:Bool) (col:Option Bool) (dd:Option Addr) (k0 k1 k2 k3 k5:Option Value) (mN:Str->Option Value),
  ∀h,K.In h->h.get? C=some (excClassObj nm q C N bs bm hdct sn sub ab col dd k0 k1 k2 k3 k5 "ValueError.__new__")/\h.Ns N mN/\(∀n∈quietNames,mN n=none)/\OwnTailQ h [.type "ValueError",.type "Exception",.type "BaseException",.type "object"] bm
noncomputable def qY (es:Array DictEntry):Bool:=es.toList.all fun e=>match e.key with | .str _ _=>true | _=>false
theorem Ng {K:WA}{h:Heap}{N:Addr}{c:Value}{d:Option Addr}{es:Array DictEntry}{ep:Nat}{sl:Array (Option Value)}(X:K.In h)(l:K.lookup N=some ⟨c,d,.dict es ep,sl⟩)(k:qY es=true):h.Ns N (nsFind es):=by
 refine ⟨_,es,ep,X _ _ l,rfl,fun e he=>?_,fun _=>rfl⟩
 have z:=List.all_eq_true.mp k e (by simpa using he)
 split at z
 ·rename_i n t q;exact ⟨n,t,q⟩
 ·cases z
theorem Of {K:WA}{C N C0 N0:Addr}{nm q:Str}{bs:List Value}{hdct:Bool}{sn:List Str}{sub:List Value}{ab:Bool}{col:Option Bool}{dd:Option Addr}{k0 k1 k2 k3 k5:Option Value}
  {c1 c2 c0:Value} {d1 d2 dd0:Option Addr} {es es0:Array DictEntry} {ep ep0:Nat} {sl1 sl2 sl0:Array (Option Value)} {cd0:ClassData}
  (lC:K.lookup C=some (excClassObj nm q C N bs [.ref C0,.type "ValueError",.type "Exception",.type "BaseException",.type "object"] hdct sn sub ab col dd k0 k1 k2 k3 k5 "ValueError.__new__"))
  (lN:K.lookup N=some ⟨c1,d1,.dict es ep,sl1⟩) (kN:qY es=true) (iN:(quietNames.all fun n=>(nsFind es n).isNone)=true)
  (l0:K.lookup C0=some ⟨c0,dd0,.cls cd0,sl0⟩) (e0:cd0.ns=N0) (lN0:K.lookup N0=some ⟨c2,d2,.dict es0 ep0,sl2⟩) (kN0:qY es0=true) (iN0:(quietNames.all fun n=>(nsFind es0 n).isNone)=true):ExC K C:=
 ⟨nm,q,N,bs,_,hdct,sn,sub,ab,col,dd,k0,k1,k2,k3,k5,nsFind es,fun h X=>⟨X _ _ lC,Ng X lN kN,fun n hn=>Option.isNone_iff_eq_none.mp (List.all_eq_true.mp iN n hn),.own (X _ _ l0) (e0▸Ng X lN0 kN0) (fun n hn=>Option.isNone_iff_eq_none.mp (List.all_eq_true.mp iN0 n hn)) .base⟩⟩
noncomputable def JS (E:XK)(C:Addr)(t:TA):TS:=fun _ σ H=>t σ H fun vs H1=>vs.length<=sizeLine/\E (.ref C) none H1
theorem bE {x:Str}{C:Addr}{e:Expr}{es:List Expr}{t:TA}{np cpos pos:Pos}(O:ExC K C)(hg:Gl (cxF P w K mg base N qual scope f cd A outer s H E) x)(hm:mg x=some (.ref C))
  (ha:PA (cxF P w K mg base N qual scope f cd A outer s H E) (e::es) t) (hdb:(x == ("__debug__":Str))=false:=by decide)
  (he:starEach (e::es) (cxF P w K mg base N qual scope f cd A outer s H E).env=(false,eval e (cxF P w K mg base N qual scope f cd A outer s H E).env)::starEach es (cxF P w K mg base N qual scope f cd A outer s H E).env:=by rfl)
  (hpl:(backTo cpos (starEach es (cxF P w K mg base N qual scope f cd A outer s H E).env)).any (·.1)=false:=by rfl) :
  PS (cxF P w K mg base N qual scope f cd A outer s H E) (.Raise (some (.Call (.Name x np) (e::es) [] cpos)) none pos) (JS E C t):=by
 intro pins s1 σ H1 D I h
 obtain ⟨nm,q,N,bs,bm,hdct,sn,sub,ab,col,dd,k0,k1,k2,k3,k5,mN,O⟩:=O.ex
 obtain ⟨_,_,hni,T0⟩:=O _ I.kIn
 refine wpAny_Raise_call_subU (C:=C) (nm:=nm) (q:=q) (N:=N) (bs:=bs) (bm:=bm) (hdct:=hdct) (sn:=sn) (sub:=sub) (ab:=ab) (col:=col) (dd:=dd) (k0:=k0) (k1:=k1) (k2:=k2) (k3:=k3) (k5:=k5)
  PySem.F.excBase_ValueError (by decide +kernel) PySem.F.excBase_ValueError (mN:=mN) (T0.tail.hasType PySem.F.excBase_ValueError.hasBase) (I.ok.hd rfl) (by rw [he];show (false || (backTo cpos (starEach es _)).any (·.1))=false;rw [hpl];rfl) (hni _ (.head _)) (qW I hg hm ⟨rfl,?_⟩ hdb)
 have ha':=ha cpos pins s1 σ H1 _ I h
 rw [he] at ha' ⊢
 refine Calls.evalArgs_plain (wpAny_mono ha' (fun us s2 h2=>?_) fun _ _ y=>y)
 obtain ⟨vs,H2,I2,rv,hlen,qE⟩:=h2
 obtain ⟨a1,a2,_,a4⟩:=O _ I2.kIn
 exact ⟨rfl,by rw [←rv.length];exact hlen,a1,a2,a4.tail,fun h' e hx=>Iv I2 hx qE⟩
theorem Fun.okF {x qual:Str}{st:Stmt}{f:Addr}{fd:FuncData}{N ps:List Str}{k:Nat}{sp:Sp}(F:Fun K x qual st f fd)(S:aB N ps (ak st))(len:∀vs H Q E,sp vs H Q E->vs.length=ps.length)
  (hbody:∀(cdv:Value) (A:Around) (outer:List Env) (s:Shared) (H:Hp) (vs:List V) (Q:VK) (E:XK),eo k (A.deeper (envOfC qual (ak st) s.heap.objs.size f cdv))->sp vs H Q E->
   ∃t,PSs (cxF P w K mg base N qual (ak st) f cdv A outer s H E) (cH st) t/\t {nx:=fun _ H'=>Q .non H',rt:=Q} (oo N vs) H):gv P w K mg base (CXf P w) (k+1) f fd ps sp:=by
 obtain ⟨oc,od,kV,doc,pm,an,cdv,ct,osl,rfl,lk,hcd⟩:=F.ex
 refine M9 lk hcd S len fun A outer s H vs Q E hr hsp=>?_
 exact hbody cdv A outer s H vs Q E hr hsp
end
noncomputable abbrev XT:=Value->St->Hp->Prop
noncomputable def Xt (X:Cx)(pins:List (Addr×Obj))(E':XT):Cx:=
 {X with pn:=X.pn++pins,xe:=fun e s'=>∃σ H s,Inv X pins σ H s/\CXf X.prog X.w X.stack H s (fun cls _ H'=>E' cls σ H') e s'}
noncomputable def Xh (X:Cx)(e:Value):Cx:={X with A:=X.A.mark (some e),calm:=false,xe:=fun _ _=>False}
section
variable {X:Cx}{pins pins':List (Addr×Obj)}{σ:St}{H:Hp}{s:Shared}{E':XT}{e:Value}
theorem Cx.Ok.toT (ok:X.Ok):(Xt X pins E').Ok:=⟨ok.mod,ok.kind,ok.glob,ok.blt,ok.above,ok.inj,ok.has,ok.cab,ok.hd,ok.frames,ok.stk,ok.exf,ok.bs,ok.bsz,ok.noex,ok.exfs,ok.funs,ok.frf⟩
theorem Cx.Ok.ofT (ok:(Xt X pins E').Ok):X.Ok:=⟨ok.mod,ok.kind,ok.glob,ok.blt,ok.above,ok.inj,ok.has,ok.cab,ok.hd,ok.frames,ok.stk,ok.exf,ok.bs,ok.bsz,ok.noex,ok.exfs,ok.funs,ok.frf⟩
theorem Inv.toT (I:Inv X pins σ H s):Inv (Xt X pins E') [] σ H s:=⟨I.ok.toT,I.os,I.bare,I.base,I.loc,I.cell,I.free,I.freeC,fun p hp=>I.pin p (by simpa [Xt] using hp),I.hok,I.len⟩
theorem Inv.ofT (I:Inv (Xt X pins E') pins' σ H s):Inv X pins σ H s:=⟨I.ok.ofT,I.os,I.bare,I.base,I.loc,I.cell,I.free,I.freeC,fun p hp=>I.pin p (List.mem_append_left _ hp),I.hok,I.len⟩
theorem Inv.toH (I:Inv X pins σ H s):Inv (Xh X e) pins σ H s:=
 ⟨⟨I.ok.mod,I.ok.kind,I.ok.glob,I.ok.blt,I.ok.above,I.ok.inj,I.ok.has,I.ok.cab,fun z=>(Bool.false_ne_true z).elim,I.ok.frames,I.ok.stk,I.ok.exf,I.ok.bs,I.ok.bsz,I.ok.noex,I.ok.exfs,I.ok.funs,I.ok.frf⟩,I.os,I.bare,I.base,I.loc,I.cell,I.free,I.freeC,I.pin,I.hok,I.len⟩
theorem Inv.ofH (ok:X.Ok)(I:Inv (Xh X e) pins σ H s):Inv X pins σ H s:=⟨ok,I.os,I.bare,I.base,I.loc,I.cell,I.free,I.freeC,I.pin,I.hok,I.len⟩
theorem Inv.flown {H1:Hp}{s1:Shared}{h2:Heap}{B:Heap}(I:Inv X pins σ H s)(os:s1.os=s.os)(bare:AllBare s1.gens)(un:Un (frs X.stack) [] H H1 s.heap s1.heap)(hok:HOk X.prog X.w H1 s1.heap)
  (hB:∀b o,s1.heap.get? b=some o->(H1 b≠none\/∃o0,s.heap.get? b=some o0)->b∉frs X.stack->B.get? b=some o) (st:B.StaysIn h2) (hsl:s1.heap.UpToSlots h2):Inv X pins σ H1 {s1 with heap:=h2}:=by
 have frD:∀b∈frs X.stack,∃o,s.heap.get? b=some o/\∀vs,o.data≠.fields vs:=fun b hb=>(I.stack.mem hb).2
 have up:∀b∈frs X.stack,∀o,s.heap.get? b=some o->∃sl,h2.get? b=some {o with slots:=sl}:=fun b hb o e=>by
  obtain ⟨o',e',d⟩:=frD b hb
  rw [e] at e';cases e'
  obtain ⟨sl,q1⟩:=un.any (b:=b) e (I.stkFree b hb) (by intro z;exact nomatch z)
  obtain ⟨sl',q2⟩:=hsl b _ q1 d
  exact ⟨sl',q2⟩
 refine I.call' (s':={s1 with heap:=h2}) (ch:=[]) os ⟨fun b o e n hb _=>?_,fun b o e n hb _=>up b hb o e,un.free,fun b o e _=>?_,un.tups,un.frzs,un.tbls⟩ (fun b o e=>?_) bare fun b hb=>absurd hb (by simp)
 ·exact st b o (hB b o (un.keep b o e n hb (by intro z;exact nomatch z)) (.inr ⟨o,e⟩) hb)
 ·by_cases hb:b∈frs X.stack
  ·obtain ⟨sl,q⟩:=up b hb o e
   exact ⟨_,q⟩
  ·obtain ⟨o',e'⟩:=un.there b o e (by intro z;exact nomatch z)
   exact ⟨o',st b o' (hB b o' e' (.inr ⟨o,e⟩) hb)⟩
 ·have inB:∀c v,H1 c≠none->s1.heap.get? c=some v->h2.get? c=some v:=fun c v hc q=>st c v (hB c v q (.inl hc) fun z=>by
   obtain ⟨o',e',_⟩:=frD c z
   exact hc (un.free c o' e' (I.stkFree c z) (by intro z;exact nomatch z)))
  refine (hok b o e).stay (fun c v hc q=>inB c v ?_ q) (fun _ q=>q) fun _ _ q=>q
  rcases hc with z | z
  ·rw [z,e];simp
  ·rw [z];simp
noncomputable def JT (y:Addr)(cls:Value):HO:=.ext fun h=>∃o vs,h.get? y=some o/\o.cls=cls/\o.data=.fields vs
theorem Iw {H1:Hp}{s1:Shared}{x:Addr}{cls:Value}{oe:Obj}{vs:Array Value}(I0:Inv X pins σ H s)(I:Inv X pins σ H1 s1)(hx:∀o,s.heap.get? x≠some o)(hx1:H1 x=none)(he:s1.heap.get? x=some oe)(hc:oe.cls=cls)(hd:oe.data=.fields vs)
  (hxl:x≠X.env.locals) (hxc:∀y c,X.env.cells.lookup y=some c->c≠x):Inv X pins σ (upd H1 x (JT x cls)) s1:=by
 have hb:∀b u,X.s₀.heap.get? b=some u->b∉X.ex->b≠x:=fun b u e hbx z=>by
  obtain ⟨o',e'⟩:=I0.base.there b u e hbx
  rw [z] at e'
  exact hx o' e'
 refine ⟨I.ok,I.os,I.bare,⟨I.base.keep,I.base.slot,fun b u e n hbx=>?_,I.base.there,fun b xs e=>?_,fun b u xs e=>?_,fun b ps e=>?_⟩,I.loc,I.cell,?_,fun y c e=>?_,fun p hpp=>?_,fun b u e=>?_,I.len⟩
 ·rw [aL (hb b u e hbx)];exact I.base.free b u e n hbx
 ·have q:=I.base.tups b xs e;rw [aL (av q hx1)];exact q
 ·have q:=I.base.frzs b u xs e;rw [aL (av q hx1)];exact q
 ·obtain ⟨more,q⟩:=I.base.tbls b ps e;exact ⟨more,by rw [aL (av q hx1)];exact q⟩
 ·rw [aL (Ne.symm hxl)];exact I.free
 ·rw [aL (hxc y c e)];exact I.freeC y c e
 ·obtain ⟨a,b,c⟩:=I.pin p hpp
  refine ⟨a,?_,c⟩
  rw [aL (fun z=>?_)];exact b
  have:=(I0.pin p hpp).1
  rw [z] at this
  exact hx _ this
 ·by_cases hbb:b=x
  ·subst hbb;rw [ah] at e;cases e
   exact ⟨⟨oe,vs,he,hc,hd⟩,⟨oe,he⟩,fun h1 h2 ⟨o,v,a,b,c⟩ k=>⟨o,v,k _ a,b,c⟩⟩
  ·rw [aL hbb] at e
   exact (I.hok b u e).stay (fun c v _ q=>q) (fun c q=>by rw [aL (av q hx1)];exact q) fun c xs q=>by rw [aL (av q hx1)];exact q
theorem qZ {i:Nat}{n:Str}{pos:Pos}{A:Around}{M:Model}{Er:Value->Shared->Prop}{Q:Unit->Shared->Prop}(I:Inv X pins σ H s)(hN:X.N.Nodup)(hi:X.N[i]?=some n)(hk:X.env.scope.names.lookup n=some .local)
  (h:∀s',Inv X pins (σ.set i none) H s'->Q () s'):wpAny M A (do bindName X.env n .none;unbindBehindTheSuite X.env n pos) Q Er s:=by
 refine wpAny_bind (wpAny_bindName (kT (v:=V.non) I hN hi (.inl hk) rfl (fun s1 I1=>?_) (.inr hk)))
 unfold unbindBehindTheSuite
 refine wpAny_onRaise ?_
 obtain ⟨m,hn,hl⟩:=id I1.loc
 have hiσ:i < σ.length:=by rw [I.len];exact (List.getElem?_eq_some_iff.mp hi).1
 obtain ⟨u,ru,lk⟩:=hl i n .non hi (List.getElem?_set_self hiσ) (.inl hk)
 have hv:m n=some u:=by
  rcases lk with ⟨_,z⟩ | ⟨z,_⟩
  ·exact z
  ·have hk':X.env.kindOf n=some .local:=hk
   rcases z with z | z
   ·rw [hk'] at z;cases z
   ·rw [hk'] at z;cases z
 have hcls:(X.env.scope.kind == .class || (X.env.scope.kind == .module && X.env.locals != X.env.globals))=false:=by rw [I.ok.kind];rfl
 refine wpAny_unbindName_local hk hn hv hcls fun h' u' hn' hs=>?_
 have ne:∀b o,X.s₀.heap.get? b=some o->b≠X.env.locals:=fun b o e=>Nat.ne_of_lt (Nat.lt_of_lt_of_le (Heap.lt_size e) I.ok.above)
 refine h _ ⟨I1.ok,I1.os,I1.bare,⟨fun b o e n hb hx=>(hs.2 b (ne b o e)).trans (I1.base.keep b o e n hb hx),fun b o e n hb hx=>?_,I1.base.free,fun b o e hx=>?_,I1.base.tups,I1.base.frzs,I1.base.tbls⟩,⟨_,hn',fun j y v' e1 e2 e3=>?_⟩,fun y c e=>?_,I1.free,I1.freeC,fun p hp=>?_,fun b ob e=>?_,?_⟩
 ·obtain ⟨sl,e1⟩:=I1.base.slot b o e n hb hx
  exact ⟨sl,(hs.2 b (ne b o e)).trans e1⟩
 ·obtain ⟨o',e1⟩:=I1.base.there b o e hx
  exact ⟨o',(hs.2 b (ne b o e)).trans e1⟩
 ·by_cases hj:j=i
  ·subst hj
   rw [List.getElem?_set_self hiσ] at e2
   cases e2
  ·rw [List.getElem?_set_ne (Ne.symm hj)] at e2
   obtain ⟨u2,r2,q⟩:=hl j y v' e1 (by rw [List.getElem?_set_ne (Ne.symm hj)];exact e2) e3
   refine ⟨u2,r2,?_⟩
   rcases q with ⟨k,e⟩ | ⟨k,c,e,z⟩
   ·refine .inl ⟨k,?_⟩
    have:y≠n:=fun e=>hj (yK hN e1 (e▸hi))
    simp [this,e]
   ·exact .inr ⟨k,c,e,z.sameBut hs (I1.cne y c e)⟩
 ·obtain ⟨w',z⟩:=I1.cell y c e
  exact ⟨w',z.sameBut hs (I1.cne y c e)⟩
 ·obtain ⟨e,n,ne',nf,d⟩:=I1.pin p hp
  exact ⟨(hs.2 p.1 ne').trans e,n,ne',nf,d⟩
 ·refine (I1.hok b ob e).stay (fun c w' hc q=>(hs.2 c ?_).trans q) (fun _ q=>q) fun _ _ q=>q
  rintro rfl
  rcases hc with z | z
  ·rw [←z,I1.free] at e;cases e
  ·rw [I1.free] at z;cases z
 ·rw [List.length_set];exact I.len
end
section
variable {X:Cx}
noncomputable def Pr (K:WA)(C:Addr)(i:Nat)(tb:XT->TS)(th:TS):TS:=fun D σ H=>
 tb (fun cls σ' H'=>W.exmOne K cls (.ref C)=some true/\∀y,H' y=none->
  th {nx:=fun σ H=>D.nx (σ.set i none) H,rt:=D.rt,bk:=fun σ H=>D.bk (σ.set i none) H,ct:=fun σ H=>D.ct (σ.set i none) H} (σ'.set i (some (.ref y))) (upd H' y (JT y cls))) D σ H
theorem Og {body suite:List Stmt}{b₀:Stmt}{x n:Str}{C:Addr}{i:Nat}{tb:XT->TS}{th:TS}{np hpos pos:Pos}(hst:X.stack=X.env::X.outer)(hfr:X.env.frame=some X.env.locals)
  (hb:∀pins E',PSs (Xt X pins E') body (tb E')) (hh:∀e,PSs (Xh X e) (b₀::suite) th) (hN:X.N.Nodup) (hi:X.N[i]?=some n) (hk:X.env.scope.names.lookup n=some .local) (hg:Gl X x) (hm:X.mg x=some (.ref C))
  (hdb:(x == ("__debug__":Str))=false:=by decide):PS X (.Try body [.ExceptHandler (some (.Name x np)) (some n) (b₀::suite) hpos] [] [] pos) (Pr X.K C i tb th):=by
 intro pins s σ H D I h
 refine wpAny_Try_except (wpAny_mono (hb pins _ [] s σ H D I.toT h) (fun f s1 h1=>?_) fun e s1 h1=>?_)
 ·cases f with
  | next=>obtain ⟨σ',H',J,q⟩:=h1;exact wpAny_execs_nil ⟨σ',H',J.ofT,q⟩
  | brk=>obtain ⟨σ',H',J,q⟩:=h1;exact ⟨σ',H',J.ofT,q⟩
  | cont=>obtain ⟨σ',H',J,q⟩:=h1;exact ⟨σ',H',J.ofT,q⟩
  | ret u=>obtain ⟨v,σ',H',J,r,q⟩:=h1;exact ⟨v,σ',H',J.ofT,r,q⟩
 ·obtain ⟨σ0,H0,s0,I0,y,cls,a0,H1,B,rfl,os,bare,un,hok,hfl,hB,hx,hx1,em,q⟩:=h1
  have frames:X.A.frames=some (X.env::X.outer):=by rw [←hst];exact I0.ok.frames
  rw [hst] at hfl
  refine wpAny_looks_onW frames hfr hfl fun h4 held4 sm4=>wpAny_landsW held4 fun h5 fl5 sm5=>?_
  have I5:Inv X pins σ0 H1 {s1 with heap:=h5}:=I0.flown os bare un hok hB fl5.1 (sm4.trans sm5)
  refine wpAny_handleBy_cons (codeAny_handlers_test (qW (X:=Xh X (.ref y)) (I5.toH) hg hm ?_ hdb)) (by intro q;cases q)
  obtain ⟨ob,hob,hobc⟩:=fl5.there
  have LT:W.Looks (model X.prog X.w) h5 (typeOf (.ref y)) cls:=hobc▸(W.Looks.ld hob).andThen .now
  refine (W.exm_one (M:=model X.prog X.w) I5.kIn LT em) _ _ _ _ (fun _ _ e=>e) ?_
  refine codeAny_handlers_suite_as ?_
  refine lands_againW fl5 fun h6 fl6 sm6=>?_
  have I6:Inv X pins σ0 H1 {s1 with heap:=h6}:=I0.flown os bare un hok hB fl6.1 ((sm4.trans sm5).trans sm6)
  obtain ⟨_,_,_,oe,vs,T,oT,ts,he,hc,hd,_⟩:=id fl6
  have hyl:y≠X.env.locals:=fun z=>by
   obtain ⟨m,⟨o,es,ep,ho,hod,_⟩,_⟩:=I0.loc
   rw [←z] at ho
   exact hx o ho
  have hyc:∀z c,X.env.cells.lookup z=some c->c≠y:=fun z c e t=>by
   obtain ⟨v,o,ho,_⟩:=I0.cell z c e
   rw [t] at ho
   exact hx o ho
  have I6t:=Iw (s1:={s1 with heap:=h6}) I0 I6 hx hx1 he hc.1 hd hyl hyc
  refine kT (X:=Xh X (.ref y)) (v:=V.ref y) (I6t.toH) hN hi (.inl hk) rfl (fun s7 I7=>?_) (.inr hk)
  refine wpAny_mono (hh (.ref y) pins s7 _ _ _ I7 (q y hx1)) (fun f s8 h8=>?_) fun _ _ z=>z.elim
  cases f with
  | next=>obtain ⟨σ8,H8,J,q8⟩:=h8;exact qZ (J.ofH I.ok) hN hi hk fun s9 J9=>⟨_,_,J9,q8⟩
  | brk=>obtain ⟨σ8,H8,J,q8⟩:=h8;exact qZ (J.ofH I.ok) hN hi hk fun s9 J9=>⟨_,_,J9,q8⟩
  | cont=>obtain ⟨σ8,H8,J,q8⟩:=h8;exact qZ (J.ofH I.ok) hN hi hk fun s9 J9=>⟨_,_,J9,q8⟩
  | ret u=>obtain ⟨v,σ8,H8,J,r,q8⟩:=h8;exact qZ (J.ofH I.ok) hN hi hk fun s9 J9=>⟨v,_,_,J9,r,q8⟩
noncomputable def FN (sp:Sp)(dvs:List V)(E':XT)(t:TA):TE:=fun σ H Q=>t σ H fun vs H1=>sp (vs++dvs) H1 Q fun cls _ H'=>E' cls σ H'
theorem JU {pins:List (Addr×Obj)}{E':XT}{k:Nat}{f:Addr}{fd:FuncData}{ps:List Str}{sp:Sp}{dvs:List V}{ds:List Value}{x:Str}{p pos:Pos}{e:Expr}{es:List Expr}{t:TA}
  (F:gv X.prog X.w X.K X.mg X.base (CXf X.prog X.w) k f fd ps sp) (hr:eo k X.A) (hg:Gl X x) (hm:X.mg x=some (.ref f)) (hk:W.keepIn X.K (.ref f)=true) (hb:eJ X.K fd ps ds) (hd:bL dvs ds)
  (ha:PA (Xt X pins E') (e::es) t) (hdb:(x == ("__debug__":Str))=false:=by decide) (he:starEach (e::es) X.env=(false,eval e X.env)::starEach es X.env:=by rfl) (hpl:(backTo pos (starEach es X.env)).any (·.1)=false:=by rfl) :
  PE (Xt X pins E') (.Call (.Name x p) (e::es) [] pos) (FN sp dvs E' t):=by
 intro pins' s σ H Q I h
 refine wpAny_Call_Name_kw (qW (X:=Xt X pins E') I hg hm ?_ hdb)
 refine W.callWith_K (h₀:=X.base) I.ok.mod.kin hk (thn (ha pos pins' s σ H _ I h) fun us s1 ⟨vs,H1,I1,r,q⟩=>⟨I1.kIn,?_⟩) he hpl
 have r2:bL (vs++dvs) (us++ds):=r.append hd
 have hl:(us++ds).length=ps.length:=by rw [←r2.length];exact F.len _ _ _ _ q
 refine wpAny_call (codeAny_mono (F.run X.A X.stack s1 H1 ⟨us,[]⟩ (us++ds) (vs++dvs) Q _ hr I1.env0 (hb s1 us I1.kIn hl) r2 q) fun r s' hq=>?_)
 cases r with
 | error e=>exact ⟨σ,H1,s1,I1.ofT,hq⟩
 | ok fl=>
  cases fl with
  | ret u=>exact I1.after hq
  | next=>exact False.elim hq
  | brk=>exact False.elim hq
  | cont=>exact False.elim hq
end
end L2
namespace L2
open PySem PySem.W PySem.Spec PyProof.Rows
structure ExI (K:Frag)(C:Addr):Prop where
 ex:ExC K C
 ca:findIn K (.ref C) "__class__"=some (some (.builtin "object.__class__"))
 mo:mroIn K C (.type "object")=some true
section
variable {prog:Program}{w:World}{A:Around}{E:Value->Shared->Prop}{h:Heap}{g:Array GenState}{d:Drawn}{t:Nat}{os:OsState}{a:Addr}{o:Obj}{vs:Array Value}{K:Frag}{C:Addr}
theorem LJ {R:Result->Shared->Prop}{tp:Value}(X:K.In h)(O:ExI K C)(hx:h.get? a=some o)(hc:o.cls=.ref C)(hq:R (.ok (.ret (.ref C))) ⟨h,g,d,t,os⟩) :
  codeAny (model prog w) A (.call (.builtin "getset_descriptor.__get__") ⟨[.builtin "object.__class__",.ref a,tp],[]⟩) R ⟨h,g,d,t,os⟩:=by
 have L0:Looks (model prog w) h (typeOf (.ref a)) (.ref C):=hc▸(Looks.ld hx).andThen .now
 have L1:=looks_mroIn (M:=model prog w) X O.mo
 refine codeAny_call_builtin KF.slot_gs.plain KF.entry_gs (KF.slot_gs.check _ _ _ _ _ _ _ _ KF.type_class (KF.args_gs _ _ _) ?_)
 unfold Builtin.«getset_descriptor.__get__» Builtin.Getset_descriptor.descrGet
 rw [dga_obj]
 refine wpAny_bind (wpAny_pure ?_)
 unfold Builtin.Getset_descriptor.descrGetter Builtin.Getset_descriptor.descrCheckInstance Builtin.Getset_descriptor.descrNameAndClass isInstance
 simp only [KF.owner_class]
 repeat lk
 refine ⟨Code.quiet_builtin _ (by decide +kernel),codeAny_builtin KF.entry_class ?_⟩
 unfold Builtin.«object.__class__» shownTypeOf
 repeat lk
 exact hq
theorem Iy {tk:Tok}{Q:PySem.Fin->Shared->Prop}(X:K.In h)(O:ExI K C)(hx:h.get? a=some o)(hc:o.cls=.ref C)(hq:Q (.done (.ret (.ref C))) ⟨h,g,d,t,os⟩) :
  wpAny (model prog w) A (Builtin.«object.__getattribute__» ⟨[.ref a,.str "__class__" tk],[]⟩) Q E ⟨h,g,d,t,os⟩:=by
 have L2:=looks_findIn (M:=model prog w) X O.ca
 have f5:=KF.type_class
 have f6:=KF.slot_gs.lookup
 have f7:=PySem.F.slot_gs_set.lookup
 repeat (any_goals (first | assumption | (with_reducible refine wpAny_loadPart_at hx ?_;rw [hc]) | with_reducible refine L2.at ?_ | wp_step))
 refine LJ X O hx hc ?_
 repeat (any_goals (first | assumption | wp_step))
theorem JV {tk:Tok}{R:Result->Shared->Prop}(X:K.In h)(O:ExI K C)(hx:h.get? a=some o)(hc:o.cls=.ref C)(hq:R (.ok (.ret (.ref C))) ⟨h,g,d,t,os⟩) :
  codeAny (model prog w) A (.call (.builtin "BaseException.__getattribute__") ⟨[.ref a,.str "__class__" tk],[]⟩) R ⟨h,g,d,t,os⟩:=by
 obtain ⟨nm,q,N,bs,bm,hdct,sn,sub,ab,col,dd,k0,k1,k2,k3,k5,mN,Oe⟩:=O.ex.ex
 obtain ⟨hC,hN,hmN,T⟩:=Oe h X
 exact codeAny_call_builtin PySem.F.attrBase_ValueError.ga.plain PySem.F.entry_bexc_ga (wpAny_check_ga_own PySem.F.attrBase_ValueError hC T hx hc (Iy X O hx hc hq))
theorem Oh {tk:Tok}{fill expr:Bool}{Q:Value->Shared->Prop}(X:K.In h)(O:ExI K C)(hx:h.get? a=some o)(hc:o.cls=.ref C)(hq:Q (.ref C) ⟨h,g,d,t,os⟩) :
  wpAny (model prog w) A (getAttrBy (.ref a) (.str "__class__" tk) fill expr) Q E ⟨h,g,d,t,os⟩:=by
 obtain ⟨nm,q,N,bs,bm,hdct,sn,sub,ab,col,dd,k0,k1,k2,k3,k5,mN,Oe⟩:=O.ex.ex
 obtain ⟨hC,hN,hmN,T⟩:=Oe h X
 have FB:=PySem.F.attrBase_ValueError
 have f3:=FB.ga.bind (.ref a)
 have hx0:(expr && onTheHeap (Value.builtin "BaseException.__getattribute__"))=false:=by cases expr<;>rfl
 have hx2:(Value.builtin "BaseException.__getattribute__" == Value.builtin "object.__getattribute__")=false:=by decide +kernel
 have hx1:(onTheHeap (Value.ref C) && Value.builtin "BaseException.__getattribute__" == Value.builtin "object.__getattribute__")=false:=by rw [hx2];rfl
 have hm1:("__getattribute__":Str)∈quietNames:=.tail _ (.head _)
 have hm2:("__getattr__":Str)∈quietNames:=.tail _ (.tail _ (.head _))
 repeat (any_goals (first | assumption | (with_reducible refine wpAny_loadPart_at hx ?_;rw [hc]) | with_reducible refine wpAny_typeLookup_tailQ hm1 hC hN hmN T FB.mro FB.ga.lookup ?_ | with_reducible refine wpAny_typeLookup_tailQ hm2 hC hN hmN T FB.mro FB.noGetattr ?_ | wp_step))
 refine JV X O hx hc ?_
 repeat (any_goals (first | assumption | wp_step))
theorem JW {Q:Option Value->Shared->Prop}(X:K.In h)(O:ExI K C)(hx:h.get? a=some o)(hc:o.cls=.ref C)(hq:Q (some (.ref C)) ⟨h,g,d,t+1,os⟩) :
  wpAny (model prog w) A (getAttr? (.ref a) "__class__") Q E ⟨h,g,d,t,os⟩:=by
 unfold getAttr? getAttrBy?
 repeat (any_goals (first | assumption | with_reducible apply Oh X O hx hc | wp_step))
theorem JX (O:ExI K C):KitX K (.ref a) (.ref C) (fun h=>∃o vs,h.get? a=some o/\o.cls=.ref C/\o.data=.fields vs) where
 ty:=fun _ _ _ ⟨o,vs,h1,h2,_⟩=>h2▸(Looks.ld h1).andThen .now
 it:=fun M h X _=>by
  obtain ⟨nm,q,N,bs,bm,hdct,sn,sub,ab,col,dd,k0,k1,k2,k3,k5,mN,Oe⟩:=O.ex.ex
  obtain ⟨hC,_⟩:=Oe h X
  intro A' Q' E' s' k q
  unfold isType loadHead
  exact wpAny_bind (wpAny_loadPart (k _ _ hC) (wpAny_pure q))
 ne:=fun h tp dd its n sl X htp=>by
  obtain ⟨nm,q,N,bs,bm,hdct,sn,sub,ab,col,dd',k0,k1,k2,k3,k5,mN,Oe⟩:=O.ex.ex
  obtain ⟨hC,_⟩:=Oe h X
  refine Bool.eq_false_iff.mpr fun q=>?_
  have e:C=tp:=Value.ref.inj (beq_iff_eq.mp q)
  subst e
  have z:=congrArg Obj.data (Option.some.inj (hC.symm.trans htp))
  exact nomatch z
 ca:=fun {_ _ _ _ _ s} X ⟨o,vs,h1,h2,_⟩ k=>by
  obtain ⟨h,g,d,t,os⟩:=s
  exact JW X O h1 h2 k
end
noncomputable def Iz:V->Value
 | .ref a=>.ref a
 | .ty n=>.type n
 | _=>.none
noncomputable def fN (K:Frag):List V->Hp->VK->Prop:=fun xs H Q=>∃y c C b,xs=[.ref y,c]/\Iz c≠.none/\H y=some (JT y (.ref C))/\ExI K C/\kitOne K (.ref C) (Iz c)=some b/\Q (.bl b) H
theorem dI {X:Cx}:de X (.builtin "isinstance") (fN X.K):=by
 intro pins s σ H xs us Q I r h
 obtain ⟨y,c,C,b,rfl,hc,hy,O,e,q⟩:=h
 obtain ⟨u,v,rfl,ru,rv⟩:=GY r
 cases ru
 have hv:v=Iz c:=by
  cases c with
  | ref a=>exact rv
  | ty n=>exact rv
  | _=>exact absurd rfl hc
 rw [hv]
 obtain ⟨φ,_,_⟩:=I.hok y _ hy
 exact kia_one (JX O) I.kIn φ e (fun z=>nomatch z) fun tk=>⟨.bl b,H,I.tok tk,rfl,q⟩
end L2
namespace L2
open PySem PySem.Spec PyProof.Rows
theorem dX {X:Cx}{x:Str}{v:V}{pos:Pos}(hg:Gl X x)(h:∃u,X.mg x=some u/\cf v u)(hd:(x == ("__debug__":Str))=false:=by decide):PE X (.Name x pos) (tC v):=
 let ⟨_,hm,r⟩:=h
 eh hg hm r hd
theorem uW {K:WA}{H:Hp}{Q:VK}{y C:Addr}{c:V}{b:Bool}(hy:H y=some (JT y (.ref C)))(O:ExI K C)(e:W.kitOne K (.ref C) (Iz c)=some b)(hc:Iz c≠.none)(q:Q (.bl b) H):fN K [.ref y,c] H Q:=
 ⟨y,c,C,b,rfl,hc,hy,O,e,q⟩
theorem dJ {a:Addr}:Iz (.ref a)≠.none:=by intro h;cases h
noncomputable def eqL:List V->List V->Bool
 | [],[]=>true
 | x::xs,y::ys=>eqV x y && eqL xs ys
 | _,_=>false
theorem yD:∀{xs ys:List V},eqL xs ys=true->xs.length=ys.length
 | [],[],_=>rfl
 | _::_,_::_,h=>by
  unfold eqL at h
  rw [Bool.and_eq_true] at h
  simp [yD h.2]
 | [],_::_,h=>by cases h
 | _::_,[],h=>by cases h
noncomputable def Oi (K:WA):R2:=fun x y H Q=>∃a b xs ys,x=.ref a/\y=.ref b/\SqL K H a xs/\SqL K H b ys/\xs.all bW=true/\ys.all bW=true/\Q (.bl (eqL xs ys)) H
theorem yE:∀{xs ys:List V},xs.length=ys.length->(List.range xs.length).all (fun j=>eqV (xs.getD j .non) (ys.getD j .non))=eqL xs ys
 | [],[],_=>rfl
 | x::xs,y::ys,h=>by
  have ih:=yE (xs:=xs) (ys:=ys) (by simpa using h)
  rw [List.length_cons,List.range_succ_eq_map,List.all_cons,List.all_map]
  show (eqV x y && (List.range xs.length).all (fun j=>eqV (xs.getD j .non) (ys.getD j .non)))=(eqV x y && eqL xs ys)
  rw [ih]
 | [],_::_,h=>by simp at h
 | _::_,[],h=>by simp at h
theorem Oj {X:Cx}(hu:X.A.units < cLine):OpR X (compareOp .Eq) (Oi X.K):=by
 intro pins s σ H x y u v Q I rx ry h
 obtain ⟨a,b,xs,ys,rfl,rfl,ha,hb,fa,fb,q⟩:=h
 cases rx;cases ry
 obtain ⟨ia,ra,pa,za⟩:=I.list ha
 obtain ⟨ib,rb,pb,zb⟩:=I.list hb
 have la:=ra.length
 have lb:=rb.length
 by_cases hl:xs.length=ys.length
 ·refine PySem.SeqAt.eq_listAt (e:=fun j=>eqV (xs.getD j .non) (ys.getD j .non)) pa.isList pb.isList (by simp only [List.size_toArray];omega) hu (fun j h1 h2=>?_) ?_
  ·simp only [List.size_toArray] at h1 h2
   have hx:xs[j]?=some (xs.getD j .non):=by
    rw [List.getD_eq_getElem?_getD,List.getElem?_eq_getElem (by omega)];rfl
   have hy:ys[j]?=some (ys.getD j .non):=by
    rw [List.getD_eq_getElem?_getD,List.getElem?_eq_getElem (by omega)];rfl
   obtain ⟨u,eu,ru⟩:=ra.get hx
   obtain ⟨v,ev,rv⟩:=rb.get hy
   have e1:ia.toArray[j]=u:=by
    have:=List.getElem?_eq_some_iff.mp eu
    simpa using this.2
   have e2:ib.toArray[j]=v:=by
    have:=List.getElem?_eq_some_iff.mp ev
    simpa using this.2
   rw [e1,e2]
   exact wJ ru rv (List.all_eq_true.mp fa _ (List.mem_of_getElem? hx)) (List.all_eq_true.mp fb _ (List.mem_of_getElem? hy))
  ·have e:(List.range ia.toArray.size).all (fun j=>eqV (xs.getD j .non) (ys.getD j .non))=eqL xs ys:=by
    rw [List.size_toArray,←la]
    exact yE hl
   rw [e]
   exact ⟨.bl (eqL xs ys),H,I,rfl,q⟩
 ·refine PySem.SeqAt.eq_list_lengthsAt pa.isList pb.isList (by simp only [List.size_toArray,bne_iff_ne,ne_eq];omega) hu ?_
  have e:eqL xs ys=false:=by
   cases z:eqL xs ys with
   | false=>rfl
   | true=>exact absurd (yD z) hl
  rw [e] at q
  exact ⟨.bl false,H,I,rfl,q⟩
end L2
namespace L2
theorem cD.of {ds:List Int}(l2:2<=ds.length)(l6:ds.length<=6)(b:∀i,i < ds.length->0<=ds.getD i 0/\ds.getD i 0<=500)(u:∀i,i+1 < ds.length->ds.getD i 0 < ds.getD (i+1) 0):cD ds:=by
 have get:∀i (h:i < ds.length),ds[i]=ds.getD i 0:=fun i h=>by rw [List.getD_eq_getElem?_getD,List.getElem?_eq_getElem h];rfl
 have up:∀k i,i+k+1 < ds.length->ds.getD i 0 < ds.getD (i+k+1) 0:=by
  intro k
  induction k with
  | zero=>intro i h;exact u i h
  | succ k ih=>
   intro i h
   have h1:=ih i (by omega)
   have h2:=u (i+k+1) (by omega)
   rw [show i+(k+1)+1=i+k+1+1 by omega]
   omega
 refine ⟨l2,l6,fun d hd=>?_,fun d hd=>?_,List.pairwise_iff_getElem.mpr fun i j hi hj hij=>?_⟩
 ·obtain ⟨i,hi,rfl⟩:=List.getElem_of_mem hd
  rw [get i hi];exact (b i hi).1
 ·obtain ⟨i,hi,rfl⟩:=List.getElem_of_mem hd
  rw [get i hi];exact (b i hi).2
 ·rw [get i hi,get j hj]
  have:=up (j - i - 1) i (by omega)
  rw [show i+(j - i - 1)+1=j by omega] at this
  exact this
end L2
namespace L2
end L2
namespace L2
open PySem PySem.W PySem.Spec PyProof.Rows
noncomputable def yX:V->Option String
 | .non=>some "NoneType"
 | .bl _=>some "bool"
 | .int _=>some "int"
 | .str _=>some "str"
 | _=>none
def TyX (K:Frag)(H:Hp)(x:V)(T:String):Prop:=yX x=some T\/(∃a xs,x=.ref a/\SqL K H a xs/\T="list")\/∃a xs,x=.ref a/\SqT K H a xs/\T="tuple"
noncomputable def jI:List String:=["NoneType","bool","int","str","list","tuple"]
noncomputable def Dq (T n:String):Bool:=T == n || (T == "bool" && n == "int")
theorem Hd {K:Frag}{T n:String}(hT:T∈jI)(hn:n∈jI):kitOne K (.type T) (.type n)=some (Dq T n):=by
 simp only [jI,List.mem_cons,List.not_mem_nil,or_false] at hT hn
 rcases hT with rfl | rfl | rfl | rfl | rfl | rfl<;>rcases hn with rfl | rfl | rfl | rfl | rfl | rfl<;>with_unfolding_all rfl
theorem He {K:Frag}{T:String}(hT:T∈jI):∀{ns:List String},(∀n∈ns,n∈jI)->kitAny K (.type T) (ns.map Value.type)=some (ns.any (Dq T))
 | [],_=>rfl
 | n::r,h=>by
  have ih:=He (K:=K) hT (ns:=r) fun m hm=>h m (List.mem_cons_of_mem _ hm)
  rw [List.map_cons,List.any_cons]
  unfold kitAny
  rw [Hd hT (h n List.mem_cons_self)]
  cases e:Dq T n with
  | true=>rfl
  | false=>rw [Bool.false_or];exact ih
section
variable {X:Cx}{pins:List (Addr×Obj)}{σ:St}{H:Hp}{s:Shared}
theorem Bq {K:Frag}{x:V}{T:String}(h:TyX K H x T):T∈jI:=by
 rcases h with h | ⟨_,_,_,_,rfl⟩ | ⟨_,_,_,_,rfl⟩
 ·cases x<;>simp only [yX,Option.some.injEq,reduceCtorEq] at h<;>subst h<;>decide
 ·decide
 ·decide
theorem Dr (I:Inv X pins σ H s){x:V}{u:Value}{T:String}(rx:cf x u)(ty:TyX X.K H x T):∃φ:Heap->Prop,KitX X.K u (.type T) φ/\φ s.heap/\u≠.builtin "__main__.__loader__#opaque":=by
 rcases ty with h | ⟨a,xs,rfl,h,rfl⟩ | ⟨a,xs,rfl,h,rfl⟩
 ·cases x with
  | non=>cases rx;cases h;exact ⟨_,kitx_none,trivial,fun z=>nomatch z⟩
  | bl b=>cases rx;cases h;exact ⟨_,kitx_bool,trivial,fun z=>nomatch z⟩
  | int i=>obtain ⟨t,rfl⟩:=rx;cases h;exact ⟨_,kitx_int,trivial,fun z=>nomatch z⟩
  | str i=>obtain ⟨t,rfl⟩:=rx;cases h;exact ⟨_,kitx_str,trivial,fun z=>nomatch z⟩
  | _=>cases h
 ·cases rx
  obtain ⟨its,r,pl,hz⟩:=I.list h
  obtain ⟨o,ho,hc,_⟩:=pl.isList
  exact ⟨_,kitx_list,⟨o,ho,hc⟩,fun z=>nomatch z⟩
 ·cases rx
  obtain ⟨its,r,⟨o,ho,hc,_⟩,hz⟩:=I.tuple h
  exact ⟨_,kitx_tuple,⟨o,ho,hc⟩,fun z=>nomatch z⟩
noncomputable def Pt (K:Frag):List V->Hp->VK->Prop:=fun xs H Q=>∃x n T,xs=[x,.ty n]/\TyX K H x T/\n∈jI/\Q (.bl (Dq T n)) H
theorem iG:de X (.builtin "isinstance") (Pt X.K):=by
 intro pins s σ H xs us Q I r h
 obtain ⟨x,n,T,rfl,ty,hn,q⟩:=h
 obtain ⟨u,v,rfl,ru,rv⟩:=GY r
 cases rv
 obtain ⟨φ,Z,p,ne⟩:=Dr I ru ty
 exact kia_one Z I.kIn p (Hd (Bq ty) hn) ne fun tk=>⟨.bl _,H,I.tok tk,rfl,q⟩
noncomputable def Pu (K:Frag):List V->Hp->VK->Prop:=fun xs H Q=>∃(x:V) (tp:Addr) (ns:List String) (T:String),xs=[x,.ref tp]/\SqT K H tp (ns.map V.ty)/\TyX K H x T/\(∀n∈ns,n∈jI)/\Q (.bl (ns.any (Dq T))) H
theorem Hf:∀{ns:List String} {its:List Value},bL (ns.map V.ty) its->its=ns.map Value.type
 | [],_,h=>by cases h;rfl
 | n::r,_,h=>by
  cases h with
  | cons a b=>rw [Hf b];cases a;rfl
theorem wM:de X (.builtin "isinstance") (Pu X.K):=by
 intro pins s σ H xs us Q I r h
 obtain ⟨x,tp,ns,T,rfl,ht,ty,hn,q⟩:=h
 obtain ⟨u,v,rfl,ru,rv⟩:=GY r
 cases rv
 obtain ⟨φ,Z,p,ne⟩:=Dr I ru ty
 obtain ⟨its,rt,⟨o,ho,hc,n,hd⟩,hz⟩:=I.tuple ht
 obtain rfl:=Hf rt
 obtain ⟨c,d,dt,sl⟩:=o
 dsimp only at hc hd
 subst hc hd
 exact kia_tup Z I.kIn p ho (He (Bq ty) hn) ne fun tk=>⟨.bl _,H,I.tok tk,rfl,q⟩
end
inductive Dt where
 | flat (v:V)
 | lst (ds:List Dt)
 | tup (ds:List Dt)
inductive Rep (K:Frag)(H:Hp):Nat->V->Dt->Prop
 | flat {n:Nat} {v:V} (h:bW v=true):Rep K H n v (.flat v)
 | lst {n:Nat} {a:Addr} {xs:List V} {ds:List Dt} (hs:SqL K H a xs) (hb:xs.length<=100000) (hl:xs.length=ds.length) (hr:∀(i:Nat) x d,xs[i]?=some x->ds[i]?=some d->Rep K H n x d):Rep K H (n+1) (.ref a) (.lst ds)
 | tup {n:Nat} {a:Addr} {xs:List V} {ds:List Dt} (hs:SqT K H a xs) (hb:xs.length<=100000) (hl:xs.length=ds.length) (hr:∀(i:Nat) x d,xs[i]?=some x->ds[i]?=some d->Rep K H n x d):Rep K H (n+1) (.ref a) (.tup ds)
theorem aw.tup {K:Frag}{H H':Hp}{a:Addr}{xs:List V}(e:aw H H')(h:SqT K H a xs):SqT K H' a xs:=by
 rcases h with (h | ⟨o,h⟩) | h
 ·exact .inl (.inl (e _ _ h))
 ·exact .inl (.inr ⟨o,e _ _ h⟩)
 ·exact .inr h
theorem Rep.same {K:Frag}{H H':Hp}(s:aw H H'){n:Nat}{x:V}{d:Dt}(h:Rep K H n x d):Rep K H' n x d:=by
 induction h with
 | flat h=>exact .flat h
 | lst hs hb hl _ ih=>exact .lst (s.seq hs) hb hl ih
 | tup hs hb hl _ ih=>exact .tup (s.tup hs) hb hl ih
theorem JY {P:Program}{w:World}{K:Frag}{mg:Str->Option Value}{base:Heap}{CX:CXT}{k:Nat}{f:Addr}{fd:FuncData}{ps:List Str}:gv P w K mg base CX k f fd ps (fun _ _ _ _=>False):=
 ⟨fun _ _ _ _ h=>h.elim,fun _ _ _ _ _ _ _ _ _ _ _ _ _ h=>h.elim⟩
theorem aU {α:Type}{xs:List α}{k:Nat}{v:α}(h:xs[k]?=some v):atI xs (k:Int)=some v:=G4 h
end L2
namespace L2
open PySem PySem.Spec PyProof.Rows
noncomputable abbrev Ld:=Str×Int×Int
noncomputable def ldV (x:Ld):List V:=[.str x.1,.int x.2.1,.int x.2.2]
def ju (K:WA)(H:Hp)(as:List Addr)(ls:List Ld):Prop:=as.length=ls.length/\∀(i:Nat) a x,as[i]?=some a->ls[i]?=some x->SqT K H a (ldV x)
def fq (K:WA)(H:Hp)(l:Addr)(ls:List Ld):Prop:=∃as:List Addr,SqL K H l (as.map V.ref)/\ju K H as ls
def j0 (m:Int)(x:Ld):Prop:=(0<=x.2.1/\x.2.1 < m)/\(0<=x.2.2/\x.2.2 < m)
def FO (x:Ld):Prop:=x.1="men"\/x.1="coal"
theorem ju.same {K:WA}{H H':Hp}{as:List Addr}{ls:List Ld}(s:aw H H')(h:ju K H as ls):ju K H' as ls:=⟨h.1,fun i a x e1 e2=>s.tup (h.2 i a x e1 e2)⟩
theorem fq.same {K:WA}{H H':Hp}{l:Addr}{ls:List Ld}(s:aw H H')(h:fq K H l ls):fq K H' l ls:=by
 obtain ⟨as,a,b⟩:=h
 exact ⟨as,s.seq a,b.same s⟩
theorem ju.nil {K:WA}{H:Hp}:ju K H [] []:=⟨rfl,fun i a x e _=>by simp at e⟩
theorem ju.app {K:WA}{H:Hp}{as bs:List Addr}{ls ks:List Ld}(h:ju K H as ls)(g:ju K H bs ks):ju K H (as++bs) (ls++ks):=by
 refine ⟨by rw [List.length_append,List.length_append,h.1,g.1],fun i a x e1 e2=>?_⟩
 by_cases hi:i < as.length
 ·rw [List.getElem?_append_left hi] at e1
  rw [List.getElem?_append_left (by rw [←h.1];exact hi)] at e2
  exact h.2 i a x e1 e2
 ·rw [List.getElem?_append_right (by omega)] at e1
  rw [List.getElem?_append_right (by rw [←h.1];omega),←h.1] at e2
  exact g.2 _ a x e1 e2
theorem ju.one {K:WA}{H:Hp}{a:Addr}{x:Ld}(h:SqT K H a (ldV x)):ju K H [a] [x]:=by
 refine ⟨rfl,fun i b y e1 e2=>?_⟩
 cases i with
 | zero=>cases e1;cases e2;exact h
 | succ i=>simp at e1
theorem SqT.rew {K:WA}{H:Hp}{a l:Addr}{xs ys:List V}{o:HO}(h:SqT K H a xs)(hl:H l=some (.lst ys)):SqT K (upd H l o) a xs:=by
 rcases h with (h | ⟨o',h⟩) | h
 ·refine .inl (.inl ?_)
  rw [aL (fun e=>by rw [e,hl] at h;cases h)];exact h
 ·refine .inl (.inr ⟨o',?_⟩)
  rw [aL (fun e=>by rw [e,hl] at h;cases h)];exact h
 ·exact .inr h
theorem ju.rew {K:WA}{H:Hp}{as:List Addr}{ls:List Ld}{l:Addr}{ys:List V}{o:HO}(h:ju K H as ls)(hl:H l=some (.lst ys)):ju K (upd H l o) as ls:=⟨h.1,fun i a x e1 e2=>(h.2 i a x e1 e2).rew hl⟩
theorem JZ {r:Int}(h0:0<=r)(h1:r < 2):∃k:Str,(k="men"\/k="coal")/\atI [V.str "men",V.str "coal"] r=some (.str k):=by
 rcases (by omega:r=0\/r=1) with rfl | rfl
 ·exact ⟨"men",.inl rfl,rfl⟩
 ·exact ⟨"coal",.inr rfl,rfl⟩
theorem wN {J:It}{g:TG}{tc:TT}{te:TE}{cm:List (Option Nat)}{σ:St}{Q:VK}{H:Hp}(n:Nat)(Pv:Nat->List V->Hp->Prop)(h0:Pv 0 [] H)
  (hgo:∀i acc H,i < n->Pv i acc H->J.go i H) (hst:∀acc H,Pv n acc H->J.stop n H)
  (hs:∀i acc H,i < n->Pv i acc H->acc.length < sizeLine/\∀x H',J.yld i H x H'->∀M:List V->Hp->Prop,(∀acc' H',Pv (i+1) acc' H'->M acc' H')->g x (cT cm σ) H' fun σ2 H2=>Wk (cT cm σ) σ2/\tc σ2 H2 fun b H3=>if b=true then te σ2 H3 fun v H4=>M (acc++[v]) H4 else M acc H3)
  (hd:∀acc H,Pv n acc H->∀p,H p=none->Q (.ref p) (upd H p (.lst acc))):uV J g tc te cm σ Q H:=by
 refine ⟨fun i m acc H=>m=n - i/\i<=n/\Pv i acc H,⟨n,by simp,Nat.zero_le _,h0⟩,?_⟩
 rintro i m acc H ⟨rfl,hi,p⟩
 by_cases hlt:i < n
 ·obtain ⟨hz,q⟩:=hs i acc H hlt p
  refine .inr ⟨hgo i acc H hlt p,hz,fun x H' y=>q x H' y (fun acc' H4=>∃m',m' < n - i/\m'=n - (i+1)/\i+1<=n/\Pv (i+1) acc' H4) fun acc' H4 q=>⟨n - (i+1),by omega,rfl,hlt,q⟩⟩
 ·have e:i=n:=by omega
  subst e
  exact .inl ⟨hst acc H p,hd acc H p⟩
theorem J0 {σ:St}{j:Nat}{x:V}(hj:σ[j]?=some none):Wk σ (σ.set j (some x)):=by
 refine ⟨by simp,fun k v e=>?_⟩
 by_cases hk:j=k
 ·subst hk;rw [hj] at e;cases e
 ·rw [List.getElem?_set_ne hk];exact e
theorem uX {lo:Int}{n:Nat}{te:TE}{cm:List (Option Nat)}{σ:St}{H:Hp}{Q:VK}(Pv:Nat->List V->Hp->Prop)(h0:Pv 0 [] H){j:Nat}(hj:(cT cm σ)[j]?=some none)
  (hs:∀i acc H,i < n->Pv i acc H->acc.length < sizeLine/\∀N:VK,(∀v H',Pv (i+1) (acc++[v]) H'->N v H')->te ((cT cm σ).set j (some (.int (lo+i)))) H N)
  (hd:∀acc H,Pv n acc H->∀p,H p=none->Q (.ref p) (upd H p (.lst acc))):uV (Itr lo n) (eP j) yk te cm σ Q H:=by
 refine wN n Pv h0 (fun i _ _ hi _=>hi) (fun _ _ _=>Nat.le_refl _) (fun i acc H hi p=>⟨(hs i acc H hi p).1,fun x H' y M hM=>?_⟩) hd
 obtain ⟨e,y⟩:=y
 subst e y
 refine ⟨J0 hj,?_⟩
 unfold yk;dsimp only
 split
 ·exact (hs i acc H' hi p).2 _ fun v H4 q=>hM _ _ q
 ·rename_i z;exact absurd rfl z
theorem fL {K:WA}{H:Hp}{a:Addr}{xs:List V}{n:Nat}(h:SqT K H a xs)(hb:xs.length<=100000)(hf:∀x∈xs,bW x=true):Rep K H (n+1) (.ref a) (.tup (xs.map Dt.flat)):=by
 refine .tup h hb (by rw [WB]) fun i y d e1 e2=>?_
 rw [List.getElem?_map,e1] at e2
 cases e2
 exact .flat (hf y (List.mem_of_getElem? e1))
section
variable {X:Cx}{e:Expr}{te:TE}{p1 p2 pos1 pos2:Pos}
theorem Br:∀{vs:List Value} {ms:List Int},IntsAre vs ms->bL (ms.map V.int) vs
 | _,_,.nil=>.nil
 | _,_,.cons n t h=>.cons ⟨t,rfl⟩ (Br h)
theorem wO:∀{ms:List Int} {vs:List Value},bL (ms.map V.int) vs->IntsAre vs ms
 | [],_,h=>by cases h;exact .nil
 | m::ms,_,h=>by
  cases h with
  | cons a b=>
   obtain ⟨t,rfl⟩:=a
   exact .cons m t (wO b)
end
section
variable {X:Cx}
theorem Inv.turnedL {pins:List (Addr×Obj)}{σ:St}{H:Hp}{s:Shared}{h':Heap}{t':Nat}{fp:List Addr}(I:Inv X pins σ H s)(k:∀b o,b∉fp->s.heap.get? b=some o->h'.get? b=some o)(hf:∀b∈fp,wF X pins H b) :
  Inv X pins σ H {s with heap:=h',toks:=t'}:=by
 have nit:∀b u,H b=some u->b∉fp:=fun b u e z=>by rw [(hf b z).1] at e;cases e
 refine I.step (g':=s.gens) (d':=s.drawn) (ch:=fp) (fun b hb=>⟨(hf b hb).2.2.2.1,(hf b hb).2.1,(hf b hb).2.2.2.2.1,(hf b hb).2.2.2.2.2⟩) (fun b o _ _ hc e _=>k b o hc e) (fun b o _ _ hc e _=>⟨o.slots,k b o hc e⟩) (fun _ _ _ _ n=>n)
  (fun b o hc e=>⟨o,k b o hc e⟩) (fun _ _ e=>e) (fun _ _ _ e=>e) (fun b ps e=>⟨#[],by rw [e];simp⟩) (fun m hm=>?_) (fun b u e=>?_) I.bare
 ·obtain ⟨o,es,ep,ho,r⟩:=hm
  exact ⟨o,es,ep,k _ o (fun z=>(hf _ z).2.1 rfl) ho,r⟩
 ·refine (I.hok b u e).stay (fun c v hc q=>k c v ?_ q) (fun _ q=>q) fun _ _ q=>q
  rcases hc with z | z
  ·exact z▸nit b u e
  ·exact nit c _ z
theorem Inv.handed {pins:List (Addr×Obj)}{σ:St}{H:Hp}{s:Shared}{h':Heap}{t':Nat}{fp:List Addr}{xs:List V}{us:List Value}{T:Addr}{n:Nat}(I:Inv X pins σ H s)(k:∀b o,b∉fp->s.heap.get? b=some o->h'.get? b=some o)(hf:∀b∈fp,wF X pins H b)
  (hT:s.heap.objs.size<=T) (hz:xs.length<=sizeLine) (r:bL xs us) (e:h'.get? T=some {cls:=.type "tuple",data:=.seq us.toArray n}):Inv X pins σ (upd H T (.tup xs)) {s with heap:=h',toks:=t'}:=by
 have I1:Inv X pins σ H {s with heap:=h',toks:=t'}:=I.turnedL k hf
 have hn:H T=none:=I.hok.fresh hT
 obtain ⟨f0,f1,f2,f3,f4,f5⟩:=I.fpOk hT hn
 have h0:X.s₀.heap.objs.size<=T:=Nat.le_trans I.sz hT
 exact I1.track hn h0 f1 f4 f5 ⟨hz,us,r,⟨_,e,⟨rfl,_,rfl⟩,rfl⟩⟩
noncomputable def Ite (K:WA)(a:Addr):It:=
 ⟨fun i H=>∃xs x,SqL K H a xs/\xs[i]?=some x,fun i H y H'=>∃t x,y=.ref t/\H t=none/\H'=upd H t (.tup [.int (i:Nat),x])/\∀xs,SqL K H a xs->xs[i]?=some x,fun i H=>∃xs,SqL K H a xs/\xs.length<=i⟩
theorem IA {P:Program}{w:World}{K:WA}{elts:List Expr}{x1:Nat}{tpos:Pos}(a e it:Addr)(hne:e≠it):HZ P w K (.Tuple elts x1 tpos) (Ite K a) [e,it] e (fun i h=>(∃old,IsEnum h e it (i:Nat) old)/\h.IsListIter it a i) where
 mem:=by simp
 obj:=fun i h st b hb=>by
  obtain ⟨⟨old,h1⟩,o,h2,_,h3⟩:=st
  rcases List.mem_cons.mp hb with rfl | hb
  ·exact ⟨_,h1,fun v z=>by
    have z':Data.fields _=Data.cell v:=z
    cases z'⟩
  ·rw [List.mem_singleton] at hb
   subst hb
   exact ⟨o,h2,fun v z=>by rw [h3] at z;cases z⟩
 keep:=fun i h h' st k=>by
  obtain ⟨⟨old,h1⟩,h2⟩:=st
  exact ⟨⟨old,k e (by simp) _ h1⟩,h2.at fun o q=>k it (by simp) o q⟩
 item:=by
  intro X hP hw hK hc i pins s σ H E I hf st hg
  subst hP hw hK
  obtain ⟨xs,x,hq,hx⟩:=hg
  obtain ⟨its,rv,p,hz⟩:=I.list hq
  obtain ⟨u,hu,ru⟩:=rv.get hx
  obtain ⟨⟨old,h1⟩,h2⟩:=st
  have hel:e < s.heap.objs.size:=Heap.lt_size h1
  have hil:it < s.heap.objs.size:=by
   obtain ⟨o,q,_⟩:=h2
   exact Heap.lt_size q
  refine wpAny_pyNext_enum_item h1 h2 p.isList (x:=u) (by simpa using hu) hne fun h' g1 g2 g3 g4 g5=>?_
  have kf:∀b o,b∉[e,it]->s.heap.get? b=some o->h'.get? b=some o:=fun b o hb q=>g5 b o (fun z=>hb (by simp [z])) (fun z=>hb (by simp [z])) q
  have I1:Inv X pins σ (upd H s.heap.objs.size (.tup [.int (i:Nat),x])) {s with heap:=h',toks:=s.toks+1}:=I.handed (us:=[Value.int (i:Nat) s.toks,u]) kf hf (Nat.le_refl _) (by show 2<=sizeLine;decide) (.cons ⟨_,rfl⟩ (.cons ru .nil)) g3
  have hn:H s.heap.objs.size=none:=I.hok.fresh (Nat.le_refl _)
  have hf1:∀b∈[e,it],upd H s.heap.objs.size (.tup [.int (i:Nat),x]) b=none:=fun b hb=>by
   have hlt:b < s.heap.objs.size:=by
    rcases List.mem_cons.mp hb with rfl | hb
    ·exact hel
    ·rw [List.mem_singleton] at hb
     subst hb
     exact hil
   rw [aL (Nat.ne_of_lt hlt)]
   exact (hf b hb).1
  refine ⟨_,rfl,wpAny_letOwnedTupleGo_enum (s:={s with heap:=h',toks:=s.toks+1}) g1 fun h2' q1 q2=>?_⟩
  have I2:Inv X pins σ (upd H s.heap.objs.size (.tup [.int (i:Nat),x])) {s with heap:=h2',toks:=s.toks+1}:=I1.turnedL (s:={s with heap:=h',toks:=s.toks+1}) (t':=s.toks+1) (fp:=[e,it]) (fun b o hb q=>(q2.2 b (fun z=>hb (by simp [z]))).trans q) fun b hb=>⟨hf1 b hb,(hf b hb).2⟩
  refine ⟨.ref s.heap.objs.size,_,I2,rfl,⟨_,x,rfl,hn,rfl,fun ys hy=>by rw [I.list_inj hy hq];exact hx⟩,⟨⟨u,?_⟩,?_⟩,hf1⟩
  ·have:((i+1:Nat):Int)=(i:Int)+1:=by omega
   rw [this]
   exact q1
  ·exact g2.at fun o q=>(q2.2 it (Ne.symm hne)).trans q
 done:=by
  intro X hP hw hK hc i pins s σ H E I hf st hg
  subst hP hw hK
  obtain ⟨xs,hq,hx⟩:=hg
  obtain ⟨its,rv,p,hz⟩:=I.list hq
  have hl:=rv.length
  obtain ⟨⟨old,h1⟩,h2⟩:=st
  exact wpAny_pyNext_enum_end (I.ok.hd hc) h1 h2 p.isList (by simp;omega) fun h' eb=>⟨rfl,I.turnedL (t':=s.toks) (fun b o hb q=>eb b o (fun z=>hb (by simp [z])) q) hf⟩
 self:=fun _ _ _ _ _ st h=>by
  obtain ⟨⟨old,h1⟩,h2⟩:=st
  exact wpAny_pyIter_enum h1 h
noncomputable def Nh (K:WA)(te:TE):TI:=fun σ H R=>te σ H fun x H1=>∃a,x=.ref a/\(∃xs,SqL K H1 a xs)/\R (Ite K a) H1
theorem LK {a:Expr}{te:TE}{p pos tpos:Pos}{elts:List Expr}{x1:Nat}(hg:Gl X "enumerate")(hm:X.mg "enumerate"=none)(hb:bootBuiltins "enumerate"=some (.type "enumerate"))(he:PE X a te)(hs:starEach [a] X.env=[(false,eval a X.env)]:=by rfl) :
  PI X (.Tuple elts x1 tpos) (.Call (.Name "enumerate" p) [a] [] pos) (Nh X.K te):=by
 intro pins s σ H R I h
 refine Call_ (tV I hg hm hb (PyProof.Rows.callWith_type1 ?_ hs rfl))
 rw [hs]
 refine Calls.spliced_cons (thn (he pins s σ H _ I h) fun u s1 ⟨x,H1,I1,r1,l,ex,⟨xs,hq⟩,q⟩=>?_)
 subst ex
 cases r1
 refine Calls.spliced_nil ?_
 obtain ⟨its,rv,pl,hz⟩:=I1.list hq
 refine call_enumerate_list pl.isList fun h' h1 h2 h3 h4=>?_
 refine wpAny_pyIter_enum h1 ?_
 have hne:s1.heap.objs.size+1≠s1.heap.objs.size:=Nat.ne_of_gt (Nat.lt_succ_self _)
 refine ⟨s1.heap.objs.size+1,[s1.heap.objs.size+1,s1.heap.objs.size],_,_,H1,rfl,I1.kept (t':=s1.toks) h4,IA l _ _ hne,⟨⟨_,h1⟩,h2⟩,fun b hb=>?_,q⟩
 rcases List.mem_cons.mp hb with rfl | hb
 ·exact I1.fpOk (Nat.le_succ _) (I1.hok.fresh (Nat.le_succ _))
 ·rw [List.mem_singleton] at hb
  subst hb
  exact I1.fpOk (Nat.le_refl _) (I1.hok.fresh (Nat.le_refl _))
noncomputable def Itz (K:WA)(a b:Addr):It:=
 ⟨fun i H=>∃xs ys x y,SqL K H a xs/\SqL K H b ys/\xs[i]?=some x/\ys[i]?=some y,fun i H v H'=>∃t x y,v=.ref t/\H t=none/\H'=upd H t (.tup [x,y])/\(∀xs,SqL K H a xs->xs[i]?=some x)/\∀ys,SqL K H b ys->ys[i]?=some y,
  fun i H=>∃xs ys,SqL K H a xs/\SqL K H b ys/\(xs.length<=i\/ys.length<=i)⟩
theorem J1 {P:Program}{w:World}{K:WA}{elts:List Expr}{x1:Nat}{tpos:Pos}(l1 l2 z TI TO i1 i2:Addr)(D:ZipApart z TI TO i1 i2 l1 l2) :
  HZ P w K (.Tuple elts x1 tpos) (Itz K l1 l2) [z,TI,TO,i1,i2] z (fun i h=>IsZip h z TI TO .none/\IsPair h TI (.ref i1) (.ref i2)/\(∃u v,IsPair h TO u v)/\h.IsListIter i1 l1 i/\h.IsListIter i2 l2 i) where
 mem:=by simp
 obj:=fun i h st b hb=>by
  obtain ⟨h1,h2,⟨u,v,h3⟩,⟨o4,h4,_,d4⟩,⟨o5,h5,_,d5⟩⟩:=st
  simp only [List.mem_cons,List.not_mem_nil,or_false] at hb
  rcases hb with rfl | rfl | rfl | rfl | rfl
  ·exact ⟨_,h1,fun v z=>by
    have z':Data.fields _=Data.cell v:=z
    cases z'⟩
  ·exact ⟨_,h2,fun v z=>by
    have z':Data.seq _ _=Data.cell v:=z
    cases z'⟩
  ·exact ⟨_,h3,fun v z=>by
    have z':Data.seq _ _=Data.cell v:=z
    cases z'⟩
  ·exact ⟨o4,h4,fun v z=>by rw [d4] at z;cases z⟩
  ·exact ⟨o5,h5,fun v z=>by rw [d5] at z;cases z⟩
 keep:=fun i h h' st k=>by
  obtain ⟨h1,h2,⟨u,v,h3⟩,h4,h5⟩:=st
  exact ⟨k z (by simp) _ h1,k TI (by simp) _ h2,⟨u,v,k TO (by simp) _ h3⟩,h4.at fun o q=>k i1 (by simp) o q,h5.at fun o q=>k i2 (by simp) o q⟩
 item:=by
  intro X hP hw hK hc i pins s σ H E I hf st hg
  subst hP hw hK
  obtain ⟨xs,ys,x,y,hq1,hq2,hx,hy⟩:=hg
  obtain ⟨its1,rv1,p1,hz1⟩:=I.list hq1
  obtain ⟨its2,rv2,p2,hz2⟩:=I.list hq2
  obtain ⟨u,hu,ru⟩:=rv1.get hx
  obtain ⟨v,hv,rv⟩:=rv2.get hy
  obtain ⟨h1,h2,⟨c1,c2,h3⟩,h4,h5⟩:=st
  have lt:∀b∈[z,TI,TO,i1,i2],b < s.heap.objs.size:=fun b hb=>by
   simp only [List.mem_cons,List.not_mem_nil,or_false] at hb
   rcases hb with rfl | rfl | rfl | rfl | rfl
   ·exact Heap.lt_size h1
   ·exact Heap.lt_size h2
   ·exact Heap.lt_size h3
   ·obtain ⟨o,q,_⟩:=h4;exact Heap.lt_size q
   ·obtain ⟨o,q,_⟩:=h5;exact Heap.lt_size q
  refine wpAny_pyNext_zip_item D h1 h2 h3 h4 h5 p1.isList p2.isList (x:=u) (y:=v) (by simpa using hu) (by simpa using hv) fun h' g1 g2 g3 g4 g5 g6 g7=>?_
  have kf:∀b o,b∉[z,TI,TO,i1,i2]->s.heap.get? b=some o->h'.get? b=some o:=fun b o hb q=>g7 b o (fun e=>hb (by simp [e])) (fun e=>hb (by simp [e])) (fun e=>hb (by simp [e])) (fun e=>hb (by simp [e])) q
  have I1:Inv X pins σ (upd H s.heap.objs.size (.tup [x,y])) {s with heap:=h',toks:=s.toks}:=I.handed (us:=[u,v]) kf hf (Nat.le_refl _) (by show 2<=sizeLine;decide) (.cons ru (.cons rv .nil)) g5
  have hn:H s.heap.objs.size=none:=I.hok.fresh (Nat.le_refl _)
  have hf1:∀b∈[z,TI,TO,i1,i2],upd H s.heap.objs.size (.tup [x,y]) b=none:=fun b hb=>by
   rw [aL (Nat.ne_of_lt (lt b hb))]
   exact (hf b hb).1
  refine ⟨_,rfl,wpAny_letOwnedTupleGo_zip (s:={s with heap:=h'}) g1 fun h2' q1 q2=>?_⟩
  have I2:Inv X pins σ (upd H s.heap.objs.size (.tup [x,y])) {s with heap:=h2',toks:=s.toks}:=I1.turnedL (s:={s with heap:=h',toks:=s.toks}) (t':=s.toks) (fp:=[z,TI,TO,i1,i2]) (fun b o hb q=>(q2.2 b (fun e=>hb (by simp [e]))).trans q) fun b hb=>⟨hf1 b hb,(hf b hb).2⟩
  have k2:∀b o,b≠z->h'.get? b=some o->h2'.get? b=some o:=fun b o hb q=>(q2.2 b hb).trans q
  have gTI:IsPair h' TI (.ref i1) (.ref i2):=g7 TI _ D.TIz D.TITO D.TIi1 D.TIi2 h2
  refine ⟨.ref s.heap.objs.size,_,I2,rfl,⟨_,x,y,rfl,hn,rfl,fun zs hz=>by rw [I.list_inj hz hq1];exact hx,fun zs hz=>by rw [I.list_inj hz hq2];exact hy⟩,⟨q1,k2 _ _ D.TIz gTI,⟨u,v,k2 _ _ D.TOz g2⟩,g3.at fun o q=>k2 _ _ D.i1z q,g4.at fun o q=>k2 _ _ D.i2z q⟩,hf1⟩
 done:=by
  intro X hP hw hK hc i pins s σ H E I hf st hg
  subst hP hw hK
  obtain ⟨xs,ys,hq1,hq2,hend⟩:=hg
  obtain ⟨its1,rv1,p1,hz1⟩:=I.list hq1
  obtain ⟨its2,rv2,p2,hz2⟩:=I.list hq2
  have hl1:=rv1.length
  have hl2:=rv2.length
  obtain ⟨h1,h2,⟨c1,c2,h3⟩,h4,h5⟩:=st
  refine wpAny_pyNext_zip_end (I.ok.hd hc) D h1 h2 h3 h4 h5 p1.isList p2.isList ?_ fun h' eb=>⟨rfl,I.turnedL (t':=s.toks) (fun b o hb q=>eb b o (fun e=>hb (by simp [e])) (fun e=>hb (by simp [e])) (fun e=>hb (by simp [e])) (fun e=>hb (by simp [e])) q) hf⟩
  rcases hend with e | e
  ·left;simp;omega
  ·right;simp;omega
 self:=fun _ _ _ _ _ st h=>wpAny_pyIter_zip st.1 h
noncomputable def Pw (K:WA)(ta tb:TE):TI:=fun σ H R=>ta σ H fun x H1=>tb σ H1 fun y H2=>∃a b,x=.ref a/\y=.ref b/\(∃xs,SqL K H2 a xs)/\(∃ys,SqL K H2 b ys)/\R (Itz K a b) H2
theorem Ol {a b:Expr}{ta tb:TE}{p pos tpos:Pos}{elts:List Expr}{x1:Nat}(hg:Gl X "zip")(hm:X.mg "zip"=none)(hb:bootBuiltins "zip"=some (.type "zip"))(ha:PE X a ta)(hb2:PE X b tb)(hs:starEach [a,b] X.env=[(false,eval a X.env),(false,eval b X.env)]:=by rfl)(hs2:starEach [b] X.env=[(false,eval b X.env)]:=by rfl) :
  PI X (.Tuple elts x1 tpos) (.Call (.Name "zip" p) [a,b] [] pos) (Pw X.K ta tb):=by
 intro pins s σ H R I h
 refine Call_ (tV I hg hm hb (PyProof.Rows.callWith_type1 ?_ (by rw [hs,hs2]) (by rw [hs2];rfl)))
 rw [hs]
 refine Calls.spliced_cons (thn (ha pins s σ H _ I h) fun u s1 ⟨x,H1,I1,r1,q1⟩=>?_)
 refine Calls.spliced_cons (thn (hb2 pins s1 σ H1 _ I1 q1) fun v s2 ⟨y,H2,I2,r2,l1,l2,ex,ey,⟨xs,hq1⟩,⟨ys,hq2⟩,q⟩=>?_)
 subst ex ey
 cases r1
 cases r2
 refine Calls.spliced_nil ?_
 obtain ⟨its1,rv1,p1,hz1⟩:=I2.list hq1
 obtain ⟨its2,rv2,p2,hz2⟩:=I2.list hq2
 have a1:l1 < s2.heap.objs.size:=by obtain ⟨o,q,_⟩:=p1.isList;exact Heap.lt_size q
 have a2:l2 < s2.heap.objs.size:=by obtain ⟨o,q,_⟩:=p2.isList;exact Heap.lt_size q
 refine call_zip_2 p1.isList p2.isList fun h' h1 h2 h3 h4 h5 h6 h7=>?_
 refine wpAny_pyIter_zip h1 ?_
 have n0:∀l:Nat,l < s2.heap.objs.size->∀k:Nat,l≠s2.heap.objs.size+k:=fun l hl k=>by omega
 have n1:∀j k:Nat,j≠k->s2.heap.objs.size+j≠s2.heap.objs.size+k:=fun j k hjk=>by omega
 refine ⟨s2.heap.objs.size+4,[s2.heap.objs.size+4,s2.heap.objs.size+2,s2.heap.objs.size+3,s2.heap.objs.size+0,s2.heap.objs.size+1],_,_,H2,rfl,I2.kept (t':=s2.toks) h7,
  J1 l1 l2 _ _ _ _ _ ⟨n1 2 4 (by decide),n1 3 4 (by decide),n1 0 4 (by decide),n1 1 4 (by decide),n1 2 3 (by decide),n1 2 0 (by decide),n1 2 1 (by decide),n1 3 0 (by decide),n1 3 1 (by decide),n1 0 1 (by decide),n0 _ a1 4,n0 _ a1 3,n0 _ a1 0,n0 _ a1 1,n0 _ a2 4,n0 _ a2 3,n0 _ a2 0,n0 _ a2 1⟩,⟨h1,h2,⟨_,_,h3⟩,h4,h5⟩,fun b hb=>?_,q⟩
 have hle:s2.heap.objs.size<=b:=by
  simp only [List.mem_cons,List.not_mem_nil,or_false] at hb
  rcases hb with rfl | rfl | rfl | rfl | rfl<;>exact Nat.le_add_right _ _
 exact I2.fpOk hle (I2.hok.fresh hle)
end
theorem Ds {J:It}{g:TG}{tb:TS}{D:oz}{σ:St}{H:Hp}(n:Nat)(Pv:Nat->St->Hp->Prop)(h0:Pv 0 σ H)(hgo:∀i σ H,i < n->Pv i σ H->J.go i H)(hst:∀σ H,Pv n σ H->J.stop n H)
  (hs:∀i σ H,i < n->Pv i σ H->∀x H',J.yld i H x H'->g x σ H' fun σ2 H2=>tb {D with nx:=Pv (i+1),ct:=Pv (i+1),bk:=D.nx} σ2 H2) (hd:∀σ H,Pv n σ H->D.nx σ H):G9 J g tb D σ H:=by
 refine ⟨fun i m σ H=>m=n - i/\i<=n/\Pv i σ H,⟨n,by simp,Nat.zero_le _,h0⟩,?_⟩
 rintro i m σ H ⟨rfl,hi,p⟩
 by_cases hlt:i < n
 ·exact .inr ⟨hgo i σ H hlt p,Pv (i+1),fun σ' H' q=>⟨n - (i+1),by omega,rfl,hlt,q⟩,fun x H' y=>hs i σ H hlt p x H' y⟩
 ·have e:i=n:=by omega
  subst e
  exact .inl ⟨hst σ H p,hd σ H p⟩
section
variable {X:Cx}
noncomputable def Om (K:WA):V->List V->Hp->VK->Prop:=fun x vs H Q=>∃(l:Addr) (ns:List Int) (k:Int),x=.ref l/\vs=[.int k]/\SqL K H l (ns.map V.int)/\k∈ns/\Q (.int (ns.idxOf k:Nat)) H
end
def aD (p:Addr)(H H':Hp):Prop:=∀b o,b≠p->H b=some o->H' b=some o
theorem aD.of {p:Addr}{H H':Hp}(s:aw H H'):aD p H H':=fun b o _ e=>s b o e
theorem aD.trans {p:Addr}{H H1 H2:Hp}(a:aD p H H1)(b:aD p H1 H2):aD p H H2:=fun c o n e=>b c o n (a c o n e)
theorem aD.put {p:Addr}{H H':Hp}{o:HO}(s:aD p H H'):aD p H (upd H' p o):=fun b u n e=>by rw [aL n];exact s b u n e
theorem Rd.keep {p a:Addr}{H H':Hp}{u:HO}(s:aD p H H')(n:a≠p)(h:Rd H a u):Rd H' a u:=by
 rcases h with h | ⟨o,h⟩
 ·exact .inl (s _ _ n h)
 ·exact .inr ⟨o,s _ _ n h⟩
theorem SqT.keep {K:WA}{p a:Addr}{H H':Hp}{xs ys:List V}(s:aD p H H')(hp:H p=some (.lst ys))(h:SqT K H a xs):SqT K H' a xs:=by
 rcases h with h | h
 ·refine .inl (h.keep s fun z=>?_)
  subst z
  rcases h with h | ⟨o,h⟩
  ·rw [hp] at h;cases h
  ·rw [hp] at h;cases h
 ·exact .inr h
theorem Rd.keepI {p a C dx:Addr}{H H':Hp}{fs:List (Str×V)}{u:HO}(s:aD p H H')(hp:H p=some (.ins C dx fs))(hu:∀C dx fs,u≠.ins C dx fs)(h:Rd H a u):Rd H' a u:=by
 refine h.keep s fun z=>?_
 subst z
 rcases h with h | ⟨o,h⟩
 ·rw [hp] at h;cases h;exact hu _ _ _ rfl
 ·rw [hp] at h;cases h
theorem SqL.keepI {K:WA}{p a C dx:Addr}{H H':Hp}{xs:List V}{fs:List (Str×V)}(s:aD p H H')(hp:H p=some (.ins C dx fs))(h:SqL K H a xs):SqL K H' a xs:=by
 rcases h with h | h
 ·exact .inl (h.keepI s hp fun _ _ _ z=>HO.noConfusion z)
 ·exact .inr h
theorem SqT.keepI {K:WA}{p a C dx:Addr}{H H':Hp}{xs:List V}{fs:List (Str×V)}(s:aD p H H')(hp:H p=some (.ins C dx fs))(h:SqT K H a xs):SqT K H' a xs:=by
 rcases h with h | h
 ·exact .inl (h.keepI s hp fun _ _ _ z=>HO.noConfusion z)
 ·exact .inr h
theorem fq.keepI {K:WA}{p l C dx:Addr}{H H':Hp}{ls:List Ld}{fs:List (Str×V)}(s:aD p H H')(hp:H p=some (.ins C dx fs))(h:fq K H l ls):fq K H' l ls:=by
 obtain ⟨as,a,b⟩:=h
 exact ⟨as,a.keepI s hp,b.1,fun i a x e1 e2=>(b.2 i a x e1 e2).keepI s hp⟩
structure dB (C:Addr)(H:Hp)(y kn wh:Addr)(ks:List Str)(ws:List Int)(m:Int):Prop where
 ob:∃dx,H y=some (.ins C dx [("kinds",.ref kn),("where",.ref wh),("many",.int m)])
 okn:H kn=some (.lst (ks.map V.str))
 owh:H wh=some (.lst (ws.map V.int))
theorem dB.same {C:Addr}{H H':Hp}{y kn wh:Addr}{ks:List Str}{ws:List Int}{m:Int}(h:dB C H y kn wh ks ws m)(s:aw H H'):dB C H' y kn wh ks ws m:=by
 obtain ⟨⟨dx,a⟩,b,c⟩:=h
 exact ⟨⟨dx,s _ _ a⟩,s _ _ b,s _ _ c⟩
theorem dB.off {C:Addr}{H H':Hp}{p y kn wh:Addr}{ks:List Str}{ws:List Int}{m:Int}{ys:List V}(h:dB C H y kn wh ks ws m)(s:aD p H H')(hp:H p=some (.lst ys))(n1:kn≠p)(n2:wh≠p):dB C H' y kn wh ks ws m:=by
 obtain ⟨⟨dx,a⟩,b,c⟩:=h
 exact ⟨⟨dx,s _ _ (fun z=>by rw [z,hp] at a;cases a) a⟩,s _ _ n1 b,s _ _ n2 c⟩
theorem dB.put {C:Addr}{H H':Hp}{y kn wh:Addr}{ks:List Str}{ws ws':List Int}{m:Int}(h:dB C H y kn wh ks ws m)(s:aD wh H H')(n1:kn≠wh)(e:H' wh=some (.lst (ws'.map V.int))):dB C H' y kn wh ks ws' m:=by
 obtain ⟨⟨dx,a⟩,b,c⟩:=h
 exact ⟨⟨dx,s _ _ (fun z=>by rw [z,c] at a;cases a) a⟩,s _ _ n1 b,e⟩
theorem J2 {K:WA}{l:Addr}{ls:List Ld}{te:TE}{cm:List (Option Nat)}{σ:St}{H:Hp}{Q:VK}(f:Ld->V)(hL:fq K H l ls)(hn:ls.length<=sizeLine)(hcm:cT cm σ=[none,none,none])
  (he:∀x∈ls,∀N:VK,N (f x) H->te [some (.str x.1),some (.int x.2.1),some (.int x.2.2)] H N)
  (hd:∀p,H p=none->Q (.ref p) (upd H p (.lst (ls.map f)))):uV (Itl K l) (NL K 3 (Dk (eP 0) (Dk (eP 1) (Dk (eP 2) NK)))) yk te cm σ Q H:=by
 obtain ⟨as,hS,hlen,hT⟩:=hL
 refine wN ls.length (fun i acc H'=>H'=H/\acc=(ls.take i).map f) ⟨rfl,by simp⟩ ?_ ?_ ?_ ?_
 ·rintro i acc H' hi ⟨rfl,_⟩
  have ha:as[i]?=some as[i]:=List.getElem?_eq_getElem (by omega)
  exact ⟨_,.ref as[i],hS,by rw [List.getElem?_map,ha];rfl⟩
 ·rintro acc H' ⟨rfl,_⟩
  exact ⟨_,hS,by rw [WB];omega⟩
 ·rintro i acc H' hi ⟨rfl,rfl⟩
  have ha:as[i]?=some as[i]:=List.getElem?_eq_getElem (by omega)
  have hx:ls[i]?=some ls[i]:=List.getElem?_eq_getElem hi
  refine ⟨by rw [WB,List.length_take];omega,fun x H2 y M hM=>?_⟩
  obtain ⟨e,y⟩:=y
  subst e
  have hy:=y _ hS
  rw [List.getElem?_map,ha] at hy
  cases hy
  rw [hcm]
  refine ⟨_,_,rfl,hT i _ _ ha hx,rfl,_,_,rfl,_,_,rfl,_,_,rfl,rfl,⟨rfl,fun k v e=>?_⟩,?_⟩
  ·match k,e with
   | 0,e=>cases e
   | 1,e=>cases e
   | 2,e=>cases e
  ·unfold yk;dsimp only
   split
   ·refine he ls[i] (List.getElem_mem _) _ (hM _ _ ⟨rfl,?_⟩)
    rw [List.take_succ_eq_append_getElem hi,List.map_append];rfl
   ·rename_i z;exact absurd rfl z
 ·rintro acc H' ⟨rfl,rfl⟩ p hp
  rw [List.take_length]
  exact hd p hp
theorem Cf {n:Nat}{i:Int}(h0:0<=i)(h1:i < n):ixN n i=some i.toNat:=by
 unfold ixN
 rw [if_pos h0,if_pos h1]
theorem dq {ds:List Int}{i:Nat}(h:i < ds.length):ds.getD i 0∈ds:=by
 rw [List.getD_eq_getElem?_getD,List.getElem?_eq_getElem h]
 exact List.getElem_mem h
theorem kW {ds:List Int}{i:Nat}(h:i < ds.length):ds[i]?=some (ds.getD i 0):=by
 rw [List.getD_eq_getElem?_getD,List.getElem?_eq_getElem h];rfl
theorem Bs {c:Int}(h0:0<=c)(h1:c < 2):atI [V.int 10,V.int 11] c=some (.int (10+c)):=by
 rcases (by omega:c=0\/c=1) with rfl | rfl<;>rfl
theorem IB {ws:List Int}{k:Int}{i:Nat}(hi:i < ws.length)(he:ws.getD i 0=k)(hn:∀j,j < i->ws.getD j 0≠k):ws.idxOf k=i:=by
 have hm:k∈ws:=he▸dq hi
 have hlt:ws.idxOf k < ws.length:=List.idxOf_lt_length_iff.mpr hm
 have e1:ws.getD (ws.idxOf k) 0=k:=by
  rw [List.getD_eq_getElem?_getD,List.getElem?_eq_getElem hlt]
  exact List.getElem_idxOf hlt
 rcases Nat.lt_trichotomy (ws.idxOf k) i with h | h | h
 ·exact absurd e1 (hn _ h)
 ·exact h
 ·have:=ne_of_lt_idxOf (ns:=ws) (k:=k) h (by omega)
  rw [List.getD_eq_getElem?_getD,List.getElem?_eq_getElem hi] at he
  exact absurd he (by simpa using this)
section
variable {X:Cx}
theorem FP {tg iter elt:Expr}{ifs:List Expr}{scope:Scope}{pos spos py:Pos}{Nc:List Str}{cm:List (Option Nat)}{wi:TI}{g:TG}{tc:TT}{te:TE}{iy:Nat}{y:Str}(hN:X.N.Nodup)(hiy:X.N[iy]?=some y)(hly:X.env.scope.names.lookup y=some .local)
  (hsw:swapsWith (.ListComp elt [⟨tg,iter,ifs,0⟩] scope pos) (some (.Name y py)) spos.line X.env=pure true)
  (hc:X.calm=true) (hi:PI X tg iter wi) (hkind:scope.kind=.function) (hcell:∀y∈scope.names,y.2≠.cell) (hnames:∀y∈scope.names,y.2=.local->scope.names.lookup y.1=some .local)
  (hfree:∀y∈scope.names,y.2=.free->X.env.kindOf y.1=some .cell\/X.env.kindOf y.1=some .free) (hlen:cm.length=Nc.length)
  (hcm:∀(j:Nat) (x:Str) (i:Nat),Nc[j]?=some x->cm[j]?=some (some i)->X.N[i]?=some x/\scope.names.lookup x=some .free/\(X.env.kindOf x=some .cell\/X.env.kindOf x=some .free))
  (hg:∀C s₀ H₀ ex,PG (blk X Nc scope C s₀ H₀ ex) tg g) (ht:∀C s₀ H₀ ex,PIf (blk X Nc scope C s₀ H₀ ex) ifs tc) (he:∀C s₀ H₀ ex,PE (blk X Nc scope C s₀ H₀ ex) elt te)
  (hs:∀x,foldedSetIterable iter X.env x=pure x:=by intro _;rfl):PS X (.Assign [.Name y py] (.ListComp elt [⟨tg,iter,ifs,0⟩] scope pos) spos) (Fl (yV wi g tc te cm) (eP iy)):=by
 intro pins s σ H D0 I h
 rw [exec_Assign_Name_used _ _ _ _ hsw]
 refine wpAny_bind (wpAny_standAt (wpAny_bind ?_))
 show wpAny _ X.A (do let _ ←comprehension (.ListComp elt [⟨tg,iter,ifs,0⟩] scope pos) scope X.env _ (newList []) false (eval iter X.env) (some (assign (.Name y py) X.env))) _ _ s
 refine wpAny_bind (wpAny_mono (Q:=fun _ s'=>SP X pins D0 .next s') ?_ (fun _ s' hq=>wpAny_pure (wpAny_pure hq)) fun _ _ e=>e)
 have hfr:∀y∈scope.names,y.2=.free->∃c,X.env.cells.lookup y.1=some c:=fun y hy e=>I.ok.has y.1 (hfree y hy e)
 refine wpAny_comprehension_free (use:=some (assign (.Name y py) X.env)) (Q:=fun _ s'=>SP X pins D0 .next s') rfl hs (iM hfr) hkind hnames (thn (hi pins s σ H _ I h) fun v s1 h1=>thn h1 fun itv s2 h2=>?_)
 obtain ⟨it,fp,tn,J,H2,e,I2,T,st2,f2,W,⟨m0,w0⟩,turn⟩:=h2
 subst e
 refine wpAny_newObj_type (wpAny_newFunctionEnv hcell (by intro y hy;simp at hy) (fun h₁ hns₁ hsb₁=>?_) hkind)
 dsimp only at hns₁ hsb₁ ⊢
 have keepA:∀b u,(s2.heap.push {cls:=.type "list",dict:=none,data:=.seq ([]:List Value).toArray}).get? b=some u->h₁.get? b=some u:=fun b u q=>(hsb₁.2 b (Nat.ne_of_lt (Heap.lt_size q))).trans (Heap.get?_push_of_some _ q)
 refine wL (yo:=none) (QV:=fun x H1=>eP iy x σ H1 D0.nx) hc hkind (fun z hz e=>absurd e (hcell z hz)) (fun _ e=>by cases e) hfr hlen hcm hg ht he I2 T st2 f2 w0 turn hns₁ keepA (fun _ e=>by cases e) (fun s6 H5 acc m hm fc J qn _=>?_)
 obtain ⟨fc0,fc1,fc2,fc3,fc4,fc5⟩:=fc
 refine wpAny_assign_Name (wD (s:=s6) (v:=.ref s2.heap.objs.size) (J s6.heap ⟨rfl,fun _ _=>rfl⟩) hN hiy (.inl hly) rfl (fun s7 J9 hsa=>?_) (.inr hly))
 obtain ⟨aa,hsa,hwh⟩:=hsa
 exact ⟨m,hm.sameBut hsa (by rcases hwh with z | z;rw [z];exact fc1;exact (fc4 _ _ z).symm),fun h7 hs7=>⟨_,_,J9.turned (it:=(s2.heap.push {cls:=.type "list",dict:=none,data:=.seq ([]:List Value).toArray}).objs.size) (t':=s7.toks) (fun b o hb hu=>(hs7.2 b hb).trans hu) fc0 fc1 fc3 fc4 fc5,qn⟩⟩
end
theorem Hg {X:Cx}{tg iter elt:Expr}{ifs:List Expr}{scope:Scope}{pos spos py:Pos}(Nc:List Str)(cm:List (Option Nat)){wi:TI}{g:TG}{tc:TT}{te:TE}{iy:Nat}{y:Str}(hN:X.N.Nodup)(hiy:X.N[iy]?=some y)(hly:X.env.scope.names.lookup y=some .local)
  (hi:PI X tg iter wi) (hg:∀C s₀ H₀ ex,PG (blk X Nc scope C s₀ H₀ ex) tg g) (ht:∀C s₀ H₀ ex,PIf (blk X Nc scope C s₀ H₀ ex) ifs tc) (he:∀C s₀ H₀ ex,PE (blk X Nc scope C s₀ H₀ ex) elt te)
  (hsw:swapsWith (.ListComp elt [⟨tg,iter,ifs,0⟩] scope pos) (some (.Name y py)) spos.line X.env=pure true:=by rfl)
  (hc:X.calm=true:=by rfl) (hkind:scope.kind=.function:=by rfl) (hcell:∀y∈scope.names,y.2≠.cell:=by decide +kernel) (hnames:∀y∈scope.names,y.2=.local->scope.names.lookup y.1=some .local:=by decide +kernel)
  (hfree:FI X scope=true:=by rfl) (hlen:cm.length=Nc.length:=by rfl) (hcm:Ob X scope Nc cm=true:=by rfl)
  (hs:∀x,foldedSetIterable iter X.env x=pure x:=by intro _;rfl):PS X (.Assign [.Name y py] (.ListComp elt [⟨tg,iter,ifs,0⟩] scope pos) spos) (Fl (yV wi g tc te cm) (eP iy)):=by
 refine FP hN hiy hly hsw hc hi hkind hcell hnames (fun y hy e=>?_) hlen (fun j x i e1 e2=>?_) hg ht he hs
 ·have h:=List.all_eq_true.mp hfree y hy
  rw [e] at h
  simpa using h
 ·have hj:(Nc.zip cm)[j]?=some (x,some i):=by
   rw [List.getElem?_zip_eq_some];exact ⟨e1,e2⟩
  have h:=List.all_eq_true.mp hcm _ (List.mem_of_getElem? hj)
  simpa using h
theorem gv.calm {P:Program}{w:World}{K:WA}{mg:Str->Option Value}{base:Heap}{k:Nat}{f:Addr}{fd:FuncData}{ps:List Str}{sp:Sp}(F:gv P w K mg base (CXf P w) k f fd ps sp)
  (h:∀vs H Q E,sp vs H Q E->sp vs H Q E0):gv P w K mg base CX0 k f fd ps sp:=by
 refine ⟨F.len,fun A outer s H args us vs Q E hr he hb hv hs=>?_⟩
 refine codeAny_mono (F.run A outer s H args us vs Q E0 hr he hb hv (h _ _ _ _ hs)) fun r s' q=>?_
 cases r with
 | ok fl=>cases fl<;>exact q
 | error e=>
  obtain ⟨x,cls,a0,H',B,_,_,_,_,_,_,_,_,_,z⟩:=q
  exact z.elim
def cV {α:Type}(f:α->List V)(K:WA)(H:Hp)(as:List Addr)(ls:List α):Prop:=as.length=ls.length/\∀(i:Nat) a x,as[i]?=some a->ls[i]?=some x->SqT K H a (f x)
def j1 {α:Type}(f:α->List V)(K:WA)(H:Hp)(l:Addr)(ls:List α):Prop:=∃as:List Addr,SqL K H l (as.map V.ref)/\cV f K H as ls
section
variable {α:Type}{f:α->List V}{K:WA}{H H':Hp}{as bs:List Addr}{ls ks:List α}{l p:Addr}
theorem cV.same (s:aw H H')(h:cV f K H as ls):cV f K H' as ls:=⟨h.1,fun i a x e1 e2=>s.tup (h.2 i a x e1 e2)⟩
theorem j1.same (s:aw H H')(h:j1 f K H l ls):j1 f K H' l ls:=by
 obtain ⟨as,a,b⟩:=h
 exact ⟨as,s.seq a,b.same s⟩
theorem cV.nil:cV f K H [] []:=⟨rfl,fun i a x e _=>by simp at e⟩
theorem cV.app (h:cV f K H as ls)(g:cV f K H bs ks):cV f K H (as++bs) (ls++ks):=by
 refine ⟨by rw [List.length_append,List.length_append,h.1,g.1],fun i a x e1 e2=>?_⟩
 by_cases hi:i < as.length
 ·rw [List.getElem?_append_left hi] at e1
  rw [List.getElem?_append_left (by rw [←h.1];exact hi)] at e2
  exact h.2 i a x e1 e2
 ·rw [List.getElem?_append_right (by omega)] at e1
  rw [List.getElem?_append_right (by rw [←h.1];omega),←h.1] at e2
  exact g.2 _ a x e1 e2
theorem cV.one {a:Addr}{x:α}(h:SqT K H a (f x)):cV f K H [a] [x]:=by
 refine ⟨rfl,fun i b y e1 e2=>?_⟩
 cases i with
 | zero=>cases e1;cases e2;exact h
 | succ i=>simp at e1
theorem cV.rew {ys:List V}{o:HO}(h:cV f K H as ls)(hl:H l=some (.lst ys)):cV f K (upd H l o) as ls:=⟨h.1,fun i a x e1 e2=>(h.2 i a x e1 e2).rew hl⟩
theorem cV.keep {ys:List V}(s:aD p H H')(hp:H p=some (.lst ys))(h:cV f K H as ls):cV f K H' as ls:=⟨h.1,fun i a x e1 e2=>(h.2 i a x e1 e2).keep s hp⟩
theorem cV.keepI {C dx:Addr}{fs:List (Str×V)}(s:aD p H H')(hp:H p=some (.ins C dx fs))(h:cV f K H as ls):cV f K H' as ls:=⟨h.1,fun i a x e1 e2=>(h.2 i a x e1 e2).keepI s hp⟩
theorem j1.keepI {C dx:Addr}{fs:List (Str×V)}(s:aD p H H')(hp:H p=some (.ins C dx fs))(h:j1 f K H l ls):j1 f K H' l ls:=by
 obtain ⟨as,a,b⟩:=h
 exact ⟨as,a.keepI s hp,b.keepI s hp⟩
theorem yY {a:Addr}{xs:List V}{n:Nat}(h:SqT K H a xs)(hb:xs.length<=1000)(hf:∀x∈xs,bW x=true):Rep K H (n+1) (.ref a) (.tup (xs.map Dt.flat)):=fL h (by omega) hf
end
noncomputable abbrev Cd:=Int×Int
noncomputable def cdV (x:Cd):List V:=[.int x.1,.int x.2]
def eZ (x:Cd):Prop:=(1<=x.1/\x.1<=9)/\(1<=x.2/\x.2<=9)/\x.1≠x.2
end L2
namespace L2
open PySem PySem.Spec PyProof.Rows PySem.SeqAt
theorem yl {M:Model}{A:Around}{E:Value->Shared->Prop}{s:Shared}{β:Type}{c:β}{f:Nat->β->Sem (ForInStep β)}{Q:β->Shared->Prop}{n:Nat}(hn:n=2)
  (h:wpAny M A (f 0 c) (fun r s1=>match r with | .done b=>Q b s1 | .yield b=>wpAny M A (f 1 b) (fun r s2=>match r with | .done b=>Q b s2 | .yield b=>Q b s2) E s1) E s) :
  wpAny M A (forIn ([:n]:Std.Legacy.Range) c f) Q E s:=by
 subst hn
 rw [Std.Legacy.Range.forIn_eq_forIn_range']
 show wpAny M A (forIn [0,1] c f) Q E s
 rw [List.forIn_cons]
 refine wpAny_bind (wpAny_mono h ?_ (fun _ _ z=>z))
 intro r s1 h1
 cases r with
 | done b=>exact wpAny_pure h1
 | yield b=>
  show wpAny M A (forIn [1] b f) Q E s1
  rw [List.forIn_cons]
  refine wpAny_bind (wpAny_mono h1 ?_ (fun _ _ z=>z))
  intro r s2 h2
  cases r with
  | done b=>exact wpAny_pure h2
  | yield b=>
   show wpAny M A (forIn [] b f) Q E s2
   rw [List.forIn_nil]
   exact wpAny_pure h2
theorem Cg (l:Addr)(items:Array Value)(a b:Value)(n:Nat)(dd:Option Addr)(sl:Array (Option Value))(x:Value)(e0 e1:Bool)(he:(e0 || e1)=true)(hsz:items.size=2)(i0:items[0]?=some a)(i1:items[1]?=some b) :
  Meets (Builtin.«tuple.index» ⟨[.ref l,x],[]⟩)
   (fun A R s=>s.heap.get? l=some {cls:=.type "tuple",dict:=dd,data:=.seq items n,slots:=sl}/\EqAt A.in1 s a x e0/\EqAt A.in1 s b x e1/\R (.ok (.ret (.int (if e0=true then 0 else 1) s.toks))) {s with toks:=s.toks+1}):=
 .of_wp fun prog w A R s h=>by
  obtain ⟨hp,g,d,tk,os⟩:=s;obtain ⟨hl,h0,h1,h⟩:=h
  wp_walk using wpAny_loadPart' hl,yl (show min items.size items.size=2 by omega)
  rw [i0]
  refine wpAny_bind (h0 prog w _ _ ?_)
  cases e0 with
  | true=>
   wp_walk
   exact ⟨_,rfl,h⟩
  | false=>
   wp_walk
   rw [i1]
   refine wpAny_bind (h1 prog w _ _ ?_)
   have e1t:e1=true:=by simpa using he
   subst e1t
   wp_walk
   exact ⟨_,rfl,h⟩
section
variable {X:Cx}
noncomputable def Hh (K:WA):V->List V->Hp->VK->Prop:=fun x vs H Q=>∃(l:Addr) (a b k:V),x=.ref l/\vs=[k]/\SqT K H l [a,b]/\bW a=true/\bW b=true/\bW k=true/\(eqV a k || eqV b k)=true/\Q (.int (if eqV a k=true then 0 else 1)) H
theorem IC:MtR X "tuple.index" (Hh X.K):=by
 intro pins s σ H x vs v us Q I rx rv h
 obtain ⟨l,a,b,k,rfl,rfl,hq,fa,fb,fk,hk,q⟩:=h
 cases rx
 obtain ⟨u,rfl,ru⟩:=rv.one
 obtain ⟨its,r,pl,hz⟩:=I.tuple hq
 obtain ⟨u1,u2,rfl,r1,r2⟩:=r.two
 obtain ⟨⟨cls,dd,data,sl⟩,ho,hc,n,hd⟩:=id pl
 simp only at hc hd
 subst hc hd
 refine call_meets PySem.F.slot_tuple_index ⟨_,ho,rfl⟩ PySem.F.entry_tuple_index (PySem.F.args_tuple_index_2 _ _)
  (Cg l _ u1 u2 n dd sl u (eqV a k) (eqV b k) hk rfl rfl rfl) ⟨ho,wJ r1 ru fa fk,wJ r2 ru fb fk,?_⟩
 exact ⟨.int _,H,I.tok _,⟨_,rfl⟩,q⟩
noncomputable def Px (K:WA):R2:=fun x y H Q=>∃a b xs ys,x=.ref a/\y=.ref b/\SqT K H a xs/\SqT K H b ys/\xs.all bW=true/\ys.all bW=true/\Q (.bl (!eqL xs ys)) H
theorem LL {xs ys:List V}:((List.range (min xs.length ys.length)).all (fun j=>eqV (xs.getD j .non) (ys.getD j .non)) && xs.length == ys.length)=eqL xs ys:=by
 by_cases hl:xs.length=ys.length
 ·rw [show min xs.length ys.length=xs.length by omega,yE hl,hl]
  simp
 ·have e:eqL xs ys=false:=by
   cases z:eqL xs ys with
   | false=>rfl
   | true=>exact absurd (yD z) hl
  rw [e]
  simp [hl]
theorem Oo (hu:X.A.units < cLine):OpR X (compareOp .NotEq) (Px X.K):=by
 intro pins s σ H x y u v Q I rx ry h
 obtain ⟨a,b,xs,ys,rfl,rfl,ha,hb,fa,fb,q⟩:=h
 cases rx;cases ry
 obtain ⟨ia,ra,pa,za⟩:=I.tuple ha
 obtain ⟨ib,rb,pb,zb⟩:=I.tuple hb
 have la:=ra.length
 have lb:=rb.length
 refine RcNeAt.tuples (e:=fun j=>eqV (xs.getD j .non) (ys.getD j .non)) pa pb hu (fun j h1 h2=>?_) X.prog X.w _ _ ?_
 ·simp only [List.size_toArray] at h1 h2
  have hx:xs[j]?=some (xs.getD j .non):=by
   rw [List.getD_eq_getElem?_getD,List.getElem?_eq_getElem (by omega)];rfl
  have hy:ys[j]?=some (ys.getD j .non):=by
   rw [List.getD_eq_getElem?_getD,List.getElem?_eq_getElem (by omega)];rfl
  obtain ⟨u,eu,ru⟩:=ra.get hx
  obtain ⟨v,ev,rv⟩:=rb.get hy
  have e1:ia.toArray[j]=u:=by
   have:=List.getElem?_eq_some_iff.mp eu
   simpa using this.2
  have e2:ib.toArray[j]=v:=by
   have:=List.getElem?_eq_some_iff.mp ev
   simpa using this.2
  rw [e1,e2]
  exact wJ ru rv (List.all_eq_true.mp fa _ (List.mem_of_getElem? hx)) (List.all_eq_true.mp fb _ (List.mem_of_getElem? hy))
 ·have e:=LL (xs:=xs) (ys:=ys)
  simp only [List.size_toArray]
  rw [←la,←lb,e]
  exact ⟨.bl (!eqL xs ys),H,I,rfl,q⟩
end
end L2
namespace L2
open PySem PySem.Spec PyProof.Rows
inductive Eng where
 | no | wait (l r:Int) | armed (l r:Int) | other (l r s:Int) | used (l r:Int)
 deriving DecidableEq
noncomputable def mm:Eng->List V
 | .no=>[.str "not rung",.non,.non,.non]
 | .wait l r=>[.str "not repeated",.int l,.int r,.non]
 | .armed l r=>[.str "armed",.int l,.int r,.int r]
 | .other l r s=>[.str "repeated otherwise",.int l,.int r,.int s]
 | .used l r=>[.str "used up",.int l,.int r,.int r]
theorem wQ (e:Eng):∀x∈mm e,bW x=true:=by cases e<;>simp [mm,bW]
theorem Du (e:Eng):(mm e).length=4:=by cases e<;>rfl
theorem aD.free {p x:Addr}{H H':Hp}(k:aD p H H')(n:x≠p)(h:H' x=none):H x=none:=by
 cases e:H x with
 | none=>rfl
 | some o=>have:=k x o n e;rw [h] at this;cases this
theorem Oq {ls:List Cd}{n:Nat}:(ls.map fun _=>false).getD n false=false:=by
 rw [List.getD_eq_getElem?_getD,List.getElem?_map]
 cases ls[n]?<;>rfl
structure bO (C:Addr)(K:WA)(H:Hp)(b cs fl st:Addr)(ls:List Cd)(fs:List Bool)(e:Eng):Prop where
 ob:∃dx,H b=some (.ins C dx [("codes",.ref cs),("failed",.ref fl),("state",.ref st)])
 oc:∃as:List Addr,H cs=some (.lst (as.map V.ref))/\cV cdV K H as ls
 of:H fl=some (.lst (fs.map V.bl))
 os:SqT K H st (mm e)
 nn:cs≠fl
 ln:fs.length=ls.length
theorem bO.rows {C:Addr}{K:WA}{H:Hp}{b cs fl st:Addr}{ls:List Cd}{fs:List Bool}{e:Eng}(h:bO C K H b cs fl st ls fs e):j1 cdV K H cs ls:=by
 obtain ⟨as,a,t⟩:=h.oc
 exact ⟨as,SqL.of a,t⟩
theorem bO.same {C:Addr}{K:WA}{H H':Hp}{b cs fl st:Addr}{ls:List Cd}{fs:List Bool}{e:Eng}(h:bO C K H b cs fl st ls fs e)(s:aw H H'):bO C K H' b cs fl st ls fs e:=by
 obtain ⟨⟨dx,a⟩,⟨as,c,t⟩,f,g,n,l⟩:=h
 exact ⟨⟨dx,s _ _ a⟩,⟨as,s _ _ c,t.same s⟩,s _ _ f,s.tup g,n,l⟩
theorem bO.state {C:Addr}{K:WA}{H H':Hp}{b cs fl st st' dx:Addr}{ls:List Cd}{fs:List Bool}{e e':Eng}(h:bO C K H b cs fl st ls fs e)(k:aD b H H')
  (a:H' b=some (.ins C dx [("codes",.ref cs),("failed",.ref fl),("state",.ref st')])) (g:SqT K H' st' (mm e')):bO C K H' b cs fl st' ls fs e':=by
 obtain ⟨⟨dx0,a0⟩,⟨as,c,t⟩,f,_,n,l⟩:=h
 exact ⟨⟨dx,a⟩,⟨as,k _ _ (fun z=>by rw [z,a0] at c;cases c) c,t.keepI k a0⟩,k _ _ (fun z=>by rw [z,a0] at f;cases f) f,g,n,l⟩
theorem bO.fail {C:Addr}{K:WA}{H H':Hp}{b cs fl st:Addr}{ls:List Cd}{fs fs':List Bool}{e:Eng}(h:bO C K H b cs fl st ls fs e)(k:aD fl H H')(g:H' fl=some (.lst (fs'.map V.bl)))(hl:fs'.length=fs.length):bO C K H' b cs fl st ls fs' e:=by
 obtain ⟨⟨dx0,a0⟩,⟨as,c,t⟩,f,o,n,l⟩:=h
 exact ⟨⟨dx0,k _ _ (fun z=>by rw [z,f] at a0;cases a0) a0⟩,⟨as,k _ _ n c,t.keep k f⟩,g,o.keep k f,n,hl.trans l⟩
noncomputable def eN (ls:List Cd)(l:Int):Cd:=ls.getD l.toNat (0,0)
noncomputable def cM (ls:List Cd)(l:Int)(k:Str):Int:=if k="men" then (eN ls l).1 else (eN ls l).2
theorem mn {K:WA}{H:Hp}{as:List Addr}{ls:List Cd}{l:Int}(t:cV cdV K H as ls)(h0:0<=l)(h1:l < ls.length):∃a,atI (as.map V.ref) l=some (.ref a)/\SqT K H a (cdV (eN ls l)):=by
 obtain ⟨n,rfl⟩:=Int.eq_ofNat_of_zero_le h0
 have hn:n < ls.length:=by omega
 have ha:as[n]?=some (as[n]'(by rw [t.1];exact hn)):=List.getElem?_eq_getElem _
 refine ⟨as[n]'(by rw [t.1];exact hn),aU (by rw [List.getElem?_map,ha];rfl),t.2 n _ _ ha ?_⟩
 rw [eN,Int.toNat_natCast,List.getD_eq_getElem?_getD,List.getElem?_eq_getElem hn];rfl
theorem fB {fs:List Bool}{l:Int}(h0:0<=l)(h1:l < fs.length):atI (fs.map V.bl) l=some (.bl (fs.getD l.toNat false)):=by
 obtain ⟨n,rfl⟩:=Int.eq_ofNat_of_zero_le h0
 have hn:n < fs.length:=by omega
 refine aU ?_
 rw [List.getElem?_map,List.getElem?_eq_getElem hn,Int.toNat_natCast,List.getD_eq_getElem?_getD,List.getElem?_eq_getElem hn];rfl
noncomputable def lvl (ds:List Int)(d:Int):Option Int:=if d∈ds then some (ds.idxOf d:Nat) else none
noncomputable def lvV:Option Int->V
 | none=>.non
 | some i=>.int i
theorem iO {ds:List Int}(h:cD ds){i:Nat}{d:Int}(hi:i < ds.length)(e:ds.getD i 0=d):lvl ds d=some (i:Int):=by
 have hm:d∈ds:=e▸dq hi
 rw [lvl,if_pos hm]
 have hlt:=List.idxOf_lt_length_iff.mpr hm
 have e2:ds.getD (ds.idxOf d) 0=d:=by
  rw [List.getD_eq_getElem?_getD,List.getElem?_eq_getElem hlt]
  exact List.getElem_idxOf hlt
 have:ds.idxOf d=i:=by
  rcases Nat.lt_trichotomy (ds.idxOf d) i with z | z | z
  ·have:=h.lt z hi;omega
  ·exact z
  ·have:=h.lt z hlt;omega
 rw [this]
theorem Dv {ds:List Int}{d:Int}(h:∀i,i < ds.length->ds.getD i 0≠d):lvl ds d=none:=by
 rw [lvl,if_neg fun hm=>?_]
 have hlt:=List.idxOf_lt_length_iff.mpr hm
 refine h _ hlt ?_
 rw [List.getD_eq_getElem?_getD,List.getElem?_eq_getElem hlt]
 exact List.getElem_idxOf hlt
noncomputable def bQ (ds:List Int)(p c:Int):Option Int:=if c=0 then lvl ds p else lvl ds (cG ds - p)
inductive Stp where
 | wind (c l:Int) | load (k c:Int) | unload (k c:Int)
noncomputable def Py (lv:Option Int)(x:List Int):Stp->Option (List Int)
 | .wind _ _=>none
 | .load k c=>match lv with | none=>none | some l=>if x.getD (k.toNat+1) 0=l/\¬10+c∈x.tail then some (x.set (k.toNat+1) (10+c)) else none
 | .unload k c=>match lv with | none=>none | some l=>if x.getD (k.toNat+1) 0=10+c then some (x.set (k.toNat+1) l) else none
noncomputable def Ot:Stp->Int
 | .wind c _=>c
 | .load _ c=>c
 | .unload _ c=>c
noncomputable def stK:Stp->Int
 | .wind _ _=>0
 | .load k _=>k
 | .unload k _=>k
noncomputable def after (ds dead:List Int)(x:List Int):Stp->Option (List Int)
 | .wind c l=>if l < 0\/(ds.length:Int)<=l\/l∈dead then none else some ((if c=0 then ds.getD l.toNat 0 else cG ds - ds.getD l.toNat 0)::x.tail)
 | s=>if stK s < 0\/(x.length:Int)<=stK s+1 then none else Py (bQ ds (x.getD 0 0) (Ot s)) x s
theorem Pz {K:WA}{H:Hp}{Q:VK}{a b:Addr}{xs ys:List V}(ha:SqT K H a xs)(hb:SqT K H b ys)(n0:xs≠[])(hn:xs.length+ys.length<=1000)(q:∀p H',aw H H'->SqT K H' p (xs++ys)->Q (.ref p) H'):Nb K (.ref a) (.ref b) H Q:=by
 refine ⟨a,b,xs,ys,rfl,rfl,ha,hb,n0,Nat.le_of_lt (dE hn),fun e=>?_,fun _ p hp=>q p _ ((aw.refl H).lay hp) (SqT.of ah)⟩
 subst e
 exact q a H (aw.refl H) (by rw [List.append_nil];exact ha)
theorem oS {K:WA}{H:Hp}{a:Addr}{xs:List Int}{n:Nat}(h:SqL K H a (xs.map V.int))(hb:xs.length<=100000):Rep K H (n+1) (.ref a) (.lst ((xs.map V.int).map Dt.flat)):=by
 refine .lst h (by rw [WB];exact hb) (by simp) fun i y d e1 e2=>?_
 rw [List.getElem?_map,e1] at e2
 cases e2
 obtain ⟨z,rfl,_⟩:=ml e1
 exact .flat rfl
theorem Dw {K:WA}{H:Hp}{a:Addr}{x y:V}{d e:Dt}{n:Nat}(h:SqL K H a [x,y])(h1:Rep K H n x d)(h2:Rep K H n y e):Rep K H (n+1) (.ref a) (.lst [d,e]):=by
 refine .lst h (by show 2<=100000;decide) rfl fun i v w e1 e2=>?_
 match i,e1,e2 with
 | 0,e1,e2=>cases e1;cases e2;exact h1
 | 1,e1,e2=>cases e1;cases e2;exact h2
 | i+2,e1,e2=>simp at e1
section
variable {X:Cx}
noncomputable def Ni (K:WA):R2:=fun x y H Q=>∃a b xs ys,x=.ref a/\y=.ref b/\SqT K H a xs/\SqT K H b ys/\xs.length+ys.length<=1000/\∀p H',aw H H'->SqT K H' p (xs++ys)->Q (.ref p) H'
theorem LM:OpR X (binaryOp .Add) (Ni X.K):=by
 intro pins s σ H x y v u Q I rx ry h
 obtain ⟨a,b,xs,ys,rfl,rfl,ha,hb,hz,q⟩:=h
 by_cases hx:xs=[]
 ·subst hx
  cases rx
  cases ry
  obtain ⟨its,r1,p1,_⟩:=I.tuple ha
  obtain ⟨its2,r2,p2,_⟩:=I.tuple hb
  have e1:=r1.zero
  subst e1
  obtain ⟨⟨cls,dd,data,sl⟩,ho,hc,n,hd⟩:=id p1
  obtain ⟨⟨cls2,dd2,data2,sl2⟩,ho2,hc2,n2,hd2⟩:=id p2
  simp only at hc hd hc2 hd2
  subst hc hd hc2 hd2
  exact concat_meets ⟨_,ho,rfl⟩ ⟨_,ho2,rfl⟩ noFill_tuple_add seq_tuple_add PySem.F.slot_tuple_add PySem.F.entry_tuple_add (PySem.F.args_tuple_add_2 _ _)
   (tuple_addW0 a b _ its2.toArray n n2 dd dd2 sl sl2 rfl) ⟨ho,ho2,⟨.ref b,H,I,rfl,q b H (aw.refl H) hb⟩⟩
 ·exact G2 pins s σ H _ _ v u Q I rx ry (Pz ha hb hx hz q)
end
theorem J3:∀{xs ys:List Int},xs.Pairwise (· < ·)->ys.Pairwise (· < ·)->(∀k,k∈xs↔k∈ys)->xs=ys
 | [],[],_,_,_=>rfl
 | [],y::ys,_,_,h=>absurd ((h y).mpr List.mem_cons_self) (by simp)
 | x::xs,[],_,_,h=>absurd ((h x).mp List.mem_cons_self) (by simp)
 | x::xs,y::ys,hx,hy,h=>by
  obtain ⟨x1,x2⟩:=List.pairwise_cons.mp hx
  obtain ⟨y1,y2⟩:=List.pairwise_cons.mp hy
  have e:x=y:=by
   rcases List.mem_cons.mp ((h x).mp List.mem_cons_self) with e | e
   ·exact e
   ·rcases List.mem_cons.mp ((h y).mpr List.mem_cons_self) with e' | e'
    ·exact e'.symm
    ·have:=y1 x e
     have:=x1 y e'
     omega
  subst e
  rw [J3 x2 y2 fun k=>?_]
  constructor
  ·intro hk
   rcases List.mem_cons.mp ((h k).mp (List.mem_cons_of_mem _ hk)) with e | e
   ·have:=x1 k hk
    omega
   ·exact e
  ·intro hk
   rcases List.mem_cons.mp ((h k).mpr (List.mem_cons_of_mem _ hk)) with e | e
   ·have:=y1 k hk
    omega
   ·exact e
structure Cl where
 (B Y S K W:Addr)
structure bh where
 place:Int
 gates:List Bool
 fs:List Bool
 e:Eng
 ws:List Int
structure Cfg where
 ds:List Int
 ls:List Cd
 slow:Int
 fast:Int
 goals:List Int
 ks:List Str
 N:Addr->Prop:=fun _=>False
structure SA where
 (dx ol b cs fl st y kn wh:Addr)
structure PB (rl:Addr)(A:SA):Prop where
 r1:A.ol≠rl
 r2:A.cs≠rl
 r3:A.fl≠rl
 r4:A.kn≠rl
 r5:A.wh≠rl
 o1:A.cs≠A.ol
 o2:A.fl≠A.ol
 o3:A.kn≠A.ol
 o4:A.wh≠A.ol
 f1:A.ol≠A.fl
 f2:A.kn≠A.fl
 f3:A.wh≠A.fl
 w1:A.ol≠A.wh
 w2:A.cs≠A.wh
 w3:A.fl≠A.wh
 w4:A.kn≠A.wh
structure Off (H:Hp)(rl:Addr)(N:Addr->Prop)(A:SA):Prop where
 al:∀p,N p->∃ys,H p=some (.lst ys)
 nr:∀p,N p->rl≠p
 no:∀p,N p->A.ol≠p
 nc:∀p,N p->A.cs≠p
 nf:∀p,N p->A.fl≠p
 nk:∀p,N p->A.kn≠p
 nw:∀p,N p->A.wh≠p
theorem Off.keep {H H':Hp}{rl q:Addr}{N:Addr->Prop}{A:SA}(h:Off H rl N A)(k:aD q H H')(hq:∀p,N p->q≠p):Off H' rl N A:=⟨fun p hp=>by
 obtain ⟨ys,e⟩:=h.al p hp
 exact ⟨ys,k _ _ (hq p hp).symm e⟩,h.nr,h.no,h.nc,h.nf,h.nk,h.nw⟩
theorem Off.same {H H':Hp}{rl:Addr}{N:Addr->Prop}{A:SA}(h:Off H rl N A)(k:aw H H'):Off H' rl N A:=⟨fun p hp=>by
 obtain ⟨ys,e⟩:=h.al p hp
 exact ⟨ys,k _ _ e⟩,h.nr,h.no,h.nc,h.nf,h.nk,h.nw⟩
theorem Off.keepI {H H':Hp}{rl q C dx:Addr}{fs:List (Str×V)}{N:Addr->Prop}{A:SA}(h:Off H rl N A)(k:aD q H H')(hq:H q=some (.ins C dx fs)):Off H' rl N A:=h.keep k fun p hp z=>by
 obtain ⟨ys,e⟩:=h.al p hp
 rw [←z,hq] at e
 cases e
structure bt (C:Cl)(K:WA)(H:Hp)(rl:Addr)(g:Cfg)(s:Addr)(A:SA)(n:bh):Prop where
 ob:H s=some (.ins C.S A.dx [("place",.int n.place),("opened",.ref A.ol),("bells",.ref A.b),("yard",.ref A.y)])
 go:H A.ol=some (.lst (n.gates.map V.bl))
 be:bO C.B K H A.b A.cs A.fl A.st g.ls n.fs n.e
 ya:dB C.Y H A.y A.kn A.wh g.ks n.ws g.ds.length
 ap:PB rl A
 nn:Off H rl g.N A
def eK (C:Cl)(K:WA)(H:Hp)(rl:Addr)(g:Cfg)(s:Addr)(n:bh):Prop:=∃A,bt C K H rl g s A n
theorem bO.off {C:Addr}{K:WA}{H H':Hp}{p b cs fl st:Addr}{ls:List Cd}{fs:List Bool}{e:Eng}{ys:List V}(h:bO C K H b cs fl st ls fs e)(s:aD p H H')(hp:H p=some (.lst ys))(n1:cs≠p)(n2:fl≠p):bO C K H' b cs fl st ls fs e:=by
 obtain ⟨⟨dx,a⟩,⟨as,c,t⟩,f,g,n,l⟩:=h
 exact ⟨⟨dx,s _ _ (fun z=>by rw [z,hp] at a;cases a) a⟩,⟨as,s _ _ n1 c,t.keep s hp⟩,s _ _ n2 f,g.keep s hp,n,l⟩
theorem bO.offI {C D dp:Addr}{K:WA}{H H':Hp}{p b cs fl st:Addr}{ls:List Cd}{fs:List Bool}{e:Eng}{us:List (Str×V)}(h:bO C K H b cs fl st ls fs e)(s:aD p H H')(hp:H p=some (.ins D dp us))(n1:b≠p):bO C K H' b cs fl st ls fs e:=by
 obtain ⟨⟨dx,a⟩,⟨as,c,t⟩,f,g,n,l⟩:=h
 exact ⟨⟨dx,s _ _ n1 a⟩,⟨as,s _ _ (fun z=>by rw [z,hp] at c;cases c) c,t.keepI s hp⟩,s _ _ (fun z=>by rw [z,hp] at f;cases f) f,g.keepI s hp,n,l⟩
theorem dB.offI {C D dp:Addr}{H H':Hp}{p y kn wh:Addr}{ks:List Str}{ws:List Int}{m:Int}{us:List (Str×V)}(h:dB C H y kn wh ks ws m)(s:aD p H H')(hp:H p=some (.ins D dp us))(n1:y≠p):dB C H' y kn wh ks ws m:=by
 obtain ⟨⟨dx,a⟩,b,c⟩:=h
 exact ⟨⟨dx,s _ _ n1 a⟩,s _ _ (fun z=>by rw [z,hp] at b;cases b) b,s _ _ (fun z=>by rw [z,hp] at c;cases c) c⟩
section
variable {C:Cl}{K:WA}{H H':Hp}{rl s a w bk:Addr}{g:Cfg}{A:SA}{n n0:bh}
theorem bt.same (h:bt C K H rl g s A n)(e:aw H H'):bt C K H' rl g s A n:=⟨e _ _ h.ob,e _ _ h.go,h.be.same e,h.ya.same e,h.ap,h.nn.same e⟩
theorem bt.keep {ys:List V}(h:bt C K H rl g s A n)(e:aD rl H H')(hr:H rl=some (.lst ys)):bt C K H' rl g s A n:=
 ⟨e _ _ (fun z=>by have:=h.ob;rw [z,hr] at this;cases this) h.ob,e _ _ h.ap.r1 h.go,h.be.off e hr h.ap.r2 h.ap.r3,h.ya.off e hr h.ap.r4 h.ap.r5,h.ap,h.nn.keep e h.nn.nr⟩
theorem bt.at (h:bt C K H rl g s A n):eK C K H rl g s n:=⟨A,h⟩
theorem eK.same (h:eK C K H rl g s n)(e:aw H H'):eK C K H' rl g s n:=by
 obtain ⟨A,h⟩:=h
 exact ⟨A,h.same e⟩
theorem eK.keep {ys:List V}(h:eK C K H rl g s n)(e:aD rl H H')(hr:H rl=some (.lst ys)):eK C K H' rl g s n:=by
 obtain ⟨A,h⟩:=h
 exact ⟨A,h.keep e hr⟩
theorem bt.gates (h:bt C K H rl g s A n)(e:aD A.ol H H'){gs:List Bool}(hg:H' A.ol=some (.lst (gs.map V.bl))):bt C K H' rl g s A {n with gates:=gs}:=
 ⟨e _ _ (fun z=>by have:=h.ob;rw [z,h.go] at this;cases this) h.ob,hg,h.be.off e h.go h.ap.o1 h.ap.o2,h.ya.off e h.go h.ap.o3 h.ap.o4,h.ap,h.nn.keep e h.nn.no⟩
structure Row where
 began:Int
 ended:Int
 deed:List V
 speed:Int
 sn:bh
def uY (C:Cl)(K:WA)(H:Hp)(rl:Addr)(g:Cfg)(a:Addr)(r:Row):Prop:=∃dd s,SqT K H a [.int r.began,.int r.ended,.ref dd,.int r.speed,.ref s]/\SqT K H dd r.deed/\eK C K H rl g s r.sn
theorem uY.same {r:Row}(h:uY C K H rl g a r)(e:aw H H'):uY C K H' rl g a r:=by
 obtain ⟨dd,s,h1,h2,h3⟩:=h
 exact ⟨dd,s,e.tup h1,e.tup h2,h3.same e⟩
theorem uY.keep {r:Row}{ys:List V}(h:uY C K H rl g a r)(e:aD rl H H')(hr:H rl=some (.lst ys)):uY C K H' rl g a r:=by
 obtain ⟨dd,s,h1,h2,h3⟩:=h
 exact ⟨dd,s,h1.keep e hr,h2.keep e hr,h3.keep e hr⟩
def wR (C:Cl)(K:WA)(H:Hp)(rl:Addr)(g:Cfg)(as:List Addr)(rs:List Row):Prop:=as.length=rs.length/\∀(i:Nat) a r,as[i]?=some a->rs[i]?=some r->uY C K H rl g a r
theorem wR.same {as:List Addr}{rs:List Row}(h:wR C K H rl g as rs)(e:aw H H'):wR C K H' rl g as rs:=⟨h.1,fun i a r e1 e2=>(h.2 i a r e1 e2).same e⟩
theorem wR.keep {as:List Addr}{rs:List Row}{ys:List V}(h:wR C K H rl g as rs)(e:aD rl H H')(hr:H rl=some (.lst ys)):wR C K H' rl g as rs:=⟨h.1,fun i a r e1 e2=>(h.2 i a r e1 e2).keep e hr⟩
theorem wR.push {as:List Addr}{rs:List Row}{r:Row}(h:wR C K H rl g as rs)(hr:uY C K H rl g a r):wR C K H rl g (as++[a]) (rs++[r]):=by
 refine ⟨by rw [List.length_append,List.length_append,h.1];rfl,fun i b x e1 e2=>?_⟩
 by_cases hi:i < as.length
 ·rw [List.getElem?_append_left hi] at e1
  rw [List.getElem?_append_left (by rw [←h.1];exact hi)] at e2
  exact h.2 i b x e1 e2
 ·rw [List.getElem?_append_right (by omega)] at e1
  rw [List.getElem?_append_right (by rw [←h.1];omega),←h.1] at e2
  have hz:i - as.length=0:=by
   have:=(List.getElem?_eq_some_iff.mp e1).1
   simp at this
   omega
  rw [hz] at e1 e2
  cases e1
  cases e2
  exact hr
noncomputable def ao (n0:bh)(rs:List Row):bh:=match rs.getLast? with | none=>n0 | some r=>r.sn
noncomputable def dw (rs:List Row):Int:=match rs.getLast? with | none=>0 | some r=>r.ended
structure BAt (C:Cl)(K:WA)(H:Hp)(bk rl:Addr)(g:Cfg)(n0:bh)(rs:List Row):Prop where
 ob:∃dx f,H bk=some (.ins C.K dx [("first",.ref f),("most",.int 300),("rows",.ref rl)])/\eK C K H rl g f n0
 ro:∃as,H rl=some (.lst (as.map V.ref))/\wR C K H rl g as rs
theorem BAt.same {rs:List Row}(h:BAt C K H bk rl g n0 rs)(e:aw H H'):BAt C K H' bk rl g n0 rs:=by
 obtain ⟨⟨dx,f,h1,h2⟩,as,h3,h4⟩:=h
 exact ⟨⟨dx,f,e _ _ h1,h2.same e⟩,as,e _ _ h3,h4.same e⟩
structure WAt (C:Cl)(K:WA)(H:Hp)(w bk rl:Addr)(g:Cfg)(n0:bh)(rs:List Row):Prop where
 ob:∃dx dl gl,H w=some (.ins C.W dx [("depths",.ref dl),("slow",.int g.slow),("fast",.int g.fast),("goals",.ref gl),("log",.ref bk)])/\H dl=some (.lst (g.ds.map V.int))/\H gl=some (.lst (g.goals.map V.int))/\dl≠rl/\gl≠rl/\(∀p,g.N p->dl≠p)/\∀p,g.N p->gl≠p
 bo:BAt C K H bk rl g n0 rs
theorem WAt.same {rs:List Row}(h:WAt C K H w bk rl g n0 rs)(e:aw H H'):WAt C K H' w bk rl g n0 rs:=by
 obtain ⟨⟨dx,dl,gl,h1,h2,h3,h4⟩,h5⟩:=h
 exact ⟨⟨dx,dl,gl,e _ _ h1,e _ _ h2,e _ _ h3,h4⟩,h5.same e⟩
theorem WAt.keep {rs rs':List Row}{ys:List V}(h:WAt C K H w bk rl g n0 rs)(e:aD rl H H')(hr:H rl=some (.lst ys))(hb:BAt C K H' bk rl g n0 rs'):WAt C K H' w bk rl g n0 rs':=by
 obtain ⟨⟨dx,dl,gl,h1,h2,h3,h4,h6⟩,h5⟩:=h
 exact ⟨⟨dx,dl,gl,e _ _ (fun z=>by rw [z,hr] at h1;cases h1) h1,e _ _ h4 h2,e _ _ h6.1 h3,h4,h6⟩,hb⟩
end
theorem dM {α:Type}(l:List α):l=[]\/∃l' a,l=l'++[a]:=by
 rcases List.eq_nil_or_concat l with h | ⟨l',a,h⟩
 ·exact .inl h
 ·exact .inr ⟨l',a,by rw [h,List.concat_eq_append]⟩
theorem wR.last {C:Cl}{K:WA}{H:Hp}{rl:Addr}{g:Cfg}{as:List Addr}{rs:List Row}{r:Row}(h:wR C K H rl g as (rs++[r])):∃as' a,as=as'++[a]/\wR C K H rl g as' rs/\uY C K H rl g a r:=by
 have hl:=h.1
 rw [List.length_append,List.length_singleton] at hl
 rcases dM as with rfl | ⟨as',a,rfl⟩
 ·cases hl
 ·have hl':as'.length=rs.length:=by rw [List.length_append,List.length_singleton] at hl;omega
  refine ⟨as',a,rfl,⟨hl',fun i b x e1 e2=>?_⟩,?_⟩
  ·have hi:=(List.getElem?_eq_some_iff.mp e1).1
   exact h.2 i b x (by rw [List.getElem?_append_left hi];exact e1) (by rw [List.getElem?_append_left (by omega)];exact e2)
  ·refine h.2 as'.length a r ?_ ?_
   ·rw [List.getElem?_append_right (Nat.le_refl _)];simp
   ·rw [List.getElem?_append_right (by omega),hl'];simp
theorem Bt {as:List Addr}{a:Addr}:atI ((as++[a]).map V.ref) (((as++[a]).map V.ref).length - 1:Int)=some (.ref a):=by
 rw [show ((((as++[a]).map V.ref).length:Int) - 1)=((as.length:Nat):Int) by rw [WB,List.length_append];simp]
 exact aU (by rw [List.map_append,List.getElem?_append_right (by rw [WB];exact Nat.le_refl _),WB];simp)
theorem wU (rs:List Row)(r:Row):dw (rs++[r])=r.ended:=by simp [dw]
theorem oU (n0:bh)(rs:List Row)(r:Row):ao n0 (rs++[r])=r.sn:=by simp [ao]
theorem gM {H H':Hp}{x dx:Addr}{o1 o2:HO}(hx:H x=none)(hdx:H dx=none)(kp:aD x (upd (upd H dx o1) x o2) H'):aw H H':=fun b o e=>kp b o (av e hx) (by rw [aL (av e hx),aL (av e hdx)];exact e)
theorem fS {H:Hp}{x dx z:Addr}{o1 o2:HO}(h:upd (upd H dx o1) x o2 z=none):H z=none:=upn (upn h)
noncomputable def Dx (ks:List Str)(ws:List Int):Bool:=(ks.zip ws).any fun p=>decide (p.1="men") && decide (p.2=10\/p.2=11)
theorem Bu {ks:List Str}{ws:List Int}{i:Nat}(h:∀j k x,j < i->ks[j]?=some k->ws[j]?=some x->(decide (k="men") && decide (x=10\/x=11))=false)(hi:ks.length<=i\/ws.length<=i):Dx ks ws=false:=by
 unfold Dx
 rw [List.any_eq_false]
 intro p hp
 obtain ⟨j,hj⟩:=List.getElem?_of_mem hp
 rw [List.getElem?_zip_eq_some] at hj
 have h1:=(List.getElem?_eq_some_iff.mp hj.1).1
 have h2:=(List.getElem?_eq_some_iff.mp hj.2).1
 rw [h j p.1 p.2 (by omega) hj.1 hj.2]
 exact Bool.false_ne_true
theorem Dy {ks:List Str}{ws:List Int}{i:Nat}{k:Str}{x:Int}(h1:ks[i]?=some k)(h2:ws[i]?=some x)(hk:k="men")(hx:x=10\/x=11):Dx ks ws=true:=by
 unfold Dx
 rw [List.any_eq_true]
 refine ⟨(k,x),List.mem_of_getElem? (i:=i) (by rw [List.getElem?_zip_eq_some];exact ⟨h1,h2⟩),?_⟩
 simp [hk,hx]
theorem Bv (x:Int):inV (.int x) [.int 10,.int 11]=decide (x=10\/x=11):=by
 have:=iq x [10,11]
 rw [show ([10,11]:List Int).map V.int=[V.int 10,V.int 11] from rfl] at this
 rw [this]
 simp
noncomputable def inC (ws:List Int)(c:Int):V:=if 10+c∈ws then .int (ws.idxOf (10+c):Nat) else .non
noncomputable def AA (ws:List Int)(lv:Int)(i:Nat):List Int:=((List.range i).filter fun j=>decide (ws.getD j 0=lv)).map fun (j:Nat)=>(j:Int)
noncomputable def iP (ws:List Int)(lv:Int):List Int:=AA ws lv ws.length
theorem ID (ws:List Int)(lv:Int)(i:Nat):AA ws lv (i+1)=AA ws lv i++(if ws.getD i 0=lv then [(i:Int)] else []):=by
 unfold AA
 rw [List.range_succ,List.filter_append,List.map_append]
 by_cases h:ws.getD i 0=lv
 ·rw [if_pos h,List.filter_cons,if_pos (by simpa using h)];rfl
 ·rw [if_neg h,List.filter_cons,if_neg (by simpa using h)];rfl
theorem Dz (ws:List Int)(lv:Int)(i:Nat):(AA ws lv i).length<=i:=by
 unfold AA
 rw [WB]
 exact Nat.le_trans (List.length_filter_le _ _) (by rw [List.length_range];exact Nat.le_refl _)
noncomputable def ir (ds:List Int)(pl:Int):List Int:=((List.range ds.length).filter fun i=>decide (ds.getD i 0=pl\/ds.getD i 0=cG ds - pl)).map fun (i:Nat)=>(i:Int)
structure fg (g:Cfg):Prop where
 sh:cD g.ds
 lc:g.ls.length=g.ds.length
 gc:∀x∈g.ls,eZ x
 s1:1<=g.slow
 sf:g.slow<=g.fast
 f5:g.fast<=500
 gk:g.goals.length=g.ks.length
 k30:g.ks.length<=30
noncomputable def fT (g:Cfg)(n:bh):Int:=if Dx g.ks n.ws=true then g.slow else g.fast
theorem fg.speed {g:Cfg}(h:fg g)(n:bh):1<=fT g n/\fT g n<=500:=by
 have:=h.s1;have:=h.sf;have:=h.f5
 unfold fT;split<;>omega
inductive Dd where
 | ring (l s:Int) | rept (s:Int) | opn (l:Int) | sht (l:Int) | load (k c:Int) | unload (c:Int) | wind (c l:Int) (k:Str) | fail (l:Int)
noncomputable def ddV:Dd->List V
 | .ring l s=>[.str "ring",.int l,.int s]
 | .rept s=>[.str "repeat",.int s]
 | .opn l=>[.str "open",.int l]
 | .sht l=>[.str "shut",.int l]
 | .load k c=>[.str "load",.int k,.int c]
 | .unload c=>[.str "unload",.int c]
 | .wind c l k=>[.str "wind",.int c,.int l,.str k]
 | .fail l=>[.str "fail",.int l]
theorem yZ (d:Dd):∀x∈ddV d,bW x=true:=by
 cases d<;>intro x hx<;>simp only [ddV,List.mem_cons,List.not_mem_nil,or_false] at hx<;>rcases hx with h | h | h | h<;>(try subst h)<;>(try rfl)<;>simp_all [bW]
theorem Hi (d:Dd):(ddV d).length<=4:=by cases d<;>simp [ddV]
noncomputable def uZ:Dd->Prop
 | .load _ c=>0<=c/\c < 2
 | .unload c=>0<=c/\c < 2
 | .wind c _ k=>(0<=c/\c < 2)/\(k="men"\/k="coal")
 | _=>True
inductive Rw where
 | lv | db | nc | nr | ch | na | ul | nt | ct | gs | ce | go
 deriving DecidableEq
def unk (l:Int)(m:Nat):Prop:=¬(0<=l/\l < m)
instance (l:Int) (m:Nat):Decidable (unk l m):=inferInstanceAs (Decidable (¬_))
noncomputable def eR (g:Cfg)(n:bh):Bool:=(ir g.ds n.place).any fun x=>n.gates.getD x.toNat false
noncomputable def cJ (g:Cfg)(n:bh):Dd->Option Rw
 | .ring l s=>if unk l g.ds.length then some .lv else if n.fs.getD l.toNat false=true then some .db else if s=(eN g.ls l).1\/s=(eN g.ls l).2 then none else some .nc
 | .rept s=>match n.e with | .wait _ _=>if 1<=s/\s<=9 then none else some .nc | _=>some .nr
 | .opn l=>if unk l g.ds.length then some .lv else if n.gates.getD l.toNat false=true then some .ch else none
 | .sht l=>if unk l g.ds.length then some .lv else if n.gates.getD l.toNat false=false then some .ch else none
 | .load k c=>if unk k n.ws.length then some .ul else match bQ g.ds n.place c with
  | none=>some .nt
  | some l=>if n.ws.getD k.toNat 0≠l then some .nt else if 10+c∈n.ws then some .ct else if n.gates.getD l.toNat false=true then none else some .gs
 | .unload c=>if ¬10+c∈n.ws then some .ce else match bQ g.ds n.place c with
  | none=>some .nt
  | some l=>if n.gates.getD l.toNat false=true then none else some .gs
 | .wind _ l k=>if unk l g.ds.length then some .lv else if eR g n=true then some .go else if n.e=.armed l (cM g.ls l k) then none else some .na
 | .fail l=>if unk l g.ds.length then some .lv else if n.fs.getD l.toNat false=true then some .ch else none
noncomputable def gO (ds:List Int)(c l:Int):Int:=if c=0 then ds.getD l.toNat 0 else cG ds - ds.getD l.toNat 0
noncomputable def y0 (g:Cfg)(n:bh):Dd->Eng
 | .ring l s=>.wait l s
 | .rept s=>match n.e with | .wait l r=>if s=r then .armed l r else .other l r s | e=>e
 | .wind _ l k=>.used l (cM g.ls l k)
 | _=>n.e
noncomputable def di (g:Cfg)(n:bh)(d:Dd):bh:=
 {place:=match d with | .wind c l _=>gO g.ds c l | _=>n.place
  gates:=match d with | .opn l=>n.gates.set l.toNat true | .sht l=>n.gates.set l.toNat false | _=>n.gates
  fs:=match d with | .fail l=>n.fs.set l.toNat true | _=>n.fs
  e:=y0 g n d
  ws:=match d with | .load k c=>n.ws.set k.toNat (10+c) | .unload c=>n.ws.set (n.ws.idxOf (10+c)) ((bQ g.ds n.place c).getD (-1)) | _=>n.ws}
noncomputable def Qh (x:Int):Int:=if x < 0 then -x else x
noncomputable def Ci (way sp:Int):Int:=(way+sp - 1) / sp
noncomputable def oV (g:Cfg)(n:bh):Dd->Int
 | .wind c l _=>Ci (Qh (gO g.ds c l - n.place)) (fT g n)
 | _=>1
noncomputable def u4 (g:Cfg)(n0:bh)(rs:List Row)(d:Dd):Row:=⟨dw rs,dw rs+oV g (ao n0 rs) d,ddV d,fT g (di g (ao n0 rs) d),di g (ao n0 rs) d⟩
structure df (g:Cfg)(n:bh):Prop where
 gl:n.gates.length=g.ds.length
 fl:n.fs.length=g.ds.length
 wl:n.ws.length=g.ks.length
 wr:∀x∈n.ws,(0<=x/\x < g.ds.length)\/x=10\/x=11
 un:∀i j,i < n.ws.length->j < n.ws.length->10<=n.ws.getD i 0->n.ws.getD i 0=n.ws.getD j 0->i=j
 st:∃c,(c=0\/c=1)/\∃l,bQ g.ds n.place c=some l
 ew:∀l r,n.e=.wait l r\/n.e=.armed l r->0<=l/\l < g.ds.length/\(r=(eN g.ls l).1\/r=(eN g.ls l).2)
theorem rd (ws:List Int)(n i:Nat)(v:Int)(hi:i < ws.length):(ws.set n v).getD i 0=if n=i then v else ws.getD i 0:=by
 rw [List.getD_eq_getElem?_getD,List.getD_eq_getElem?_getD,List.getElem?_set]
 split
 ·rename_i e
  subst e
  rw [if_pos hi];rfl
 ·rfl
theorem DA {ds:List Int}{d l:Int}(h:lvl ds d=some l):0<=l/\l < ds.length/\ds.getD l.toNat 0=d:=by
 unfold lvl at h
 split at h
 ·rename_i hm
  cases h
  have hlt:=List.idxOf_lt_length_iff.mpr hm
  refine ⟨Int.natCast_nonneg _,by omega,?_⟩
  rw [Int.toNat_natCast,List.getD_eq_getElem?_getD,List.getElem?_eq_getElem hlt]
  exact List.getElem_idxOf hlt
 ·cases h
theorem dz {ds:List Int}{p c l:Int}(h:bQ ds p c=some l):0<=l/\l < ds.length/\ds.getD l.toNat 0=(if c=0 then p else cG ds - p):=by
 unfold bQ at h
 split at h
 ·rename_i e;rw [if_pos e];exact DA h
 ·rename_i e;rw [if_neg e];exact DA h
theorem wV {ws:List Int}{k:Int}(h:k∈ws):ws.idxOf k < ws.length/\ws.getD (ws.idxOf k) 0=k:=by
 have hlt:=List.idxOf_lt_length_iff.mpr h
 refine ⟨hlt,?_⟩
 rw [List.getD_eq_getElem?_getD,List.getElem?_eq_getElem hlt]
 exact List.getElem_idxOf hlt
theorem DB {ws:List Int}{n:Nat}{v x:Int}(h:x∈ws.set n v):x∈ws\/x=v:=List.mem_or_eq_of_mem_set h
theorem FQ {ds:List Int}(hs:cD ds){c l:Int}(hc:0<=c/\c < 2)(hl:0<=l/\l < ds.length):bQ ds (gO ds c l) c=some l:=by
 obtain ⟨k,rfl⟩:=Int.eq_ofNat_of_zero_le hl.1
 unfold bQ gO
 split
 ·exact iO hs (by omega) (by rw [Int.toNat_natCast])
 ·exact iO hs (by omega) (by rw [Int.toNat_natCast];omega)
theorem ifn {c:Prop}[Decidable c]{a:Rw}{x:Option Rw}(h:(if c then some a else x)=none):¬c/\x=none:=by
 split at h
 ·cases h
 ·rename_i n;exact ⟨n,h⟩
theorem ify {c:Prop}[Decidable c]{a:Rw}(h:(if c then none else some a)=none):c:=by
 split at h
 ·assumption
 ·cases h
theorem rf {l:Int}{m:Nat}(h:¬unk l m):0<=l/\l < m:=Decidable.not_not.mp h
theorem J4 {g:Cfg}{n:bh}{l s:Int}(h:cJ g n (.ring l s)=none):(0<=l/\l < g.ds.length)/\n.fs.getD l.toNat false=false/\(s=(eN g.ls l).1\/s=(eN g.ls l).2):=by
 obtain ⟨h1,h⟩:=ifn h
 obtain ⟨h2,h⟩:=ifn h
 exact ⟨rf h1,by simpa using h2,ify h⟩
theorem y3 {g:Cfg}{n:bh}{s:Int}(h:cJ g n (.rept s)=none):∃l r,n.e=.wait l r/\1<=s/\s<=9:=by
 simp only [cJ] at h
 split at h
 ·rename_i l r e;exact ⟨l,r,e,ify h⟩
 ·cases h
theorem LN {g:Cfg}{n:bh}{l:Int}(h:cJ g n (.opn l)=none):(0<=l/\l < g.ds.length)/\n.gates.getD l.toNat false=false:=by
 obtain ⟨h1,h⟩:=ifn h
 obtain ⟨h2,h⟩:=ifn h
 exact ⟨rf h1,by simpa using h2⟩
theorem LO {g:Cfg}{n:bh}{l:Int}(h:cJ g n (.sht l)=none):(0<=l/\l < g.ds.length)/\n.gates.getD l.toNat false=true:=by
 obtain ⟨h1,h⟩:=ifn h
 obtain ⟨h2,h⟩:=ifn h
 exact ⟨rf h1,by simpa using h2⟩
theorem Ka {g:Cfg}{n:bh}{l:Int}(h:cJ g n (.fail l)=none):(0<=l/\l < g.ds.length)/\n.fs.getD l.toNat false=false:=by
 obtain ⟨h1,h⟩:=ifn h
 obtain ⟨h2,h⟩:=ifn h
 exact ⟨rf h1,by simpa using h2⟩
theorem DC {g:Cfg}{n:bh}{k c:Int}(h:cJ g n (.load k c)=none):(0<=k/\k < n.ws.length)/\∃l,bQ g.ds n.place c=some l/\n.ws.getD k.toNat 0=l/\¬10+c∈n.ws/\n.gates.getD l.toNat false=true:=by
 obtain ⟨h1,h⟩:=ifn h
 refine ⟨rf h1,?_⟩
 cases e:bQ g.ds n.place c with
 | none=>rw [e] at h;cases h
 | some l=>
  rw [e] at h
  obtain ⟨h2,h⟩:=ifn h
  obtain ⟨h3,h⟩:=ifn h
  exact ⟨l,rfl,Decidable.not_not.mp h2,h3,ify h⟩
theorem y4 {g:Cfg}{n:bh}{c:Int}(h:cJ g n (.unload c)=none):10+c∈n.ws/\∃l,bQ g.ds n.place c=some l/\n.gates.getD l.toNat false=true:=by
 obtain ⟨h1,h⟩:=ifn h
 refine ⟨Decidable.not_not.mp h1,?_⟩
 cases e:bQ g.ds n.place c with
 | none=>rw [e] at h;cases h
 | some l=>rw [e] at h;exact ⟨l,rfl,ify h⟩
theorem y6 {g:Cfg}{n:bh}{c l:Int}{k:Str}(h:cJ g n (.wind c l k)=none):(0<=l/\l < g.ds.length)/\eR g n=false/\n.e=.armed l (cM g.ls l k):=by
 obtain ⟨h1,h⟩:=ifn h
 obtain ⟨h2,h⟩:=ifn h
 exact ⟨rf h1,by simpa using h2,ify h⟩
theorem df.next {g:Cfg}{n:bh}{d:Dd}(hg:fg g)(h:df g n)(ok:uZ d)(hr:cJ g n d=none):df g (di g n d):=by
 have hds:=hg.sh.l6
 cases d with
 | ring l s=>
  obtain ⟨h1,_,h3⟩:=J4 hr
  exact ⟨h.gl,h.fl,h.wl,h.wr,h.un,h.st,fun l' r e=>by
   simp only [di,y0] at e
   rcases e with e | e
   ·cases e;exact ⟨h1.1,h1.2,h3⟩
   ·cases e⟩
 | rept s=>
  refine ⟨h.gl,h.fl,h.wl,h.wr,h.un,h.st,fun l' r e=>?_⟩
  simp only [di,y0] at e
  obtain ⟨l0,r0,e0,_⟩:=y3 hr
  rw [e0] at e
  simp only at e
  have:=h.ew l0 r0 (.inl e0)
  split at e
  ·rcases e with e | e
   ·cases e
   ·cases e;exact this
  ·rcases e with e | e<;>cases e
 | opn l=>exact ⟨by simp only [di];rw [List.length_set];exact h.gl,h.fl,h.wl,h.wr,h.un,h.st,h.ew⟩
 | sht l=>exact ⟨by simp only [di];rw [List.length_set];exact h.gl,h.fl,h.wl,h.wr,h.un,h.st,h.ew⟩
 | fail l=>exact ⟨h.gl,by simp only [di];rw [List.length_set];exact h.fl,h.wl,h.wr,h.un,h.st,h.ew⟩
 | load k c=>
  obtain ⟨h1,l,hl,h3,h4,_⟩:=DC hr
  have hc:0<=c/\c < 2:=ok
  refine ⟨h.gl,h.fl,by simp only [di];rw [List.length_set];exact h.wl,fun x hx=>?_,fun i j hi hj h10 e=>?_,h.st,h.ew⟩
  ·rcases DB hx with hx | rfl
   ·exact h.wr x hx
   ·omega
  ·simp only [di,List.length_set] at hi hj h10 e
   rw [rd _ _ _ _ hi] at h10 e
   rw [rd _ _ _ _ hj] at e
   split at e<;>split at e
   ·omega
   ·exact absurd (e▸dq hj) h4
   ·exact absurd (e▸dq hi) h4
   ·rename_i n1 n2;rw [if_neg n1] at h10;exact h.un i j hi hj h10 e
 | unload c=>
  obtain ⟨h1,l,hl,_⟩:=y4 hr
  obtain ⟨l0,l1,l2⟩:=dz hl
  refine ⟨h.gl,h.fl,by simp only [di];rw [List.length_set];exact h.wl,fun x hx=>?_,fun i j hi hj h10 e=>?_,h.st,h.ew⟩
  ·simp only [di,hl,Option.getD_some] at hx
   rcases DB hx with hx | rfl
   ·exact h.wr x hx
   ·exact .inl ⟨l0,l1⟩
  ·simp only [di,List.length_set,hl,Option.getD_some] at hi hj h10 e
   rw [rd _ _ _ _ hi] at h10 e
   rw [rd _ _ _ _ hj] at e
   split at e
   ·rename_i n1;rw [if_pos n1] at h10;omega
   ·rename_i n1
    rw [if_neg n1] at h10
    split at e
    ·omega
    ·exact h.un i j hi hj h10 e
 | wind c l k=>
  obtain ⟨h1,_⟩:=y6 hr
  refine ⟨h.gl,h.fl,h.wl,h.wr,h.un,⟨c,by have:=ok.1;omega,l,FQ hg.sh ok.1 h1⟩,fun l' r e=>?_⟩
  simp only [di,y0] at e
  rcases e with e | e<;>cases e
theorem df.place {g:Cfg}{n:bh}(hg:fg g)(h:df g n):0<=n.place/\n.place<=cG g.ds:=by
 obtain ⟨c,hc,l,hl⟩:=h.st
 obtain ⟨l0,l1,l2⟩:=dz hl
 have hm:g.ds.getD l.toNat 0∈g.ds:=dq (by omega)
 have:=hg.sh.lo _ hm
 have:=hg.sh.le_whole hm
 split at l2<;>omega
noncomputable def j4 (fs:List Bool)(i:Nat):List Int:=((List.range i).filter fun j=>fs.getD j false).map fun (j:Nat)=>(j:Int)
noncomputable def dj (fs:List Bool):List Int:=j4 fs fs.length
theorem DD (fs:List Bool)(i:Nat):j4 fs (i+1)=j4 fs i++(if fs.getD i false=true then [(i:Int)] else []):=by
 unfold j4
 rw [List.range_succ,List.filter_append,List.map_append]
 by_cases h:fs.getD i false=true
 ·rw [if_pos h,List.filter_cons,if_pos h];rfl
 ·rw [if_neg h,List.filter_cons,if_neg h];rfl
theorem y8 (fs:List Bool)(i:Nat):(j4 fs i).length<=i:=by
 unfold j4
 rw [WB]
 exact Nat.le_trans (List.length_filter_le _ _) (by rw [List.length_range];exact Nat.le_refl _)
theorem iH {fs:List Bool}{x:Int}:x∈dj fs↔0<=x/\x < fs.length/\fs.getD x.toNat false=true:=by
 unfold dj j4
 rw [List.mem_map]
 constructor
 ·rintro ⟨j,hj,rfl⟩
  rw [List.mem_filter,List.mem_range] at hj
  exact ⟨Int.natCast_nonneg _,by omega,by rw [Int.toNat_natCast];exact hj.2⟩
 ·rintro ⟨h0,h1,h2⟩
  refine ⟨x.toNat,?_,by omega⟩
  rw [List.mem_filter,List.mem_range]
  exact ⟨by omega,h2⟩
theorem DE (fs:List Bool):(dj fs).Pairwise (· < ·):=by
 unfold dj j4
 rw [List.pairwise_map]
 exact (List.pairwise_lt_range.sublist List.filter_sublist).imp fun h=>by omega
theorem aw.keeps {H H1 H2:Hp}{p:Addr}(s:aw H H1)(k:aD p H1 H2)(hp:H p=none):aw H H2:=fun b o e=>k b o (av e hp) (s b o e)
section
variable {C:Cl}{K:WA}{H H':Hp}{rl s:Addr}{g:Cfg}{A:SA}{n:bh}
theorem bt.ne_b (h:bt C K H rl g s A n):s≠A.b:=fun z=>by
 obtain ⟨dx,hb⟩:=h.be.ob
 have:=h.ob
 rw [z,hb] at this
 injection this with this
 injection this with _ _ this
 injection this with this _
 injection this with this _
 exact absurd this (by decide)
theorem bt.ne_y (h:bt C K H rl g s A n):s≠A.y:=fun z=>by
 obtain ⟨dx,hb⟩:=h.ya.ob
 have:=h.ob
 rw [z,hb] at this
 injection this with this
 injection this with _ _ this
 injection this with this _
 injection this with this _
 exact absurd this (by decide)
theorem bt.ne_by (h:bt C K H rl g s A n):A.y≠A.b:=fun z=>by
 obtain ⟨dx,hb⟩:=h.ya.ob
 obtain ⟨dx2,hb2⟩:=h.be.ob
 rw [z,hb2] at hb
 injection hb with this
 injection this with _ _ this
 injection this with this _
 injection this with this _
 exact absurd this (by decide)
theorem bt.bells {st':Addr}{e':Eng}(h:bt C K H rl g s A n)(k:aD A.b H H')(hb:bO C.B K H' A.b A.cs A.fl st' g.ls n.fs e'):bt C K H' rl g s {A with st:=st'} {n with e:=e'}:=by
 obtain ⟨dx,hb0⟩:=h.be.ob
 refine ⟨k _ _ h.ne_b h.ob,k _ _ (fun z=>?_) h.go,hb,h.ya.offI k hb0 h.ne_by,⟨h.ap.r1,h.ap.r2,h.ap.r3,h.ap.r4,h.ap.r5,h.ap.o1,h.ap.o2,h.ap.o3,h.ap.o4,h.ap.f1,h.ap.f2,h.ap.f3,h.ap.w1,h.ap.w2,h.ap.w3,h.ap.w4⟩,⟨(h.nn.keepI k hb0).al,h.nn.nr,h.nn.no,h.nn.nc,h.nn.nf,h.nn.nk,h.nn.nw⟩⟩
 have:=h.go
 rw [z,hb0] at this
 cases this
theorem bt.fail {fs':List Bool}(h:bt C K H rl g s A n)(k:aD A.fl H H')(hf:H' A.fl=some (.lst (fs'.map V.bl)))(hl:fs'.length=n.fs.length):bt C K H' rl g s A {n with fs:=fs'}:=by
 refine ⟨k _ _ (fun z=>?_) h.ob,k _ _ h.ap.f1 h.go,h.be.fail k hf hl,h.ya.off k h.be.of h.ap.f2 h.ap.f3,h.ap,h.nn.keep k h.nn.nf⟩
 have:=h.be.of
 rw [←z,h.ob] at this
 cases this
theorem bt.spots {ws':List Int}(h:bt C K H rl g s A n)(k:aD A.wh H H')(hw:H' A.wh=some (.lst (ws'.map V.int))):bt C K H' rl g s A {n with ws:=ws'}:=by
 refine ⟨k _ _ (fun z=>?_) h.ob,k _ _ h.ap.w1 h.go,h.be.off k h.ya.owh h.ap.w2 h.ap.w3,h.ya.put k h.ap.w4 hw,h.ap,h.nn.keep k h.nn.nw⟩
 have:=h.ya.owh
 rw [←z,h.ob] at this
 cases this
theorem bt.placed {pl:Int}(h:bt C K H rl g s A n)(k:aD s H H')(hp:H' s=some (.ins C.S A.dx [("place",.int pl),("opened",.ref A.ol),("bells",.ref A.b),("yard",.ref A.y)])):bt C K H' rl g s A {n with place:=pl}:=by
 refine ⟨hp,k _ _ (fun z=>?_) h.go,h.be.offI k h.ob h.ne_b.symm,h.ya.offI k h.ob h.ne_y.symm,h.ap,h.nn.keepI k h.ob⟩
 have:=h.go
 rw [z,h.ob] at this
 cases this
theorem bt.own {p:Addr}{ys:List V}(h:bt C K H rl g s A n)(hp:g.N p)(k:aD p H H')(e:H' p=some (.lst ys)):bt C K H' rl g s A n:=by
 obtain ⟨zs,hz⟩:=h.nn.al p hp
 refine ⟨k _ _ (fun z=>by have:=h.ob;rw [z,hz] at this;cases this) h.ob,k _ _ (h.nn.no p hp) h.go,h.be.off k hz (h.nn.nc p hp) (h.nn.nf p hp),h.ya.off k hz (h.nn.nk p hp) (h.nn.nw p hp),h.ap,⟨fun q hq=>?_,h.nn.nr,h.nn.no,h.nn.nc,h.nn.nf,h.nn.nk,h.nn.nw⟩⟩
 by_cases e1:q=p
 ·subst e1;exact ⟨ys,e⟩
 ·obtain ⟨us,hu⟩:=h.nn.al q hq
  exact ⟨us,k _ _ e1 hu⟩
noncomputable def Cfg.plus (g:Cfg)(p:Addr):Cfg:={g with N:=fun q=>g.N q\/q=p}
theorem bt.grow {p:Addr}{ys:List V}(h:bt C K H rl g s A n)(hr:rl≠p)(hn:H p=none)(k:aw H H')(e:H' p=some (.lst ys)):bt C K H' rl (g.plus p) s A n:=by
 have h':=h.same k
 obtain ⟨_,⟨as,oc,_⟩,of,_⟩:=id h.be
 obtain ⟨_,okn,owh⟩:=id h.ya
 refine ⟨h'.ob,h'.go,h'.be,h'.ya,h'.ap,⟨fun q hq=>?_,fun q hq=>?_,fun q hq=>?_,fun q hq=>?_,fun q hq=>?_,fun q hq=>?_,fun q hq=>?_⟩⟩
 ·rcases hq with hq | rfl
  ·exact h'.nn.al q hq
  ·exact ⟨ys,e⟩
 ·rcases hq with hq | rfl
  ·exact h.nn.nr q hq
  ·exact hr
 ·rcases hq with hq | rfl
  ·exact h.nn.no q hq
  ·exact av h.go hn
 ·rcases hq with hq | rfl
  ·exact h.nn.nc q hq
  ·exact av oc hn
 ·rcases hq with hq | rfl
  ·exact h.nn.nf q hq
  ·exact av of hn
 ·rcases hq with hq | rfl
  ·exact h.nn.nk q hq
  ·exact av okn hn
 ·rcases hq with hq | rfl
  ·exact h.nn.nw q hq
  ·exact av owh hn
end
section
variable {C:Cl}{K:WA}{H H':Hp}{rl s w bk:Addr}{g:Cfg}{n n0:bh}{rs:List Row}
theorem WAt.rows (h:WAt C K H w bk rl g n0 rs):∃as:List Addr,H rl=some (.lst (as.map V.ref)):=by
 obtain ⟨as,hr,_⟩:=h.bo.ro
 exact ⟨as,hr⟩
theorem WAt.own {p:Addr}{ys:List V}(h:WAt C K H w bk rl g n0 rs)(hp:g.N p)(k:aD p H H')(e:H' p=some (.lst ys)):WAt C K H' w bk rl g n0 rs:=by
 obtain ⟨⟨dx,dl,gl,h1,h2,h3,h4,h5,h6,h7⟩,⟨dy,f,h8,A,h9⟩,as,h10,h11⟩:=h
 obtain ⟨zs,hz⟩:=h9.nn.al p hp
 refine ⟨⟨dx,dl,gl,k _ _ (fun z=>by rw [z,hz] at h1;cases h1) h1,k _ _ (h6 p hp) h2,k _ _ (h7 p hp) h3,h4,h5,h6,h7⟩,⟨dy,f,k _ _ (fun z=>by rw [z,hz] at h8;cases h8) h8,A,h9.own hp k e⟩,as,k _ _ (h9.nn.nr p hp) h10,h11.1,fun i a r e1 e2=>?_⟩
 obtain ⟨dd,s,u1,u2,A',u3⟩:=h11.2 i a r e1 e2
 exact ⟨dd,s,u1.keep k hz,u2.keep k hz,A',u3.own hp k e⟩
theorem WAt.grow {p:Addr}{ys:List V}(h:WAt C K H w bk rl g n0 rs)(hn:H p=none)(k:aw H H')(e:H' p=some (.lst ys)):WAt C K H' w bk rl (g.plus p) n0 rs:=by
 obtain ⟨⟨dx,dl,gl,h1,h2,h3,h4,h5,h6,h7⟩,⟨dy,f,h8,A,h9⟩,as,h10,h11⟩:=h
 have hr:rl≠p:=av h10 hn
 refine ⟨⟨dx,dl,gl,k _ _ h1,k _ _ h2,k _ _ h3,h4,h5,fun q hq=>?_,fun q hq=>?_⟩,⟨dy,f,k _ _ h8,A,h9.grow hr hn k e⟩,as,k _ _ h10,h11.1,fun i a r e1 e2=>?_⟩
 ·rcases hq with hq | rfl
  ·exact h6 q hq
  ·exact av h2 hn
 ·rcases hq with hq | rfl
  ·exact h7 q hq
  ·exact av h3 hn
 ·obtain ⟨dd,s,u1,u2,A',u3⟩:=h11.2 i a r e1 e2
  exact ⟨dd,s,k.tup u1,k.tup u2,A',u3.grow hr hn k e⟩
end
noncomputable def iQ (ds:List Int)(ls:List Cd)(slow fast:Int)(lds:List Ld)(N:Addr->Prop):Cfg:=⟨ds,ls,slow,fast,lds.map (·.2.2),lds.map (·.1),N⟩
noncomputable def iR (ds:List Int)(ls:List Cd)(lds:List Ld):bh:=⟨ds.getD 0 0,ds.map fun _=>false,ls.map fun _=>false,.no,lds.map (·.2.1)⟩
theorem bt.keepI {C:Cl}{K:WA}{H H':Hp}{rl s x D dp:Addr}{g:Cfg}{A:SA}{n:bh}{us:List (Str×V)}(h:bt C K H rl g s A n)(k:aD x H H')(hx:H x=some (.ins D dp us))(n1:s≠x)(n2:A.b≠x)(n3:A.y≠x):bt C K H' rl g s A n:=by
 refine ⟨k _ _ n1 h.ob,k _ _ (fun z=>?_) h.go,h.be.offI k hx n2,h.ya.offI k hx n3,h.ap,h.nn.keepI k hx⟩
 have:=h.go
 rw [z,hx] at this
 cases this
theorem Ou {ds:List Int}{ls:List Cd}{slow fast:Int}{lds:List Ld}{N:Addr->Prop}(h1:cD ds)(h2:ls.length=ds.length)(h3:∀x∈ls,eZ x)(h4:1<=slow/\slow<=fast/\fast<=500)(h5:lds.length<=30):fg (iQ ds ls slow fast lds N):=
 ⟨h1,h2,h3,h4.1,h4.2.1,h4.2.2,by simp [iQ],by simpa [iQ] using h5⟩
theorem LP {ds:List Int}{ls:List Cd}{slow fast:Int}{lds:List Ld}{N:Addr->Prop}(h1:cD ds)(h2:ls.length=ds.length)(h6:∀x∈lds,j0 ds.length x):df (iQ ds ls slow fast lds N) (iR ds ls lds):=by
 have l2:=h1.l2
 have l6:=h1.l6
 refine ⟨by simp [iQ,iR],by simp [iQ,iR,h2],by simp [iQ,iR],fun x hx=>?_,fun i j hi hj h10 e=>?_,⟨0,.inl rfl,0,?_⟩,fun l r e=>?_⟩
 ·simp only [iR,List.mem_map] at hx
  obtain ⟨y,hy,rfl⟩:=hx
  exact .inl (h6 y hy).1
 ·exfalso
  have hm:(iR ds ls lds).ws.getD i 0∈(iR ds ls lds).ws:=dq hi
  simp only [iR,List.mem_map] at hm
  obtain ⟨y,hy,e1⟩:=hm
  have:=(h6 y hy).1
  simp only [iR] at h10
  omega
 ·exact iO h1 (i:=0) (by omega) rfl
 ·rcases e with e | e<;>cases e
end L2
namespace PySem
open PySem.Spec PyProof.Rows
section
variable {prog:Program}{w:World}{A:Around}{E:Value->Shared->Prop}{s:Shared}
theorem Bw {it t:Addr}{items:Array Value}(hne:t≠it):∀(n i:Nat) (s:Shared) (Q:List Value->Shared->Prop),s.heap.IsListIter it t i->s.heap.IsList t items->i+n<=items.size->
  (∀h',Heap.IsListIter h' it t (i+n)->Heap.SameBut it s.heap h'->Q ((items.toList.drop i).take n) {s with heap:=h'})->wpAny (model prog w) A (draw (.ref it) n) Q E s
 | 0,i,s,Q,hit,_,_,hQ=>by
  show wpAny _ _ (pure []) Q E s
  exact wpAny_pure (by simpa using hQ s.heap hit (Heap.SameBut.refl ..))
 | n+1,i,s,Q,hit,ht,hle,hQ=>by
  have hlt:i < items.size:=by omega
  show wpAny _ _ (pyNext (.ref it) >>= _) Q E s
  refine wpAny_bind (wpAny_pyNext_list_item hit ht (x:=items[i]) (by simp [hlt]) fun h₁ hit₁ hs₁=>?_)
  refine wpAny_bind (wpAny_holding (Bw hne n (i+1) _ _ hit₁ (ht.extBut hs₁.extBut hne) (by omega) fun h₂ hit₂ hs₂=>wpAny_pure ?_))
  have hd:items.toList.drop i=items[i]::items.toList.drop (i+1):=by simp [List.drop_eq_getElem_cons,hlt]
  have:=hQ h₂ (by rw [show i+(n+1)=i+1+n by omega];exact hit₂) (hs₁.trans hs₂)
  rw [hd,List.take_succ_cons] at this
  exact this
theorem wW {t:Addr}{items:Array Value}{Q:List Value->Shared->Prop}(hh:A.handled=none)(ht:s.heap.IsList t items)
  (hQ:∀h',Heap.ExtBut s.heap.objs.size s.heap h'->Q items.toList {s with heap:=h'}):wpAny (model prog w) A (unpackItems (.ref t) items.size none) Q E s:=by
 have hlt:t≠s.heap.objs.size:=by obtain ⟨o,ho,_⟩:=ht;exact Nat.ne_of_lt (Heap.lt_size ho)
 unfold unpackItems
 refine wpAny_bind ?_
 ·unfold notIterableAtAll
  refine wpAny_bind (wpAny_specialOf ht.typeIs slot_list_iter.lookup ?_)
  refine wpAny_pure ?_
  simp only [Bool.false_eq_true,if_false]
  refine wpAny_bind (wpAny_holding (wpAny_pyIter_list ht ?_))
  refine wpAny_bind (wpAny_holding (Bw hlt items.size 0 _ _ ⟨_,Heap.get?_push_size _ rfl,rfl,rfl⟩ (ht.push _) (by omega) fun h₁ hit₁ hs₁=>?_))
  have hall:List.take items.size (List.drop 0 items.toList)=items.toList:=by
   rw [List.drop_zero];exact List.take_of_length_le (by simp)
  rw [hall]
  rw [if_neg (by simp)]
  have ht₁:Heap.IsList h₁ t items:=(ht.push _).extBut hs₁.extBut hlt
  refine wpAny_bind (wpAny_holding (wpAny_pyNext_list_end hh hit₁ ht₁ (by simp) fun h₂ he₂=>?_))
  simp only [Option.isSome_none,Bool.false_eq_true,if_false]
  refine wpAny_pure (hQ h₂ fun b o hb e=>he₂ b o hb (hs₁.extBut b o hb (Heap.get?_push_of_some _ e)))
theorem DF {t:Addr}{items:Array Value}{targets:List (Bool×(Value->Sem Unit))}{Q:Unit->Shared->Prop}(hh:A.handled=none)(ht:s.heap.IsList t items)
  (hn:targets.length=items.size) (hstar:targets.findIdx? (·.1)=none)
  (h:∀h',Heap.ExtBut s.heap.objs.size s.heap h'->wpAny (model prog w) A (assignInOrder (targets.map (·.2)) items.toList) Q E {s with heap:=h'}) :
  wpAny (model prog w) A (unpack (.ref t) targets) Q E s:=by
 unfold unpack
 rw [hn,hstar]
 exact wpAny_bind (wpAny_holding (wW hh ht h))
theorem u5 {env:Env}{elts:List Expr}{x1}{pos:Pos}{t:Addr}{items:Array Value}{Q:Unit->Shared->Prop}(hh:A.handled=none)(ht:s.heap.IsList t items)
  (hn:(assignEach elts env).length=items.size) (hstar:(assignEach elts env).findIdx? (·.1)=none)
  (h:∀h',Heap.ExtBut s.heap.objs.size s.heap h'->wpAny (model prog w) A (assignInOrder ((assignEach elts env).map (·.2)) items.toList) Q E {s with heap:=h'}) :
  wpAny (model prog w) A (assign (.Tuple elts x1 pos) env (.ref t)) Q E s:=by
 rw [assign_Tuple]
 exact wpAny_bind (wpAny_standAt (DF hh ht hn hstar h))
end
end PySem
namespace L2
open PySem PySem.Spec PyProof.Rows PySem.SeqAt
section
variable {X:Cx}{pos:Pos}
noncomputable def Nj (K:WA)(n:Nat)(t:TGs):TG:=fun v σ H Q=>∃a xs,v=.ref a/\SqL K H a xs/\xs.length=n/\t xs σ H Q
theorem Ov {es:List Expr}{k:Nat}{t:TGs}{n:Nat}(hc:X.calm=true)(h:PGs X es t)
  (hn:(assignEach es X.env).length=n:=by rfl) (hst:(assignEach es X.env).findIdx? (·.1)=none:=by rfl):PG X (.Tuple es k pos) (Nj X.K n t):=by
 intro pins s σ H v u Q I r hw
 obtain ⟨a,xs,e1,hq,hl,hw⟩:=hw
 subst e1
 cases r
 obtain ⟨its,rv,ht,hz⟩:=I.list hq
 refine u5 (I.ok.hd hc) ht.isList (by simp [hn,←hl,rv.length]) hst fun h' hx=>?_
 have I1:Inv X pins σ H {s with heap:=h'}:=I.kept (t':=s.toks) fun b o e=>hx b o (Nat.ne_of_lt (Heap.lt_size e)) e
 exact h pins _ σ H xs _ Q I1 (by simpa using rv) hw
noncomputable def Ow (K:WA):R2:=fun x y H Q=>∃a b xs ys,x=.ref a/\y=.ref b/\SqL K H a xs/\SqL K H b ys/\xs.all bW=true/\ys.all bW=true/\Q (.bl (!eqL xs ys)) H
theorem Ox (hu:X.A.units < cLine):OpR X (compareOp .NotEq) (Ow X.K):=by
 intro pins s σ H x y u v Q I rx ry h
 obtain ⟨a,b,xs,ys,rfl,rfl,ha,hb,fa,fb,q⟩:=h
 cases rx;cases ry
 obtain ⟨ia,ra,pa,za⟩:=I.list ha
 obtain ⟨ib,rb,pb,zb⟩:=I.list hb
 have la:=ra.length
 have lb:=rb.length
 by_cases hl:xs.length=ys.length
 ·refine RcNeAt.lists (e:=fun j=>eqV (xs.getD j .non) (ys.getD j .non)) pa.isList pb.isList (by simp only [List.size_toArray];omega) hu (fun j h1 h2=>?_) X.prog X.w _ _ ?_
  ·simp only [List.size_toArray] at h1 h2
   have hx:xs[j]?=some (xs.getD j .non):=by
    rw [List.getD_eq_getElem?_getD,List.getElem?_eq_getElem (by omega)];rfl
   have hy:ys[j]?=some (ys.getD j .non):=by
    rw [List.getD_eq_getElem?_getD,List.getElem?_eq_getElem (by omega)];rfl
   obtain ⟨u,eu,ru⟩:=ra.get hx
   obtain ⟨v,ev,rv⟩:=rb.get hy
   have e1:ia.toArray[j]=u:=by
    have:=List.getElem?_eq_some_iff.mp eu
    simpa using this.2
   have e2:ib.toArray[j]=v:=by
    have:=List.getElem?_eq_some_iff.mp ev
    simpa using this.2
   rw [e1,e2]
   exact wJ ru rv (List.all_eq_true.mp fa _ (List.mem_of_getElem? hx)) (List.all_eq_true.mp fb _ (List.mem_of_getElem? hy))
  ·have e:(List.range ia.toArray.size).all (fun j=>eqV (xs.getD j .non) (ys.getD j .non))=eqL xs ys:=by
    rw [List.size_toArray,←la]
    exact yE hl
   rw [e]
   exact ⟨.bl (!eqL xs ys),H,I,rfl,q⟩
 ·refine RcNeAt.lists_lengths pa.isList pb.isList (by simp only [List.size_toArray,bne_iff_ne,ne_eq];omega) hu X.prog X.w _ _ ?_
  have e:eqL xs ys=false:=by
   cases he:eqL xs ys with
   | false=>rfl
   | true=>exact absurd (yD he) hl
  rw [e] at q
  exact ⟨.bl true,H,I,rfl,q⟩
end
end L2
namespace L2
open PySem PySem.Spec PyProof.Rows
inductive Run (g:Cfg)(n0:bh):List Row->Prop
 | nil:Run g n0 []
 | snoc {rs:List Row} {d:Dd} (h:Run g n0 rs) (ok:uZ d) (hr:cJ g (ao n0 rs) d=none):Run g n0 (rs++[u4 g n0 rs d])
theorem DG {α:Type}{xs ys:List α}{a b:α}(h:xs++[a]=ys++[b]):xs=ys/\a=b:=by
 have:=List.append_inj' h rfl
 exact ⟨this.1,by simpa using this.2⟩
theorem Run.inv {g:Cfg}{n0:bh}{rs:List Row}{r:Row}(h:Run g n0 (rs++[r])):Run g n0 rs/\∃d,uZ d/\cJ g (ao n0 rs) d=none/\r=u4 g n0 rs d:=by
 generalize e:rs++[r]=rs' at h
 cases h with
 | nil=>simp at e
 | @snoc rs2 d h ok hr=>
  obtain ⟨rfl,rfl⟩:=DG e
  exact ⟨h,d,ok,hr,rfl⟩
theorem Run.snap {g:Cfg}{n0:bh}{rs:List Row}(hg:fg g)(h0:df g n0)(h:Run g n0 rs):df g (ao n0 rs):=by
 induction h with
 | nil=>exact h0
 | snoc h ok hr ih=>
  rw [oU]
  exact ih.next hg ok hr
theorem Run.deeds {g:Cfg}{n0:bh}{rs:List Row}(h:Run g n0 rs):∀r∈rs,∃d,r.deed=ddV d:=by
 induction h with
 | nil=>intro r hr;cases hr
 | @snoc rs d h ok hr ih=>
  intro r hr
  rcases List.mem_append.mp hr with hr | hr
  ·exact ih r hr
  ·rw [List.mem_singleton] at hr
   subst hr
   exact ⟨d,rfl⟩
def yF (K:WA)(H:Hp)(a:Addr)(r:Row):Prop:=∃dd,SqT K H a [.int r.began,.int r.ended,.ref dd]/\SqT K H dd r.deed
def dC (K:WA)(H:Hp)(as:List Addr)(rs:List Row):Prop:=as.length=rs.length/\∀(i:Nat) a r,as[i]?=some a->rs[i]?=some r->yF K H a r
theorem dC.same {K:WA}{H H':Hp}{as:List Addr}{rs:List Row}(h:dC K H as rs)(e:aw H H'):dC K H' as rs:=⟨h.1,fun i a r e1 e2=>by
 obtain ⟨dd,h1,h2⟩:=h.2 i a r e1 e2
 exact ⟨dd,e.tup h1,e.tup h2⟩⟩
theorem dC.keep {K:WA}{H H':Hp}{p:Addr}{ys:List V}{as:List Addr}{rs:List Row}(h:dC K H as rs)(e:aD p H H')(hp:H p=some (.lst ys)):dC K H' as rs:=⟨h.1,fun i a r e1 e2=>by
 obtain ⟨dd,h1,h2⟩:=h.2 i a r e1 e2
 exact ⟨dd,h1.keep e hp,h2.keep e hp⟩⟩
theorem dC.nil {K:WA}{H:Hp}:dC K H [] []:=⟨rfl,fun i a r e _=>by simp at e⟩
theorem dC.push {K:WA}{H:Hp}{as:List Addr}{rs:List Row}{a:Addr}{r:Row}(h:dC K H as rs)(hr:yF K H a r):dC K H (as++[a]) (rs++[r]):=by
 refine ⟨by rw [List.length_append,List.length_append,h.1];rfl,fun i b x e1 e2=>?_⟩
 by_cases hi:i < as.length
 ·rw [List.getElem?_append_left hi] at e1
  rw [List.getElem?_append_left (by rw [←h.1];exact hi)] at e2
  exact h.2 i b x e1 e2
 ·rw [List.getElem?_append_right (by omega)] at e1
  rw [List.getElem?_append_right (by rw [←h.1];omega),←h.1] at e2
  have hz:i - as.length=0:=by
   have:=(List.getElem?_eq_some_iff.mp e1).1
   simp at this
   omega
  rw [hz] at e1 e2
  cases e1
  cases e2
  exact hr
theorem dC.last {K:WA}{H:Hp}{as:List Addr}{rs:List Row}{r:Row}(h:dC K H as (rs++[r])):∃as' a,as=as'++[a]/\dC K H as' rs/\yF K H a r:=by
 have hl:=h.1
 rw [List.length_append,List.length_singleton] at hl
 rcases dM as with rfl | ⟨as',a,rfl⟩
 ·cases hl
 ·have hl':as'.length=rs.length:=by rw [List.length_append,List.length_singleton] at hl;omega
  refine ⟨as',a,rfl,⟨hl',fun i b x e1 e2=>?_⟩,?_⟩
  ·have hi:=(List.getElem?_eq_some_iff.mp e1).1
   exact h.2 i b x (by rw [List.getElem?_append_left hi];exact e1) (by rw [List.getElem?_append_left (by omega)];exact e2)
  ·refine h.2 as'.length a r ?_ ?_
   ·rw [List.getElem?_append_right (Nat.le_refl _)];simp
   ·rw [List.getElem?_append_right (by omega),hl'];simp
noncomputable def Nk (r:Row):Dt:=.tup [.flat (.int r.began),.flat (.int r.ended),.tup (r.deed.map Dt.flat)]
noncomputable def Nl (rs:List Row):Dt:=.lst (rs.map Nk)
theorem IE {K:WA}{H:Hp}{a:Addr}{r:Row}{n:Nat}(h:yF K H a r)(hd:∃d,r.deed=ddV d):Rep K H (n+2) (.ref a) (Nk r):=by
 obtain ⟨dd,h1,h2⟩:=h
 obtain ⟨d,hd⟩:=hd
 refine .tup h1 (by show 3<=100000;decide) rfl fun i x y e1 e2=>?_
 match i,e1,e2 with
 | 0,e1,e2=>cases e1;cases e2;exact .flat rfl
 | 1,e1,e2=>cases e1;cases e2;exact .flat rfl
 | 2,e1,e2=>
  cases e1;cases e2
  have:=Hi d
  exact fL h2 (by rw [hd];omega) (by rw [hd];exact yZ d)
 | i+3,e1,e2=>simp at e1
theorem DH {K:WA}{H:Hp}{p:Addr}{as:List Addr}{rs:List Row}{n:Nat}(hp:SqL K H p (as.map V.ref))(h:dC K H as rs)(hd:∀r∈rs,∃d,r.deed=ddV d)(hl:rs.length<=100000):Rep K H (n+3) (.ref p) (Nl rs):=by
 refine .lst hp (by rw [WB,h.1];exact hl) (by rw [WB,WB,h.1]) fun i x y e1 e2=>?_
 rw [List.getElem?_map] at e1 e2
 cases ea:as[i]? with
 | none=>rw [ea] at e1;cases e1
 | some a=>
  cases er:rs[i]? with
  | none=>rw [er] at e2;cases e2
  | some r=>
   rw [ea] at e1;rw [er] at e2
   cases e1;cases e2
   exact IE (h.2 i a r ea er) (hd r (List.mem_of_getElem? er))
theorem Bx {K:WA}{H:Hp}{a:Addr}{bs:List Bool}{n:Nat}(h:SqL K H a (bs.map V.bl))(hb:bs.length<=100000):Rep K H (n+1) (.ref a) (.lst ((bs.map V.bl).map Dt.flat)):=by
 refine .lst h (by rw [WB];exact hb) (by simp) fun i x y e1 e2=>?_
 rw [List.getElem?_map,e1] at e2
 cases e2
 rw [List.getElem?_map] at e1
 cases eb:bs[i]? with
 | none=>rw [eb] at e1;cases e1
 | some b=>rw [eb] at e1;cases e1;exact .flat rfl
theorem WAt.off {C:Cl}{K:WA}{H:Hp}{w bk rl:Addr}{g:Cfg}{n0:bh}{rs:List Row}(h:WAt C K H w bk rl g n0 rs)(p:Addr)(hp:g.N p):rl≠p:=by
 obtain ⟨dx,f,_,A,hA⟩:=h.bo.ob
 exact hA.nn.nr p hp
end L2
namespace PySem
open Sem (wp)
open Builtin PySem.Spec PyProof.Rows PySem.SeqAt
theorem wX:fillsNumberSlot (.type "tuple") "mul"=pure false:=
 fillsNumberSlot_seq (id:="tuple.__mul__") (r:=some (.builtin "tuple.__rmul__")) F.slot_tuple_mul.lookup (by decide +kernel) F.slot_tuple_rmul.lookup (by decide +kernel)
theorem Cj:seqRepeat? (.type "tuple")=pure (some (.builtin "tuple.__mul__")):=by
 unfold seqRepeat?
 rw [seqSlot_of (T:="tuple") (name:="__mul__") (id:="tuple.__mul__") F.slot_tuple_mul.lookup (by decide +kernel),seqSlot_of (T:="tuple") (name:="__rmul__") (id:="tuple.__rmul__") F.slot_tuple_rmul.lookup (by decide +kernel)]
 rfl
theorem mq (a:Int)(t:Tok)(l:Addr)(items:Array Value)(n:Nat)(dd:Option Addr)(sl:Array (Option Value)) :
  Meets (Builtin.«int.__rmul__» ⟨[.int a t,.ref l],[]⟩) (fun _ R s=>s.heap.get? l=some {cls:=.type "tuple",dict:=dd,data:=.seq items n,slots:=sl}/\R (.ok (.ret Value.notImplemented)) s):=
 .of_wp fun prog w A R s h=>by obtain ⟨hp,g,d,tk,os⟩:=s;obtain ⟨hl,h⟩:=h;wp_walk;exact ⟨_,rfl,h⟩
theorem FR (l:Addr)(items:Array Value)(n:Nat)(dd:Option Addr)(sl:Array (Option Value))(x:Int)(u:Tok)(h2:2<=x)(h3:x<=100)(hz:items.size=1) :
  Meets (Builtin.«tuple.__mul__» ⟨[.ref l,.int x u],[]⟩) (fun A R s=>s.heap.get? l=some {cls:=.type "tuple",dict:=dd,data:=.seq items n,slots:=sl}/\
   R (.ok (.ret (.ref s.heap.objs.size))) {s with heap:=s.heap.push {cls:=.type "tuple",data:=.seq ((List.replicate x.toNat items).foldl (·++·) #[])}}):=
 .of_wp fun prog w A R s h=>by
  obtain ⟨hp,g,d,tk,os⟩:=s;obtain ⟨hl,h⟩:=h
  have c1:¬(decide (x < -(2 ^ 63)) || decide (x≥2 ^ 63))=true:=by simp;omega
  have c2:¬(items.isEmpty || x == 1)=true:=by
   simp only [Array.isEmpty,Bool.or_eq_true,beq_iff_eq,decide_eq_true_eq];omega
  have c3:¬(decide (x<=0) || items.isEmpty)=true:=by
   simp only [Array.isEmpty,Bool.or_eq_true,beq_iff_eq,decide_eq_true_eq];omega
  have c4:¬((items.size:Int) * x > (2 ^ 63 - 1) / 8):=by rw [hz];omega
  have c5:¬Builtin.Tuple.tupleTooMany ((items.size:Int) * x)=true:=by
   simp only [Builtin.Tuple.tupleTooMany,decide_eq_true_eq,hz,sizeLine_eq];omega
  have c6:¬((List.foldl (fun x1 x2=>x1++x2) #[] (List.replicate x.toNat items)).size > sizeLine):=by
   have f0:∀(m:Nat) (b:Array Value),(List.foldl (fun x1 x2=>x1++x2) b (List.replicate m items)).size=b.size+m:=fun m=>by
    induction m with
    | zero=>intro b;rfl
    | succ m ih=>intro b;rw [List.replicate_succ,List.foldl_cons,ih,Array.size_append,hz];omega
   rw [f0,sizeLine_eq]
   show ¬(0+x.toNat > _)
   omega
  wp_walk using wpAny_loadPart' hl
  rw [if_neg c1]
  wp_walk using wpAny_loadPart' hl
  rw [if_neg c4]
  wp_walk using wpAny_loadPart' hl
  rw [if_neg c5]
  wp_walk using wpAny_loadPart' hl
  exact ⟨_,rfl,h⟩
theorem oW {M:Model}{A:Around}{E:Value->Shared->Prop}{s:Shared}{β:Type}{c:β}{f:Nat->β->Sem (ForInStep β)}{Q:β->Shared->Prop} :
  ∀(l:List Nat) (j:Nat) (hj:j < l.length) (hno:∀i (hi:i < l.length),i < j->∀Q',Q' (.yield c) s->wpAny M A (f l[i] c) Q' E s) (hit:wpAny M A (f l[j] c) (fun r s1=>match r with | .done b=>Q b s1 | .yield _=>False) E s),wpAny M A (forIn l c f) Q E s
 | [],j,hj,_,_=>absurd hj (Nat.not_lt_zero _)
 | x::l,0,hj,_,hit=>by
  rw [List.forIn_cons]
  refine wpAny_bind (wpAny_mono hit ?_ (fun _ _ z=>z))
  intro r s1 h1
  cases r with
  | done b=>exact wpAny_pure h1
  | yield b=>exact h1.elim
 | x::l,j+1,hj,hno,hit=>by
  rw [List.forIn_cons]
  refine wpAny_bind (hno 0 (Nat.succ_pos _) (Nat.succ_pos _) _ ?_)
  exact oW l j (by simpa using hj) (fun i hi hij=>hno (i+1) (by simpa using hi) (by omega)) hit
theorem y9 {M:Model}{A:Around}{E:Value->Shared->Prop}{s:Shared}{β:Type}{c:β}{f:Nat->β->Sem (ForInStep β)}{Q:β->Shared->Prop}{n:Nat}(j:Nat)(hj:j < n)
  (h:(∀i,i < j->∀Q',Q' (.yield c) s->wpAny M A (f i c) Q' E s)/\wpAny M A (f j c) (fun r s1=>match r with | .done b=>Q b s1 | .yield _=>False) E s) :
  wpAny M A (forIn ([:n]:Std.Legacy.Range) c f) Q E s:=by
 rw [Std.Legacy.Range.forIn_eq_forIn_range']
 have hl:([:n]:Std.Legacy.Range).size=n:=by simp [Std.Legacy.Range.size]
 refine oW _ j (by simp [hl];exact hj) (fun i hi hij Q' q=>?_) ?_
 ·have:=h.1 i hij Q' q
  simpa using this
 ·have:=h.2
  simpa using this
theorem AB (l:Addr)(items:Array Value)(n:Nat)(dd:Option Addr)(sl:Array (Option Value))(x:Value)(e:Value->Bool)(j:Nat)(hj:j < items.size)
  (hit:e items[j]=true) (hno:∀m (hm:m < items.size),m < j->e items[m]=false) :
  Meets (Builtin.«tuple.index» ⟨[.ref l,x],[]⟩)
   (fun A R s=>s.heap.get? l=some {cls:=.type "tuple",dict:=dd,data:=.seq items n,slots:=sl}/\(∀y,y∈items->EqAt A.in1 s y x (e y))/\R (.ok (.ret (.int j s.toks))) {s with toks:=s.toks+1}):=
 .of_wp fun prog w A R s h=>by
  obtain ⟨hp,g,d,tk,os⟩:=s;obtain ⟨hl,he,h⟩:=h
  wp_walk using wpAny_loadPart' hl,y9 j (show j < min items.size items.size by omega)
  refine ⟨fun i hi Q' q=>?_,?_⟩
  ·have hm:i < items.size:=by omega
   simp only [getElem?_pos items i hm]
   refine wpAny_bind (he _ (Array.getElem_mem hm) prog w _ _ ?_)
   rw [hno i hm hi,if_neg Bool.false_ne_true]
   exact wpAny_pure q
  ·simp only [getElem?_pos items j hj]
   refine wpAny_bind (he _ (Array.getElem_mem hj) prog w _ _ ?_)
   rw [hit,if_pos rfl]
   wp_walk
   exact ⟨_,rfl,h⟩
section
variable {prog:Program}{w:World}{A:Around}{E:Value->Shared->Prop}{s:Shared}
theorem AD {l:Addr}{vs:List Value}{Q:List Value->Shared->Prop}(hl:IsTup s.heap l vs.toArray)
  (h:Q vs {s with heap:=(s.heap.push (seqObj "list" #[] 0)).update s.heap.objs.size (Obj.mapSeq (·++vs.toArray))}) (hsz:vs.length<=sizeLine:=by size_fits) :
  wpAny (model prog w) A (collect (.ref l)) Q E s:=by
 obtain ⟨o,ho,hc,n,hd⟩:=id hl
 unfold collect
 refine wpAny_bind (wpAny_runValue (codeAny_builtin entry_proto_collect' ?_))
 show wpAny _ _ (do again (.builtin "list.__iadd__" ⟨[←newList [],.ref l],[]⟩)) _ _ s
 refine wpAny_bind (wpAny_newList (wpAny_pure ⟨Code.quiet_builtin _ (by decide +kernel),codeAny_builtin entry_list_iadd' ?_⟩))
 show wpAny _ _ (Builtin.List.listExtendWith (.ref s.heap.objs.size) (.ref l) (.ref s.heap.objs.size)) _ _ {s with heap:=s.heap.push (seqObj "list" #[] 0)}
 unfold Builtin.List.listExtendWith
 have ho':(s.heap.push (seqObj "list" #[] 0)).get? l=some o:=Heap.get?_push_of_some _ ho
 refine wpAny_bind (wpAny_typeOf (T:="tuple") ⟨o,ho',hc⟩ ?_)
 have ht:(Value.type "tuple" == Value.type "tuple")=true:=by rfl
 rw [if_pos (by rw [ht];simp)]
 refine wpAny_bind (listItems_at ho' hd ?_)
 refine wpAny_bind (listItems_at (xs:=#[]) (n:=0) (Heap.get?_push_size _ rfl) rfl ?_)
 rw [if_neg (by simp)]
 refine wpAny_bind (listUpdate_at (xs:=#[]) (n:=0) (Heap.get?_push_size _ rfl) rfl ?_ (Nat.zero_le _) (by show (#[]++vs.toArray).size<=sizeLine+1;simp only [Array.size_append,List.size_toArray,List.length_nil];omega))
 refine wpAny_pure ?_
 show wpAny (model prog w) A (do
   let o ←load s.heap.objs.size
   match o.data with
   | .seq xs _=>pure xs.toList
   | _=>unsupported "internal:collect") Q E {s with heap:=(s.heap.push (seqObj "list" #[] 0)).update s.heap.objs.size (Obj.mapSeq (·++vs.toArray))}
 refine wpAny_bind (wpAny_load (get?_update_seq (Heap.get?_push_size _ rfl) _) ?_)
 show wpAny _ _ (pure ((#[]:Array Value)++vs.toArray).toList) Q E _
 rw [show ((#[]:Array Value)++vs.toArray).toList=vs by simp]
 exact wpAny_pure h
theorem Ck {l:Addr}{vs:List Value}{ns:List Int}{Q:Value->Shared->Prop}(hl:IsTup s.heap l vs.toArray)(hI:IntsAre vs ns)(h64:vs.length < 64)
  (h:∀(out:Array Value) (ns':List Int),IntsAre out.toList ns'->ns'.Perm ns->ns'.Pairwise (·<=·)->Q (.ref (s.heap.objs.size+1)) {s with heap:=sortedAll s.heap vs out}) :
  wpAny (model prog w) A (call (.builtin "sorted") [.ref l]) Q E s:=by
 refine Calls.call_function_entry kind_sorted plain_sorted entry_sorted (args_sorted1 _) ?_
 unfold Builtin.«sorted»
 refine wpAny_bind (m:=checkCount "sorted" 1 1 _) (wpAny_pure ?_)
 refine wpAny_bind (AD hl ?_ (by rw [sizeLine_eq];omega))
 refine wpAny_bind (wpAny_newList ?_)
 have hsz:((s.heap.push (seqObj "list" #[] 0)).update s.heap.objs.size (Obj.mapSeq (·++vs.toArray))).objs.size=s.heap.objs.size+1:=by
  rw [Heap.size_update,size_push']
 have hoL:(((s.heap.push (seqObj "list" #[] 0)).update s.heap.objs.size (Obj.mapSeq (·++vs.toArray))).push (seqObj "list" vs.toArray 0)).get? (s.heap.objs.size+1)=some (seqObj "list" vs.toArray 0):=by
  rw [←hsz];exact Heap.get?_push_size _ rfl
 show wpAny _ _ _ _ _ {s with heap:=((s.heap.push (seqObj "list" #[] 0)).update s.heap.objs.size (Obj.mapSeq (·++vs.toArray))).push (seqObj "list" vs.toArray 0)}
 rw [hsz]
 refine wpAny_bind (wpAny_holding (wpAny_call_entry slot_list_sort ⟨_,hoL,rfl⟩ entry_list_sort (list_sort_tree hoL hI h64 fun out ns' a1 a2 a3=>⟨_,rfl,?_⟩) (args_list_sort _)))
 exact wpAny_pure ⟨_,rfl,h out ns' a1 a2 a3⟩
end
end PySem
namespace L2
open PySem PySem.Spec PyProof.Rows PySem.SeqAt
section
variable {X:Cx}
noncomputable def Nm (K:WA):R2:=fun x y H Q=>∃l k v,x=.ref l/\y=.int k/\SqT K H l [v]/\2<=k/\k<=100/\∀p,H p=none->Q (.ref p) (upd H p (.tup (List.replicate k.toNat v)))
theorem Kb {α:Type}(n:Nat)(x:α):(List.replicate n [x]).flatten=List.replicate n x:=by
 induction n with
 | zero=>rfl
 | succ n ih=>rw [List.replicate_succ,List.replicate_succ,List.flatten_cons,ih];rfl
theorem DJ {v:V}{u:Value}(r:cf v u):∀n,bL (List.replicate n v) (List.replicate n u)
 | 0=>.nil
 | n+1=>.cons r (DJ r n)
theorem LQ:OpR X (binaryOp .Mult) (Nm X.K):=by
 intro pins s σ H x y v u Q I rx ry h
 obtain ⟨l,k,z,rfl,rfl,hS,h1,h2,q⟩:=h
 cases rx
 obtain ⟨t,rfl⟩:=ry
 obtain ⟨its,r,ht,hz⟩:=I.tuple hS
 obtain ⟨w,rfl,rw1⟩:=r.one
 obtain ⟨⟨cls,dd,data,sl⟩,ho,hc,n,hd⟩:=id ht
 simp only at hc hd
 subst hc hd
 have e:List.foldl (fun x1 x2=>x1++x2) #[] (List.replicate k.toNat [w].toArray)=(List.replicate k.toNat w).toArray:=by
  have:=Bn [w] k.toNat []
  rw [List.nil_append,Kb] at this
  exact this
 refine wpAny_binaryOp_repeat_ref (T:="tuple") (U:="int") (by decide) ⟨_,ho,rfl⟩ (fun s'=>typeIs_int s' k t) wX F.fills_int_mul F.slot_int_rmul Cj F.slot_int_index.lookup
  (call_meets F.slot_int_rmul (typeIs_int s k t) F.entry_int_rmul (F.args_int_rmul_2 _ _) (mq k t l [w].toArray n dd sl)
   ⟨ho,rfl,⟨_,ho,rfl⟩,call_meets F.slot_tuple_mul ⟨_,ho,rfl⟩ F.entry_tuple_mul (F.args_tuple_mul_2 _ _) (FR l [w].toArray n dd sl k t h1 h2 rfl) ⟨ho,?_⟩⟩)
 rw [e]
 refine ⟨.ref s.heap.objs.size,_,I.laid (t':=s.toks) (o:=.tup (List.replicate k.toNat z)) (fun b ob q=>Heap.get?_push_of_some _ q) (Nat.le_refl _) ?_,rfl,q _ (I.hok.fresh (Nat.le_refl _))⟩
 exact ⟨by rw [List.length_replicate,sizeLine_eq];omega,_,DJ rw1 _,iI.new _ _⟩
noncomputable def Hj:V->List V->Hp->VK->Prop:=fun x vs H Q=>∃(l:Addr) (ns:List Int) (k:Int),x=.ref l/\vs=[.int k]/\H l=some (.tup (ns.map V.int))/\k∈ns/\Q (.int (ns.idxOf k:Nat)) H
theorem IF:MtR X "tuple.index" Hj:=by
 intro pins s σ H x vs v us Q I rx rv h
 obtain ⟨l,ns,k,rfl,rfl,hq,hk,q⟩:=h
 cases rx
 obtain ⟨u,rfl,t,rfl⟩:=rv.one
 obtain ⟨its,r,pl,hz⟩:=I.tuple (SqT.of hq)
 have hi:IntsAre its ns:=wO r
 obtain ⟨⟨cls,dd,data,sl⟩,ho,hc,n,hd⟩:=id pl
 simp only at hc hd
 subst hc hd
 have hlen:=hi.length
 have hj:ns.idxOf k < ns.length:=List.idxOf_lt_length_iff.mpr hk
 refine call_meets PySem.F.slot_tuple_index ⟨_,ho,rfl⟩ PySem.F.entry_tuple_index (PySem.F.args_tuple_index_2 _ _)
  (AB l its.toArray n dd sl (.int k t) (isInt k) (ns.idxOf k) (by simpa [hlen] using hj) ?_ ?_) ⟨ho,fun y hy=>(eq_isInt k t hi y (by simpa using hy)).at _ _,?_⟩
 ·show isInt k its[ns.idxOf k]=true
  rw [isInt_at k hi _ (by omega) hj]
  simpa using List.getElem_idxOf hj
 ·intro j hjs hlt
  show isInt k its[j]=false
  rw [isInt_at k hi j (by simpa using hjs) (by omega)]
  exact ne_of_lt_idxOf hlt _
 ·exact ⟨.int (ns.idxOf k:Nat),H,I.tok _,⟨_,rfl⟩,q⟩
noncomputable def PD (r:V->List V->Hp->VK->Prop)(to:TE)(t:TA):TE:=fun σ H Q=>to σ H fun x H1=>(∃a xs,x=.ref a/\H1 a=some (.tup xs))/\t σ H1 fun xs H2=>r x xs H2 Q
theorem Oy {o e:Expr}{es:List Expr}{to:TE}{t:TA}{name:Str}{apos cpos:Pos}{id:String}{r:V->List V->Hp->VK->Prop}(pa:PlainAttrs "tuple")(slot:Slot "tuple" name id)(hty:typeOf (.builtin id)=pure (.type "method_descriptor"))(hm:MtR X id r)(ho:PE X o to)(ha:PA X (e::es) t)
  (hbase:attributeBase o name X.env (eval o X.env)=eval o X.env:=by rfl)
  (hfew:((backTo cpos (starEach (e::es) X.env)).all (fun x=>!x.1) && (backToKw cpos (keywordEach [] X.env)).all (fun x=>x.1.isSome)
   && decide ((e::es).length+([]:List Keyword).length+(if ([]:List Keyword).isEmpty then 0 else 1) < 30))=true:=by rfl)
  (hline:(apos.endLine == cpos.line)=true:=by rfl) (hs:starEach (e::es) X.env=(false,eval e X.env)::starEach es X.env:=by rfl) (hplain:(backTo cpos (starEach es X.env)).any (·.1)=false:=by rfl) :
  PE X (.Call (.Attribute o name apos) (e::es) [] cpos) (PD r to t):=by
 intro pins s σ H Q I h
 refine wpAny_Call_method_late hbase hfew hline rfl (thn (ho pins s σ H _ I h) fun v s1 ⟨x,H1,I1,r1,ty,q1⟩=>?_)
 obtain ⟨a,xs,rfl,hH⟩:=ty
 cases r1
 obtain ⟨_,its,_,ob,e1,⟨c1,_⟩,d1⟩:=I1.hok a _ hH
 refine ⟨"tuple",id,pa,slot,hty,⟨ob,e1,c1⟩,fun b eb=>?_,?_⟩
 ·cases eb;exact ⟨ob,e1,d1⟩
 have hA:=ha cpos pins s1 σ H1 _ I1 q1
 rw [hs] at hA ⊢
 refine Calls.callWith_builtin (by show (false || (backTo cpos (starEach es X.env)).any (·.1))=false;rw [hplain]<;>rfl) (Calls.evalArgs_plain ?_)
 exact thn hA fun us s2 ⟨vs,H2,I2,r2,q2⟩=>hm pins s2 σ H2 (.ref a) vs (.ref a) us Q I2 rfl r2 q2
end
section
variable {X:Cx}
noncomputable def Kc (K:WA):List V->Hp->VK->Prop:=fun xs H Q=>∃(a:Addr) (ns:List Int),xs=[.ref a]/\SqT K H a (ns.map V.int)/\ns.length < 64/\∀(l:Addr) (ms:List Int),H l=none->ms.Perm ns->ms.Pairwise (·<=·)->Q (.ref l) (upd H l (.lst (ms.map V.int)))
theorem FT:de X (.builtin "sorted") (Kc X.K):=by
 intro pins s σ H xs us Q I r h
 obtain ⟨a,ns,rfl,hS,hn,q⟩:=h
 obtain ⟨u,rfl,ru⟩:=yR r
 cases ru
 obtain ⟨its,rv,pl,hz⟩:=I.tuple hS
 have hI:IntsAre its ns:=wO rv
 have hlen:its.length=ns.length:=hI.length
 refine Ck pl hI (by omega) fun out ms a1 a2 a3=>?_
 obtain ⟨c,hc⟩:=sortedAll_at s.heap its out
 have hml:ms.length=ns.length:=a2.length_eq
 have J:=I.laid (a:=s.heap.objs.size+1) (o:=.lst (ms.map V.int)) (t':=s.toks) (h':=sortedAll s.heap its out) (fun b o e=>sortedAll_old e) (Nat.le_succ _) (show fO X.prog X.w _ _ _ (.lst (ms.map V.int)) from ⟨by rw [WB,hml];exact Nat.le_of_lt (dE (by omega)),out.toList,c,Br a1,by rw [Array.toArray_toList];exact hc⟩)
 exact ⟨.ref (s.heap.objs.size+1),_,J,rfl,q _ ms (I.hok.fresh (Nat.le_succ _)) a2 a3⟩
end
end L2
namespace L2
open PySem PySem.Spec PyProof.Rows
def fM {α:Type}(P:Addr->α->Prop)(as:List Addr)(xs:List α):Prop:=as.length=xs.length/\∀(i:Nat) a x,as[i]?=some a->xs[i]?=some x->P a x
section
variable {α:Type}{P Q:Addr->α->Prop}{as:List Addr}{xs:List α}{a:Addr}{x:α}
theorem fM.imp (h:fM P as xs)(f:∀a x,P a x->Q a x):fM Q as xs:=⟨h.1,fun i a x e1 e2=>f _ _ (h.2 i a x e1 e2)⟩
theorem fM.nil:fM P [] []:=⟨rfl,fun i a r e _=>by simp at e⟩
theorem fM.push (h:fM P as xs)(hr:P a x):fM P (as++[a]) (xs++[x]):=by
 refine ⟨by rw [List.length_append,List.length_append,h.1];rfl,fun i b y e1 e2=>?_⟩
 by_cases hi:i < as.length
 ·rw [List.getElem?_append_left hi] at e1
  rw [List.getElem?_append_left (by rw [←h.1];exact hi)] at e2
  exact h.2 i b y e1 e2
 ·rw [List.getElem?_append_right (by omega)] at e1
  rw [List.getElem?_append_right (by rw [←h.1];omega),←h.1] at e2
  have hz:i - as.length=0:=by
   have:=(List.getElem?_eq_some_iff.mp e1).1
   simp at this
   omega
  rw [hz] at e1 e2
  cases e1
  cases e2
  exact hr
theorem fM.last (h:fM P as (xs++[x])):∃as' a,as=as'++[a]/\fM P as' xs/\P a x:=by
 have hl:=h.1
 rw [List.length_append,List.length_singleton] at hl
 rcases dM as with rfl | ⟨as',a,rfl⟩
 ·cases hl
 ·have hl':as'.length=xs.length:=by rw [List.length_append,List.length_singleton] at hl;omega
  refine ⟨as',a,rfl,⟨hl',fun i b y e1 e2=>?_⟩,?_⟩
  ·have hi:=(List.getElem?_eq_some_iff.mp e1).1
   exact h.2 i b y (by rw [List.getElem?_append_left hi];exact e1) (by rw [List.getElem?_append_left (by omega)];exact e2)
  ·refine h.2 as'.length a x ?_ ?_
   ·rw [List.getElem?_append_right (Nat.le_refl _)];simp
   ·rw [List.getElem?_append_right (by omega),hl'];simp
end
def gP (K:WA)(H:Hp)(a:Addr)(x:bh×Int):Prop:=∃gt lt ht dt:Addr,SqT K H a [.int x.1.place,.ref gt,.ref lt,.ref ht,.ref dt,.int x.2]/\SqT K H gt (x.1.gates.map V.bl)/\H lt=some (.tup (x.1.ws.map V.int))/\SqT K H ht (mm x.1.e)/\SqT K H dt ((dj x.1.fs).map V.int)
theorem gP.same {K:WA}{H H':Hp}{a:Addr}{x:bh×Int}(h:gP K H a x)(s:aw H H'):gP K H' a x:=by
 obtain ⟨gt,lt,ht,dt,h1,h2,h3,h4,h5⟩:=h
 exact ⟨gt,lt,ht,dt,s.tup h1,s.tup h2,s _ _ h3,s.tup h4,s.tup h5⟩
theorem gP.keep {K:WA}{H H':Hp}{a p:Addr}{ys:List V}{x:bh×Int}(h:gP K H a x)(s:aD p H H')(hp:H p=some (.lst ys)):gP K H' a x:=by
 obtain ⟨gt,lt,ht,dt,h1,h2,h3,h4,h5⟩:=h
 exact ⟨gt,lt,ht,dt,h1.keep s hp,h2.keep s hp,s _ _ (fun z=>by rw [z,hp] at h3;cases h3) h3,h4.keep s hp,h5.keep s hp⟩
noncomputable def jJ (n0:bh)(rs:List Row):List (bh×Int):=(n0,0)::rs.map fun r=>(r.sn,r.ended)
theorem mr (n0:bh)(rs:List Row)(r:Row):jJ n0 (rs++[r])=jJ n0 rs++[(r.sn,r.ended)]:=by simp [jJ]
theorem FU (n0:bh)(rs:List Row):(jJ n0 rs).getLast?=some (ao n0 rs,dw rs):=by
 rcases dM rs with rfl | ⟨rs',r,rfl⟩
 ·rfl
 ·rw [mr,List.getLast?_concat,oU,wU]
theorem By (n0:bh)(rs:List Row):(jJ n0 rs).length=rs.length+1:=by simp [jJ]
theorem zc {K:WA}{H:Hp}{as:List Addr}{n0:bh}{rs:List Row}(h:fM (gP K H) as (jJ n0 rs)):∃as' a,as=as'++[a]/\gP K H a (ao n0 rs,dw rs):=by
 have hl:=FU n0 rs
 rcases dM (jJ n0 rs) with e | ⟨l,x,e⟩
 ·rw [e] at hl;cases hl
 ·rw [e,List.getLast?_concat] at hl
  cases hl
  rw [e] at h
  obtain ⟨as',a,ea,_,ha⟩:=h.last
  exact ⟨as',a,ea,ha⟩
theorem iu {as:List Addr}{a:Addr}:atI ((as++[a]).map V.ref) (-1)=some (.ref a):=by
 rw [List.map_append]
 exact JE _ _
structure dN (K:WA)(H:Hp)(p dl cl ll:Addr)(g:Cfg)(lds:List Ld):Prop where
 ob:H p=some (.lst [.ref dl,.ref cl,.int g.slow,.int g.fast,.ref ll])
 od:H dl=some (.lst (g.ds.map V.int))
 oc:∃as:List Addr,H cl=some (.lst (as.map V.ref))/\cV cdV K H as g.ls
 ol:∃as:List Addr,H ll=some (.lst (as.map V.ref))/\ju K H as lds
 ek:g.ks=lds.map (·.1)
theorem dN.same {K:WA}{H H':Hp}{p dl cl ll:Addr}{g:Cfg}{lds:List Ld}(h:dN K H p dl cl ll g lds)(s:aw H H'):dN K H' p dl cl ll g lds:=by
 obtain ⟨h1,h2,⟨as,h3,h4⟩,⟨bs,h5,h6⟩,h7⟩:=h
 exact ⟨s _ _ h1,s _ _ h2,⟨as,s _ _ h3,h4.same s⟩,⟨bs,s _ _ h5,h6.same s⟩,h7⟩
def cK (a b c:Addr)(H H':Hp):Prop:=∀d o,d≠a->d≠b->d≠c->H d=some o->H' d=some o
theorem cK.of {a b c:Addr}{H H':Hp}(s:aw H H'):cK a b c H H':=fun d o _ _ _ e=>s d o e
theorem cK.a {a b c:Addr}{H H':Hp}(s:aD a H H'):cK a b c H H':=fun d o n _ _ e=>s d o n e
theorem cK.b {a b c:Addr}{H H':Hp}(s:aD b H H'):cK a b c H H':=fun d o _ n _ e=>s d o n e
theorem cK.c {a b c:Addr}{H H':Hp}(s:aD c H H'):cK a b c H H':=fun d o _ _ n e=>s d o n e
theorem cK.trans {a b c:Addr}{H H1 H2:Hp}(s:cK a b c H H1)(t:cK a b c H1 H2):cK a b c H H2:=fun d o n m k e=>t d o n m k (s d o n m k e)
theorem aw.keeps3 {a b c:Addr}{H H1 H2:Hp}(s:aw H H1)(k:cK a b c H1 H2)(ha:H a=none)(hb:H b=none)(hc:H c=none):aw H H2:=fun d o e=>k d o (av e ha) (av e hb) (av e hc) (s d o e)
structure DK (C:Cl)(K:WA)(H:Hp)(w bk rl sl wl:Addr)(g:Cfg)(n0:bh)(rs:List Row):Prop where
 wk:WAt C K H w bk rl g n0 rs
 st:∃as:List Addr,H sl=some (.lst (as.map V.ref))/\fM (gP K H) as (jJ n0 rs)
 ro:∃as:List Addr,H wl=some (.lst (as.map V.ref))/\dC K H as rs
 ns:g.N sl
 nw:g.N wl
 ne:sl≠wl
 run:Run g n0 rs
theorem DK.same {C:Cl}{K:WA}{H H':Hp}{w bk rl sl wl:Addr}{g:Cfg}{n0:bh}{rs:List Row}(h:DK C K H w bk rl sl wl g n0 rs)(s:aw H H'):DK C K H' w bk rl sl wl g n0 rs:=by
 obtain ⟨h1,⟨as,h2,h3⟩,⟨bs,h4,h5⟩,h6,h7,h8,h9⟩:=h
 exact ⟨h1.same s,⟨as,s _ _ h2,h3.imp fun a x q=>q.same s⟩,⟨bs,s _ _ h4,h5.same s⟩,h6,h7,h8,h9⟩
noncomputable def u6 (K:WA)(H:Hp)(n:bh)(t:Int):Dd->V->Prop
 | .rept s,v=>∃(p:Addr) (l r:Int),v=.ref p/\n.e=.wait l r/\SqT K H p [.bl (decide (s=r)),.int r,.int s]
 | _,v=>v=.int t
theorem LR {K:WA}{l:Addr}{ls:List Ld}{te:TE}{cm:List (Option Nat)}{σ:St}{H:Hp}{Q:VK}{j:Nat}(f:Ld->V)(hL:fq K H l ls)(hn:ls.length<=sizeLine)(hj:(cT cm σ)[j]?=some none)
  (he:∀a x,SqT K H a (ldV x)->∀N:VK,N (f x) H->te ((cT cm σ).set j (some (.ref a))) H N)
  (hd:∀p,H p=none->Q (.ref p) (upd H p (.lst (ls.map f)))):uV (Itl K l) (eP j) yk te cm σ Q H:=by
 obtain ⟨as,hS,hlen,hT⟩:=hL
 refine wN ls.length (fun i acc H'=>H'=H/\acc=(ls.take i).map f) ⟨rfl,by simp⟩ ?_ ?_ ?_ ?_
 ·rintro i acc H' hi ⟨rfl,_⟩
  have ha:as[i]?=some as[i]:=List.getElem?_eq_getElem (by omega)
  exact ⟨_,.ref as[i],hS,by rw [List.getElem?_map,ha];rfl⟩
 ·rintro acc H' ⟨rfl,_⟩
  exact ⟨_,hS,by rw [WB];omega⟩
 ·rintro i acc H' hi ⟨rfl,rfl⟩
  have ha:as[i]?=some as[i]:=List.getElem?_eq_getElem (by omega)
  have hx:ls[i]?=some ls[i]:=List.getElem?_eq_getElem hi
  refine ⟨by rw [WB,List.length_take];omega,fun x H2 y M hM=>?_⟩
  obtain ⟨e,y⟩:=y
  subst e
  have hy:=y _ hS
  rw [List.getElem?_map,ha] at hy
  cases hy
  refine ⟨J0 hj,?_⟩
  unfold yk;dsimp only
  split
  ·refine he as[i] ls[i] (hT i _ _ ha hx) _ (hM _ _ ⟨rfl,?_⟩)
   rw [List.take_succ_eq_append_getElem hi,List.map_append];rfl
  ·rename_i z;exact absurd rfl z
 ·rintro acc H' ⟨rfl,rfl⟩ p hp
  rw [List.take_length]
  exact hd p hp
end L2
namespace L2
open PySem PySem.Spec PyProof.Rows PySem.SeqAt
theorem IG (fs:List Bool)(n i:Nat)(v:Bool):(fs.set n v).getD i false=if n=i/\i < fs.length then v else fs.getD i false:=by
 rw [List.getD_eq_getElem?_getD,List.getD_eq_getElem?_getD,List.getElem?_set]
 by_cases e:n=i
 ·subst e
  by_cases h:n < fs.length
  ·rw [if_pos rfl,if_pos h,if_pos ⟨rfl,h⟩];rfl
  ·rw [if_pos rfl,if_neg h,if_neg (fun z=>h z.2),List.getElem?_eq_none (by omega)]
 ·rw [if_neg e,if_neg (fun z=>e z.1)]
theorem IH {fs:List Bool}{l:Int}{ms:List Int}(h0:0<=l)(h1:l < fs.length)(h2:fs.getD l.toNat false=false)(hp:ms.Perm (dj fs++[l]))(hs:ms.Pairwise (·<=·)):ms=dj (fs.set l.toNat true):=by
 have hl:¬l∈dj fs:=fun z=>by rw [(iH.mp z).2.2] at h2;cases h2
 have hnd:(dj fs++[l]).Nodup:=by
  rw [List.nodup_append]
  refine ⟨(DE fs).imp fun h=>by omega,by simp,fun a ha b hb e=>?_⟩
  rw [List.mem_singleton] at hb
  subst hb e
  exact hl ha
 have hn:ms.Nodup:=hp.nodup_iff.mpr hnd
 have hu:ms.Pairwise (· < ·):=(hs.and hn).imp fun ⟨x,y⟩=>by omega
 refine J3 hu (DE _) fun k=>?_
 rw [hp.mem_iff,List.mem_append,List.mem_singleton,iH,iH,List.length_set,IG]
 constructor
 ·rintro (⟨a,b,c⟩ | rfl)
  ·refine ⟨a,b,?_⟩
   split
   ·rfl
   ·exact c
  ·exact ⟨h0,h1,by rw [if_pos ⟨rfl,by omega⟩]⟩
 ·rintro ⟨a,b,c⟩
  split at c
  ·rename_i e
   exact .inr (by omega)
  ·exact .inl ⟨a,b,c⟩
theorem wY (fs:List Bool):(dj fs).length<=fs.length:=y8 fs fs.length
theorem u7 {α:Type}(f:α->V)(xs:List α)(n:Nat)(v:α):(xs.map f).set n (f v)=(xs.set n v).map f:=(List.map_set ..).symm
section
variable {X:Cx}
noncomputable def Nn:R2:=fun x y H Q=>∃a b xs ys,x=.ref a/\y=.ref b/\H a=some (.tup xs)/\H b=some (.tup ys)/\xs.length+ys.length<=1000/\∀p H',aw H H'->H' p=some (.tup (xs++ys))->Q (.ref p) H'
theorem LS:OpR X (binaryOp .Add) Nn:=by
 intro pins s σ H x y v u Q I rx ry h
 obtain ⟨a,b,xs,ys,rfl,rfl,ha,hb,hz,q⟩:=h
 by_cases hx:xs=[]
 ·subst hx
  cases rx
  cases ry
  obtain ⟨its,r1,p1,_⟩:=I.tuple (SqT.of ha)
  obtain ⟨its2,r2,p2,_⟩:=I.tuple (SqT.of hb)
  have e1:=r1.zero
  subst e1
  obtain ⟨⟨cls,dd,data,sl⟩,ho,hc,n,hd⟩:=id p1
  obtain ⟨⟨cls2,dd2,data2,sl2⟩,ho2,hc2,n2,hd2⟩:=id p2
  simp only at hc hd hc2 hd2
  subst hc hd hc2 hd2
  exact concat_meets ⟨_,ho,rfl⟩ ⟨_,ho2,rfl⟩ noFill_tuple_add seq_tuple_add PySem.F.slot_tuple_add PySem.F.entry_tuple_add (PySem.F.args_tuple_add_2 _ _)
   (tuple_addW0 a b _ its2.toArray n n2 dd dd2 sl sl2 rfl) ⟨ho,ho2,⟨.ref b,H,I,rfl,q b H (aw.refl H) hb⟩⟩
 ·refine G2 pins s σ H _ _ v u Q I rx ry ⟨a,b,xs,ys,rfl,rfl,SqT.of ha,SqT.of hb,hx,by rw [sizeLine_eq];omega,fun e=>q a H (aw.refl H) (by rw [e,List.append_nil];exact ha),fun _ p hp=>q p _ ((aw.refl H).lay hp) ah⟩
end
end L2
namespace L2
open PySem PySem.Spec PyProof.Rows
def onI (x:V)(P:Int->Prop):Prop:=match x with | .int i=>P i | _=>False
def onB (x:V)(P:Bool->Prop):Prop:=match x with | .bl i=>P i | _=>False
def onR (x:V)(P:Addr->Prop):Prop:=match x with | .ref i=>P i | _=>False
def onO (x:Option (Option V))(P:V->Prop):Prop:=match x with | some (some v)=>P v | _=>False
def onC (xs:List V)(P:V->List V->Prop):Prop:=match xs with | v::r=>P v r | []=>False
def onN (xs:List V)(P:Prop):Prop:=match xs with | []=>P | _=>False
theorem LU (i:Int)(P:Int->Prop):onI (.int i) P=P i:=rfl
theorem Oz (i:Bool)(P:Bool->Prop):onB (.bl i) P=P i:=rfl
theorem LV (i:Addr)(P:Addr->Prop):onR (.ref i) P=P i:=rfl
theorem Kd (v:V)(P:V->Prop):onO (some (some v)) P=P v:=rfl
theorem Ke (v:V)(r:List V)(P:V->List V->Prop):onC (v::r) P=P v r:=rfl
theorem LW (P:Prop):onN [] P=P:=rfl
theorem Cm {x:V}{P:Int->Prop}:(∃i,x=.int i/\P i)↔onI x P:=by cases x<;>simp [onI]
theorem Hk {x:V}{P:Bool->Prop}:(∃i,x=.bl i/\P i)↔onB x P:=by cases x<;>simp [onB]
theorem Cn {x:V}{P:Addr->Prop}:(∃i,x=.ref i/\P i)↔onR x P:=by cases x<;>simp [onR]
theorem fU {x:V}{P:Addr->Prop}(h:onR x P):∃i,x=.ref i/\P i:=Cn.mpr h
theorem wZ {x:V}{P:Int->Prop}(h:onI x P):∃i,x=.int i/\P i:=Cm.mpr h
theorem LX {x:Option (Option V)}{P:V->Prop}:(∃v,x=some (some v)/\P v)↔onO x P:=by
 rcases x with _ | _ | v<;>simp [onO]
theorem LY {xs:List V}{P:V->List V->Prop}:(∃v r,xs=v::r/\P v r)↔onC xs P:=by
 cases xs with
 | nil=>exact ⟨fun ⟨_,_,e,_⟩=>(List.cons_ne_nil _ _ e.symm).elim,fun h=>False.elim h⟩
 | cons v r=>exact ⟨fun ⟨_,_,e,h⟩=>by cases e;exact h,fun h=>⟨v,r,rfl,h⟩⟩
theorem LZ {xs:List V}{P:Prop}:(xs=[]/\P)↔onN xs P:=by cases xs<;>simp [onN]
theorem Qi {α β:Type}(f:α->β)(a:α)(l:List α):List.map f (a::l)=f a::List.map f l:=rfl
theorem Qj {α β:Type}(f:α->β):List.map f ([]:List α)=[]:=rfl
theorem Qk {α:Type}(a:α)(l m:List α):(a::l)++m=a::(l++m):=rfl
theorem Ql {α:Type}(m:List α):([]:List α)++m=m:=rfl
theorem PF {α:Type}(a:α)(l:List α):(a::l)[0]?=some a:=rfl
theorem PH {α:Type}(a:α)(l:List α)(n:Nat):(a::l)[n+1]?=l[n]?:=rfl
theorem PJ {α:Type}(a b:α)(l:List α):(a::l).set 0 b=b::l:=rfl
theorem PL {α:Type}(a b:α)(l:List α)(n:Nat):(a::l).set (n+1) b=a::l.set n b:=rfl
theorem Qm {α:Type}(a:α)(n:Nat):List.replicate (n+1) a=a::List.replicate n a:=rfl
theorem Qn {α:Type}(a:α):List.replicate 0 a=[]:=rfl
theorem OA (N:List Str)(vs:List V):L2.oo N vs=vs.map some++List.replicate (N.length - vs.length) none:=rfl
theorem σN (cm:List (Option Nat))(σ:St):cT (none::cm) σ=none::cT cm σ:=rfl
theorem σS (i:Nat)(cm:List (Option Nat))(σ:St):cT (some i::cm) σ=(σ[i]?).getD none::cT cm σ:=rfl
theorem σ0 (σ:St):cT [] σ=[]:=rfl
theorem PM {α:Type}(a b:α):(some a).getD b=a:=rfl
theorem Qo {α:Type}(a:α)(l:List α):(a::l).length=l.length+1:=rfl
theorem Qp {α:Type}:([]:List α).length=0:=rfl
theorem PN {A B:Prop}:(if true=true then A else B)=A:=rfl
theorem PQ {A B:Prop}:(if false=true then A else B)=B:=rfl
theorem Qq {p:Prop}[Decidable p]{A B:Prop}(h:if p then A else B):if decide p=true then A else B:=by
 by_cases e:p
 ·rw [if_pos e] at h;rw [if_pos (decide_eq_true e)];exact h
 ·rw [if_neg e] at h;rw [if_neg (by simp [e])];exact h
section
variable {α β:Type}
theorem ceq {f g:α->β->Prop}(h:∀x y,f x y↔g x y):f=g:=funext fun x=>funext fun y=>propext (h x y)
noncomputable def Kf (i:Nat):TE:=fun σ H Q=>onO σ[i]? fun v=>Q v H
theorem L3 (i:Nat):NC i=Kf i:=funext fun σ=>funext fun H=>funext fun Q=>propext LX
noncomputable def tB' (t:TE):TT:=fun σ H Q=>t σ H fun x H1=>onB x fun c=>Q c H1
theorem Np (t:TE):tB t=tB' t:=funext fun σ=>funext fun H=>funext fun Q=>congrArg (t σ H) (ceq fun _ _=>Hk)
theorem Kg (t:TE):oN t=tB' t:=Np t
noncomputable def FV (g:Int->Int->V):R2:=fun x y H Q=>onI x fun i=>onI y fun j=>Q (g i j) H
theorem two_iff {x y:V}{P:Int->Int->Prop}:(∃i j,x=.int i/\y=.int j/\P i j)↔onI x fun i=>onI y fun j=>P i j:=⟨fun ⟨i,j,e,f,h⟩=>by subst e f;exact h,fun h=>let ⟨i,e,h⟩:=wZ h;let ⟨j,f,h⟩:=wZ h;⟨i,j,e,f,h⟩⟩
theorem zd (g:Int->Int->V):rI0 g=FV g:=funext fun x=>funext fun y=>ceq fun _ _=>two_iff
noncomputable def rI' (C:Int->Int->Prop)(g:Int->Int->V):R2:=fun x y H Q=>onI x fun i=>onI y fun j=>C i j/\Q (g i j) H
theorem Hl (C:Int->Int->Prop)(g:Int->Int->V):rI C g=rI' C g:=funext fun x=>funext fun y=>ceq fun _ _=>two_iff
noncomputable def rU' (g:Int->V):V->Hp->VK->Prop:=fun x H Q=>onI x fun i=>Q (g i) H
theorem PR (g:Int->V):rU g=rU' g:=funext fun x=>ceq fun _ _=>Cm
def eqP (x y:V)(P:Bool->Prop):Prop:=match x,y with
 | .int i,.int j=>P (decide (i=j))
 | .str i,.str j=>P (decide (i=j))
 | .bl i,.bl j=>P (decide (i=j))
 | x,y=>Av x y=true/\P (decide (x=y))
theorem Hm {x y:V}{P:Bool->Prop}:(Av x y=true/\P (decide (x=y)))↔eqP x y P:=by
 cases x<;>cases y<;>simp [eqP,Av]
theorem L4 (i j:Int)(P:Bool->Prop):eqP (.int i) (.int j) P=P (decide (i=j)):=rfl
theorem L5 (i j:Str)(P:Bool->Prop):eqP (.str i) (.str j) P=P (decide (i=j)):=rfl
theorem OB (i j:Bool)(P:Bool->Prop):eqP (.bl i) (.bl j) P=P (decide (i=j)):=rfl
noncomputable def OC:R2:=fun x y H Q=>eqP x y fun b=>Q (.bl b) H
theorem OD:rEq=OC:=funext fun x=>funext fun y=>ceq fun H Q=>Hm (P:=fun b=>Q (.bl b) H)
noncomputable def sT (p:Int->Int->Prop)[d:∀i j,Decidable (p i j)](ta tb:TE):TT:=fun σ H Q=>ta σ H fun x H1=>tb σ H1 fun y H2=>onI x fun i=>onI y fun j=>if p i j then Q true H2 else Q false H2
theorem FW {p:Prop}[Decidable p]{Q:Bool->Prop}:Q (decide p)=if p then Q true else Q false:=by
 by_cases h:p
 ·rw [if_pos h,decide_eq_true h]
 ·rw [if_neg h,decide_eq_false h]
theorem yG (p:Int->Int->Prop)[d:∀i j,Decidable (p i j)](ta tb:TE):oN (tOp (rI0 fun i j=>.bl (decide (p i j))) ta tb)=sT p ta tb:=by
 funext σ H Q
 refine congrArg (ta σ H) (funext fun x=>funext fun H1=>congrArg (tb σ H1) (ceq fun y H2=>?_))
 cases x<;>cases y<;>simp [rI0,onI,FW (Q:=fun b=>Q b H2)]
theorem OE (ta tb:TE):oN (tOp (rI0 fun i j=>.bl (decide (i < j))) ta tb)=sT (fun i j=>i < j) ta tb:=yG _ ta tb
theorem OF (ta tb:TE):oN (tOp (rI0 fun i j=>.bl (decide (i<=j))) ta tb)=sT (fun i j=>i<=j) ta tb:=yG _ ta tb
theorem OG (ta tb:TE):oN (tOp (rI0 fun i j=>.bl (decide (j < i))) ta tb)=sT (fun i j=>j < i) ta tb:=yG _ ta tb
theorem OH (ta tb:TE):oN (tOp (rI0 fun i j=>.bl (decide (j<=i))) ta tb)=sT (fun i j=>j<=i) ta tb:=yG _ ta tb
def eqT (x y:V)(Y N:Prop):Prop:=match x,y with
 | .int i,.int j=>if i=j then Y else N
 | .str i,.str j=>if i=j then Y else N
 | .bl i,.bl j=>if i=j then Y else N
 | x,y=>Av x y=true/\if x=y then Y else N
theorem L6 (i j:Int)(Y N:Prop):eqT (.int i) (.int j) Y N=if i=j then Y else N:=rfl
theorem L7 (i j:Str)(Y N:Prop):eqT (.str i) (.str j) Y N=if i=j then Y else N:=rfl
theorem OI (i j:Bool)(Y N:Prop):eqT (.bl i) (.bl j) Y N=if i=j then Y else N:=rfl
theorem Hn {x y:V}{Q:Bool->Prop}:(Av x y=true/\Q (decide (x=y)))↔eqT x y (Q true) (Q false):=by
 rw [FW (Q:=Q)]
 cases x<;>cases y<;>simp [eqT,Av]
def neT (x y:V)(Y N:Prop):Prop:=match x,y with
 | .int i,.int j=>if ¬i=j then Y else N
 | .str i,.str j=>if ¬i=j then Y else N
 | .bl i,.bl j=>if ¬i=j then Y else N
 | x,y=>Av x y=true/\if ¬x=y then Y else N
theorem L8 (i j:Int)(Y N:Prop):neT (.int i) (.int j) Y N=if ¬i=j then Y else N:=rfl
theorem L9 (i j:Str)(Y N:Prop):neT (.str i) (.str j) Y N=if ¬i=j then Y else N:=rfl
theorem OJ (i j:Bool)(Y N:Prop):neT (.bl i) (.bl j) Y N=if ¬i=j then Y else N:=rfl
theorem Ma {x y:V}{Y N:Prop}:eqT x y N Y↔neT x y Y N:=by
 have h:∀(p:Prop) [Decidable p],(if p then N else Y)=if ¬p then Y else N:=fun p _=>by by_cases e:p<;>simp [e]
 cases x<;>cases y<;>first | exact iff_of_eq (h _) | exact and_congr Iff.rfl (iff_of_eq (h _))
noncomputable def OK (ta tb:TE):TT:=fun σ H Q=>ta σ H fun x H1=>tb σ H1 fun y H2=>eqT x y (Q true H2) (Q false H2)
noncomputable def OL (ta tb:TE):TT:=fun σ H Q=>ta σ H fun x H1=>tb σ H1 fun y H2=>neT x y (Q true H2) (Q false H2)
theorem Mb (ta tb:TE):oN (tOp rEq ta tb)=OK ta tb:=by
 funext σ H Q
 refine congrArg (ta σ H) (funext fun x=>funext fun H1=>congrArg (tb σ H1) (ceq fun y H2=>?_))
 refine Iff.trans ?_ (Hn (Q:=fun b=>Q b H2))
 exact ⟨fun ⟨a,k,e,q⟩=>⟨a,by cases e;exact q⟩,fun ⟨a,q⟩=>⟨a,_,rfl,q⟩⟩
theorem Mc (ta tb:TE):oN (tOp rNe ta tb)=OL ta tb:=by
 funext σ H Q
 refine congrArg (ta σ H) (funext fun x=>funext fun H1=>congrArg (tb σ H1) (ceq fun y H2=>?_))
 refine Iff.trans (Iff.trans ?_ (Hn (Q:=fun b=>Q (!b) H2))) Ma
 exact ⟨fun ⟨a,k,e,q⟩=>⟨a,by cases e;exact q⟩,fun ⟨a,q⟩=>⟨a,_,rfl,q⟩⟩
noncomputable def sU (K:WA)(n:Nat)(t:TGs):TG:=fun v σ H Q=>onR v fun a=>∃xs,SqT K H a xs/\xs.length=n/\t xs σ H Q
theorem u9 {x:V}{γ:Type}{P:Addr->γ->Prop}:(∃a z,x=.ref a/\P a z)↔onR x fun a=>∃z,P a z:=by cases x<;>simp [onR]
theorem Ho (K:WA)(n:Nat)(t:TGs):NL K n t=sU K n t:=funext fun v=>funext fun σ=>ceq fun _ _=>u9
noncomputable def FX (K:WA)(n:Nat)(t:TGs):TG:=fun v σ H Q=>onR v fun a=>∃xs,SqL K H a xs/\xs.length=n/\t xs σ H Q
theorem Kh (K:WA)(n:Nat)(t:TGs):Nj K n t=FX K n t:=funext fun v=>funext fun σ=>ceq fun _ _=>u9
noncomputable def w6 (t:TG)(u:TGs):TGs:=fun vs σ H Q=>onC vs fun v r=>t v σ H fun σ' H'=>u r σ' H' Q
theorem va (t:TG)(u:TGs):Dk t u=w6 t u:=funext fun v=>funext fun σ=>ceq fun _ _=>LY
noncomputable def Hq:TGs:=fun vs σ H Q=>onN vs (Q σ H)
theorem Hr:NK=Hq:=funext fun v=>funext fun σ=>ceq fun _ _=>LZ
noncomputable def Bz (K:WA):R2:=fun x y H Q=>onR x fun p=>onI y fun i=>∃xs,SqL K H p xs/\∃v,atI xs i=some v/\Q v H
theorem Md (K:WA):N1 K=Bz K:=funext fun x=>funext fun y=>ceq fun H Q=>⟨fun ⟨p,xs,i,v,e,f,h1,h2,h3⟩=>by subst e f;exact ⟨xs,h1,v,h2,h3⟩,fun h=>let ⟨p,e,h⟩:=fU h;let ⟨i,f,xs,h1,v,h2,h3⟩:=wZ h;⟨p,xs,i,v,e,f,h1,h2,h3⟩⟩
noncomputable def xH (K:WA):R2:=fun x y H Q=>onR x fun p=>onI y fun i=>∃xs,SqT K H p xs/\∃v,atI xs i=some v/\Q v H
theorem Me (K:WA):N2 K=xH K:=funext fun x=>funext fun y=>ceq fun H Q=>⟨fun ⟨p,xs,i,v,e,f,h1,h2,h3⟩=>by subst e f;exact ⟨xs,h1,v,h2,h3⟩,fun h=>let ⟨p,e,h⟩:=fU h;let ⟨i,f,xs,h1,v,h2,h3⟩:=wZ h;⟨p,xs,i,v,e,f,h1,h2,h3⟩⟩
noncomputable def FY (ta tb:TE):TE:=fun σ H Q=>ta σ H fun x H1=>onB x fun c=>if c=true then tb σ H1 Q else Q (.bl false) H1
theorem Ki (ta tb:TE):MV ta tb=FY ta tb:=funext fun σ=>funext fun H=>funext fun Q=>congrArg (ta σ H) (ceq fun _ _=>Hk)
noncomputable def Kj (K:WA)(ta:TE)(f:Str):TE:=fun σ H Q=>ta σ H fun x H1=>onR x fun a=>∃C dx fs,H1 a=some (.ins C dx fs)/\Cls K C/\bA K C f/\∃v,fs.lookup f=some v/\Q v H1
theorem Mf (K:WA)(ta:TE)(f:Str):Pe K ta f=Kj K ta f:=funext fun σ=>funext fun H=>funext fun Q=>congrArg (ta σ H) (ceq fun x H1=>by cases x<;>simp [onR])
noncomputable def Kk (K:WA)(ta tv:TE)(f:Str):TS:=fun D σ H=>tv σ H fun y H1=>ta σ H1 fun x H2=>onR x fun a=>∃C dx fs,H2 a=some (.ins C dx fs)/\Cls K C/\bA K C f/\fs.length < 1000/\D.nx σ (upd H2 a (.ins C dx (bG f y fs)))
theorem Mg (K:WA)(ta tv:TE)(f:Str):Pf K ta tv f=Kk K ta tv f:=funext fun D=>funext fun σ=>funext fun H=>congrArg (tv σ H) (funext fun y=>funext fun H1=>congrArg (ta σ H1) (ceq fun x H2=>by cases x<;>simp [onR]))
noncomputable def Co (C:Addr)(m:Str)(sp:Sp)(dvs:List V)(E:XK)(ta:TE)(t:TA):TE:=fun σ H Q=>ta σ H fun x H1=>onR x fun a=>∃dx fs,H1 a=some (.ins C dx fs)/\fs.lookup m=none/\t σ H1 fun vs H2=>sp (.ref a::(vs++dvs)) H2 Q E
theorem DL (C:Addr)(m:Str)(sp:Sp)(dvs:List V)(E:XK)(ta:TE)(t:TA):Dm C m sp dvs E ta t=Co C m sp dvs E ta t:=funext fun σ=>funext fun H=>funext fun Q=>congrArg (ta σ H) (ceq fun x H1=>by cases x<;>simp [onR])
noncomputable def ze:V->List V->Hp->VK->Prop:=fun x vs H Q=>onR x fun l=>onC vs fun y r=>onN r (∃xs,H l=some (.lst xs)/\xs.length < sizeLine/\Q .non (upd H l (.lst (xs++[y]))))
theorem FZ:G7=ze:=funext fun x=>funext fun vs=>ceq fun H Q=>⟨fun ⟨l,xs,y,e,f,h⟩=>by subst e f;exact ⟨xs,h⟩,fun h=>by
 obtain ⟨l,rfl,z⟩:=fU h
 match vs,z with
 | [v],⟨xs,z⟩=>exact ⟨l,xs,v,rfl,rfl,z⟩⟩
noncomputable def Ga (t:TE):TO:=fun σ H Q=>t σ H fun x H1=>onI x fun i=>Q (some i) H1
theorem Kl (t:TE):Na t=Ga t:=funext fun σ=>funext fun H=>funext fun Q=>congrArg (t σ H) (ceq fun _ _=>Cm)
noncomputable def Gb (K:WA)(tl:TE):TI:=fun σ H R=>tl σ H fun x H1=>onR x fun a=>(∃xs,SqL K H1 a xs)/\R (Itl K a) H1
theorem Km (K:WA)(tl:TE):MZ K tl=Gb K tl:=funext fun σ=>funext fun H=>funext fun R=>congrArg (tl σ H) (ceq fun _ _=>Cn)
noncomputable def Gc (ta:TA):TI:=fun σ H R=>ta σ H fun vs H1=>onC vs fun v r=>onN r (onI v fun j=>-(2 ^ 62)<=j/\j < 2 ^ 62/\R (Itr 0 j.toNat) H1)
theorem Kn (ta:TA):M0 ta=Gc ta:=funext fun σ=>funext fun H=>funext fun R=>congrArg (ta σ H) (ceq fun vs H1=>by
 rcases vs with _ | ⟨y,_ | ⟨z,vs⟩⟩<;>(try cases y)<;>simp [onI,onC,onN])
noncomputable def Ko (K:WA):List V->Hp->VK->Prop:=fun vs H Q=>onC vs fun v r=>onN r (onR v fun p=>∃ys,(SqL K H p ys\/SqT K H p ys)/\Q (.int ys.length) H)
theorem Mh (K:WA)(t:TA):tCB (fun xs H Q=>∃p ys,xs=[.ref p]/\(SqL K H p ys\/SqT K H p ys)/\Q (.int ys.length) H) t=tCB (Ko K) t:=by
 refine congrArg (fun r=>tCB r t) (funext fun vs=>ceq fun H Q=>?_)
 rcases vs with _ | ⟨y,_ | ⟨z,vs⟩⟩<;>(try cases y)<;>simp [Ko,onR,onC,onN]
noncomputable def yH (K:WA):List V->Hp->VK->Prop:=fun vs H Q=>onC vs fun v r=>onN r (onR v fun p=>∃ys,(SqL K H p ys\/SqT K H p ys)/\∀l,H l=none->Q (.ref l) (upd H l (.lst ys)))
theorem Gd (K:WA)(t:TA):tCB (fun xs H Q=>∃p ys,xs=[.ref p]/\(SqL K H p ys\/SqT K H p ys)/\∀l,H l=none->Q (.ref l) (upd H l (.lst ys))) t=tCB (yH K) t:=by
 refine congrArg (fun r=>tCB r t) (funext fun vs=>ceq fun H Q=>?_)
 rcases vs with _ | ⟨y,_ | ⟨z,vs⟩⟩<;>(try cases y)<;>simp [yH,onR,onC,onN]
noncomputable def Ge:V->V->V->Hp->(Hp->Prop)->Prop:=fun o i v H Q=>onR o fun p=>onI i fun k=>∃xs,H p=some (.lst xs)/\∃j,ixN xs.length k=some j/\Q (upd H p (.lst (xs.set j v)))
theorem Kp:Nd=Ge:=funext fun o=>funext fun i=>funext fun v=>ceq fun H Q=>⟨fun ⟨p,xs,k,j,e,f,h1,h2,h3⟩=>by subst e f;exact ⟨xs,h1,j,h2,h3⟩,fun h=>let ⟨p,e,h⟩:=fU h;let ⟨k,f,xs,h1,j,h2,h3⟩:=wZ h;⟨p,xs,k,j,e,f,h1,h2,h3⟩⟩
theorem Qr {p:Prop}[Decidable p]{A B:Prop}(h:if ¬p then A else B):if (!decide p)=true then A else B:=by
 by_cases e:p
 ·rw [if_neg (fun z=>z e)] at h;rw [if_neg (by simp [e])];exact h
 ·rw [if_pos e] at h;rw [if_pos (by simp [e])];exact h
noncomputable def tU1 (f:Int->V)(ta:TE):TE:=fun σ H Q=>ta σ H fun x H1=>onI x fun i=>Q (f i) H1
theorem Kq {k:Int}(hk:0 < k)(ta:TE)(g:Int->Int->V):tOp (rI (fun _ j=>0 < j) g) ta (tC (.int k))=tU1 (fun i=>g i k) ta:=funext fun σ=>funext fun H=>funext fun Q=>congrArg (ta σ H) (ceq fun x H1=>by
 cases x<;>simp [rI,tC,onI,hk])
theorem Kr {k:Int}(h1:0 < k)(h2:k < 1073741824)(ta:TE)(g:Int->Int->V):tOp (rI Ju g) ta (tC (.int k))=tU1 (fun i=>g i k) ta:=funext fun σ=>funext fun H=>funext fun Q=>congrArg (ta σ H) (ceq fun x H1=>by
 have hc:∀i,Ju i k:=fun i=>by unfold Ju;omega
 cases x<;>simp [rI,tC,onI,hc])
theorem Ks {k:Int}(h1:-4294967296 < k)(h2:k < 4294967296)(ta:TE)(g:Int->Int->V):tOp (rI yO g) ta (tC (.int k))=tU1 (fun i=>g i k) ta:=funext fun σ=>funext fun H=>funext fun Q=>congrArg (ta σ H) (ceq fun x H1=>by
 have hc:∀i,yO i k:=fun i=>by unfold yO;omega
 cases x<;>simp [rI,tC,onI,hc])
theorem IJ {k:Int}(h1:-4294967296 < k)(h2:k < 4294967296)(tb:TE)(g:Int->Int->V):tOp (rI yO g) (tC (.int k)) tb=tU1 (fun i=>g k i) tb:=funext fun σ=>funext fun H=>funext fun Q=>congrArg (tb σ H) (ceq fun x H1=>by
 have hc:∀i,yO k i:=fun i=>by unfold yO;omega
 cases x<;>simp [rI,onI,hc])
noncomputable def Ku (K:WA):V->Option Int->Option Int->Hp->VK->Prop:=fun x lo hi H Q=>onR x fun a=>∃xs,SqL K H a xs/\∀p,H p=none->Q (.ref p) (upd H p (.lst (uR xs lo hi)))
theorem Mi (K:WA):Pm K=Ku K:=funext fun x=>funext fun lo=>funext fun hi=>ceq fun _ _=>u9
noncomputable def Kv (K:WA):V->Option Int->Option Int->Hp->VK->Prop:=fun x lo hi H Q=>onR x fun a=>∃xs,SqT K H a xs/\¬(HT.sIx xs.length 0 lo=0/\HT.sIx xs.length xs.length hi=xs.length)/\∀p,H p=none->Q (.ref p) (upd H p (.tup (uR xs lo hi)))
theorem Mj (K:WA):Pj K=Kv K:=funext fun x=>funext fun lo=>funext fun hi=>ceq fun _ _=>u9
noncomputable def Kw:R2:=fun x y H Q=>onR x fun l=>onR y fun b=>∃xs,H l=some (.lst xs)/\∃zs,H b=some (.lst zs)/\xs.length+zs.length<=sizeLine/\∀p,H p=none->Q (.ref p) (upd H p (.lst (xs++zs)))
theorem Ml:Po=Kw:=funext fun x=>funext fun y=>ceq fun H Q=>⟨fun ⟨l,b,xs,zs,e,f,h1,h2,h3⟩=>by subst e f;exact ⟨xs,h1,zs,h2,h3⟩,fun h=>let ⟨l,e,h⟩:=fU h;let ⟨b,f,xs,h1,zs,h2,h3⟩:=fU h;⟨l,b,xs,zs,e,f,h1,h2,h3⟩⟩
noncomputable def Gf:R2:=fun x y H Q=>onR x fun a=>onR y fun b=>∃xs,H a=some (.tup xs)/\∃ys,H b=some (.tup ys)/\xs.length+ys.length<=1000/\∀p H',aw H H'->H' p=some (.tup (xs++ys))->Q (.ref p) H'
theorem Kx:Nn=Gf:=funext fun x=>funext fun y=>ceq fun H Q=>⟨fun ⟨l,b,xs,zs,e,f,h1,h2,h3⟩=>by subst e f;exact ⟨xs,h1,zs,h2,h3⟩,fun h=>let ⟨l,e,h⟩:=fU h;let ⟨b,f,xs,h1,zs,h2,h3⟩:=fU h;⟨l,b,xs,zs,e,f,h1,h2,h3⟩⟩
noncomputable def Gg (K:WA):R2:=fun x y H Q=>onR x fun a=>onR y fun b=>∃xs,SqT K H a xs/\∃ys,SqT K H b ys/\xs.length+ys.length<=1000/\∀p H',aw H H'->SqT K H' p (xs++ys)->Q (.ref p) H'
theorem Ky (K:WA):Ni K=Gg K:=funext fun x=>funext fun y=>ceq fun H Q=>⟨fun ⟨l,b,xs,zs,e,f,h1,h2,h3⟩=>by subst e f;exact ⟨xs,h1,zs,h2,h3⟩,fun h=>let ⟨l,e,h⟩:=fU h;let ⟨b,f,xs,h1,zs,h2,h3⟩:=fU h;⟨l,b,xs,zs,e,f,h1,h2,h3⟩⟩
noncomputable def Gh (K:WA)(neg:Bool):R2:=fun x y H Q=>onR y fun p=>∃xs,(SqL K H p xs\/SqT K H p xs)/\bW x=true/\xs.all bW=true/\Q (.bl (if neg=true then !inV x xs else inV x xs)) H
theorem Kz (K:WA)(neg:Bool):rIn K neg=Gh K neg:=funext fun x=>funext fun y=>ceq fun H Q=>by cases y<;>simp [rIn,Gh,onR]
theorem PU {b c:Bool}:(if true=true then b else c)=b:=rfl
theorem PV {b c:Bool}:(if false=true then b else c)=c:=rfl
noncomputable def Gi (ta:TA):TI:=fun σ H R=>ta σ H fun vs H1=>onC vs fun v r=>onC r fun u r2=>onN r2 (onI v fun i=>onI u fun j=>(-(2 ^ 62)<=i/\i < 2 ^ 62/\-(2 ^ 62)<=j/\j < 2 ^ 62)/\R (Itr i (j - i).toNat) H1)
theorem BA {vs:List V}{P:Int->Int->Prop}:(∃i j,vs=[.int i,.int j]/\P i j)↔onC vs fun v r=>onC r fun u r2=>onN r2 (onI v fun i=>onI u fun j=>P i j):=by
 constructor
 ·rintro ⟨i,j,rfl,h⟩;exact h
 ·intro h
  rcases vs with _ | ⟨y,_ | ⟨z,_ | ⟨u,vs⟩⟩⟩
  ·exact h.elim
  ·exact h.elim
  ·cases y<;>cases z<;>first | exact ⟨_,_,rfl,h⟩ | exact h.elim
  ·exact h.elim
theorem KA (ta:TA):M3 ta=Gi ta:=funext fun σ=>funext fun H=>funext fun R=>congrArg (ta σ H) (ceq fun vs H1=>BA)
noncomputable def Gj (K:WA)(te:TE):TI:=fun σ H R=>te σ H fun x H1=>onR x fun a=>(∃xs,SqL K H1 a xs)/\R (Ite K a) H1
theorem KC (K:WA)(te:TE):Nh K te=Gj K te:=funext fun σ=>funext fun H=>funext fun R=>congrArg (te σ H) (ceq fun _ _=>Cn)
noncomputable def KG (K:WA)(ta tb:TE):TI:=fun σ H R=>ta σ H fun x H1=>tb σ H1 fun y H2=>onR x fun a=>onR y fun b=>(∃xs,SqL K H2 a xs)/\(∃ys,SqL K H2 b ys)/\R (Itz K a b) H2
theorem Mm (K:WA)(ta tb:TE):Pw K ta tb=KG K ta tb:=funext fun σ=>funext fun H=>funext fun R=>congrArg (ta σ H) (funext fun x=>funext fun H1=>congrArg (tb σ H1) (ceq fun y H2=>⟨fun ⟨a,b,e,f,h⟩=>by subst e f;exact h,fun h=>let ⟨a,e,h⟩:=fU h;let ⟨b,f,h⟩:=fU h;⟨a,b,e,f,h⟩⟩))
noncomputable def Hs:V->List V->Hp->VK->Prop:=fun x vs H Q=>onR x fun l=>onN vs (∃xs,H l=some (.lst xs)/\∃y,xs[xs.length - 1]?=some y/\Q y (upd H l (.lst xs.dropLast)))
theorem Mn:N4=Hs:=funext fun x=>funext fun vs=>ceq fun H Q=>by cases vs<;>cases x<;>simp [N4,Hs,onR,onN]
noncomputable def Mo:List V->Hp->VK->Prop:=fun vs H Q=>onC vs fun v r=>onN r (onI v fun i=>Q (.int (if i < 0 then -i else i)) H)
theorem Mp (t:TA):tCB (fun xs H Q=>∃i,xs=[.int i]/\Q (.int (if i < 0 then -i else i)) H) t=tCB Mo t:=by
 refine congrArg (fun r=>tCB r t) (funext fun vs=>ceq fun H Q=>?_)
 rcases vs with _ | ⟨y,_ | ⟨z,vs⟩⟩<;>(try cases y)<;>simp [Mo,onI,onC,onN]
noncomputable def KH:List V->Hp->VK->Prop:=fun vs H Q=>onC vs fun v r=>onC r fun u r2=>onN r2 (onI v fun i=>onI u fun j=>Q (.int (if j < i then j else i)) H)
theorem KJ (t:TA):tCB (fun xs H Q=>∃i j,xs=[.int i,.int j]/\Q (.int (if j < i then j else i)) H) t=tCB KH t:=by
 refine congrArg (fun r=>tCB r t) (funext fun vs=>ceq fun H Q=>?_)
 exact BA
noncomputable def Cp (K:WA):List V->Hp->VK->Prop:=fun vs H Q=>onC vs fun v r=>onN r (onR v fun p=>∃ys,(SqL K H p ys/\∀l,H l=none->Q (.ref l) (upd H l (.tup ys)))\/(SqT K H p ys/\Q (.ref p) H))
theorem IK (K:WA)(t:TA):tCB (fun xs H Q=>∃p ys,xs=[.ref p]/\((SqL K H p ys/\∀l,H l=none->Q (.ref l) (upd H l (.tup ys)))\/(SqT K H p ys/\Q (.ref p) H))) t=tCB (Cp K) t:=by
 refine congrArg (fun r=>tCB r t) (funext fun vs=>ceq fun H Q=>?_)
 rcases vs with _ | ⟨y,_ | ⟨z,vs⟩⟩<;>(try cases y)<;>simp [Cp,onR,onC,onN]
def Mq (v:V)(P:Int->Prop):Prop:=match v with | .int i=>P i | .bl k=>P (if k=true then 1 else 0) | _=>False
theorem KL (i:Int)(P:Int->Prop):Mq (.int i) P=P i:=rfl
theorem Mr (k:Bool)(P:Int->Prop):Mq (.bl k) P=P (if k=true then 1 else 0):=rfl
noncomputable def Ht:List V->Hp->VK->Prop:=fun vs H Q=>onC vs fun v r=>onN r (Mq v fun i=>Q (.int i) H)
theorem KO (t:TA):tCB (fun xs H Q=>(∃i,xs=[.int i]/\Q (.int i) H)\/∃k,xs=[.bl k]/\Q (.int (if k=true then 1 else 0)) H) t=tCB Ht t:=by
 refine congrArg (fun r=>tCB r t) (funext fun vs=>ceq fun H Q=>?_)
 rcases vs with _ | ⟨y,_ | ⟨z,vs⟩⟩<;>(try cases y)<;>simp [Ht,onC,onN,Mq]
noncomputable def KP (ta:TE):TT:=fun σ H Q=>ta σ H fun x H1=>if x=.non then Q true H1 else Q false H1
theorem KQ (ta:TE):oN (tOp (fun x y H Q=>y=.non/\Q (.bl (decide (x=.non))) H) ta (tC .non))=KP ta:=funext fun σ=>funext fun H=>funext fun Q=>congrArg (ta σ H) (ceq fun x H1=>by
 refine Iff.trans ?_ (iff_of_eq (FW (p:=x=.non) (Q:=fun b=>Q b H1)))
 exact ⟨fun ⟨_,k,e,q⟩=>by cases e;exact q,fun q=>⟨rfl,_,rfl,q⟩⟩)
noncomputable def Gk (ta:TE):TT:=fun σ H Q=>ta σ H fun x H1=>if ¬x=.non then Q true H1 else Q false H1
theorem Ms {p:Prop}[Decidable p]{Q:Bool->Prop}:Q (!decide p)=if ¬p then Q true else Q false:=by
 by_cases h:p
 ·rw [if_neg (fun z=>z h),decide_eq_true h];rfl
 ·rw [if_pos h,decide_eq_false h];rfl
theorem IL (ta:TE):oN (tOp (fun x y H Q=>y=.non/\Q (.bl (!decide (x=.non))) H) ta (tC .non))=Gk ta:=funext fun σ=>funext fun H=>funext fun Q=>congrArg (ta σ H) (ceq fun x H1=>by
 refine Iff.trans ?_ (iff_of_eq (Ms (p:=x=.non) (Q:=fun b=>Q b H1)))
 exact ⟨fun ⟨_,k,e,q⟩=>by cases e;exact q,fun q=>⟨rfl,_,rfl,q⟩⟩)
theorem w8 {K:WA}{l:Addr}{ls:List Ld}{te:TE}{cm:List (Option Nat)}{σ:St}{H:Hp}{Q:VK}(f:Ld->V)(hL:fq K H l ls)(hn:ls.length<=sizeLine)(hcm:cT cm σ=[none,none,none])
  (he:∀x∈ls,∀N:VK,N (f x) H->te [some (.str x.1),some (.int x.2.1),some (.int x.2.2)] H N)
  (hd:∀p,H p=none->Q (.ref p) (upd H p (.lst (ls.map f)))):uV (Itl K l) (sU K 3 (w6 (eP 0) (w6 (eP 1) (w6 (eP 2) Hq)))) yk te cm σ Q H:=by
 rw [←Ho,←Hr,←va,←va,←va]
 exact J2 f hL hn hcm he hd
noncomputable def Gm (K:WA):R2:=fun x y H Q=>onR x fun l=>onI y fun k=>∃v,SqT K H l [v]/\2<=k/\k<=100/\∀p,H p=none->Q (.ref p) (upd H p (.tup (List.replicate k.toNat v)))
theorem KR (K:WA):Nm K=Gm K:=funext fun x=>funext fun y=>ceq fun H Q=>⟨fun ⟨l,k,v,e,f,h⟩=>by subst e f;exact ⟨v,h⟩,fun h=>let ⟨l,e,h⟩:=fU h;let ⟨k,f,v,h⟩:=wZ h;⟨l,k,v,e,f,h⟩⟩
theorem onI.mono {x:V}{P Q:Int->Prop}(h:∀i,P i->Q i)(p:onI x P):onI x Q:=by cases x<;>first | exact h _ p | exact p
theorem onO.mono {x:Option (Option V)}{P Q:V->Prop}(h:∀i,P i->Q i)(p:onO x P):onO x Q:=by
 rcases x with _ | _ | v
 ·exact p
 ·exact p
 ·exact h _ p
end
noncomputable def KS (i j:Nat)(ta:TA):TS:=fun D σ H=>ta σ H fun vs H1=>onC vs fun v r=>onC r fun w r2=>onN r2 (D.nx ((σ.set i (some v)).set j (some w)) H1)
theorem Mt {vs:List V}{P:V->V->Prop}:(∃v w,vs=[v,w]/\P v w)↔onC vs fun v r=>onC r fun w r2=>onN r2 (P v w):=by
 constructor
 ·rintro ⟨v,w,rfl,h⟩;exact h
 ·intro h
  rcases vs with _ | ⟨y,_ | ⟨z,_ | ⟨u,vs⟩⟩⟩
  ·exact h.elim
  ·exact h.elim
  ·exact ⟨_,_,rfl,h⟩
  ·exact h.elim
theorem Mu (i j:Nat)(ta:TA):O8 i j ta=KS i j ta:=funext fun D=>funext fun σ=>funext fun H=>congrArg (ta σ H) (ceq fun vs H1=>Mt)
noncomputable def Hu (K:WA):R2:=fun x y H Q=>onR x fun a=>onR y fun b=>∃xs,SqL K H a xs/\∃ys,SqL K H b ys/\xs.all bW=true/\ys.all bW=true/\Q (.bl (!eqL xs ys)) H
theorem Mv (K:WA):Ow K=Hu K:=funext fun x=>funext fun y=>ceq fun H Q=>by cases x<;>cases y<;>simp [Ow,Hu,onR]
noncomputable def Hv (K:WA):R2:=fun x y H Q=>onR x fun a=>onR y fun b=>∃xs,SqL K H a xs/\∃ys,SqL K H b ys/\xs.all bW=true/\ys.all bW=true/\Q (.bl (eqL xs ys)) H
theorem Mw (K:WA):Oi K=Hv K:=funext fun x=>funext fun y=>ceq fun H Q=>by cases x<;>cases y<;>simp [Oi,Hv,onR]
theorem Hw {xs:List V}:eqL xs []=decide (xs=[]):=by cases xs<;>simp [eqL]
theorem PX {b:Bool}{A B:Prop}(h:if b=false then A else B):if (!b)=true then A else B:=by cases b<;>exact h
noncomputable def jK (fs:List Bool):List Int:=((List.range fs.length).filter fun j=>!fs.getD j false).map fun (j:Nat)=>(j:Int)
theorem IM {fs:List Bool}{x:Int}(h:x∈jK fs):0<=x/\x < fs.length/\fs.getD x.toNat false=false:=by
 unfold jK at h
 rw [List.mem_map] at h
 obtain ⟨j,hj,rfl⟩:=h
 rw [List.mem_filter,List.mem_range] at hj
 exact ⟨Int.natCast_nonneg _,by omega,by rw [Int.toNat_natCast];simpa using hj.2⟩
theorem BB {g:Cfg}{n:bh}(hs:cD g.ds)(h:∀c,c=0\/c=1->∀l,bQ g.ds n.place c=some l->n.gates.getD l.toNat false=false):eR g n=false:=by
 unfold eR
 rw [List.any_eq_false]
 intro x hx
 unfold ir at hx
 rw [List.mem_map] at hx
 obtain ⟨i,hi,rfl⟩:=hx
 rw [List.mem_filter,List.mem_range] at hi
 obtain ⟨h1,h2⟩:=hi
 rw [Bool.not_eq_true]
 rcases of_decide_eq_true h2 with e | e
 ·exact h 0 (.inl rfl) i (by unfold bQ;rw [if_pos rfl];exact iO hs h1 e)
 ·exact h 1 (.inr rfl) i (by unfold bQ;rw [if_neg (by decide)];exact iO hs h1 e)
theorem fg.cd {g:Cfg}(hg:fg g){l:Int}(h0:0<=l)(h1:l < g.ds.length):eZ (eN g.ls l):=by
 have hl:=hg.lc
 have hi:l.toNat < g.ls.length:=by omega
 unfold eN
 rw [List.getD_eq_getElem?_getD,List.getElem?_eq_getElem hi]
 exact hg.gc _ (List.getElem_mem hi)
theorem df.code {g:Cfg}{n:bh}(hg:fg g)(hn:df g n){l r:Int}(h:n.e=.wait l r\/n.e=.armed l r):1<=r/\r<=9:=by
 obtain ⟨h0,h1,h2⟩:=hn.ew l r h
 obtain ⟨⟨a,b⟩,⟨c,d⟩,_⟩:=hg.cd h0 h1
 rcases h2 with rfl | rfl<;>exact ⟨by assumption,by assumption⟩
theorem Hx {x y:V}{b:Bool}:atI [x,y] (if b=true then 1 else 0)=some (if b=true then y else x):=by cases b<;>rfl
theorem zg {g:Cfg}{n:bh}{l:Int}(h0:0<=l)(h1:l < g.ds.length)(h:n.gates.getD l.toNat false=false):cJ g n (.opn l)=none:=(if_neg (fun z=>z ⟨h0,h1⟩)).trans (if_neg (by rw [h];decide))
theorem tY {g:Cfg}{n:bh}{l:Int}(h0:0<=l)(h1:l < g.ds.length)(h:n.gates.getD l.toNat false=true):cJ g n (.sht l)=none:=(if_neg (fun z=>z ⟨h0,h1⟩)).trans (if_neg (by rw [h];decide))
theorem DM {g:Cfg}{n:bh}{l s:Int}(h0:0<=l)(h1:l < g.ds.length)(h:n.fs.getD l.toNat false=false)(hs:s=(eN g.ls l).1\/s=(eN g.ls l).2):cJ g n (.ring l s)=none:=(if_neg (fun z=>z ⟨h0,h1⟩)).trans ((if_neg (by rw [h];decide)).trans (if_pos hs))
theorem DN {g:Cfg}{n:bh}{l r s:Int}(h:n.e=.wait l r)(h1:1<=s)(h2:s<=9):cJ g n (.rept s)=none:=by
 simp only [cJ,h]
 exact if_pos ⟨h1,h2⟩
theorem xI {g:Cfg}{n:bh}{c l:Int}{k:Str}(h0:0<=l)(h1:l < g.ds.length)(h:eR g n=false)(he:n.e=.armed l (cM g.ls l k)):cJ g n (.wind c l k)=none:=(if_neg (fun z=>z ⟨h0,h1⟩)).trans ((if_neg (by rw [h];decide)).trans (if_pos he))
theorem sV {g:Cfg}{n:bh}{c l:Int}(h:10+c∈n.ws)(hl:bQ g.ds n.place c=some l)(ho:n.gates.getD l.toNat false=true):cJ g n (.unload c)=none:=by
 refine (if_neg (fun z=>z h)).trans ?_
 rw [hl]
 exact if_pos ho
theorem xJ {g:Cfg}{n:bh}{k c l:Int}(h0:0<=k)(h1:k < n.ws.length)(hl:bQ g.ds n.place c=some l)(hk:n.ws.getD k.toNat 0=l)(hc:¬10+c∈n.ws)(ho:n.gates.getD l.toNat false=true):cJ g n (.load k c)=none:=by
 refine (if_neg (fun z=>z ⟨h0,h1⟩)).trans ?_
 rw [hl]
 exact (if_neg (fun z=>z hk)).trans ((if_neg hc).trans (if_pos ho))
theorem Hy {pl:Int}{ds:List Int}{c:Int}:(bQ ds pl c).getD (-1) < 0->bQ ds pl c=none:=by
 intro h
 cases e:bQ ds pl c with
 | none=>rfl
 | some l=>rw [e] at h;have:=(dz e).1;simp only [Option.getD_some] at h;omega
theorem Cq {pl:Int}{ds:List Int}{c:Int}:¬(bQ ds pl c).getD (-1) < 0->∃l,bQ ds pl c=some l/\(bQ ds pl c).getD (-1)=l:=by
 intro h
 cases e:bQ ds pl c with
 | none=>rw [e] at h;exact absurd (by decide) h
 | some l=>exact ⟨l,rfl,rfl⟩
theorem Qs (e:Eng):(∃l r,e=.wait l r)\/(∃l r,e=.armed l r)\/∃(w:Str) (x y z:V),mm e=[.str w,x,y,z]/\¬w="not repeated"/\¬w="armed":=by
 cases e with
 | no=>exact .inr (.inr ⟨_,_,_,_,rfl,by decide,by decide⟩)
 | wait l r=>exact .inl ⟨l,r,rfl⟩
 | armed l r=>exact .inr (.inl ⟨l,r,rfl⟩)
 | other l r s=>exact .inr (.inr ⟨_,_,_,_,rfl,by decide,by decide⟩)
 | used l r=>exact .inr (.inr ⟨_,_,_,_,rfl,by decide,by decide⟩)
theorem KU {ws:List Int}{lv x:Int}(h:x∈iP ws lv):0<=x/\x < ws.length/\ws.getD x.toNat 0=lv:=by
 unfold iP AA at h
 rw [List.mem_map] at h
 obtain ⟨j,hj,rfl⟩:=h
 rw [List.mem_filter,List.mem_range] at hj
 exact ⟨Int.natCast_nonneg _,by omega,by rw [Int.toNat_natCast];exact of_decide_eq_true hj.2⟩
theorem gP.un {K:WA}{H:Hp}{a:Addr}{n:bh}{t:Int}(h:gP K H a (n,t)):∃gt lt ht dt:Addr,SqT K H a [.int n.place,.ref gt,.ref lt,.ref ht,.ref dt,.int t]/\SqT K H gt (n.gates.map V.bl)/\H lt=some (.tup (n.ws.map V.int))/\SqT K H ht (mm n.e)/\SqT K H dt ((dj n.fs).map V.int):=h
structure oA (C:Cl)(K:WA)(H0 H:Hp)(p dl cl ll w bk rl sl wl:Addr)(g:Cfg)(lds:List Ld)(n0:bh)(rs:List Row):Prop where
 su:dN K H0 p dl cl ll g lds
 sa:aw H0 H
 fr:H0 rl=none
 fs:H0 sl=none
 fw:H0 wl=none
 da:DK C K H w bk rl sl wl g n0 rs
 cg:fg g
 c0:df g n0
section
variable {C:Cl}{K:WA}{H0 H H':Hp}{p dl cl ll w bk rl sl wl:Addr}{g:Cfg}{lds:List Ld}{n0:bh}{rs rs':List Row}
theorem oA.same (h:oA C K H0 H p dl cl ll w bk rl sl wl g lds n0 rs)(s:aw H H'):oA C K H0 H' p dl cl ll w bk rl sl wl g lds n0 rs:=⟨h.su,h.sa.trans s,h.fr,h.fs,h.fw,h.da.same s,h.cg,h.c0⟩
theorem oA.setup (h:oA C K H0 H p dl cl ll w bk rl sl wl g lds n0 rs):dN K H p dl cl ll g lds:=h.su.same h.sa
theorem oA.snap (h:oA C K H0 H p dl cl ll w bk rl sl wl g lds n0 rs):df g (ao n0 rs):=h.da.run.snap h.cg h.c0
theorem oA.to (h:oA C K H0 H p dl cl ll w bk rl sl wl g lds n0 rs)(k:cK rl sl wl H H')(d:DK C K H' w bk rl sl wl g n0 rs'):oA C K H0 H' p dl cl ll w bk rl sl wl g lds n0 rs':=⟨h.su,h.sa.keeps3 k h.fr h.fs h.fw,h.fr,h.fs,h.fw,d,h.cg,h.c0⟩
end
theorem Hz (d:Dd):∃w:Str,atI (ddV d) 0=some (.str w)/\¬w="take back":=by
 cases d<;>exact ⟨_,rfl,by decide⟩
theorem Mx {d:Dd}(h:∀s,d≠.rept s):∃w:Str,atI (ddV d) 0=some (.str w)/\¬w="repeat":=by
 cases d<;>first | exact ⟨_,rfl,by decide⟩ | exact absurd rfl (h _)
theorem u6.int {K:WA}{H:Hp}{n:bh}{t:Int}{d:Dd}{v:V}(h:u6 K H n t d v)(hr:∀s,d≠.rept s):v=.int t:=by
 cases d<;>first | exact h | exact absurd rfl (hr _)
theorem u6.same {K:WA}{H H':Hp}{n:bh}{t:Int}{d:Dd}{v:V}(h:u6 K H n t d v)(s:aw H H'):u6 K H' n t d v:=by
 cases d<;>first | exact h | (obtain ⟨p,l,r,e,f,z⟩:=h;exact ⟨p,l,r,e,f,s.tup z⟩)
theorem u6.keep {K:WA}{H H':Hp}{n:bh}{t:Int}{d:Dd}{v:V}{p:Addr}{ys:List V}(h:u6 K H n t d v)(s:aD p H H')(hp:H p=some (.lst ys)):u6 K H' n t d v:=by
 cases d<;>first | exact h | (obtain ⟨p,l,r,e,f,z⟩:=h;exact ⟨p,l,r,e,f,z.keep s hp⟩)
theorem HJ {as:List Addr}{a b:Addr}:atI ((as++[a]++[b]).map V.ref) (-2)=some (.ref a):=by
 have hl:((as++[a]++[b]).map V.ref).length=as.length+2:=by simp
 unfold atI ixN
 rw [hl,if_neg (by omega),if_pos (by omega)]
 rw [show ((-2:Int)+((as.length+2:Nat):Int)).toNat=as.length by omega]
 show ((as++[a]++[b]).map V.ref)[as.length]?=_
 simp
structure DO (ds:List Int)(ls:List Cd)(slow fast:Int)(lds:List Ld):Prop where
 sh:cD ds
 ln:ls.length=ds.length
 gd:∀x∈ls,eZ x
 sp:1<=slow/\slow<=fast/\fast<=500
 l30:lds.length<=30
 gl:∀x∈lds,j0 (ds.length:Nat) x
theorem DO.cfg {ds:List Int}{ls:List Cd}{slow fast:Int}{lds:List Ld}(h:DO ds ls slow fast lds)(N:Addr->Prop):fg (iQ ds ls slow fast lds N):=Ou h.sh h.ln h.gd h.sp h.l30
theorem DO.snap {ds:List Int}{ls:List Cd}{slow fast:Int}{lds:List Ld}(h:DO ds ls slow fast lds)(N:Addr->Prop):df (iQ ds ls slow fast lds N) (iR ds ls lds):=LP h.sh h.ln h.gl
def HV (ws:List Int)(i:Nat)(c:Int)(x:V):Prop:=(x=.non/\∀j,j < i->ws.getD j 0≠10+c)\/∃j:Nat,j < i/\x=.int (j:Int)/\ws.getD j 0=10+c
theorem HV.nil {ws:List Int}{c:Int}:HV ws 0 c .non:=.inl ⟨rfl,fun j h=>absurd h (Nat.not_lt_zero _)⟩
theorem HV.no {ws:List Int}{i:Nat}{c:Int}{x:V}(h:HV ws i c x)(n:ws.getD i 0≠10+c):HV ws (i+1) c x:=by
 rcases h with ⟨e,h⟩ | ⟨j,hj,e,h⟩
 ·exact .inl ⟨e,fun j hj=>by
   by_cases z:j=i
   ·rw [z];exact n
   ·exact h j (by omega)⟩
 ·exact .inr ⟨j,by omega,e,h⟩
theorem HV.yes {ws:List Int}{i:Nat}{c:Int}(n:ws.getD i 0=10+c):HV ws (i+1) c (.int (i:Int)):=.inr ⟨i,by omega,rfl,n⟩
theorem HV.all {g:Cfg}{n:bh}(hn:df g n){c:Int}{x:V}(hc:0<=c)(h:HV n.ws n.ws.length c x):x=inC n.ws c:=by
 unfold inC
 rcases h with ⟨e,h⟩ | ⟨j,hj,e,h⟩
 ·rw [if_neg,e]
  intro z
  obtain ⟨h1,h2⟩:=wV z
  exact h _ h1 h2
 ·have hm:10+c∈n.ws:=h▸dq hj
  obtain ⟨h1,h2⟩:=wV hm
  rw [if_pos hm,e,hn.un j _ hj h1 (by omega) (h.trans h2.symm)]
theorem vb (ws:List Int)(c:Int):bW (inC ws c)=true:=by unfold inC;split<;>rfl
def eL (H:Hp)(ws:List Int)(as:List Addr)(m:Nat):Prop:=as.length=m/\∀(j:Nat) a,as[j]?=some a->H a=some (.lst ((iP ws (j:Int)).map V.int))
theorem eL.same {H H':Hp}{ws:List Int}{as:List Addr}{m:Nat}(h:eL H ws as m)(s:aw H H'):eL H' ws as m:=⟨h.1,fun j a e=>s _ _ (h.2 j a e)⟩
theorem eL.nil {H:Hp}{ws:List Int}:eL H ws [] 0:=⟨rfl,fun j a e=>by simp at e⟩
theorem eL.push {H:Hp}{ws:List Int}{as:List Addr}{m:Nat}{a:Addr}(h:eL H ws as m)(e:H a=some (.lst ((iP ws (m:Int)).map V.int))):eL H ws (as++[a]) (m+1):=by
 refine ⟨by rw [List.length_append,h.1];rfl,fun j b hb=>?_⟩
 by_cases hj:j < as.length
 ·rw [List.getElem?_append_left hj] at hb
  exact h.2 j b hb
 ·rw [List.getElem?_append_right (by omega)] at hb
  have hz:j - as.length=0:=by
   have:=(List.getElem?_eq_some_iff.mp hb).1
   simp at this
   omega
  rw [hz] at hb
  cases hb
  have:j=m:=by rw [←h.1];omega
  rw [this]
  exact e
noncomputable def Gn (ws:List Int)(m:Nat):Dt:=.lst ((List.range m).map fun (j:Nat)=>.lst (((iP ws (j:Int)).map V.int).map Dt.flat))
theorem BC {K:WA}{H:Hp}{p:Addr}{ws:List Int}{as:List Addr}{m n:Nat}(hp:SqL K H p (as.map V.ref))(h:eL H ws as m)(hm:m<=1000)(hw:ws.length<=1000):Rep K H (n+2) (.ref p) (Gn ws m):=by
 refine .lst hp (by rw [WB,h.1];omega) (by rw [WB,WB,List.length_range,h.1]) fun i x y e1 e2=>?_
 rw [List.getElem?_map] at e1 e2
 cases ea:as[i]? with
 | none=>rw [ea] at e1;cases e1
 | some a=>
  cases er:(List.range m)[i]? with
  | none=>rw [er] at e2;cases e2
  | some r=>
   rw [ea] at e1;rw [er] at e2
   cases e1;cases e2
   have hi:=(List.getElem?_eq_some_iff.mp er).1
   rw [List.length_range] at hi
   rw [List.getElem?_range hi] at er
   cases er
   exact oS (SqL.of (h.2 i a ea)) (by have:=Dz ws (i:Int) ws.length;unfold iP;omega)
inductive kX (K:WA)(H:Hp)(n:Nat):List V->List Dt->Prop
 | nil:kX K H n [] []
 | cons {x:V} {d:Dt} {xs:List V} {ds:List Dt} (h:Rep K H n x d) (t:kX K H n xs ds):kX K H n (x::xs) (d::ds)
theorem kX.len {K:WA}{H:Hp}{n:Nat}{xs:List V}{ds:List Dt}(h:kX K H n xs ds):xs.length=ds.length:=by
 induction h with
 | nil=>rfl
 | cons h t ih=>rw [List.length_cons,List.length_cons,ih]
theorem kX.get {K:WA}{H:Hp}{n:Nat}{xs:List V}{ds:List Dt}(h:kX K H n xs ds):∀(i:Nat) x d,xs[i]?=some x->ds[i]?=some d->Rep K H n x d:=by
 induction h with
 | nil=>intro i x d e;simp at e
 | cons h t ih=>
  intro i x d e1 e2
  cases i with
  | zero=>cases e1;cases e2;exact h
  | succ i=>exact ih i x d e1 e2
theorem kX.rep {K:WA}{H:Hp}{n:Nat}{a:Addr}{xs:List V}{ds:List Dt}(h:kX K H n xs ds)(hs:SqL K H a xs)(hb:xs.length<=100000):Rep K H (n+1) (.ref a) (.lst ds):=.lst hs hb h.len h.get
theorem kX.same {K:WA}{H H':Hp}{n:Nat}{xs:List V}{ds:List Dt}(h:kX K H n xs ds)(s:aw H H'):kX K H' n xs ds:=by
 induction h with
 | nil=>exact .nil
 | cons h t ih=>exact .cons (h.same s) ih
theorem kX.append {K:WA}{H:Hp}{n:Nat}{xs ys:List V}{ds es:List Dt}(h:kX K H n xs ds)(k:kX K H n ys es):kX K H n (xs++ys) (ds++es):=by
 induction h with
 | nil=>exact k
 | cons h t ih=>exact .cons h ih
theorem jv {M:Model}{A:Around}{E:Value->Shared->Prop}{s:Shared}{scope:Scope}{globals:Addr}{closure:List (Str×Addr)}{qual:Str}{func:Option Addr}{code:Value}{outer:Env}{builtins:Addr}{yc:Str}{Q:Env->Shared->Prop}
  (hcs:∀(n:Nat) (cl:List (Str×Addr)),cellsFrom n scope.names cl=(yc,n)::cl) (hpc:∀h:Heap,pushCells h scope.names=h.push {cls:=.type "cell",data:=.cell none})
  (hQ:∀h',h'.Ns s.heap.objs.size (fun _=>none)->(∀b u,s.heap.get? b=some u->h'.get? b=some u)->h'.IsCell (s.heap.objs.size+1) none->
   Q (newEnv scope s.heap.objs.size globals ((yc,s.heap.objs.size+1)::closure) qual func code (some outer) builtins) {s with heap:=h',toks:=s.toks+([]:List (Str×Value)).length}) :
  wpAny M A (newFunctionEnv scope globals closure [] qual func code (some outer) builtins) Q E s:=by
 simp only [newFunctionEnv,Option.isSome_some,if_true]
 refine wpAny_bind (wpAny_alloc ?_)
 refine wpAny_bind (wpAny_layCells _ (fun name kind cells=>by cases hkc:kind == NameKind.cell<;>simp [hkc]) _ _ _ _ ?_)
 rw [hcs,hpc]
 rw [show ({s with heap:=s.heap.push {cls:=.type "dict",data:=.dict #[]}}:Shared).heap.objs.size=s.heap.objs.size+1 from Heap.size_push ..]
 refine wpAny_bind ?_
 rw [List.forIn_nil]
 refine wpAny_pure (wpAny_pure ?_)
 refine hQ ((s.heap.push {cls:=.type "dict",data:=.dict #[]}).push {cls:=.type "cell",data:=.cell none}) ?_ (fun b u e=>Heap.get?_push_of_some _ (Heap.get?_push_of_some _ e)) ⟨{cls:=.type "cell",data:=.cell none},?_,rfl⟩
 ·exact (Heap.Ns.new s.heap (.type "dict")).keeps fun b o e=>Heap.get?_push_of_some _ e
 ·have:=Heap.get?_push_size (s.heap.push {cls:=.type "dict",data:=.dict #[]}) (o:={cls:=.type "cell",data:=.cell none}) rfl
  rw [Heap.size_push] at this
  exact this
noncomputable def IP (X:Cx)(Nc:List Str)(scope:Scope)(yc:Str)(C:Addr)(s₀:Shared)(H₀:Hp)(ex:List Addr):Cx:=
 {X with N:=Nc,s₀:=s₀,H₀:=H₀,env:=compEnvC scope ((yc,C+1)::iL X.env.cells scope.names []) C X.env,outer:=X.stack,ex:=ex,fn:=fun x=>x == yc,pn:=[],xe:=fun _ _=>False}
section
variable {X:Cx}
theorem DP {tg iter elt:Expr}{ifs:List Expr}{scope:Scope}{pos spos py:Pos}{Nc:List Str}{cm:List (Option Nat)}{wi:TI}{g:TG}{tc:TT}{te:TE}{iy:Nat}{y yc:Str}(hcs:∀(n:Nat) (cl:List (Str×Addr)),cellsFrom n scope.names cl=(yc,n)::cl)(hpc:∀h:Heap,pushCells h scope.names=h.push {cls:=.type "cell",data:=.cell none})(hyc:scope.names.lookup yc=some .cell)(hN:X.N.Nodup)(hiy:X.N[iy]?=some y)(hly:X.env.scope.names.lookup y=some .local)
  (hsw:swapsWith (.ListComp elt [⟨tg,iter,ifs,0⟩] scope pos) (some (.Name y py)) spos.line X.env=pure true)
  (hc:X.calm=true) (hi:PI X tg iter wi) (hkind:scope.kind=.function) (hcell:∀z∈scope.names,z.2=.cell->z.1=yc) (hnames:∀y∈scope.names,y.2=.local->scope.names.lookup y.1=some .local)
  (hfree:∀y∈scope.names,y.2=.free->X.env.kindOf y.1=some .cell\/X.env.kindOf y.1=some .free) (hlen:cm.length=Nc.length)
  (hcm:∀(j:Nat) (x:Str) (i:Nat),Nc[j]?=some x->cm[j]?=some (some i)->X.N[i]?=some x/\scope.names.lookup x=some .free/\(X.env.kindOf x=some .cell\/X.env.kindOf x=some .free))
  (hg:∀C s₀ H₀ ex,PG (IP X Nc scope yc C s₀ H₀ ex) tg g) (ht:∀C s₀ H₀ ex,PIf (IP X Nc scope yc C s₀ H₀ ex) ifs tc) (he:∀C s₀ H₀ ex,PE (IP X Nc scope yc C s₀ H₀ ex) elt te)
  (hs:∀x,foldedSetIterable iter X.env x=pure x:=by intro _;rfl):PS X (.Assign [.Name y py] (.ListComp elt [⟨tg,iter,ifs,0⟩] scope pos) spos) (Fl (yV wi g tc te cm) (eP iy)):=by
 intro pins s σ H D0 I h
 rw [exec_Assign_Name_used _ _ _ _ hsw]
 refine wpAny_bind (wpAny_standAt (wpAny_bind ?_))
 show wpAny _ X.A (do let _ ←comprehension (.ListComp elt [⟨tg,iter,ifs,0⟩] scope pos) scope X.env _ (newList []) false (eval iter X.env) (some (assign (.Name y py) X.env))) _ _ s
 refine wpAny_bind (wpAny_mono (Q:=fun _ s'=>SP X pins D0 .next s') ?_ (fun _ s' hq=>wpAny_pure (wpAny_pure hq)) fun _ _ e=>e)
 have hfr:∀y∈scope.names,y.2=.free->∃c,X.env.cells.lookup y.1=some c:=fun y hy e=>I.ok.has y.1 (hfree y hy e)
 refine wpAny_comprehension_free (use:=some (assign (.Name y py) X.env)) (Q:=fun _ s'=>SP X pins D0 .next s') rfl hs (iM hfr) hkind hnames (thn (hi pins s σ H _ I h) fun v s1 h1=>thn h1 fun itv s2 h2=>?_)
 obtain ⟨it,fp,tn,J,H2,e,I2,T,st2,f2,W,⟨m0,w0⟩,turn⟩:=h2
 subst e
 refine wpAny_newObj_type (jv hcs hpc (fun h₁ hns₁ keepA hcl₁=>?_))
 dsimp only at hns₁ keepA hcl₁ ⊢
 refine wL (yo:=some yc) (QV:=fun x H1=>eP iy x σ H1 D0.nx) hc hkind (fun z hz e=>by rw [hcell z hz e]) (fun _ e=>by cases e;exact hyc) hfr hlen hcm hg ht he I2 T st2 f2 w0 turn hns₁ keepA (fun _ e=>by cases e;exact hcl₁) (fun s6 H5 acc m hm fc J qn _=>?_)
 obtain ⟨fc0,fc1,fc2,fc3,fc4,fc5⟩:=fc
 refine wpAny_assign_Name (wD (s:=s6) (v:=.ref s2.heap.objs.size) (J s6.heap ⟨rfl,fun _ _=>rfl⟩) hN hiy (.inl hly) rfl (fun s7 J9 hsa=>?_) (.inr hly))
 obtain ⟨aa,hsa,hwh⟩:=hsa
 exact ⟨m,hm.sameBut hsa (by rcases hwh with z | z;rw [z];exact fc1;exact (fc4 _ _ z).symm),fun h7 hs7=>⟨_,_,J9.turned (it:=(s2.heap.push {cls:=.type "list",dict:=none,data:=.seq ([]:List Value).toArray}).objs.size) (t':=s7.toks) (fun b o hb hu=>(hs7.2 b hb).trans hu) fc0 fc1 fc3 fc4 fc5,qn⟩⟩
end
theorem OM {X:Cx}{tg iter elt:Expr}{ifs:List Expr}{scope:Scope}{pos spos py:Pos}(Nc:List Str)(yc:Str)(cm:List (Option Nat)){wi:TI}{g:TG}{tc:TT}{te:TE}{iy:Nat}{y:Str}(hN:X.N.Nodup)(hiy:X.N[iy]?=some y)(hly:X.env.scope.names.lookup y=some .local)
  (hi:PI X tg iter wi) (hg:∀C s₀ H₀ ex,PG (IP X Nc scope yc C s₀ H₀ ex) tg g) (ht:∀C s₀ H₀ ex,PIf (IP X Nc scope yc C s₀ H₀ ex) ifs tc) (he:∀C s₀ H₀ ex,PE (IP X Nc scope yc C s₀ H₀ ex) elt te)
  (hsw:swapsWith (.ListComp elt [⟨tg,iter,ifs,0⟩] scope pos) (some (.Name y py)) spos.line X.env=pure true:=by rfl)
  (hc:X.calm=true:=by rfl) (hkind:scope.kind=.function:=by rfl) (hcell:∀z∈scope.names,z.2=.cell->z.1=yc:=by decide +kernel) (hcs:∀(n:Nat) (cl:List (Str×Addr)),cellsFrom n scope.names cl=(yc,n)::cl:=by intro _ _;rfl) (hpc:∀h:Heap,pushCells h scope.names=h.push {cls:=.type "cell",data:=.cell none}:=by intro _;rfl) (hyc:scope.names.lookup yc=some .cell:=by rfl) (hnames:∀y∈scope.names,y.2=.local->scope.names.lookup y.1=some .local:=by decide +kernel)
  (hfree:FI X scope=true:=by rfl) (hlen:cm.length=Nc.length:=by rfl) (hcm:Ob X scope Nc cm=true:=by rfl)
  (hs:∀x,foldedSetIterable iter X.env x=pure x:=by intro _;rfl):PS X (.Assign [.Name y py] (.ListComp elt [⟨tg,iter,ifs,0⟩] scope pos) spos) (Fl (yV wi g tc te cm) (eP iy)):=by
 refine DP hcs hpc hyc hN hiy hly hsw hc hi hkind hcell hnames (fun y hy e=>?_) hlen (fun j x i e1 e2=>?_) hg ht he hs
 ·have h:=List.all_eq_true.mp hfree y hy
  rw [e] at h
  simpa using h
 ·have hj:(Nc.zip cm)[j]?=some (x,some i):=by
   rw [List.getElem?_zip_eq_some];exact ⟨e1,e2⟩
  have h:=List.all_eq_true.mp hcm _ (List.mem_of_getElem? hj)
  simpa using h
theorem gv.calm0 {P:Program}{w:World}{K:WA}{mg:Str->Option Value}{base:Heap}{k:Nat}{f:Addr}{fd:FuncData}{ps:List Str}{sp:Sp}(F:gv P w K mg base (CXf P w) k f fd ps sp):gv P w K mg base CX0 k f fd ps (fun vs H Q _=>sp vs H Q E0):=by
 refine ⟨fun vs H Q E h=>F.len vs H Q E0 h,fun A outer s H args us vs Q E hr he hb hv hs=>?_⟩
 refine codeAny_mono (F.run A outer s H args us vs Q E0 hr he hb hv hs) fun r s' q=>?_
 cases r with
 | ok fl=>cases fl<;>exact q
 | error e=>
  obtain ⟨x,cls,a0,H',B,_,_,_,_,_,_,_,_,_,z⟩:=q
  exact z.elim
def DI (K:WA)(x:Str)(st:Stmt):Prop:=∃f fd,W.nsIn K mainGlobals x=some (some (.ref f))/\Fun K x x st f fd
theorem DI.mk {K:WA}{x:Str}{st:Stmt}{f:Addr}{oc:Value}{od an:Option Addr}{osl:Array (Option Value)}{kV doc pm cdv ct:Value}(a:W.nsIn K mainGlobals x=some (some (.ref f)))(l:K.lookup f=some ⟨oc,od,.func (W.fnOf x x (et st) (cH st) (ak st) .none kV doc pm an cdv ct),osl⟩)
  (c:W.codeIn K cdv x=true) (k:W.keepIn K (.ref f)=true):DI K x st:=⟨f,_,a,FG l c k⟩
def MI (K:WA)(C:Addr)(m q:Str)(st:Stmt):Prop:=∃f fd,Fq K C m f/\Fun K m q st f fd
theorem MI.mk {K:WA}{C:Addr}{m q:Str}{st:Stmt}{f:Addr}{oc:Value}{od an:Option Addr}{osl:Array (Option Value)}{kV doc pm cdv ct:Value}(a:W.findIn K (.ref C) m=some (some (.ref f)))(fn:W.isFn K (.ref f)=true)(l:K.lookup f=some ⟨oc,od,.func (W.fnOf m q (et st) (cH st) (ak st) .none kV doc pm an cdv ct),osl⟩)
  (c:W.codeIn K cdv q=true) (k:W.keepIn K (.ref f)=true):MI K C m q st:=⟨f,_,⟨a,fn,k⟩,FG l c k⟩
def II (K:WA)(C:Addr)(q:Str)(st:Stmt):Prop:=∃f fd,Mk K C f/\Fun K "__init__" q st f fd
theorem II.mk {K:WA}{C:Addr}{q:Str}{st:Stmt}{f:Addr}{oc:Value}{od an:Option Addr}{osl:Array (Option Value)}{kV doc pm cdv ct:Value}(a:W.findIn K (.ref C) "__init__"=some (some (.ref f)))(fn:W.isFn K (.ref f)=true)(mk:W.makesIn K C=true)(kc:W.keepIn K (.ref C)=true)(l:K.lookup f=some ⟨oc,od,.func (W.fnOf "__init__" q (et st) (cH st) (ak st) .none kV doc pm an cdv ct),osl⟩)
  (c:W.codeIn K cdv q=true) (k:W.keepIn K (.ref f)=true):II K C q st:=⟨f,_,⟨mk,a,fn,kc⟩,FG l c k⟩
def C0I (K:WA)(C0:Addr):Prop:=∃(c0 c2:Value) (dd0 d2:Option Addr) (cd0:ClassData) (sl0 sl2:Array (Option Value)) (es0:Array DictEntry) (ep0:Nat),K.lookup C0=some ⟨c0,dd0,.cls cd0,sl0⟩/\K.lookup cd0.ns=some ⟨c2,d2,.dict es0 ep0,sl2⟩/\qY es0=true/\(quietNames.all fun n=>(nsFind es0 n).isNone)=true
theorem C0I.mk {K:WA}{C0 N0:Addr}{c0 c2:Value}{dd0 d2:Option Addr}{cd0:ClassData}{sl0 sl2:Array (Option Value)}{es0:Array DictEntry}{ep0:Nat}(l0:K.lookup C0=some ⟨c0,dd0,.cls cd0,sl0⟩)(e0:cd0.ns=N0)(lN0:K.lookup N0=some ⟨c2,d2,.dict es0 ep0,sl2⟩)(kN0:qY es0=true)(iN0:(quietNames.all fun n=>(nsFind es0 n).isNone)=true):C0I K C0:=
 ⟨c0,c2,dd0,d2,cd0,sl0,sl2,es0,ep0,l0,e0▸lN0,kN0,iN0⟩
def XI (K:WA)(C0 C:Addr):Prop:=C0I K C0->ExI K C
theorem XI.mk {K:WA}{C N C0:Addr}{nm q:Str}{bs:List Value}{hdct:Bool}{sn:List Str}{sub:List Value}{ab:Bool}{col:Option Bool}{dd:Option Addr}{k0 k1 k2 k3 k5:Option Value}{c1:Value}{d1:Option Addr}{es:Array DictEntry}{ep:Nat}{sl1:Array (Option Value)}
  (lC:K.lookup C=some (excClassObj nm q C N bs [.ref C0,.type "ValueError",.type "Exception",.type "BaseException",.type "object"] hdct sn sub ab col dd k0 k1 k2 k3 k5 "ValueError.__new__"))
  (lN:K.lookup N=some ⟨c1,d1,.dict es ep,sl1⟩) (kN:qY es=true) (iN:(quietNames.all fun n=>(nsFind es n).isNone)=true) (ca:W.findIn K (.ref C) "__class__"=some (some (.builtin "object.__class__"))) (mo:W.mroIn K C (.type "object")=some true):XI K C0 C:=by
 rintro ⟨c0,c2,dd0,d2,cd0,sl0,sl2,es0,ep0,l0,lN0,kN0,iN0⟩
 exact ⟨Of lC lN kN iN l0 rfl lN0 kN0 iN0,ca,mo⟩
def NI (K:WA)(x:Str)(a:Addr):Prop:=W.nsIn K mainGlobals x=some (some (.ref a))
def KI (K:WA)(x:Str)(v:Int):Prop:=∃tk,W.nsIn K mainGlobals x=some (some (.int v tk))
theorem KI.mk {K:WA}{x:Str}{v:Int}{tk:Tok}(h:W.nsIn K mainGlobals x=some (some (.int v tk))):KI K x v:=⟨tk,h⟩
theorem KI.txt {K:WA}{h:Heap}{mg:Str->Option Value}{x:Str}{v:Int}(X:K.In h)(G:h.Ns mainGlobals mg)(k:KI K x v):∃u,mg x=some u/\cf (.int v) u:=let ⟨_,k⟩:=k;⟨_,W.mg_of X G k,⟨_,rfl⟩⟩
theorem bK {H H1:Hp}{p:Addr}{o:HO}(e:upd H p o=H1)(h:H p=none):aw H H1:=e▸(aw.refl H).lay h
theorem bg {H H1:Hp}{p:Addr}{o:HO}(e:upd H p o=H1):H1 p=some o:=e▸ah
theorem seg {X:Cx}{b:List Stmt}{R:TS->Prop}(j:Nat){t:TS}(h:PSs X (b.drop j) t)(k:∀t',PSs X (b.drop j) t'->t'=t->∃u,PSs X b u/\R u):∃u,PSs X b u/\R u:=k t h rfl
theorem mv {t t':TS}(e:t=t'){D:oz}{σ:St}{H:Hp}(h:t' D σ H):t D σ H:=e▸h
theorem aR {N P:List Str}{sc:Scope}(kind:sc.kind=.function:=by rfl)(co:sc.isCoroutine=false:=by rfl)(gen:sc.isGenerator=false:=by rfl)(nd:N.Nodup:=by decide +kernel)(pre:N.take P.length=P:=by rfl)(par:∀x∈P,sc.names.lookup x=some .local\/sc.names.lookup x=some .cell:=by decide +kernel)(nofree:∀y∈sc.names,y.2≠.free:=by decide +kernel):aB N P sc:=⟨kind,co,gen,nd,pre,par,nofree⟩
section
variable {K:WA}{x qual:Str}{st:Stmt}{f:Addr}{fd:FuncData}{ps:List Str}
theorem Fun.b0 (F:Fun K x qual st f fd)(hl:ps.length=0:=by rfl)(h:∀(kV doc pm:Value) (an:Option Addr) (cdv ct:Value),bindArgs (W.fnOf x qual (et st) (cH st) (ak st) .none kV doc pm an cdv ct) ⟨[],[]⟩=pure (ps.zip []):=by intros;rfl):eJ K fd ps []:=F.binds fun kV doc pm an cdv ct us e=>match us,e.trans hl with | [],_=>h kV doc pm an cdv ct
theorem Fun.b1 (F:Fun K x qual st f fd)(hl:ps.length=1:=by rfl)(h:∀(kV doc pm:Value) (an:Option Addr) (cdv ct:Value) (a0:Value), bindArgs (W.fnOf x qual (et st) (cH st) (ak st) .none kV doc pm an cdv ct) ⟨[a0],[]⟩=pure (ps.zip [a0]):=by intros;rfl):eJ K fd ps []:=F.binds fun kV doc pm an cdv ct us e=>match us,e.trans hl with | [a0],_=>h kV doc pm an cdv ct a0
theorem Fun.b2 (F:Fun K x qual st f fd)(hl:ps.length=2:=by rfl)(h:∀(kV doc pm:Value) (an:Option Addr) (cdv ct:Value) (a0 a1:Value), bindArgs (W.fnOf x qual (et st) (cH st) (ak st) .none kV doc pm an cdv ct) ⟨[a0,a1],[]⟩=pure (ps.zip [a0,a1]):=by intros;rfl):eJ K fd ps []:=F.binds fun kV doc pm an cdv ct us e=>match us,e.trans hl with | [a0,a1],_=>h kV doc pm an cdv ct a0 a1
theorem Fun.b3 (F:Fun K x qual st f fd)(hl:ps.length=3:=by rfl)(h:∀(kV doc pm:Value) (an:Option Addr) (cdv ct:Value) (a0 a1 a2:Value), bindArgs (W.fnOf x qual (et st) (cH st) (ak st) .none kV doc pm an cdv ct) ⟨[a0,a1,a2],[]⟩=pure (ps.zip [a0,a1,a2]):=by intros;rfl):eJ K fd ps []:=F.binds fun kV doc pm an cdv ct us e=>match us,e.trans hl with | [a0,a1,a2],_=>h kV doc pm an cdv ct a0 a1 a2
theorem Fun.b4 (F:Fun K x qual st f fd)(hl:ps.length=4:=by rfl)(h:∀(kV doc pm:Value) (an:Option Addr) (cdv ct:Value) (a0 a1 a2 a3:Value), bindArgs (W.fnOf x qual (et st) (cH st) (ak st) .none kV doc pm an cdv ct) ⟨[a0,a1,a2,a3],[]⟩=pure (ps.zip [a0,a1,a2,a3]):=by intros;rfl):eJ K fd ps []:=F.binds fun kV doc pm an cdv ct us e=>match us,e.trans hl with | [a0,a1,a2,a3],_=>h kV doc pm an cdv ct a0 a1 a2 a3
theorem Fun.b5 (F:Fun K x qual st f fd)(hl:ps.length=5:=by rfl)(h:∀(kV doc pm:Value) (an:Option Addr) (cdv ct:Value) (a0 a1 a2 a3 a4:Value), bindArgs (W.fnOf x qual (et st) (cH st) (ak st) .none kV doc pm an cdv ct) ⟨[a0,a1,a2,a3,a4],[]⟩=pure (ps.zip [a0,a1,a2,a3,a4]):=by intros;rfl):eJ K fd ps []:=F.binds fun kV doc pm an cdv ct us e=>match us,e.trans hl with | [a0,a1,a2,a3,a4],_=>h kV doc pm an cdv ct a0 a1 a2 a3 a4
theorem Fun.b6 (F:Fun K x qual st f fd)(hl:ps.length=6:=by rfl)(h:∀(kV doc pm:Value) (an:Option Addr) (cdv ct:Value) (a0 a1 a2 a3 a4 a5:Value), bindArgs (W.fnOf x qual (et st) (cH st) (ak st) .none kV doc pm an cdv ct) ⟨[a0,a1,a2,a3,a4,a5],[]⟩=pure (ps.zip [a0,a1,a2,a3,a4,a5]):=by intros;rfl):eJ K fd ps []:=F.binds fun kV doc pm an cdv ct us e=>match us,e.trans hl with | [a0,a1,a2,a3,a4,a5],_=>h kV doc pm an cdv ct a0 a1 a2 a3 a4 a5
end
theorem eo.dn {j k:Nat}{A:Around}(r:eo k A)(h:j<=k:=by decide):eo j A:=r.mono h
theorem ai {X:Cx}{a b:Expr}{ta tb:TE}{pos:Pos}{r:R2}(hr:IxR X r)(ha:PE X a ta)(hb:PE X b tb)(hs:G5 b:=by intro _ _;rfl):PE X (.Subscript a b pos) (tOp r ta tb):=Pk hr ha hb hs
theorem orL {α:Type}{a b:α}{p:Prop}(h:a=b:=by rfl):a=b\/p:=.inl h
termination_by rs.length
decreasing_by all_goals (subst_vars;simp)
theorem DQ {x y:V}(hx:bW x=true)(hy:bW y=true):∀z∈[x,y],bW z=true:=by
 intro z hz
 simp only [List.mem_cons,List.not_mem_nil,or_false] at hz
 rcases hz with rfl | rfl<;>assumption
theorem Qt {A B:Prop}(h:B):if true=false then A else B:=by rw [if_neg (by decide)];exact h
theorem Qu {A B:Prop}(h:A):if false=false then A else B:=by rw [if_pos rfl];exact h
theorem Gp {g:Cfg}{n:bh}{c l:Int}(hc:c=0\/c=1)(hl:bQ g.ds n.place c=some l)(ho:n.gates.getD l.toNat false=true):eR g n=true:=by
 obtain ⟨h0,h1,h2⟩:=dz hl
 unfold eR
 rw [List.any_eq_true]
 refine ⟨l,?_,ho⟩
 unfold ir
 rw [List.mem_map]
 refine ⟨l.toNat,?_,by omega⟩
 rw [List.mem_filter,List.mem_range,decide_eq_true_eq]
 refine ⟨by omega,?_⟩
 rcases hc with rfl | rfl
 ·left;rw [h2,if_pos rfl]
 ·right;rw [h2,if_neg (by decide)]
section
variable (P:Program)(w:World)(K:WA)(mg:Str->Option Value)(base:Heap)(CX:CXT)(k:Nat)
def KD (x:Str)(sp:Sp):Prop:=∃f fd ps,mg x=some (.ref f)/\W.keepIn K (.ref f)=true/\eJ K fd ps []/\gv P w K mg base CX k f fd ps sp
def KM (C:Addr)(m:Str)(sp:Sp):Prop:=∃f fd ps,Cls K C/\Fq K C m f/\eJ K fd ps []/\gv P w K mg base CX k f fd ps sp
def KN (C:Addr)(sp:Sp):Prop:=∃f fd ps,Mk K C f/\eJ K fd ps []/\gv P w K mg base CX k f fd ps sp
def FF (x q:Str)(st:Stmt)(ps:List Str)(sp:Sp):Prop:=∀f fd,Fun K x q st f fd->gv P w K mg base CX k f fd ps sp
end
section
variable {P:Program}{w:World}{K:WA}{mg:Str->Option Value}{base:Heap}{CX:CXT}{k:Nat}{x q m:Str}{st:Stmt}{ps N:List Str}{sp:Sp}{f C:Addr}{fd:FuncData}
theorem KD.mk (b:mg x=some (.ref f))(F:Fun K x q st f fd)(c:eJ K fd ps [])(t:FF P w K mg base CX k x q st ps sp):KD P w K mg base CX k x sp:=⟨f,fd,ps,b,F.kp,c,t f fd F⟩
theorem KM.mk (d:Cls K C)(b:Fq K C m f)(F:Fun K m q st f fd)(c:eJ K fd ps [])(t:FF P w K mg base CX k m q st ps sp):KM P w K mg base CX k C m sp:=⟨f,fd,ps,d,b,c,t f fd F⟩
theorem KN.mk (b:Mk K C f)(F:Fun K "__init__" q st f fd)(c:eJ K fd ps [])(t:FF P w K mg base CX k "__init__" q st ps sp):KN P w K mg base CX k C sp:=⟨f,fd,ps,b,c,t f fd F⟩
theorem fk0 (S:aB N ps (ak st))(h:∀vs H Q E,sp vs H Q E->vs.length=ps.length/\∀(cdv:Value) (A:Around) (outer:List Env) (s:Shared) (f:Addr),eo k (A.deeper (envOfC q (ak st) s.heap.objs.size f cdv))->
   ∃t,PSs (yS CX0 P w K mg base N q (ak st) f cdv A outer s H E).nox (cH st) t/\t {nx:=fun _ H'=>Q .non H',rt:=Q} (oo N vs) H):FF P w K mg base CX0 (k+1) x q st ps sp:=
 fun f _ F=>F.ok S (fun vs H Q E y=>(h vs H Q E y).1) fun cdv A outer s H vs Q E hr y=>(h vs H Q E y).2 cdv A outer s f hr
theorem fkF (S:aB N ps (ak st))(h:∀vs H Q E,sp vs H Q E->vs.length=ps.length/\∀(cdv:Value) (A:Around) (outer:List Env) (s:Shared) (f:Addr),eo k (A.deeper (envOfC q (ak st) s.heap.objs.size f cdv))->
   ∃t,PSs (cxF P w K mg base N q (ak st) f cdv A outer s H E) (cH st) t/\t {nx:=fun _ H'=>Q .non H',rt:=Q} (oo N vs) H):FF P w K mg base (CXf P w) (k+1) x q st ps sp:=
 fun f _ F=>F.okF S (fun vs H Q E y=>(h vs H Q E y).1) fun cdv A outer s H vs Q E hr y=>(h vs H Q E y).2 cdv A outer s f hr
theorem FF.calm (F:FF P w K mg base (CXf P w) k x q st ps sp)(h:∀vs H Q E,sp vs H Q E->sp vs H Q E0):FF P w K mg base CX0 k x q st ps sp:=fun f fd y=>(F f fd y).calm h
theorem KM.calm0 (D:KM P w K mg base (CXf P w) k C m sp):KM P w K mg base CX0 k C m (fun vs H Q _=>sp vs H Q E0):=let ⟨f,fd,ps,a,b,c,F⟩:=D;⟨f,fd,ps,a,b,c,F.calm0⟩
end
section
variable {X:Cx}{CX:CXT}{k:Nat}{C:Addr}{sp:Sp}{E:XK}{x m:Str}{p pos apos:Pos}{e o:Expr}{es:List Expr}{ta:TE}{t:TA}
theorem dc (D:KD X.prog X.w X.K X.mg X.base CX k x sp)(hr:eo k X.A)(hx:fQ CX X E)(ha:PA X (e::es) t)(hg:Gl X x:=by rfl)(hdb:(x == ("__debug__":Str))=false:=by decide)
  (he:starEach (e::es) X.env=(false,eval e X.env)::starEach es X.env:=by rfl) (hpl:(backTo pos (starEach es X.env)).any (·.1)=false:=by rfl):PE X (.Call (.Name x p) (e::es) [] pos) (GZ sp [] E t):=
 let ⟨_,_,_,a,b,c,F⟩:=D;Lv F hr hg a b c .nil hx ha hdb he hpl
theorem dc0 (D:KD X.prog X.w X.K X.mg X.base CX0 k x sp)(hr:eo k X.A)(ha:PA X (e::es) t)(hg:Gl X x:=by rfl)(hdb:(x == ("__debug__":Str))=false:=by decide)
  (he:starEach (e::es) X.env=(false,eval e X.env)::starEach es X.env:=by rfl) (hpl:(backTo pos (starEach es X.env)).any (·.1)=false:=by rfl):PE X (.Call (.Name x p) (e::es) [] pos) (GZ sp [] E0 t):=dc D hr bB ha hg hdb he hpl
theorem dm {pl:Sem Bool}(he:PE X o ta)(D:KM X.prog X.w X.K X.mg X.base CX k C m sp)(hr:eo k X.A)(hx:fQ CX X E)(ha:PA X (e::es) t)
  (hst:starEach (e::es) X.env=(false,eval e X.env)::starEach es X.env:=by rfl) (hpl:(backTo pos (starEach es X.env)).any (·.1)=false:=by rfl)
  (ht:eval (.Call (.Attribute o m apos) (e::es) [] pos) X.env=(do
   let ov ←eval o X.env
   standAt apos.atName
   let (f,first) ←holding [ov] (getMethod ov m pl)
   callWith pos f first (backTo pos (starEach (e::es) X.env)) (backToKw pos (keywordEach [] X.env))):=by rfl) :
  PE X (.Call (.Attribute o m apos) (e::es) [] pos) (Dm C m sp [] E ta t):=let ⟨_,_,_,a,b,c,F⟩:=D;Lw he a b F hr c .nil hx ha hst hpl ht
theorem dm0 {pl:Sem Bool}(he:PE X o ta)(D:KM X.prog X.w X.K X.mg X.base CX k C m sp)(hr:eo k X.A)(hx:fQ CX X E)
  (ht:eval (.Call (.Attribute o m apos) [] [] pos) X.env=(do
   let ov ←eval o X.env
   standAt apos.atName
   let (f,first) ←holding [ov] (getMethod ov m pl)
   callWith pos f first (backTo pos (starEach [] X.env)) (backToKw pos (keywordEach [] X.env))):=by rfl) :
  PE X (.Call (.Attribute o m apos) [] [] pos) (Dm C m sp [] E ta Aw):=let ⟨_,_,_,a,b,c,F⟩:=D;JB he a b F hr c .nil hx ht
theorem dn (D:KN X.prog X.w X.K X.mg X.base CX k C sp)(hr:eo (k+1) X.A)(hm:X.mg x=some (.ref C))(hx:fQ CX X E)(ha:PA X (e::es) t)(hg:Gl X x:=by rfl)(hdb:(x == ("__debug__":Str))=false:=by decide)
  (he:starEach (e::es) X.env=(false,eval e X.env)::starEach es X.env:=by rfl) (hpl:(backTo pos (starEach es X.env)).any (·.1)=false:=by rfl):PE X (.Call (.Name x p) (e::es) [] pos) (JA C sp [] E t):=
 let ⟨_,_,_,a,c,F⟩:=D;Lx a F hr hg hm c .nil hx ha hdb he hpl
variable {pins:List (Addr×Obj)}{E':XT}
theorem dcT (D:KD X.prog X.w X.K X.mg X.base (CXf X.prog X.w) k x sp)(hr:eo k X.A)(ha:PA (Xt X pins E') (e::es) t)(hg:Gl X x:=by rfl)(hdb:(x == ("__debug__":Str))=false:=by decide)
  (he:starEach (e::es) X.env=(false,eval e X.env)::starEach es X.env:=by rfl) (hpl:(backTo pos (starEach es X.env)).any (·.1)=false:=by rfl) :
  PE (Xt X pins E') (.Call (.Name x p) (e::es) [] pos) (FN sp [] E' t):=let ⟨_,_,_,a,b,c,F⟩:=D;JU F hr hg a b c .nil ha hdb he hpl
end
section
variable {X:Cx}{a b e o l value:Expr}{es tU:List Expr}{ta tb te tl tv:TE}{t:TA}{pos p:Pos}{tg:Expr}{f:Str}
theorem pv' (i:Nat){x:Str}{pos:Pos}(hN:X.N[i]?=some x:=by rfl)(hv:Vis X.env.scope x:=by first | exact Or.inl rfl | exact Or.inr (Or.inl rfl) | exact Or.inr (Or.inr rfl))(hd:(x == ("__debug__":Str))=false:=by decide)
  (hcd:(x == ("__classdict__":Str))=false:=by decide):PE X (.Name x pos) (Kf i):=L3 i▸pv i hN hv hd hcd
theorem aC (he:PE X e ta)(hb:attributeBase e f X.env (eval e X.env)=eval e X.env:=by rfl):PE X (.Attribute e f pos) (Kj X.K ta f):=Mf X.K ta f▸NW he hb
theorem cu {pos':Pos}(ha:PE X o ta)(hv:PE X value tv)(hs:swapsWith value (some (.Attribute o f pos')) pos.line X.env=pure false):PS X (.Assign [.Attribute o f pos'] value pos) (Kk X.K ta tv f):=Mg X.K ta tv f▸NX ha hv hs
theorem bD:OpR X (binaryOp .Add) (FV fun i j=>.int (i+j)):=zd _▸NQ
theorem dS:OpR X (binaryOp .Sub) (FV fun i j=>.int (i - j)):=zd _▸NR
theorem yI:OpR X (binaryOp .Mult) (rI' yO fun i j=>.int (i * j)):=Hl _ _▸Fn
theorem IQ:OpR X (binaryOp .FloorDiv) (rI' Nf fun i j=>.int (i / j)):=Hl _ _▸JM
theorem rg:OpR X (binaryOp .Mod) (rI' (fun _ j=>0 < j) fun i j=>.int (i % j)):=Hl _ _▸Jv
theorem HK:OpR X (binaryOp .Pow) (rI' NP fun i j=>.int (i ^ j.toNat)):=Hl _ _▸NS
theorem gQ:OpR X (compareOp .Eq) (OC):=OD▸M4
theorem ON:OpR X (compareOp .Lt) (FV fun i j=>.bl (decide (i < j))):=zd _▸M5
theorem Gq:OpR X (compareOp .LtE) (FV fun i j=>.bl (decide (i<=j))):=zd _▸M6
theorem KW:OpR X (compareOp .GtE) (FV fun i j=>.bl (decide (j<=i))):=zd _▸M7
theorem ez:OpR X (compareOp .In) (Gh X.K false):=Kz _ _▸Im
theorem j5:OpR X (compareOp .NotIn) (Gh X.K true):=Kz _ _▸B9
theorem ft:OpR X (binaryOp .Add) (Kw):=Ml▸N6
theorem KY:OpR X (binaryOp .Add) (Gg X.K):=Ky _▸LM
theorem DR:OpR X (binaryOp .Add) (Gf):=Kx▸LS
theorem KZ:OpR X (binaryOp .Mult) (Gm X.K):=KR _▸LQ
theorem HL (hu:X.A.units < cLine):OpR X (compareOp .Eq) (Hv X.K):=Mw _▸Oj hu
theorem My (hu:X.A.units < cLine):OpR X (compareOp .NotEq) (Hu X.K):=Mv _▸Ox hu
theorem cL:UnR X (unaryOp .USub) (rU' fun i=>.int (-i)):=PR _▸NT
theorem au:IxR X (Bz X.K):=Md _▸G6
theorem aj:IxR X (xH X.K):=Me _▸JF
theorem K0:SlR X (Ku X.K):=Mi _▸LB
theorem HM:SlR X (Kv X.K):=Mj _▸NZ
theorem kY:NJ X Ge:=Kp▸JH
theorem eS:MtM X "list.append" ze:=FZ▸Io
theorem Cr:MtM X "list.pop" Hs:=Mn▸N5
theorem cO (h:PE X e te)(he:∀cG,isTrue e X.env cG=(do let v ←cG;standAt e.pos;holding [v] (truthy v)):=by intro _;rfl):PT X e (tB' te):=Np te▸NF h he
theorem dO {op:CmpOp}{r:R2}(ho:OpR X (compareOp op) r)(ha:PE X a ta)(hb:PE X b tb)(hm:behindInMarks op b=false):PT X (.Compare a [op] [b] pos) (tB' (tOp r ta tb)):=Kg (tOp r ta tb)▸ip ho ha hb hm
theorem bU (ha:PE X a ta)(hb:PE X b tb)(hm:behindInMarks .Eq b=false:=by exact cy _):PT X (.Compare a [.Eq] [b] pos) (OK ta tb):=Mb ta tb▸ip M4 ha hb hm
theorem jL (ha:PE X a ta)(hb:PE X b tb)(hm:behindInMarks .NotEq b=false:=by exact cy _):PT X (.Compare a [.NotEq] [b] pos) (OL ta tb):=Mc ta tb▸ip Pb ha hb hm
theorem jM (ha:PE X a ta)(hb:PE X b tb)(hm:behindInMarks .Lt b=false:=by exact cy _):PT X (.Compare a [.Lt] [b] pos) (sT (fun i j=>i < j) ta tb):=OE ta tb▸ip M5 ha hb hm
theorem PY (ha:PE X a ta)(hb:PE X b tb)(hm:behindInMarks .LtE b=false:=by exact cy _):PT X (.Compare a [.LtE] [b] pos) (sT (fun i j=>i<=j) ta tb):=OF ta tb▸ip M6 ha hb hm
theorem HN (ha:PE X a ta)(hb:PE X b tb)(hm:behindInMarks .Gt b=false:=by exact cy _):PT X (.Compare a [.Gt] [b] pos) (sT (fun i j=>j < i) ta tb):=OG ta tb▸ip Pc ha hb hm
theorem xK (ha:PE X a ta)(hb:PE X b tb)(hm:behindInMarks .GtE b=false:=by exact cy _):PT X (.Compare a [.GtE] [b] pos) (sT (fun i j=>j<=i) ta tb):=OH ta tb▸ip M7 ha hb hm
theorem Cs (ha:PE X a ta)(hb:PE X b (tC .non))(hm:behindInMarks .Is b=false:=by exact cy _):PT X (.Compare a [.Is] [b] pos) (KP ta):=KQ ta▸ip NU ha hb hm
theorem Mz (ha:PE X a ta)(hb:PE X b (tC .non))(hm:behindInMarks .IsNot b=false:=by exact cy _):PT X (.Compare a [.IsNot] [b] pos) (Gk ta):=IL ta▸ip Lq ha hb hm
theorem cb {k:Int}(ha:PE X a ta)(hb:PE X b (tC (.int k)))(hk:0 < k:=by decide):PE X (.BinOp a .Mod b pos) (tU1 (fun i=>.int (i % k)) ta):=Kq hk ta (fun i j=>.int (i % j))▸bc Jv ha hb
theorem dU {k:Int}(ha:PE X a ta)(hb:PE X b (tC (.int k)))(h1:0 < k:=by decide)(h2:k < 1073741824:=by decide):PE X (.BinOp a .FloorDiv b pos) (tU1 (fun i=>.int (i / k)) ta):=Kr h1 h2 ta (fun i j=>.int (i / j))▸bc Lp ha hb
theorem yJ {k:Int}(ha:PE X a ta)(hb:PE X b (tC (.int k)))(h1:-4294967296 < k:=by decide)(h2:k < 4294967296:=by decide):PE X (.BinOp a .Mult b pos) (tU1 (fun i=>.int (i * k)) ta):=Ks h1 h2 ta (fun i j=>.int (i * j))▸bc Fn ha hb
theorem oX {k:Int}(ha:PE X a (tC (.int k)))(hb:PE X b tb)(h1:-4294967296 < k:=by decide)(h2:k < 4294967296:=by decide):PE X (.BinOp a .Mult b pos) (tU1 (fun i=>.int (k * i)) tb):=IJ h1 h2 tb (fun i j=>.int (i * j))▸bc Fn ha hb
theorem fu {k:Nat}{t:TGs}{n:Nat}(hc:X.calm=true)(h:PGs X es t)(hn:(assignEach es X.env).length=n:=by rfl)(hst:(assignEach es X.env).findIdx? (·.1)=none:=by rfl):PG X (.Tuple es k pos) (sU X.K n t):=Ho X.K n t▸NM hc h hn hst
theorem MA {k:Nat}{t:TGs}{n:Nat}(hc:X.calm=true)(h:PGs X es t)(hn:(assignEach es X.env).length=n:=by rfl)(hst:(assignEach es X.env).findIdx? (·.1)=none:=by rfl):PG X (.Tuple es k pos) (FX X.K n t):=Kh X.K n t▸Ov hc h hn hst
theorem aN {t:TG}{u:TGs}(h1:PG X e t)(h2:PGs X es u)(hs:(assignEach (e::es) X.env).map (·.2)=assign e X.env::(assignEach es X.env).map (·.2):=by rfl):PGs X (e::es) (w6 t u):=va t u▸Jp h1 h2 hs
theorem dY:PGs X [] Hq:=Hr▸Lm
theorem eT (hl:PE X l tl):PI X tg l (Gb X.K tl):=Km X.K tl▸Ln hl
theorem bP (hg:Gl X "range")(hm:X.mg "range"=none)(ha:PA X [a] t)(hs:starEach [a] X.env=[(false,eval a X.env)]:=by rfl):PI X tg (.Call (.Name "range" p) [a] [] pos) (Gc t):=Kn t▸Ib hg hm ha hs
theorem zh (hg:Gl X "range")(hm:X.mg "range"=none)(ha:PA X [a,b] t)(hs:starEach [a,b] X.env=[(false,eval a X.env),(false,eval b X.env)]:=by rfl)(hs2:starEach [b] X.env=[(false,eval b X.env)]:=by rfl):PI X tg (.Call (.Name "range" p) [a,b] [] pos) (Gi t):=KA t▸Ic hg hm ha hs hs2
theorem zi {tpos:Pos}{elts:List Expr}{x1:Nat}(hg:Gl X "enumerate")(hm:X.mg "enumerate"=none)(hb:bootBuiltins "enumerate"=some (.type "enumerate"))(he:PE X a te)(hs:starEach [a] X.env=[(false,eval a X.env)]:=by rfl):PI X (.Tuple elts x1 tpos) (.Call (.Name "enumerate" p) [a] [] pos) (Gj X.K te):=KC X.K te▸LK hg hm hb he hs
theorem MB {tpos:Pos}{elts:List Expr}{x1:Nat}(hg:Gl X "zip")(hm:X.mg "zip"=none)(hb:bootBuiltins "zip"=some (.type "zip"))(ha:PE X a ta)(hb2:PE X b tb)(hs:starEach [a,b] X.env=[(false,eval a X.env),(false,eval b X.env)]:=by rfl)(hs2:starEach [b] X.env=[(false,eval b X.env)]:=by rfl):PI X (.Tuple elts x1 tpos) (.Call (.Name "zip" p) [a,b] [] pos) (KG X.K ta tb):=Mm X.K ta tb▸Ol hg hm hb ha hb2 hs hs2
theorem rh (ha:PE X a ta)(hb:PE X (.BoolOp .And (b::tU) pos) tb):PE X (.BoolOp .And (a::b::tU) pos) (FY ta tb):=Ki ta tb▸NG ha hb
theorem vc (h:PE X e te):PO X (some e) (Ga te):=Kl te▸LA h
theorem w9 {r r':List V->Hp->VK->Prop}(h:∀t,tCB r t=tCB r' t):r=r':=funext fun vs=>funext fun H=>funext fun Q=>congrFun (congrFun (congrFun (h fun σ H Q=>Q vs H) []) H) Q
theorem az:de X (.builtin "len") (Ko X.K):=w9 (Mh X.K)▸Ca
theorem bH:de X (.type "list") (yH X.K):=w9 (Gd X.K)▸Cb
theorem BD:de X (.builtin "abs") Mo:=w9 Mp▸Jx
theorem tZ (hc:X.calm=true):de X (.builtin "min") KH:=w9 KJ▸Ih hc
theorem oY:de X (.type "tuple") (Cp X.K):=w9 (IK X.K)▸Ay
theorem cY:de X (.type "int") Ht:=w9 KO▸Ii
theorem dm' {CX:CXT}{k:Nat}{C:Addr}{sp:Sp}{E:XK}{m:Str}{apos:Pos}{pl:Sem Bool}(he:PE X o ta)(D:KM X.prog X.w X.K X.mg X.base CX k C m sp)(hr:eo k X.A)(hx:fQ CX X E)(ha:PA X (e::es) t)
  (hst:starEach (e::es) X.env=(false,eval e X.env)::starEach es X.env:=by rfl) (hpl:(backTo pos (starEach es X.env)).any (·.1)=false:=by rfl)
  (ht:eval (.Call (.Attribute o m apos) (e::es) [] pos) X.env=(do
   let ov ←eval o X.env
   standAt apos.atName
   let (f,first) ←holding [ov] (getMethod ov m pl)
   callWith pos f first (backTo pos (starEach (e::es) X.env)) (backToKw pos (keywordEach [] X.env))):=by rfl) :
  PE X (.Call (.Attribute o m apos) (e::es) [] pos) (Co C m sp [] E ta t):=DL C m sp [] E ta t▸dm he D hr hx ha hst hpl ht
theorem dQ {CX:CXT}{k:Nat}{C:Addr}{sp:Sp}{E:XK}{m:Str}{apos:Pos}{pl:Sem Bool}(he:PE X o ta)(D:KM X.prog X.w X.K X.mg X.base CX k C m sp)(hr:eo k X.A)(hx:fQ CX X E)
  (ht:eval (.Call (.Attribute o m apos) [] [] pos) X.env=(do
   let ov ←eval o X.env
   standAt apos.atName
   let (f,first) ←holding [ov] (getMethod ov m pl)
   callWith pos f first (backTo pos (starEach [] X.env)) (backToKw pos (keywordEach [] X.env))):=by rfl) :
  PE X (.Call (.Attribute o m apos) [] [] pos) (Co C m sp [] E ta Aw):=DL C m sp [] E ta Aw▸dm0 he D hr hx ht
theorem MC {i j:Nat}{x y:Str}{px py pt:Pos}{kt k2 pt2}(hc:X.calm=true)(hN:X.N.Nodup)(hi:X.N[i]?=some x)(hj:X.N[j]?=some y)(hij:i≠j)
  (hx:X.env.scope.names.lookup x=some .local) (hy:X.env.scope.names.lookup y=some .local) (ha:PA X [a,b] t)
  (hw:swappedStores [.Tuple [.Name x px,.Name y py] kt pt] (.Tuple [a,b] k2 pt2) X.env=pure (some [x,y]))
  (hs:swapsWithSole [.Tuple [.Name x px,.Name y py] kt pt] (.Tuple [a,b] k2 pt2) pos.line X.env=pure false:=by rfl) :
  PS X (.Assign [.Tuple [.Name x px,.Name y py] kt pt] (.Tuple [a,b] k2 pt2) pos) (KS i j t):=Mu i j t▸NN hc hN hi hj hij hx hy ha hw hs
variable {e1 e2 e3 e4:Expr}{t1 t2 t3 t4:TE}
theorem pa1 (h1:PE X e1 t1)(s1:starEach [e1] X.env=(false,eval e1 X.env)::starEach [] X.env:=by rfl):PA X [e1] (om t1 Aw):=cq h1 iK s1
theorem pa2 (h1:PE X e1 t1)(h2:PE X e2 t2)(s1:starEach [e1,e2] X.env=(false,eval e1 X.env)::starEach [e2] X.env:=by rfl)(s2:starEach [e2] X.env=(false,eval e2 X.env)::starEach [] X.env:=by rfl):PA X [e1,e2] (om t1 (om t2 Aw)):=cq h1 (pa1 h2 s2) s1
theorem pa3 (h1:PE X e1 t1)(h2:PE X e2 t2)(h3:PE X e3 t3)(s1:starEach [e1,e2,e3] X.env=(false,eval e1 X.env)::starEach [e2,e3] X.env:=by rfl)(s2:starEach [e2,e3] X.env=(false,eval e2 X.env)::starEach [e3] X.env:=by rfl)(s3:starEach [e3] X.env=(false,eval e3 X.env)::starEach [] X.env:=by rfl):PA X [e1,e2,e3] (om t1 (om t2 (om t3 Aw))):=cq h1 (pa2 h2 h3 s2 s3) s1
theorem pa4 (h1:PE X e1 t1)(h2:PE X e2 t2)(h3:PE X e3 t3)(h4:PE X e4 t4)(s1:starEach [e1,e2,e3,e4] X.env=(false,eval e1 X.env)::starEach [e2,e3,e4] X.env:=by rfl)(s2:starEach [e2,e3,e4] X.env=(false,eval e2 X.env)::starEach [e3,e4] X.env:=by rfl)(s3:starEach [e3,e4] X.env=(false,eval e3 X.env)::starEach [e4] X.env:=by rfl)(s4:starEach [e4] X.env=(false,eval e4 X.env)::starEach [] X.env:=by rfl):PA X [e1,e2,e3,e4] (om t1 (om t2 (om t3 (om t4 Aw)))):=cq h1 (pa3 h2 h3 h4 s2 s3 s4) s1
end
abbrev Xm (K:WA)(a b:Addr)(v:Bool):Prop:=W.exmOne K (.ref a) (.ref b)=some v
abbrev Kt (K:WA)(a b:Addr)(v:Bool):Prop:=W.kitOne K (.ref a) (.ref b)=some v
theorem fgo {K:WA}{H:Hp}{a:Addr}{f:Str}{C:Addr}{dx:Addr}{fs:List (Str×V)}{v:V}{q:V->Prop}(h:H a=some (.ins C dx fs))(c:Cls K C)(n:bA K C f)(l:fs.lookup f=some v)(k:q v) :
  ∃C dx fs,H a=some (.ins C dx fs)/\Cls K C/\bA K C f/\∃v,fs.lookup f=some v/\q v:=⟨_,_,_,h,c,n,_,l,k⟩
theorem mgo {H:Hp}{a C:Addr}{m:Str}{dx:Addr}{fs:List (Str×V)}{q:Prop}(h:H a=some (.ins C dx fs))(l:fs.lookup m=none)(k:q) :
  ∃dx fs,H a=some (.ins C dx fs)/\fs.lookup m=none/\q:=⟨_,_,h,l,k⟩
section
variable {X:Cx}
noncomputable def HP (K:WA):V->List V->Hp->VK->Prop:=fun x vs H Q=>onR x fun l=>onC vs fun y r=>onN r (∃(xs:List V) (j:Nat),SqL K H l xs/\bW y=true/\xs.all bW=true/\j < xs.length/\eqV (xs.getD j .non) y=true/\(∀i,i < j->eqV (xs.getD i .non) y=false)/\Q (.int (j:Nat)) H)
theorem IS:MtR X "list.index" (HP X.K):=by
 intro pins s σ H x vs v us Q I rx rv h
 obtain ⟨l,rfl,h⟩:=fU h
 match vs,h with
 | [y],h=>
  obtain ⟨xs,j,hq,fy,fx,hj,hy,hn,q⟩:=(show ∃(xs:List V) (j:Nat),_ from h)
  cases rx
  obtain ⟨u,rfl,ru⟩:=rv.one
  obtain ⟨its,r,pl,hz⟩:=I.list hq
  have hlen:=r.length
  obtain ⟨⟨cls,dd,data,sl⟩,ho,hc,n,hd⟩:=id pl.isList
  simp only at hc hd
  subst hc hd
  rw [sizeLine_eq] at hz
  have at_i:∀(i:Nat) (hi:i < its.length),eqU y its[i]=eqV (xs.getD i .non) y:=fun i hi=>by
   have hx:xs[i]?=some (xs.getD i .non):=by
    rw [List.getD_eq_getElem?_getD,List.getElem?_eq_getElem (by omega)];rfl
   obtain ⟨w,ew,rw'⟩:=r.get hx
   have e1:its[i]=w:=by
    have:=List.getElem?_eq_some_iff.mp ew
    simpa using this.2
   rw [e1]
   exact FC rw' (List.all_eq_true.mp fx _ (List.mem_of_getElem? hx))
  refine call_meets PySem.F.slot_list_index ⟨_,ho,rfl⟩ PySem.F.entry_list_index (PySem.F.args_list_index_2 _ _)
   (PySem.SeqAt.list_indexAt l its.toArray n dd sl u (eqU y) j (by simpa [←hlen] using hj) (by omega) ?_ ?_) ⟨ho,fun w hw=>kU ru fy r fx w (by simpa using hw),?_⟩
  ·show eqU y its[j]=true
   rw [at_i j (by omega)];exact hy
  ·intro i his hlt
   show eqU y its[i]=false
   rw [at_i i (by simpa using his)];exact hn i hlt
  ·exact ⟨.int (j:Nat),H,I.tok _,⟨_,rfl⟩,q⟩
end
section
variable {X:Cx}
noncomputable def PZ:R2:=fun x y H Q=>onB x fun a=>onB y fun b=>Q (.bl (a == b)) H
theorem K1:OpR X (compareOp .Is) PZ:=by
 intro pins s σ H x y v u Q I rx ry h
 cases x with
 | bl a=>
  cases y with
  | bl b=>
   have q:Q (.bl (a == b)) H:=h
   cases rx;cases ry
   refine wpAny_is_plain rfl (ck I q ?_)
   cases a<;>cases b<;>rfl
  | _=>exact h.elim
 | _=>exact h.elim
end
end L2
namespace K32
open PySem L2
noncomputable abbrev zj:List Str:=["number","many"]
noncomputable abbrev sW:List Str:=["level","many"]
noncomputable abbrev vd:List Str:=["number","many"]
noncomputable abbrev sX:List Str:=["loads","many"]
noncomputable abbrev xM:List Str:=["self","loads","many"]
noncomputable abbrev xN:List Str:=["self","number","cage"]
noncomputable abbrev zk:List Str:=["self","cage","level"]
noncomputable abbrev ve:List Str:=["self"]
noncomputable abbrev oZ:List Str:=["self","cage"]
noncomputable abbrev ot:List Str:=["self","level"]
noncomputable abbrev jN:List Str:=["self"]
noncomputable abbrev xO:List Str:=["self"]
noncomputable abbrev sY:List Str:=["number"]
noncomputable abbrev sZ:List Str:=["codes","many"]
noncomputable abbrev vf:List Str:=["self","codes"]
noncomputable abbrev vg:List Str:=["self","level","strokes"]
noncomputable abbrev o6:List Str:=["self","strokes"]
noncomputable abbrev o7:List Str:=["self"]
noncomputable abbrev vh:List Str:=["self","level"]
noncomputable abbrev vi:List Str:=["self"]
noncomputable abbrev xP:List Str:=["self","level","kind"]
noncomputable abbrev vj:List Str:=["self"]
noncomputable abbrev o8:List Str:=["depths"]
noncomputable abbrev vk:List Str:=["depths"]
noncomputable abbrev td:List Str:=["depths","place"]
noncomputable abbrev zl:List Str:=["depths","depth"]
noncomputable abbrev tf:List Str:=["depths","cage","level"]
noncomputable abbrev zm:List Str:=["depths","place"]
noncomputable abbrev o9:List Str:=["slow","fast"]
noncomputable abbrev vm:List Str:=["way","speed"]
noncomputable abbrev ou:List Str:=["self","place","opened","bells","yard"]
noncomputable abbrev ow:List Str:=["self"]
noncomputable abbrev xQ:List Str:=["self","first","most"]
noncomputable abbrev vn:List Str:=["self","deed","ticks","speed","standing"]
noncomputable abbrev tj:List Str:=["self"]
noncomputable abbrev zp:List Str:=["self"]
noncomputable abbrev tq:List Str:=["self"]
noncomputable abbrev xR:List Str:=["self"]
noncomputable abbrev vo:List Str:=["self","depths","codes","slow","fast","loads"]
noncomputable abbrev vp:List Str:=["self","level","strokes"]
noncomputable abbrev pd:List Str:=["self","strokes"]
noncomputable abbrev vq:List Str:=["self","level"]
noncomputable abbrev jO:List Str:=["self","level"]
noncomputable abbrev jP:List Str:=["self","level"]
noncomputable abbrev jQ:List Str:=["self","word","level","wanted"]
noncomputable abbrev vt:List Str:=["self","number","cage"]
noncomputable abbrev pe:List Str:=["self","cage"]
noncomputable abbrev vv:List Str:=["self","cage","level","kind"]
noncomputable abbrev jR:List Str:=["self"]
noncomputable abbrev tu:List Str:=["self","deed","ticks","standing"]
noncomputable abbrev iS:List Str:=["self","standing"]
noncomputable abbrev kZ:List Str:=["self","cage"]
noncomputable abbrev fh:List Str:=["self","level"]
noncomputable abbrev xS:List Str:=["self"]
noncomputable abbrev vw:List Str:=["self"]
noncomputable abbrev pf:List Str:=["self"]
noncomputable abbrev vx:List Str:=["self"]
noncomputable abbrev tw:List Str:=["self"]
noncomputable abbrev tx:List Str:=["self"]
noncomputable abbrev ik:List Str:=["self","place"]
noncomputable abbrev tD:List Str:=["self"]
noncomputable abbrev ox:List Str:=["self","cage"]
noncomputable abbrev k6:List Str:=["self","level"]
noncomputable abbrev K2:List Str:=["_law_script","_law_k"]
noncomputable abbrev DS:List Str:=["_law_cell","_law_k","_law_span"]
noncomputable abbrev BE:List Str:=["_law_script","_law_k"]
noncomputable abbrev vy:List Str:=["_law_found","_law_due"]
noncomputable abbrev zq:List Str:=["_law_cell"]
noncomputable abbrev BF:List Str:=["_law_cell","_law_many"]
noncomputable abbrev BG:List Str:=["_law_cell","_law_many","_law_most"]
noncomputable abbrev BH:List Str:=["_law_script"]
noncomputable abbrev BI:List Str:=["_law_script","_law_most"]
noncomputable abbrev K3:List Str:=["_law_depths_here","_law_cage","_law_place"]
noncomputable abbrev DT:List Str:=["_law_row","_law_k","_law_value"]
noncomputable abbrev BJ:List Str:=["_law_way","_law_speed_here"]
noncomputable abbrev BK:List Str:=["_law_setup_here","_law_lying"]
noncomputable abbrev BL:List Str:=["_law_setup_here"]
noncomputable abbrev k7:List Str:=["_law_setup_here","_law_state","_law_deed_here"]
noncomputable abbrev lg:List Str:=["_law_setup_here","_law_state","_law_deed_here"]
noncomputable abbrev lh:List Str:=["_law_setup_here","_law_state","_law_deed_here"]
noncomputable abbrev xT:List Str:=["_law_setup_here","_law_states","_law_deed_here"]
noncomputable abbrev BM:List Str:=["_law_heard_here","_law_deed_here"]
noncomputable abbrev DU:List Str:=["_law_setup_here","_law_state","_law_deed_here"]
noncomputable abbrev zr:List Str:=["_law_states","_law_deed_here"]
noncomputable abbrev DV:List Str:=["_law_works","_law_deed_here"]
noncomputable abbrev K4:List Str:=["_law_works","_law_deed_here"]
noncomputable abbrev DW:List Str:=["_law_works","_law_setup_here","_law_states","_law_rows","_law_deed_here"]
noncomputable abbrev DY:List Str:=["_law_works","_law_setup_here","_law_states","_law_rows"]
noncomputable abbrev lj:List Str:=["_law_setup_here","_law_state","_law_rest"]
noncomputable abbrev lp:List Str:=["_law_setup_here","_law_state","_law_rest"]
noncomputable abbrev vz:List Str:=["_law_setup_here","_law_rest"]
noncomputable abbrev DZ:List Str:=["_law_setup_here","_law_state","_law_cell"]
noncomputable abbrev K5:List Str:=["_law_script"]
noncomputable def top (i:Nat):Stmt:=PySem.Challenge.pw_cagebells_k32_whole_every_answer.main.body.getD i (.Pass ⟨0,0,0,0⟩)
noncomputable abbrev ua:Stmt:=top 22
theorem Ea:aB ["number","many"] zj (ak ua):=aR
noncomputable abbrev j6:Stmt:=top 23
theorem zt:aB ["level","many"] sW (ak j6):=aR
noncomputable abbrev mx:Stmt:=top 24
theorem AE:aB ["number","many"] vd (ak mx):=aR
noncomputable abbrev j7:Stmt:=top 29
theorem fV:aB ["loads","many","kind","level","goal"] sX (ak j7):=aR
noncomputable abbrev pj:Stmt:=bf (top 30) 0
theorem Ct:aB ["self","loads","many"] xM (ak pj):=aR
noncomputable abbrev pk:Stmt:=bf (top 30) 1
theorem Cu:aB ["self","number","cage"] xN (ak pk):=aR
noncomputable abbrev ub:Stmt:=bf (top 30) 2
theorem xU:aB ["self","cage","level","number"] zk (ak ub):=aR
noncomputable abbrev my:Stmt:=bf (top 30) 3
theorem AF:aB ["self"] ve (ak my):=aR
noncomputable abbrev iT:Stmt:=bf (top 30) 4
theorem gR:aB ["self","cage","number","spot"] oZ (ak iT):=aR
noncomputable abbrev gS:Stmt:=bf (top 30) 5
theorem xa:aB ["self","level"] ot (ak gS):=aR
noncomputable abbrev fW:Stmt:=bf (top 30) 6
theorem fC:aB ["self","kind","spot"] jN (ak fW):=aR
noncomputable abbrev pz:Stmt:=bf (top 30) 7
theorem vA:aB ["self","other"] xO (ak pz):=aR
noncomputable abbrev j8:Stmt:=top 34
theorem zu:aB ["number"] sY (ak j8):=aR
noncomputable abbrev j9:Stmt:=top 35
theorem iU:aB ["codes","many","men","coal"] sZ (ak j9):=aR
noncomputable abbrev mz:Stmt:=bf (top 36) 0
theorem AG:aB ["self","codes"] vf (ak mz):=aR
noncomputable abbrev mB:Stmt:=bf (top 36) 1
theorem AH:aB ["self","level","strokes"] vg (ak mB):=aR
noncomputable abbrev iV:Stmt:=bf (top 36) 2
theorem fv:aB ["self","strokes","level","rung","alike"] o6 (ak iV):=aR
noncomputable abbrev iW:Stmt:=bf (top 36) 3
theorem ym:aB ["self"] o7 (ak iW):=aR
noncomputable abbrev mD:Stmt:=bf (top 36) 4
theorem AI:aB ["self","level"] vh (ak mD):=aR
noncomputable abbrev mE:Stmt:=bf (top 36) 5
theorem AJ:aB ["self"] vi (ak mE):=aR
noncomputable abbrev pA:Stmt:=bf (top 36) 6
theorem vB:aB ["self","level","kind","code"] xP (ak pA):=aR
noncomputable abbrev mF:Stmt:=bf (top 36) 7
theorem tE:aB ["self","other"] vj (ak mF):=aR
noncomputable abbrev iX:Stmt:=top 41
theorem gT:aB ["depths","depth","level"] o8 (ak iX):=aR
noncomputable abbrev mG:Stmt:=top 42
theorem AK:aB ["depths"] vk (ak mG):=aR
noncomputable abbrev ka:Stmt:=top 43
theorem zw:aB ["depths","place"] td (ak ka):=aR
noncomputable abbrev uc:Stmt:=top 44
theorem xV:aB ["depths","depth","level"] zl (ak uc):=aR
noncomputable abbrev kb:Stmt:=top 45
theorem zx:aB ["depths","cage","level"] tf (ak kb):=aR
noncomputable abbrev ud:Stmt:=top 46
theorem xW:aB ["depths","place","stands"] zm (ak ud):=aR
noncomputable abbrev iY:Stmt:=top 49
theorem yp:aB ["slow","fast"] o9 (ak iY):=aR
noncomputable abbrev mH:Stmt:=top 50
theorem AL:aB ["way","speed"] vm (ak mH):=aR
noncomputable abbrev gU:Stmt:=bf (top 52) 0
theorem xb:aB ["self","place","opened","bells","yard"] ou (ak gU):=aR
noncomputable abbrev gV:Stmt:=bf (top 52) 1
theorem xc:aB ["self"] ow (ak gV):=aR
noncomputable abbrev pB:Stmt:=bf (top 53) 0
theorem Cv:aB ["self","first","most"] xQ (ak pB):=aR
noncomputable abbrev mI:Stmt:=bf (top 53) 1
theorem tF:aB ["self","deed","ticks","speed","standing","began"] vn (ak mI):=aR
noncomputable abbrev ke:Stmt:=bf (top 53) 2
theorem zy:aB ["self"] tj (ak ke):=aR
noncomputable abbrev ue:Stmt:=bf (top 53) 3
theorem Eb:aB ["self"] zp (ak ue):=aR
noncomputable abbrev kg:Stmt:=bf (top 53) 4
theorem zz:aB ["self"] tq (ak kg):=aR
noncomputable abbrev pC:Stmt:=bf (top 53) 5
theorem Cw:aB ["self"] xR (ak pC):=aR
noncomputable abbrev mJ:Stmt:=bf (top 56) 0
theorem kh:aB ["self","depths","codes","slow","fast","loads","shut","first"] vo (ak mJ):=aR
noncomputable abbrev mK:Stmt:=bf (top 56) 1
theorem tG:aB ["self","level","strokes","standing"] vp (ak mK):=aR
noncomputable abbrev iZ:Stmt:=bf (top 56) 2
theorem gW:aB ["self","strokes","standing","answer"] pd (ak iZ):=aR
noncomputable abbrev mL:Stmt:=bf (top 56) 3
theorem tH:aB ["self","level","standing"] vq (ak mL):=aR
noncomputable abbrev fX:Stmt:=bf (top 56) 4
theorem uf:aB ["self","level"] jO (ak fX):=aR
noncomputable abbrev fY:Stmt:=bf (top 56) 5
theorem ug:aB ["self","level"] jP (ak fY):=aR
noncomputable abbrev fZ:Stmt:=bf (top 56) 6
theorem i3:aB ["self","word","level","wanted","standing"] jQ (ak fZ):=aR
noncomputable abbrev mM:Stmt:=bf (top 56) 7
theorem ki:aB ["self","number","cage","standing","level"] vt (ak mM):=aR
noncomputable abbrev i4:Stmt:=bf (top 56) 8
theorem gX:aB ["self","cage","standing","level"] pe (ak i4):=aR
noncomputable abbrev mO:Stmt:=bf (top 56) 9
theorem fi:aB ["self","cage","level","kind","standing","gate","end","ticks"] vv (ak mO):=aR
noncomputable abbrev gf:Stmt:=bf (top 56) 10
theorem uh:aB ["self"] jR (ak gf):=aR
noncomputable abbrev kj:Stmt:=bf (top 56) 11
theorem zB:aB ["self","deed","ticks","standing"] tu (ak kj):=aR
noncomputable abbrev fD:Stmt:=bf (top 56) 12
theorem rz:aB ["self","standing"] iS (ak fD):=aR
noncomputable abbrev gx:Stmt:=bf (top 56) 13
theorem vC:aB ["self","cage"] kZ (ak gx):=aR
noncomputable abbrev dR:Stmt:=bf (top 56) 14
theorem jw:aB ["self","level"] fh (ak dR):=aR
noncomputable abbrev pD:Stmt:=bf (top 56) 15
theorem Cy:aB ["self"] xS (ak pD):=aR
noncomputable abbrev mP:Stmt:=bf (top 56) 16
theorem AM:aB ["self"] vw (ak mP):=aR
noncomputable abbrev i5:Stmt:=bf (top 56) 18
theorem yq:aB ["self"] pf (ak i5):=aR
noncomputable abbrev mQ:Stmt:=bf (top 56) 19
theorem AN:aB ["self"] vx (ak mQ):=aR
noncomputable abbrev kl:Stmt:=bf (top 56) 20
theorem zC:aB ["self"] tw (ak kl):=aR
noncomputable abbrev km:Stmt:=bf (top 56) 21
theorem zD:aB ["self"] tx (ak km):=aR
noncomputable abbrev fe:Stmt:=bf (top 56) 23
theorem pE:aB ["self","place"] ik (ak fe):=aR
noncomputable abbrev ko:Stmt:=bf (top 56) 24
theorem zE:aB ["self"] tD (ak ko):=aR
noncomputable abbrev gY:Stmt:=bf (top 56) 26
theorem xf:aB ["self","cage"] ox (ak gY):=aR
noncomputable abbrev gy:Stmt:=bf (top 56) 27
theorem vD:aB ["self","level"] k6 (ak gy):=aR
noncomputable abbrev Gr:Stmt:=top 58
theorem MD:aB ["_law_script","_law_k"] K2 (ak Gr):=aR
noncomputable abbrev zF:Stmt:=top 59
theorem lq:aB ["_law_cell","_law_k","_law_span","_law_rest","_law_turn_here","_law_one"] DS (ak zF):=aR
noncomputable abbrev xg:Stmt:=top 60
theorem ui:aB ["_law_script","_law_k","_law_cell","_law_one"] BE (ak xg):=aR
noncomputable abbrev pF:Stmt:=top 61
theorem xh:aB ["_law_found","_law_due","_law_alike","_law_k"] vy (ak pF):=aR
noncomputable abbrev uj:Stmt:=top 62
theorem dk:aB ["_law_cell","_law_many","_law_shape","_law_gap","_law_made","_law_last","_law_k","_law_span"] zq (ak uj):=aR
noncomputable abbrev xi:Stmt:=top 63
theorem mR:aB ["_law_cell","_law_many","_law_made","_law_k","_law_men"] BF (ak xi):=aR
noncomputable abbrev xj:Stmt:=top 64
theorem i6:aB ["_law_cell","_law_many","_law_most","_law_made","_law_count","_law_k","_law_kind"] BG (ak xj):=aR
noncomputable abbrev lr:Stmt:=top 65
theorem fE:aB ["_law_script","_law_depths_here","_law_codes_here","_law_cell","_law_slow","_law_fast"] BH (ak lr):=aR
noncomputable abbrev xk:Stmt:=top 66
theorem i7:aB ["_law_script","_law_most","_law_depths_here","_law_codes_here","_law_slow","_law_fast"] BI (ak xk):=aR
noncomputable abbrev Gs:Stmt:=top 67
theorem Cz:aB ["_law_depths_here","_law_cage","_law_place","_law_deep","_law_k"] K3 (ak Gs):=aR
noncomputable abbrev zG:Stmt:=top 68
theorem IT:aB ["_law_row","_law_k","_law_value"] DT (ak zG):=aR
noncomputable abbrev xl:Stmt:=top 69
theorem uk:aB ["_law_way","_law_speed_here","_law_ticks"] BJ (ak xl):=aR
noncomputable abbrev xm:Stmt:=top 70
theorem zH:aB ["_law_setup_here","_law_lying","_law_k"] BK (ak xm):=aR
noncomputable abbrev xn:Stmt:=top 71
theorem um:aB ["_law_setup_here","_law_many","_law_lying"] BL (ak xn):=aR
noncomputable abbrev gz:Stmt:=top 72
theorem vE:aB ["_law_setup_here","_law_state","_law_deed_here"] k7 (ak gz):=aR
noncomputable abbrev gA:Stmt:=top 73
theorem gg:aB ["_law_setup_here","_law_state","_law_deed_here","_law_lying","_law_level"] lg (ak gA):=aR
noncomputable abbrev gB:Stmt:=top 74
theorem dP:aB ["_law_setup_here","_law_state","_law_deed_here","_law_cage","_law_level","_law_code","_law_heard_here"] lh (ak gB):=aR
noncomputable abbrev pG:Stmt:=top 75
theorem iw:aB ["_law_setup_here","_law_states","_law_deed_here","_law_word"] xT (ak pG):=aR
noncomputable abbrev xo:Stmt:=top 76
theorem zI:aB ["_law_heard_here","_law_deed_here","_law_word"] BM (ak xo):=aR
noncomputable abbrev zJ:Stmt:=top 77
theorem cx:aB ["_law_setup_here","_law_state","_law_deed_here","_law_place","_law_gates","_law_lying","_law_heard_here","_law_dead","_law_clock","_law_ended","_law_level","_law_deep","_law_goal"] DU (ak zJ):=aR
noncomputable abbrev uo:Stmt:=top 78
theorem Ec:aB ["_law_states","_law_deed_here"] zr (ak uo):=aR
noncomputable abbrev zK:Stmt:=top 79
theorem IU:aB ["_law_works","_law_deed_here"] DV (ak zK):=aR
noncomputable abbrev Gu:Stmt:=top 80
theorem fz:aB ["_law_works","_law_deed_here","_law_hit","e","_law_names","_law_met"] K4 (ak Gu):=aR
noncomputable abbrev zL:Stmt:=top 81
theorem rj:aB ["_law_works","_law_setup_here","_law_states","_law_rows","_law_deed_here","_law_word","_law_told","_law_began"] DW (ak zL):=aR
noncomputable abbrev i8:Stmt:=top 82
theorem dF:aB ["_law_works","_law_setup_here","_law_states","_law_rows","_law_place","_law_gates","_law_lying","_law_heard_here","_law_dead","_law_clock","_law_held","_law_k","_law_waits","_law_due","_law_found"] DY (ak i8):=aR
noncomputable abbrev gC:Stmt:=top 83
theorem cv:aB ["_law_setup_here","_law_state","_law_rest","_law_depths_here","_law_codes_here","_law_heard_here","_law_live","_law_level","_law_cage","_law_kind"] lj (ak gC):=aR
noncomputable abbrev dZ:Stmt:=top 84
theorem cW:aB ["_law_setup_here","_law_state","_law_rest","_law_cage","_law_level","_law_waits"] lp (ak dZ):=aR
noncomputable abbrev mS:Stmt:=top 85
theorem cP:aB ["_law_setup_here","_law_rest","_law_far","_law_wide","_law_few","_law_near","_law_kind","_law_made"] vz (ak mS):=aR
noncomputable abbrev zM:Stmt:=top 86
theorem lu:aB ["_law_setup_here","_law_state","_law_cell","_law_pick","_law_rest","_law_level","_law_kind"] DZ (ak zM):=aR
noncomputable abbrev zN:Stmt:=top 87
theorem uq:aB ["_law_script","_law_setup_here","_law_works","_law_states","_law_rows","_law_k","_law_deed_here"] K5 (ak zN):=aR
structure Adr where
 ay:Addr
 aG:Addr
 cE:Addr
 aV:Addr
 aO:Addr
 aP:Addr
 cF:Addr
 ba:Addr
 bC:Addr
 aH:Addr
 aS:Addr
 aW:Addr
 bX:Addr
 bY:Addr
 aT:Addr
 aI:Addr
 bb:Addr
 aX:Addr
 bS:Addr
 eW:Addr
 bV:Addr
 eD:Addr
 rA:Addr
 bF:Addr
 CA:Addr
 vF:Addr
structure Txt (P:Program)(w:World)(K:WA)(mg:Str->Option Value)(base:Heap)(Z:Adr):Prop where
 bZ:mg "len"=none
 eU:mg "list"=none
 pH:mg "enumerate"=none
 P0:mg "zip"=none
 cQ:mg "range"=none
 Nq:mg "abs"=none
 bq:mg "isinstance"=none
 vG:mg "tuple"=none
 jS:mg "int"=none
 Nr:mg "str"=none
 K6:mg "bool"=none
 K7:mg "min"=none
 K8:mg "sorted"=none
 CB:∃u,mg "MOST_LOADS"=some u/\cf (.int 30) u
 xp:∃u,mg "FEWEST_STROKES"=some u/\cf (.int 1) u
 zO:∃u,mg "MOST_STROKES"=some u/\cf (.int 9) u
 yr:∃u,mg "FEWEST_LEVELS"=some u/\cf (.int 2) u
 AO:∃u,mg "MOST_LEVELS"=some u/\cf (.int 6) u
 xq:∃u,mg "GREATEST_DEPTH"=some u/\cf (.int 500) u
 xr:∃u,mg "GREATEST_SPEED"=some u/\cf (.int 500) u
 CC:∃u,mg "MOST_DEEDS"=some u/\cf (.int 300) u
 ME:∃u,mg "KINDS"=some u/\cf (.ref Z.CA) u
 MF:∀H,SqT K H Z.CA [.str "men",.str "coal"]
 MG:∃o,K.lookup Z.CA=some o/\o.cls=.type "tuple"/\o.dict=none
 ix:∃u,mg "CAGE_SPOTS"=some u/\cf (.ref Z.vF) u
 iz:∀H,SqT K H Z.vF [.int 10,.int 11]
 pI:mg "UnknownLevel"=some (.ref Z.ay)
 tI:mg "UnknownLoad"=some (.ref Z.aG)
 zP:mg "BadLoads"=some (.ref Z.cE)
 mT:mg "NotThere"=some (.ref Z.aV)
 xX:mg "CageTaken"=some (.ref Z.aO)
 pJ:mg "CageEmpty"=some (.ref Z.aP)
 ur:mg "BadCodes"=some (.ref Z.cF)
 zQ:mg "DeadBell"=some (.ref Z.ba)
 zR:mg "NoCode"=some (.ref Z.bC)
 tJ:mg "NothingRung"=some (.ref Z.aH)
 uu:mg "NoChange"=some (.ref Z.aS)
 zS:mg "NotArmed"=some (.ref Z.aW)
 pK:mg "BadDepths"=some (.ref Z.bX)
 Ed:mg "BadSpeeds"=some (.ref Z.bY)
 zT:mg "BookFull"=some (.ref Z.aT)
 tK:mg "NothingDone"=some (.ref Z.aI)
 zU:mg "GateOpen"=some (.ref Z.bb)
 zV:mg "GateShut"=some (.ref Z.aX)
 Ee:mg "CageError"=some (.ref Z.bS)
 K9:mg "Yard"=some (.ref Z.eW)
 HQ:mg "Bells"=some (.ref Z.bV)
 zW:mg "Standing"=some (.ref Z.eD)
 OO:mg "Book"=some (.ref Z.rA)
 MH:mg "Works"=some (.ref Z.bF)
 dh:Cls K Z.eW
 gI:bA K Z.eW "kinds"
 cz:bA K Z.eW "where"
 iA:bA K Z.eW "many"
 bM:Cls K Z.bV
 dA:bA K Z.bV "codes"
 cZ:bA K Z.bV "failed"
 bR:bA K Z.bV "state"
 aQ:Cls K Z.eD
 cX:bA K Z.eD "place"
 cC:bA K Z.eD "opened"
 cw:bA K Z.eD "bells"
 bT:bA K Z.eD "yard"
 dW:Cls K Z.rA
 tL:bA K Z.rA "first"
 vH:bA K Z.rA "most"
 cB:bA K Z.rA "rows"
 bu:Cls K Z.bF
 c9:bA K Z.bF "depths"
 tM:bA K Z.bF "slow"
 tN:bA K Z.bF "fast"
 pL:bA K Z.bF "goals"
 br:bA K Z.bF "log"
 zX:ExC K Z.ay
 zY:ExI K Z.ay
 kq:Xm K Z.ay Z.bS true
 iB:Kt K Z.ay Z.ay true
 i9:Kt K Z.ay Z.aG false
 ly:Kt K Z.ay Z.bb false
 lz:Kt K Z.ay Z.aX false
 lA:Kt K Z.ay Z.aW false
 oB:Kt K Z.ay Z.bC false
 ja:Kt K Z.ay Z.aH false
 lB:Kt K Z.ay Z.ba false
 lD:Kt K Z.ay Z.aS false
 lE:Kt K Z.ay Z.aV false
 kr:Kt K Z.ay Z.aO false
 ku:Kt K Z.ay Z.aP false
 jb:Kt K Z.ay Z.aI false
 lF:Kt K Z.ay Z.aT false
 AQ:ExC K Z.aG
 AR:ExI K Z.aG
 lG:Xm K Z.aG Z.bS true
 jc:Kt K Z.aG Z.ay false
 jx:Kt K Z.aG Z.aG true
 mU:Kt K Z.aG Z.bb false
 mV:Kt K Z.aG Z.aX false
 mW:Kt K Z.aG Z.aW false
 pM:Kt K Z.aG Z.bC false
 jy:Kt K Z.aG Z.aH false
 mX:Kt K Z.aG Z.ba false
 mY:Kt K Z.aG Z.aS false
 mZ:Kt K Z.aG Z.aV false
 lH:Kt K Z.aG Z.aO false
 lI:Kt K Z.aG Z.aP false
 jz:Kt K Z.aG Z.aI false
 ng:Kt K Z.aG Z.aT false
 zZ:ExC K Z.cE
 OP:ExI K Z.cE
 Ef:Xm K Z.cE Z.bS true
 BN:Kt K Z.cE Z.ay false
 CD:Kt K Z.cE Z.aG false
 EY:Kt K Z.cE Z.bb false
 EZ:Kt K Z.cE Z.aX false
 E1:Kt K Z.cE Z.aW false
 HR:Kt K Z.cE Z.bC false
 CF:Kt K Z.cE Z.aH false
 E2:Kt K Z.cE Z.ba false
 E3:Kt K Z.cE Z.aS false
 E4:Kt K Z.cE Z.aV false
 Eg:Kt K Z.cE Z.aO false
 Eh:Kt K Z.cE Z.aP false
 CG:Kt K Z.cE Z.aI false
 E5:Kt K Z.cE Z.aT false
 uv:ExC K Z.aV
 Gv:ExI K Z.aV
 pN:Xm K Z.aV Z.bS true
 lJ:Kt K Z.aV Z.ay false
 nh:Kt K Z.aV Z.aG false
 rB:Kt K Z.aV Z.bb false
 rC:Kt K Z.aV Z.aX false
 rD:Kt K Z.aV Z.aW false
 vI:Kt K Z.aV Z.bC false
 ni:Kt K Z.aV Z.aH false
 rE:Kt K Z.aV Z.ba false
 rF:Kt K Z.aV Z.aS false
 rG:Kt K Z.aV Z.aV true
 pO:Kt K Z.aV Z.aO false
 pP:Kt K Z.aV Z.aP false
 nj:Kt K Z.aV Z.aI false
 rH:Kt K Z.aV Z.aT false
 Ei:ExC K Z.aO
 Ej:ExI K Z.aO
 oC:Xm K Z.aO Z.bS true
 kv:Kt K Z.aO Z.ay false
 lK:Kt K Z.aO Z.aG false
 pQ:Kt K Z.aO Z.bb false
 pR:Kt K Z.aO Z.aX false
 pS:Kt K Z.aO Z.aW false
 uw:Kt K Z.aO Z.bC false
 lL:Kt K Z.aO Z.aH false
 pT:Kt K Z.aO Z.ba false
 pU:Kt K Z.aO Z.aS false
 pV:Kt K Z.aO Z.aV false
 oE:Kt K Z.aO Z.aO true
 oF:Kt K Z.aO Z.aP false
 lM:Kt K Z.aO Z.aI false
 pW:Kt K Z.aO Z.aT false
 xY:ExC K Z.aP
 Ek:ExI K Z.aP
 oG:Xm K Z.aP Z.bS true
 ky:Kt K Z.aP Z.ay false
 lO:Kt K Z.aP Z.aG false
 pX:Kt K Z.aP Z.bb false
 pY:Kt K Z.aP Z.aX false
 pZ:Kt K Z.aP Z.aW false
 ux:Kt K Z.aP Z.bC false
 lP:Kt K Z.aP Z.aH false
 qa:Kt K Z.aP Z.ba false
 qc:Kt K Z.aP Z.aS false
 qd:Kt K Z.aP Z.aV false
 oH:Kt K Z.aP Z.aO false
 oI:Kt K Z.aP Z.aP true
 lQ:Kt K Z.aP Z.aI false
 qf:Kt K Z.aP Z.aT false
 uy:ExC K Z.cF
 OQ:ExI K Z.cF
 El:Xm K Z.cF Z.bS true
 BO:Kt K Z.cF Z.ay false
 CH:Kt K Z.cF Z.aG false
 E6:Kt K Z.cF Z.bb false
 E7:Kt K Z.cF Z.aX false
 E8:Kt K Z.cF Z.aW false
 HS:Kt K Z.cF Z.bC false
 CI:Kt K Z.cF Z.aH false
 E9:Kt K Z.cF Z.ba false
 Fb:Kt K Z.cF Z.aS false
 Fc:Kt K Z.cF Z.aV false
 Em:Kt K Z.cF Z.aO false
 En:Kt K Z.cF Z.aP false
 CJ:Kt K Z.cF Z.aI false
 Fd:Kt K Z.cF Z.aT false
 Gw:ExC K Z.ba
 Gx:ExI K Z.ba
 qg:Xm K Z.ba Z.bS true
 lR:Kt K Z.ba Z.ay false
 nq:Kt K Z.ba Z.aG false
 rJ:Kt K Z.ba Z.bb false
 rK:Kt K Z.ba Z.aX false
 rL:Kt K Z.ba Z.aW false
 vJ:Kt K Z.ba Z.bC false
 nu:Kt K Z.ba Z.aH false
 rM:Kt K Z.ba Z.ba true
 rN:Kt K Z.ba Z.aS false
 rO:Kt K Z.ba Z.aV false
 qh:Kt K Z.ba Z.aO false
 qi:Kt K Z.ba Z.aP false
 nv:Kt K Z.ba Z.aI false
 rP:Kt K Z.ba Z.aT false
 Eo:ExC K Z.bC
 La:ExI K Z.bC
 uz:Xm K Z.bC Z.bS true
 oJ:Kt K Z.bC Z.ay false
 qj:Kt K Z.bC Z.aG false
 vK:Kt K Z.bC Z.bb false
 vL:Kt K Z.bC Z.aX false
 vM:Kt K Z.bC Z.aW false
 yt:Kt K Z.bC Z.bC true
 ql:Kt K Z.bC Z.aH false
 vN:Kt K Z.bC Z.ba false
 vO:Kt K Z.bC Z.aS false
 vP:Kt K Z.bC Z.aV false
 uA:Kt K Z.bC Z.aO false
 uB:Kt K Z.bC Z.aP false
 qm:Kt K Z.bC Z.aI false
 vQ:Kt K Z.bC Z.aT false
 AS:ExC K Z.aH
 AU:ExI K Z.aH
 lS:Xm K Z.aH Z.bS true
 jd:Kt K Z.aH Z.ay false
 jA:Kt K Z.aH Z.aG false
 ny:Kt K Z.aH Z.bb false
 nA:Kt K Z.aH Z.aX false
 nB:Kt K Z.aH Z.aW false
 qo:Kt K Z.aH Z.bC false
 jB:Kt K Z.aH Z.aH true
 nC:Kt K Z.aH Z.ba false
 nD:Kt K Z.aH Z.aS false
 nE:Kt K Z.aH Z.aV false
 lT:Kt K Z.aH Z.aO false
 lU:Kt K Z.aH Z.aP false
 jC:Kt K Z.aH Z.aI false
 nF:Kt K Z.aH Z.aT false
 Aa:ExC K Z.aS
 Gy:ExI K Z.aS
 qp:Xm K Z.aS Z.bS true
 lV:Kt K Z.aS Z.ay false
 nG:Kt K Z.aS Z.aG false
 rQ:Kt K Z.aS Z.bb false
 rR:Kt K Z.aS Z.aX false
 rS:Kt K Z.aS Z.aW false
 vR:Kt K Z.aS Z.bC false
 nH:Kt K Z.aS Z.aH false
 rT:Kt K Z.aS Z.ba false
 rV:Kt K Z.aS Z.aS true
 rW:Kt K Z.aS Z.aV false
 qq:Kt K Z.aS Z.aO false
 qr:Kt K Z.aS Z.aP false
 nI:Kt K Z.aS Z.aI false
 rX:Kt K Z.aS Z.aT false
 Gz:ExC K Z.aW
 GA:ExI K Z.aW
 qs:Xm K Z.aW Z.bS true
 lW:Kt K Z.aW Z.ay false
 nJ:Kt K Z.aW Z.aG false
 rY:Kt K Z.aW Z.bb false
 rZ:Kt K Z.aW Z.aX false
 r6:Kt K Z.aW Z.aW true
 vS:Kt K Z.aW Z.bC false
 nK:Kt K Z.aW Z.aH false
 r8:Kt K Z.aW Z.ba false
 r9:Kt K Z.aW Z.aS false
 sd:Kt K Z.aW Z.aV false
 qt:Kt K Z.aW Z.aO false
 qu:Kt K Z.aW Z.aP false
 nL:Kt K Z.aW Z.aI false
 se:Kt K Z.aW Z.aT false
 qv:ExC K Z.bX
 Nt:ExI K Z.bX
 Dc:Xm K Z.bX Z.bS true
 AV:Kt K Z.bX Z.ay false
 BP:Kt K Z.bX Z.aG false
 Ep:Kt K Z.bX Z.bb false
 Es:Kt K Z.bX Z.aX false
 Et:Kt K Z.bX Z.aW false
 GB:Kt K Z.bX Z.bC false
 BQ:Kt K Z.bX Z.aH false
 Eu:Kt K Z.bX Z.ba false
 Ew:Kt K Z.bX Z.aS false
 Ex:Kt K Z.bX Z.aV false
 De:Kt K Z.bX Z.aO false
 Df:Kt K Z.bX Z.aP false
 BR:Kt K Z.bX Z.aI false
 Ey:Kt K Z.bX Z.aT false
 Ez:ExC K Z.bY
 Nu:ExI K Z.bY
 Dg:Xm K Z.bY Z.bS true
 AW:Kt K Z.bY Z.ay false
 BS:Kt K Z.bY Z.aG false
 EA:Kt K Z.bY Z.bb false
 EB:Kt K Z.bY Z.aX false
 EC:Kt K Z.bY Z.aW false
 GC:Kt K Z.bY Z.bC false
 BU:Kt K Z.bY Z.aH false
 ED:Kt K Z.bY Z.ba false
 EE:Kt K Z.bY Z.aS false
 EF:Kt K Z.bY Z.aV false
 Dh:Kt K Z.bY Z.aO false
 Di:Kt K Z.bY Z.aP false
 BV:Kt K Z.bY Z.aI false
 EG:Kt K Z.bY Z.aT false
 GD:ExC K Z.aT
 OR:ExI K Z.aT
 EH:Xm K Z.aT Z.bS true
 BW:Kt K Z.aT Z.ay false
 CK:Kt K Z.aT Z.aG false
 Fe:Kt K Z.aT Z.bb false
 Ff:Kt K Z.aT Z.aX false
 Fg:Kt K Z.aT Z.aW false
 HU:Kt K Z.aT Z.bC false
 CL:Kt K Z.aT Z.aH false
 Fh:Kt K Z.aT Z.ba false
 Fi:Kt K Z.aT Z.aS false
 Fj:Kt K Z.aT Z.aV false
 EI:Kt K Z.aT Z.aO false
 EJ:Kt K Z.aT Z.aP false
 CM:Kt K Z.aT Z.aI false
 Fk:Kt K Z.aT Z.aT true
 AX:ExC K Z.aI
 AY:ExI K Z.aI
 lX:Xm K Z.aI Z.bS true
 je:Kt K Z.aI Z.ay false
 jD:Kt K Z.aI Z.aG false
 nM:Kt K Z.aI Z.bb false
 nN:Kt K Z.aI Z.aX false
 nO:Kt K Z.aI Z.aW false
 qw:Kt K Z.aI Z.bC false
 jE:Kt K Z.aI Z.aH false
 nP:Kt K Z.aI Z.ba false
 nQ:Kt K Z.aI Z.aS false
 nR:Kt K Z.aI Z.aV false
 lY:Kt K Z.aI Z.aO false
 lZ:Kt K Z.aI Z.aP false
 jF:Kt K Z.aI Z.aI true
 nS:Kt K Z.aI Z.aT false
 GF:ExC K Z.bb
 GG:ExI K Z.bb
 qx:Xm K Z.bb Z.bS true
 l3:Kt K Z.bb Z.ay false
 nT:Kt K Z.bb Z.aG false
 sg:Kt K Z.bb Z.bb true
 si:Kt K Z.bb Z.aX false
 sj:Kt K Z.bb Z.aW false
 vT:Kt K Z.bb Z.bC false
 nU:Kt K Z.bb Z.aH false
 so:Kt K Z.bb Z.ba false
 sq:Kt K Z.bb Z.aS false
 sr:Kt K Z.bb Z.aV false
 qz:Kt K Z.bb Z.aO false
 qA:Kt K Z.bb Z.aP false
 nV:Kt K Z.bb Z.aI false
 sv:Kt K Z.bb Z.aT false
 GH:ExC K Z.aX
 GI:ExI K Z.aX
 qB:Xm K Z.aX Z.bS true
 l4:Kt K Z.aX Z.ay false
 nW:Kt K Z.aX Z.aG false
 sJ:Kt K Z.aX Z.bb false
 sL:Kt K Z.aX Z.aX true
 sM:Kt K Z.aX Z.aW false
 vU:Kt K Z.aX Z.bC false
 nX:Kt K Z.aX Z.aH false
 sN:Kt K Z.aX Z.ba false
 sO:Kt K Z.aX Z.aS false
 sP:Kt K Z.aX Z.aV false
 qC:Kt K Z.aX Z.aO false
 qD:Kt K Z.aX Z.aP false
 nY:Kt K Z.aX Z.aI false
 sQ:Kt K Z.aX Z.aT false
structure Nv (K:WA)(C0 C1 C2 C3 C4 C5 C6 C7 C8 C9 C10 C11 C12 C13 C14 C15 C16 C17 C18 C19 C20 C21 C22 C23:Addr)(ta_KINDS:Addr)(tk_KINDS_0 tk_KINDS_1:Tok)(tn_KINDS:Nat)(ts_KINDS:Array (Option Value))(ta_CAGE_SPOTS:Addr)(tk_CAGE_SPOTS_0 tk_CAGE_SPOTS_1:Tok)(to_CAGE_SPOTS:Option Addr)(tn_CAGE_SPOTS:Nat)(ts_CAGE_SPOTS:Array (Option Value)):Prop where
 z_len:W.nsIn K mainGlobals "len"=some none
 z_list:W.nsIn K mainGlobals "list"=some none
 z_enumerate:W.nsIn K mainGlobals "enumerate"=some none
 z_zip:W.nsIn K mainGlobals "zip"=some none
 z_range:W.nsIn K mainGlobals "range"=some none
 z_abs:W.nsIn K mainGlobals "abs"=some none
 z_isinstance:W.nsIn K mainGlobals "isinstance"=some none
 z_tuple:W.nsIn K mainGlobals "tuple"=some none
 z_int:W.nsIn K mainGlobals "int"=some none
 z_str:W.nsIn K mainGlobals "str"=some none
 z_bool:W.nsIn K mainGlobals "bool"=some none
 z_min:W.nsIn K mainGlobals "min"=some none
 z_sorted:W.nsIn K mainGlobals "sorted"=some none
 m0:NI K "UnknownLevel" C0
 m1:NI K "UnknownLoad" C1
 m2:NI K "BadLoads" C2
 m3:NI K "NotThere" C3
 m4:NI K "CageTaken" C4
 m5:NI K "CageEmpty" C5
 m6:NI K "BadCodes" C6
 m7:NI K "DeadBell" C7
 m8:NI K "NoCode" C8
 m9:NI K "NothingRung" C9
 m10:NI K "NoChange" C10
 m11:NI K "NotArmed" C11
 m12:NI K "BadDepths" C12
 m13:NI K "BadSpeeds" C13
 m14:NI K "BookFull" C14
 m15:NI K "NothingDone" C15
 m16:NI K "GateOpen" C16
 m17:NI K "GateShut" C17
 m18:NI K "CageError" C18
 m19:NI K "Yard" C19
 m20:NI K "Bells" C20
 m21:NI K "Standing" C21
 m22:NI K "Book" C22
 m23:NI K "Works" C23
 n_MOST_LOADS:KI K "MOST_LOADS" 30
 n_FEWEST_STROKES:KI K "FEWEST_STROKES" 1
 n_MOST_STROKES:KI K "MOST_STROKES" 9
 n_FEWEST_LEVELS:KI K "FEWEST_LEVELS" 2
 n_MOST_LEVELS:KI K "MOST_LEVELS" 6
 n_GREATEST_DEPTH:KI K "GREATEST_DEPTH" 500
 n_GREATEST_SPEED:KI K "GREATEST_SPEED" 500
 n_MOST_DEEDS:KI K "MOST_DEEDS" 300
 n_KINDS:W.nsIn K mainGlobals "KINDS"=some (some (.ref ta_KINDS))
 lt_KINDS:K.lookup ta_KINDS=some ⟨.type "tuple",none,.seq #[.str "men" tk_KINDS_0,.str "coal" tk_KINDS_1] tn_KINDS,ts_KINDS⟩
 n_CAGE_SPOTS:W.nsIn K mainGlobals "CAGE_SPOTS"=some (some (.ref ta_CAGE_SPOTS))
 lt_CAGE_SPOTS:K.lookup ta_CAGE_SPOTS=some ⟨.type "tuple",to_CAGE_SPOTS,.seq #[.int 10 tk_CAGE_SPOTS_0,.int 11 tk_CAGE_SPOTS_1] tn_CAGE_SPOTS,ts_CAGE_SPOTS⟩
 cl19:Cls K C19
 na19_kinds:bA K C19 "kinds"
 na19_where:bA K C19 "where"
 na19_many:bA K C19 "many"
 cl20:Cls K C20
 na20_codes:bA K C20 "codes"
 na20_failed:bA K C20 "failed"
 na20_state:bA K C20 "state"
 cl21:Cls K C21
 na21_place:bA K C21 "place"
 na21_opened:bA K C21 "opened"
 na21_bells:bA K C21 "bells"
 na21_yard:bA K C21 "yard"
 cl22:Cls K C22
 na22_first:bA K C22 "first"
 na22_most:bA K C22 "most"
 na22_rows:bA K C22 "rows"
 cl23:Cls K C23
 na23_depths:bA K C23 "depths"
 na23_slow:bA K C23 "slow"
 na23_fast:bA K C23 "fast"
 na23_goals:bA K C23 "goals"
 na23_log:bA K C23 "log"
 l0:C0I K C18
 x0:XI K C18 C0
 x1:XI K C18 C1
 x2:XI K C18 C2
 x3:XI K C18 C3
 x4:XI K C18 C4
 x5:XI K C18 C5
 x6:XI K C18 C6
 x7:XI K C18 C7
 x8:XI K C18 C8
 x9:XI K C18 C9
 x10:XI K C18 C10
 x11:XI K C18 C11
 x12:XI K C18 C12
 x13:XI K C18 C13
 x14:XI K C18 C14
 x15:XI K C18 C15
 x16:XI K C18 C16
 x17:XI K C18 C17
 e0_CageError:Xm K C0 C18 true
 k0_UnknownLevel:Kt K C0 C0 true
 k0_UnknownLoad:Kt K C0 C1 false
 k0_GateOpen:Kt K C0 C16 false
 k0_GateShut:Kt K C0 C17 false
 k0_NotArmed:Kt K C0 C11 false
 k0_NoCode:Kt K C0 C8 false
 k0_NothingRung:Kt K C0 C9 false
 k0_DeadBell:Kt K C0 C7 false
 k0_NoChange:Kt K C0 C10 false
 k0_NotThere:Kt K C0 C3 false
 k0_CageTaken:Kt K C0 C4 false
 k0_CageEmpty:Kt K C0 C5 false
 k0_NothingDone:Kt K C0 C15 false
 k0_BookFull:Kt K C0 C14 false
 e1_CageError:Xm K C1 C18 true
 k1_UnknownLevel:Kt K C1 C0 false
 k1_UnknownLoad:Kt K C1 C1 true
 k1_GateOpen:Kt K C1 C16 false
 k1_GateShut:Kt K C1 C17 false
 k1_NotArmed:Kt K C1 C11 false
 k1_NoCode:Kt K C1 C8 false
 k1_NothingRung:Kt K C1 C9 false
 k1_DeadBell:Kt K C1 C7 false
 k1_NoChange:Kt K C1 C10 false
 k1_NotThere:Kt K C1 C3 false
 k1_CageTaken:Kt K C1 C4 false
 k1_CageEmpty:Kt K C1 C5 false
 k1_NothingDone:Kt K C1 C15 false
 k1_BookFull:Kt K C1 C14 false
 e2_CageError:Xm K C2 C18 true
 k2_UnknownLevel:Kt K C2 C0 false
 k2_UnknownLoad:Kt K C2 C1 false
 k2_GateOpen:Kt K C2 C16 false
 k2_GateShut:Kt K C2 C17 false
 k2_NotArmed:Kt K C2 C11 false
 k2_NoCode:Kt K C2 C8 false
 k2_NothingRung:Kt K C2 C9 false
 k2_DeadBell:Kt K C2 C7 false
 k2_NoChange:Kt K C2 C10 false
 k2_NotThere:Kt K C2 C3 false
 k2_CageTaken:Kt K C2 C4 false
 k2_CageEmpty:Kt K C2 C5 false
 k2_NothingDone:Kt K C2 C15 false
 k2_BookFull:Kt K C2 C14 false
 e3_CageError:Xm K C3 C18 true
 k3_UnknownLevel:Kt K C3 C0 false
 k3_UnknownLoad:Kt K C3 C1 false
 k3_GateOpen:Kt K C3 C16 false
 k3_GateShut:Kt K C3 C17 false
 k3_NotArmed:Kt K C3 C11 false
 k3_NoCode:Kt K C3 C8 false
 k3_NothingRung:Kt K C3 C9 false
 k3_DeadBell:Kt K C3 C7 false
 k3_NoChange:Kt K C3 C10 false
 k3_NotThere:Kt K C3 C3 true
 k3_CageTaken:Kt K C3 C4 false
 k3_CageEmpty:Kt K C3 C5 false
 k3_NothingDone:Kt K C3 C15 false
 k3_BookFull:Kt K C3 C14 false
 e4_CageError:Xm K C4 C18 true
 k4_UnknownLevel:Kt K C4 C0 false
 k4_UnknownLoad:Kt K C4 C1 false
 k4_GateOpen:Kt K C4 C16 false
 k4_GateShut:Kt K C4 C17 false
 k4_NotArmed:Kt K C4 C11 false
 k4_NoCode:Kt K C4 C8 false
 k4_NothingRung:Kt K C4 C9 false
 k4_DeadBell:Kt K C4 C7 false
 k4_NoChange:Kt K C4 C10 false
 k4_NotThere:Kt K C4 C3 false
 k4_CageTaken:Kt K C4 C4 true
 k4_CageEmpty:Kt K C4 C5 false
 k4_NothingDone:Kt K C4 C15 false
 k4_BookFull:Kt K C4 C14 false
 e5_CageError:Xm K C5 C18 true
 k5_UnknownLevel:Kt K C5 C0 false
 k5_UnknownLoad:Kt K C5 C1 false
 k5_GateOpen:Kt K C5 C16 false
 k5_GateShut:Kt K C5 C17 false
 k5_NotArmed:Kt K C5 C11 false
 k5_NoCode:Kt K C5 C8 false
 k5_NothingRung:Kt K C5 C9 false
 k5_DeadBell:Kt K C5 C7 false
 k5_NoChange:Kt K C5 C10 false
 k5_NotThere:Kt K C5 C3 false
 k5_CageTaken:Kt K C5 C4 false
 k5_CageEmpty:Kt K C5 C5 true
 k5_NothingDone:Kt K C5 C15 false
 k5_BookFull:Kt K C5 C14 false
 e6_CageError:Xm K C6 C18 true
 k6_UnknownLevel:Kt K C6 C0 false
 k6_UnknownLoad:Kt K C6 C1 false
 k6_GateOpen:Kt K C6 C16 false
 k6_GateShut:Kt K C6 C17 false
 k6_NotArmed:Kt K C6 C11 false
 k6_NoCode:Kt K C6 C8 false
 k6_NothingRung:Kt K C6 C9 false
 k6_DeadBell:Kt K C6 C7 false
 k6_NoChange:Kt K C6 C10 false
 k6_NotThere:Kt K C6 C3 false
 k6_CageTaken:Kt K C6 C4 false
 k6_CageEmpty:Kt K C6 C5 false
 k6_NothingDone:Kt K C6 C15 false
 k6_BookFull:Kt K C6 C14 false
 e7_CageError:Xm K C7 C18 true
 k7_UnknownLevel:Kt K C7 C0 false
 k7_UnknownLoad:Kt K C7 C1 false
 k7_GateOpen:Kt K C7 C16 false
 k7_GateShut:Kt K C7 C17 false
 k7_NotArmed:Kt K C7 C11 false
 k7_NoCode:Kt K C7 C8 false
 k7_NothingRung:Kt K C7 C9 false
 k7_DeadBell:Kt K C7 C7 true
 k7_NoChange:Kt K C7 C10 false
 k7_NotThere:Kt K C7 C3 false
 k7_CageTaken:Kt K C7 C4 false
 k7_CageEmpty:Kt K C7 C5 false
 k7_NothingDone:Kt K C7 C15 false
 k7_BookFull:Kt K C7 C14 false
 e8_CageError:Xm K C8 C18 true
 k8_UnknownLevel:Kt K C8 C0 false
 k8_UnknownLoad:Kt K C8 C1 false
 k8_GateOpen:Kt K C8 C16 false
 k8_GateShut:Kt K C8 C17 false
 k8_NotArmed:Kt K C8 C11 false
 k8_NoCode:Kt K C8 C8 true
 k8_NothingRung:Kt K C8 C9 false
 k8_DeadBell:Kt K C8 C7 false
 k8_NoChange:Kt K C8 C10 false
 k8_NotThere:Kt K C8 C3 false
 k8_CageTaken:Kt K C8 C4 false
 k8_CageEmpty:Kt K C8 C5 false
 k8_NothingDone:Kt K C8 C15 false
 k8_BookFull:Kt K C8 C14 false
 e9_CageError:Xm K C9 C18 true
 k9_UnknownLevel:Kt K C9 C0 false
 k9_UnknownLoad:Kt K C9 C1 false
 k9_GateOpen:Kt K C9 C16 false
 k9_GateShut:Kt K C9 C17 false
 k9_NotArmed:Kt K C9 C11 false
 k9_NoCode:Kt K C9 C8 false
 k9_NothingRung:Kt K C9 C9 true
 k9_DeadBell:Kt K C9 C7 false
 k9_NoChange:Kt K C9 C10 false
 k9_NotThere:Kt K C9 C3 false
 k9_CageTaken:Kt K C9 C4 false
 k9_CageEmpty:Kt K C9 C5 false
 k9_NothingDone:Kt K C9 C15 false
 k9_BookFull:Kt K C9 C14 false
 e10_CageError:Xm K C10 C18 true
 k10_UnknownLevel:Kt K C10 C0 false
 k10_UnknownLoad:Kt K C10 C1 false
 k10_GateOpen:Kt K C10 C16 false
 k10_GateShut:Kt K C10 C17 false
 k10_NotArmed:Kt K C10 C11 false
 k10_NoCode:Kt K C10 C8 false
 k10_NothingRung:Kt K C10 C9 false
 k10_DeadBell:Kt K C10 C7 false
 k10_NoChange:Kt K C10 C10 true
 k10_NotThere:Kt K C10 C3 false
 k10_CageTaken:Kt K C10 C4 false
 k10_CageEmpty:Kt K C10 C5 false
 k10_NothingDone:Kt K C10 C15 false
 k10_BookFull:Kt K C10 C14 false
 e11_CageError:Xm K C11 C18 true
 k11_UnknownLevel:Kt K C11 C0 false
 k11_UnknownLoad:Kt K C11 C1 false
 k11_GateOpen:Kt K C11 C16 false
 k11_GateShut:Kt K C11 C17 false
 k11_NotArmed:Kt K C11 C11 true
 k11_NoCode:Kt K C11 C8 false
 k11_NothingRung:Kt K C11 C9 false
 k11_DeadBell:Kt K C11 C7 false
 k11_NoChange:Kt K C11 C10 false
 k11_NotThere:Kt K C11 C3 false
 k11_CageTaken:Kt K C11 C4 false
 k11_CageEmpty:Kt K C11 C5 false
 k11_NothingDone:Kt K C11 C15 false
 k11_BookFull:Kt K C11 C14 false
 e12_CageError:Xm K C12 C18 true
 k12_UnknownLevel:Kt K C12 C0 false
 k12_UnknownLoad:Kt K C12 C1 false
 k12_GateOpen:Kt K C12 C16 false
 k12_GateShut:Kt K C12 C17 false
 k12_NotArmed:Kt K C12 C11 false
 k12_NoCode:Kt K C12 C8 false
 k12_NothingRung:Kt K C12 C9 false
 k12_DeadBell:Kt K C12 C7 false
 k12_NoChange:Kt K C12 C10 false
 k12_NotThere:Kt K C12 C3 false
 k12_CageTaken:Kt K C12 C4 false
 k12_CageEmpty:Kt K C12 C5 false
 k12_NothingDone:Kt K C12 C15 false
 k12_BookFull:Kt K C12 C14 false
 e13_CageError:Xm K C13 C18 true
 k13_UnknownLevel:Kt K C13 C0 false
 k13_UnknownLoad:Kt K C13 C1 false
 k13_GateOpen:Kt K C13 C16 false
 k13_GateShut:Kt K C13 C17 false
 k13_NotArmed:Kt K C13 C11 false
 k13_NoCode:Kt K C13 C8 false
 k13_NothingRung:Kt K C13 C9 false
 k13_DeadBell:Kt K C13 C7 false
 k13_NoChange:Kt K C13 C10 false
 k13_NotThere:Kt K C13 C3 false
 k13_CageTaken:Kt K C13 C4 false
 k13_CageEmpty:Kt K C13 C5 false
 k13_NothingDone:Kt K C13 C15 false
 k13_BookFull:Kt K C13 C14 false
 e14_CageError:Xm K C14 C18 true
 k14_UnknownLevel:Kt K C14 C0 false
 k14_UnknownLoad:Kt K C14 C1 false
 k14_GateOpen:Kt K C14 C16 false
 k14_GateShut:Kt K C14 C17 false
 k14_NotArmed:Kt K C14 C11 false
 k14_NoCode:Kt K C14 C8 false
 k14_NothingRung:Kt K C14 C9 false
 k14_DeadBell:Kt K C14 C7 false
 k14_NoChange:Kt K C14 C10 false
 k14_NotThere:Kt K C14 C3 false
 k14_CageTaken:Kt K C14 C4 false
 k14_CageEmpty:Kt K C14 C5 false
 k14_NothingDone:Kt K C14 C15 false
 k14_BookFull:Kt K C14 C14 true
 e15_CageError:Xm K C15 C18 true
 k15_UnknownLevel:Kt K C15 C0 false
 k15_UnknownLoad:Kt K C15 C1 false
 k15_GateOpen:Kt K C15 C16 false
 k15_GateShut:Kt K C15 C17 false
 k15_NotArmed:Kt K C15 C11 false
 k15_NoCode:Kt K C15 C8 false
 k15_NothingRung:Kt K C15 C9 false
 k15_DeadBell:Kt K C15 C7 false
 k15_NoChange:Kt K C15 C10 false
 k15_NotThere:Kt K C15 C3 false
 k15_CageTaken:Kt K C15 C4 false
 k15_CageEmpty:Kt K C15 C5 false
 k15_NothingDone:Kt K C15 C15 true
 k15_BookFull:Kt K C15 C14 false
 e16_CageError:Xm K C16 C18 true
 k16_UnknownLevel:Kt K C16 C0 false
 k16_UnknownLoad:Kt K C16 C1 false
 k16_GateOpen:Kt K C16 C16 true
 k16_GateShut:Kt K C16 C17 false
 k16_NotArmed:Kt K C16 C11 false
 k16_NoCode:Kt K C16 C8 false
 k16_NothingRung:Kt K C16 C9 false
 k16_DeadBell:Kt K C16 C7 false
 k16_NoChange:Kt K C16 C10 false
 k16_NotThere:Kt K C16 C3 false
 k16_CageTaken:Kt K C16 C4 false
 k16_CageEmpty:Kt K C16 C5 false
 k16_NothingDone:Kt K C16 C15 false
 k16_BookFull:Kt K C16 C14 false
 e17_CageError:Xm K C17 C18 true
 k17_UnknownLevel:Kt K C17 C0 false
 k17_UnknownLoad:Kt K C17 C1 false
 k17_GateOpen:Kt K C17 C16 false
 k17_GateShut:Kt K C17 C17 true
 k17_NotArmed:Kt K C17 C11 false
 k17_NoCode:Kt K C17 C8 false
 k17_NothingRung:Kt K C17 C9 false
 k17_DeadBell:Kt K C17 C7 false
 k17_NoChange:Kt K C17 C10 false
 k17_NotThere:Kt K C17 C3 false
 k17_CageTaken:Kt K C17 C4 false
 k17_CageEmpty:Kt K C17 C5 false
 k17_NothingDone:Kt K C17 C15 false
 k17_BookFull:Kt K C17 C14 false
 d0:DI K "is_known" ua
 d1:DI K "check_level" j6
 d2:DI K "check_load" mx
 d3:DI K "check_loads" j7
 d4:II K C19 "Yard.__init__" pj
 d5:MI K C19 "into" "Yard.into" pk
 d6:MI K C19 "out" "Yard.out" ub
 d7:MI K C19 "spots" "Yard.spots" my
 d8:MI K C19 "in_cage" "Yard.in_cage" iT
 d9:MI K C19 "at_level" "Yard.at_level" gS
 d10:MI K C19 "men_aboard" "Yard.men_aboard" fW
 d11:MI K C19 "twin" "Yard.twin" pz
 d12:DI K "are_strokes" j8
 d13:DI K "check_codes" j9
 d14:II K C20 "Bells.__init__" mz
 d15:MI K C20 "ring" "Bells.ring" mB
 d16:MI K C20 "repeat" "Bells.repeat" iV
 d17:MI K C20 "engine" "Bells.engine" iW
 d18:MI K C20 "fail" "Bells.fail" mD
 d19:MI K C20 "dead" "Bells.dead" mE
 d20:MI K C20 "use" "Bells.use" pA
 d21:MI K C20 "twin" "Bells.twin" mF
 d22:DI K "check_depths" iX
 d23:DI K "drum_whole" mG
 d24:DI K "other_place" ka
 d25:DI K "level_at" uc
 d26:DI K "wound_place" kb
 d27:DI K "gates_by" ud
 d28:DI K "check_speeds" iY
 d29:DI K "wind_ticks" mH
 d30:II K C21 "Standing.__init__" gU
 d31:MI K C21 "twin" "Standing.twin" gV
 d32:II K C22 "Book.__init__" pB
 d33:MI K C22 "write" "Book.write" mI
 d34:MI K C22 "strike" "Book.strike" ke
 d35:MI K C22 "now" "Book.now" ue
 d36:MI K C22 "latest" "Book.latest" kg
 d37:MI K C22 "told" "Book.told" pC
 d38:II K C23 "Works.__init__" mJ
 d39:MI K C23 "ring" "Works.ring" mK
 d40:MI K C23 "repeat" "Works.repeat" iZ
 d41:MI K C23 "fail" "Works.fail" mL
 d42:MI K C23 "open_gate" "Works.open_gate" fX
 d43:MI K C23 "shut_gate" "Works.shut_gate" fY
 d44:MI K C23 "turn_gate" "Works.turn_gate" fZ
 d45:MI K C23 "load" "Works.load" mM
 d46:MI K C23 "unload" "Works.unload" i4
 d47:MI K C23 "wind" "Works.wind" mO
 d48:MI K C23 "take_back" "Works.take_back" gf
 d49:MI K C23 "write" "Works.write" kj
 d50:MI K C23 "speed_with" "Works.speed_with" fD
 d51:MI K C23 "level_of" "Works.level_of" gx
 d52:MI K C23 "refuse_shut_gate" "Works.refuse_shut_gate" dR
 d53:MI K C23 "now" "Works.now" pD
 d54:MI K C23 "book" "Works.book" mP
 d55:MI K C23 "engine" "Works.engine" i5
 d56:MI K C23 "dead" "Works.dead" mQ
 d57:MI K C23 "gates" "Works.gates" kl
 d58:MI K C23 "cages" "Works.cages" km
 d59:MI K C23 "both_places" "Works.both_places" fe
 d60:MI K C23 "spots" "Works.spots" ko
 d61:MI K C23 "in_cage" "Works.in_cage" gY
 d62:MI K C23 "at_level" "Works.at_level" gy
 d63:DI K "_law_at" Gr
 d64:DI K "_law_draw" zF
 d65:DI K "_law_mixed" xg
 d66:DI K "_law_same" pF
 d67:DI K "_law_depths" uj
 d68:DI K "_law_codes" xi
 d69:DI K "_law_loads" xj
 d70:DI K "_law_shaft" lr
 d71:DI K "_law_setup" xk
 d72:DI K "_law_by" Gs
 d73:DI K "_law_swap" zG
 d74:DI K "_law_lasts" xl
 d75:DI K "_law_speed" xm
 d76:DI K "_law_first" xn
 d77:DI K "_law_bell_refusal" gz
 d78:DI K "_law_load_refusal" gA
 d79:DI K "_law_wind_refusal" gB
 d80:DI K "_law_refusal" pG
 d81:DI K "_law_heard" xo
 d82:DI K "_law_next" zJ
 d83:DI K "_law_answer" uo
 d84:DI K "_law_call" zK
 d85:DI K "_law_do" Gu
 d86:DI K "_law_turn" zL
 d87:DI K "_law_view" i8
 d88:DI K "_law_towards_wind" gC
 d89:DI K "_law_towards_load" dZ
 d90:DI K "_law_odd_deed" mS
 d91:DI K "_law_deed" zM
 d92:DI K "law" zN
set_option hygiene false in
local macro_rules | `(tactic| walk_at "r0") => `(tactic| ((try dsimp only [O4, O6, tB', tOp, tUn, Kf, tCB, om, Aw, GZ, FV, rI', rU', OC, O5, tC, MW, MX, Fl, eP, sU, FX, w6, Hq, Bz, xH, O2, tOr, O3, FY, tIf, Ph, Pg, tBM, PD, ze, tSl, G0, Ga, Ku, Kv, Kw, Gc, Gi, Gb, LG, JQ, Gh, yk, JS, Pr, FN, Hv, Hu, HP, PZ, Gm, Gf, Hj, Kc, Kj, Kk, Co, JA, Gj, KG, Hs, Gg, Om, Hh, Px, Pn, O7, Ge, sT, OK, OL, tU1, KP, Gk, Ko, yH, Mo, KH, Cp, Ht, KS, LU, Oz, LV, Kd, Ke, LW, L4, L5, OB, L6, L7, OI, L8, L9, OJ, KL, Mr, Qi, Qj, Qk, Ql, PF, PH, PJ, PL, Qm, Qn, OA, σN, σS, σ0, PM, Qo, Qp, PN, PQ, PU, PV, Oc, Ju, yO, NP, Nat.reduceAdd, Nat.reduceSub, Int.reducePow, Int.reduceToNat, Nat.reducePow, Int.reduceNeg, Bool.not_true, Bool.not_false]); (try first | refine L2.Qq ?_ | refine L2.Qr ?_ | refine L2.PX ?_)))
set_option hygiene false in
local macro_rules | `(tactic| k_upd) => `(tactic| (repeat ((first | with_reducible refine L2.Qt ?_ | with_reducible refine L2.Qu ?_ | with_reducible refine L2.mv ze1 ?_ | with_reducible refine L2.mv ze2 ?_ | with_reducible refine L2.mv ze3 ?_ | with_reducible refine L2.mv ze4 ?_ | with_reducible refine L2.mv ze5 ?_ | with_reducible refine L2.mv ze6 ?_ | with_reducible refine L2.mv ze7 ?_ | with_reducible refine L2.mv ze8 ?_ | with_reducible refine L2.mv ze9 ?_ | with_reducible refine L2.mv ze10 ?_ | with_reducible refine L2.mv ze11 ?_ | with_reducible refine L2.mv ze12 ?_ | with_reducible refine L2.mv ze13 ?_ | with_reducible refine L2.mv ze14 ?_ | with_reducible refine L2.mv ze15 ?_ | with_reducible refine L2.mv ze16 ?_ | with_reducible refine L2.mv ze17 ?_ | with_reducible refine L2.mv ze18 ?_ | with_reducible refine L2.mv ze19 ?_); walk_at "r0")))
set_option hygiene false in
local macro_rules | `(tactic| k_mem) => `(tactic| (walk_at "r0"; k_upd))
set_option hygiene false in
local macro_rules | `(tactic| k_all) => `(tactic| refine ⟨rfl, fun zv zA zo zs zf hr => ?_⟩)
section
variable {P:Program}{w:World}{K:WA}{mg:Str->Option Value}{base:Heap}{Z:Adr}
variable (T:Txt P w K mg base Z)
inductive qF (K:WA)(Z:Adr)(vs:List V)(H:Hp)(Q:VK)(E:XK):Prop | mk (n m:Int):vs=[.int n,.int m]->(Q (.bl (decide (0<=n/\n < m))) H)->qF K Z vs H Q E
include T in
theorem EK:FF P w K mg base CX0 1 "is_known" "is_known" ua zj (qF K Z):=fk0 Ea fun vs H Q E h=>by
 obtain ⟨n,m,rfl,q⟩:=h
 k_all
 refine ⟨_,ag (ax (rh (cN KW (pv' 0) af (cy _)) (yL (cN ON (pv' 0) (pv' 1) (cy _))))),?_⟩
 k_mem
 split
 ·rename_i h0
  rw [show decide (0<=n/\n < m)=decide (n < m) by simp [h0]] at q
  k_upd
  exact q
 ·rename_i h0
  rw [show decide (0<=n/\n < m)=false by simp;omega] at q
  k_upd
  exact q
variable (fF:KD P w K mg base CX0 1 "is_known" (qF K Z))
inductive nZ (K:WA)(Z:Adr)(vs:List V)(H:Hp)(Q:VK)(E:XK):Prop | mk (x dx l:Addr) (ls:List Ld) (m:Int):vs=[.ref x,.ref l,.int m]->H x=some (.ins Z.eW dx [])->fq K H l ls->ls.length<=1000->(∀(kn wh:Addr) (H':Hp),H kn=none->H wh=none->kn≠wh->aD x H H'->dB Z.eW H' x kn wh (ls.map (·.1)) (ls.map (·.2.1)) m->Q .non H')->nZ K Z vs H Q E
include T in
theorem CN:FF P w K mg base CX0 1 "__init__" "Yard.__init__" pj xM (nZ K Z):=fk0 Ct fun vs H Q E h=>by
 obtain ⟨x,dx,l,ls,m,rfl,hx,hL,hn,q⟩:=h
 k_all
 refine ⟨_,ae (cu (pv' 0) (oq ["kind","level","goal"] [none,none,none] (eT (pv' 1)) (fun _ _ _ _=>(show PG _ _ (sU K 3 _) from fu (n:=3) rfl (aN (aJ (i:=0) (show (["kind","level","goal"]:List Str).Nodup by decide +kernel) rfl orL) (aN (aJ (i:=1) (show (["kind","level","goal"]:List Str).Nodup by decide +kernel) rfl orL) (aN (aJ (i:=2) (show (["kind","level","goal"]:List Str).Nodup by decide +kernel) rfl orL) dY))))) (fun _ _ _ _=>gH) (fun _ _ _ _=>(pv' 0))) rfl) (ae (cu (pv' 0) (oq ["kind","level","goal"] [none,none,none] (eT (pv' 1)) (fun _ _ _ _=>(show PG _ _ (sU K 3 _) from fu (n:=3) rfl (aN (aJ (i:=0) (show (["kind","level","goal"]:List Str).Nodup by decide +kernel) rfl orL) (aN (aJ (i:=1) (show (["kind","level","goal"]:List Str).Nodup by decide +kernel) rfl orL) (aN (aJ (i:=2) (show (["kind","level","goal"]:List Str).Nodup by decide +kernel) rfl orL) dY))))) (fun _ _ _ _=>gH) (fun _ _ _ _=>(pv' 1))) rfl) (ag (cu (pv' 0) (pv' 2) rfl))),?_⟩
 k_mem
 obtain ⟨as,hS,hT⟩:=id hL
 refine ⟨⟨_,hS⟩,?_⟩
 refine w8 (fun x=>V.str x.1) hL (by rw [sizeLine_eq];omega) rfl (fun x hx N hN=>by k_mem;exact hN) fun kn hkn=>?_
 k_mem
 have k1:L2.aD x H (upd (upd H kn (HO.lst (ls.map fun x=>V.str x.1))) x (HO.ins Z.eW dx (bG "kinds" (.ref kn) []))):=(aD.of ((aw.refl H).lay hkn)).put
 have hx1:upd (upd H kn (HO.lst (ls.map fun x=>V.str x.1))) x (HO.ins Z.eW dx (bG "kinds" (.ref kn) [])) x=some (HO.ins Z.eW dx [("kinds",.ref kn)]):=ah
 have nx:kn≠x:=fun z=>by rw [z,hx] at hkn;cases hkn
 have hk1:upd (upd H kn (HO.lst (ls.map fun x=>V.str x.1))) x (HO.ins Z.eW dx (bG "kinds" (.ref kn) [])) kn=some (HO.lst (ls.map fun x=>V.str x.1)):=by rw [aL nx,ah]
 refine ⟨_,_,_,upo hx hkn,T.dh,T.gI,by decide,⟨_,hS.keepI k1 hx⟩,?_⟩
 generalize upd (upd H kn (HO.lst (ls.map fun x=>V.str x.1))) x (HO.ins Z.eW dx (bG "kinds" (.ref kn) []))=H1 at *
 refine w8 (fun x=>V.int x.2.1) (hL.keepI k1 hx) (by rw [sizeLine_eq];omega) rfl (fun x hx N hN=>by k_mem;exact hN) fun wh hwh=>?_
 have nxw:wh≠x:=fun z=>by rw [z,hx1] at hwh;cases hwh
 have nkw:kn≠wh:=fun z=>by rw [z,hwh] at hk1;cases hk1
 refine ⟨_,_,_,upo hx1 hwh,T.dh,T.cz,by show 1 < 1000;decide,_,_,_,ah,T.dh,T.iA,Nat.lt_of_le_of_lt (oO _ _ _) (by show 2 < 1000;decide),?_⟩
 refine q kn wh _ hkn ?_ nkw (((k1.trans (aD.of ((aw.refl H1).lay hwh))).put).put) ⟨⟨dx,?_⟩,?_,?_⟩
 ·cases e:H wh with
  | none=>rfl
  | some o=>have:=k1 wh o nxw e;rw [hwh] at this;cases this
 ·rw [ah];rfl
 ·rw [aL nx,aL nx,aL nkw,hk1,List.map_map];rfl
 ·rw [aL nxw,aL nxw,ah,List.map_map];rfl
variable (jT:KN P w K mg base CX0 1 Z.eW (nZ K Z))
inductive kz (K:WA)(Z:Adr)(vs:List V)(H:Hp)(Q:VK)(E:XK):Prop | mk (y kn wh:Addr) (ks:List Str) (ws:List Int) (m:Int):vs=[.ref y]->dB Z.eW H y kn wh ks ws m->(∀p,H p=none->Q (.ref p) (upd H p (.lst (ws.map V.int))))->kz K Z vs H Q E
include T in
theorem AZ:FF P w K mg base CX0 1 "spots" "Yard.spots" my ve (kz K Z):=fk0 AF fun vs H Q E h=>by
 obtain ⟨y,kn,wh,ks,ws,m,rfl,hy,q⟩:=h
 k_all
 refine ⟨_,ag (ax (bw bH (by rfl) T.eU dH (pa1 (aC (pv' 0))))),?_⟩
 obtain ⟨⟨dx,hob⟩,hkn,hwh⟩:=id hy
 k_mem
 refine fgo hob T.dh T.cz rfl ?_
 k_mem
 exact ⟨_,.inl (SqL.of hwh),q⟩
variable (iC:KM P w K mg base CX0 1 Z.eW "spots" (kz K Z))
def MJ (y:Addr)(c:Int)(ws:List Int)(H:Hp)(i:Nat)(σ:St)(H':Hp):Prop:=aw H H'/\(∃t u,σ=[some (.ref y),some (.int c),t,u])/\∀j,j < i->ws.getD j 0≠10+c
inductive gZ (K:WA)(Z:Adr)(vs:List V)(H:Hp)(Q:VK)(E:XK):Prop | mk (y kn wh:Addr) (ks:List Str) (ws:List Int) (m c:Int):vs=[.ref y,.int c]->dB Z.eW H y kn wh ks ws m->0<=c->c < 2->(∀H',aw H H'->Q (inC ws c) H')->gZ K Z vs H Q E
include T in
theorem yu:FF P w K mg base CX0 1 "in_cage" "Yard.in_cage" iT oZ (gZ K Z):=fk0 gR fun vs H Q E h=>by
 obtain ⟨y,kn,wh,ks,ws,m,c,rfl,hy,h0,h1,q⟩:=h
 k_all
 refine seg 1 (ag (ax eO)) fun zt1 zh1 ze1=>?_
 refine ⟨_,ae (en PassesOwn.never rfl (zi (by rfl) T.pH mi (aC (pv' 0))) (fu rfl (aN (aJ (i:=2) gR.nd rfl orL) (aN (aJ (i:=3) gR.nd rfl orL) dY))) (ag (aM (bU (pv' 3) (ai aj (dX (by rfl) T.ix) (pv' 1))) (ag (ax (pv' 2))) (aA)))) zh1,?_⟩
 obtain ⟨⟨dx,hob⟩,hkn,hwh⟩:=id hy
 k_mem
 refine fgo hob T.dh T.cz rfl ?_
 k_mem
 refine ⟨⟨_,SqL.of hwh⟩,?_⟩
 k_upd
 refine Ds ws.length (MJ y c ws H) ⟨aw.refl H,⟨_,_,rfl⟩,fun j hj=>absurd hj (Nat.not_lt_zero _)⟩ ?_ ?_ ?_ ?_
 ·rintro i σ H' hi ⟨s1,_,_⟩
  k_upd
  exact ⟨_,_,s1.seq (SqL.of hwh),by rw [List.getElem?_map,kW hi];rfl⟩
 ·rintro σ H' ⟨s1,_,_⟩
  k_upd
  exact ⟨_,s1.seq (SqL.of hwh),by rw [WB];exact Nat.le_refl _⟩
 ·rintro i σ H' hi ⟨s1,⟨t,u,rfl⟩,hj⟩ x H2 ⟨tp,z,rfl,htp,rfl,hz⟩
  have e:=hz _ (s1.seq (SqL.of hwh))
  rw [List.getElem?_map,kW hi] at e
  cases e
  k_mem
  refine ⟨_,SqT.of ah,rfl,?_⟩
  k_mem
  refine ⟨_,T.iz _,_,Bs h0 h1,?_⟩
  k_mem
  split
  ·rename_i h
   have e:=IB hi h hj
   have q':=q _ (s1.lay (o:=HO.tup [V.int ↑i,V.int (ws.getD i 0)]) htp)
   rw [inC,if_pos (h▸dq hi),e] at q'
   k_upd
   exact q'
  ·rename_i h
   k_upd
   refine ⟨s1.lay htp,⟨_,_,rfl⟩,fun j hj'=>?_⟩
   by_cases e:j=i
   ·rw [e];exact h
   ·exact hj j (by omega)
 ·rintro σ H' ⟨s1,⟨t,u,rfl⟩,hj⟩
  k_mem
  have q':=q _ s1
  rw [inC,if_neg] at q'
  ·k_upd
   exact q'
  ·intro hm
   have hlt:=List.idxOf_lt_length_iff.mpr hm
   refine hj _ hlt ?_
   rw [List.getD_eq_getElem?_getD,List.getElem?_eq_getElem hlt]
   exact List.getElem_idxOf hlt
variable (cS:KM P w K mg base CX0 1 Z.eW "in_cage" (gZ K Z))
def Lb (y:Addr)(ks:List Str)(ws:List Int)(H:Hp)(i:Nat)(σ:St)(H':Hp):Prop:=aw H H'/\(∃t u,σ=[some (.ref y),t,u])/\∀j k x,j < i->ks[j]?=some k->ws[j]?=some x->(decide (k="men") && decide (x=10\/x=11))=false
inductive fG (K:WA)(Z:Adr)(vs:List V)(H:Hp)(Q:VK)(E:XK):Prop | mk (y kn wh:Addr) (ks:List Str) (ws:List Int) (m:Int):vs=[.ref y]->dB Z.eW H y kn wh ks ws m->ks.length=ws.length->(∀H',aw H H'->Q (.bl (Dx ks ws)) H')->fG K Z vs H Q E
include T in
theorem uC:FF P w K mg base CX0 1 "men_aboard" "Yard.men_aboard" fW jN (fG K Z):=fk0 fC fun vs H Q E h=>by
 obtain ⟨y,kn,wh,ks,ws,m,rfl,hy,hlen,q⟩:=h
 k_all
 refine seg 1 (ag (ax fP)) fun zt1 zh1 ze1=>?_
 refine ⟨_,ae (en PassesOwn.never rfl (MB (by rfl) T.P0 Oa (aC (pv' 0)) (aC (pv' 0))) (fu rfl (aN (aJ (i:=1) fC.nd rfl orL) (aN (aJ (i:=2) fC.nd rfl orL) dY))) (ag (aM (tW (bU (pv' 1) aq) (me (dO ez (pv' 2) (dX (by rfl) T.ix) (by rfl)))).pt (ag (ax fP)) (aA)))) zh1,?_⟩
 obtain ⟨⟨dx,hob⟩,hkn,hwh⟩:=id hy
 k_mem
 refine fgo hob T.dh T.gI rfl (fgo hob T.dh T.cz rfl ?_)
 k_mem
 refine ⟨⟨_,SqL.of hkn⟩,⟨_,SqL.of hwh⟩,?_⟩
 k_upd
 refine Ds ws.length (Lb y ks ws H) ⟨aw.refl H,⟨_,_,rfl⟩,fun j _ _ hj=>absurd hj (Nat.not_lt_zero _)⟩ ?_ ?_ ?_ ?_
 ·rintro i σ H' hi ⟨s1,_,_⟩
  have hk:ks[i]?=some ks[i]:=List.getElem?_eq_getElem (by omega)
  k_upd
  exact ⟨_,_,_,_,s1.seq (SqL.of hkn),s1.seq (SqL.of hwh),by rw [List.getElem?_map,hk];rfl,by rw [List.getElem?_map,kW hi];rfl⟩
 ·rintro σ H' ⟨s1,_,_⟩
  k_upd
  exact ⟨_,_,s1.seq (SqL.of hkn),s1.seq (SqL.of hwh),.inr (by rw [WB];exact Nat.le_refl _)⟩
 ·rintro i σ H' hi ⟨s1,⟨t,u,rfl⟩,hj⟩ x H2 ⟨tp,z1,z2,rfl,htp,rfl,hz1,hz2⟩
  have hk:ks[i]?=some ks[i]:=List.getElem?_eq_getElem (by omega)
  have hw:ws[i]?=some ws[i]:=List.getElem?_eq_getElem hi
  have e:=hz1 _ (s1.seq (SqL.of hkn))
  rw [List.getElem?_map,hk] at e
  cases e
  have e:=hz2 _ (s1.seq (SqL.of hwh))
  rw [List.getElem?_map,hw] at e
  cases e
  k_mem
  refine ⟨_,SqT.of ah,rfl,?_⟩
  k_mem
  have no:(decide (ks[i]=Str.ofString "men") && decide (ws[i]=10\/ws[i]=11))=false->Lb y ks ws H (i+1) [some (V.ref y),some (V.str ks[i]),some (V.int ws[i])] (upd H' tp (HO.tup [V.str ks[i],V.int ws[i]])):=fun hn=>by
   refine ⟨s1.lay htp,⟨_,_,rfl⟩,fun j k x hj' e1 e2=>?_⟩
   by_cases e:j=i
   ·subst e
    rw [hk] at e1;rw [hw] at e2
    cases e1;cases e2
    exact hn
   ·exact hj j k x (by omega) e1 e2
  k_upd
  split
  ·rename_i h1
   k_upd
   refine ⟨_,.inr (T.iz _),rfl,rfl,?_⟩
   rw [Bv]
   k_mem
   split
   ·rename_i h2
    have q':=q _ (s1.lay (o:=HO.tup [V.str ks[i],V.int ws[i]]) htp)
    rw [Dy hk hw h1 h2] at q'
    k_upd
    exact q'
   ·rename_i h2
    exact no (by simp [h2])
  ·rename_i h1
   exact no (by simp [h1])
 ·rintro σ H' ⟨s1,⟨t,u,rfl⟩,hj⟩
  k_mem
  have q':=q _ s1
  rw [Bu hj (.inr (Nat.le_refl _))] at q'
  k_upd
  exact q'
variable (jU:KM P w K mg base CX0 1 Z.eW "men_aboard" (fG K Z))
inductive jf (K:WA)(Z:Adr)(vs:List V)(H:Hp)(Q:VK)(E:XK):Prop | mk (n:Int):vs=[.int n]->(Q (.bl (decide (1<=n/\n<=9))) H)->jf K Z vs H Q E
include T in
theorem Ab:FF P w K mg base CX0 1 "are_strokes" "are_strokes" j8 sY (jf K Z):=fk0 zu fun vs H Q E h=>by
 obtain ⟨n,rfl,q⟩:=h
 k_all
 refine ⟨_,ag (ax (rh (cN KW (pv' 0) (dX (by rfl) T.xp) (cy _)) (yL (cN Gq (pv' 0) (dX (by rfl) T.zO) (cy _))))),?_⟩
 k_mem
 split
 ·rename_i h0
  rw [show decide (1<=n/\n<=9)=decide (n<=9) by simp [h0]] at q
  k_upd
  exact q
 ·rename_i h0
  rw [show decide (1<=n/\n<=9)=false by simp;omega] at q
  k_upd
  exact q
variable (fj:KD P w K mg base CX0 1 "are_strokes" (jf K Z))
inductive kA (K:WA)(Z:Adr)(vs:List V)(H:Hp)(Q:VK)(E:XK):Prop | mk (x dx l:Addr) (ls:List Cd):vs=[.ref x,.ref l]->H x=some (.ins Z.bV dx [])->j1 cdV K H l ls->ls.length<=1000->(∀(cs fl st:Addr) (H':Hp),H cs=none->H fl=none->aD x H H'->bO Z.bV K H' x cs fl st ls (ls.map fun _=>false) .no->Q .non H')->kA K Z vs H Q E
include T in
theorem A1:FF P w K mg base CX0 1 "__init__" "Bells.__init__" mz vf (kA K Z):=fk0 AG fun vs H Q E h=>by
 obtain ⟨x,dx,l,ls,rfl,hx,hL,hn,q⟩:=h
 k_all
 refine seg 2 (ag (cu (pv' 0) (aY (pa4 aq eO eO eO)) rfl)) fun zt2 zh2 ze2=>?_
 refine seg 1 (ae (cu (pv' 0) (oq ["code"] [none] (eT (pv' 1)) (fun _ _ _ _=>(aJ (i:=0) (show (["code"]:List Str).Nodup by decide +kernel) rfl orL)) (fun _ _ _ _=>gH) (fun _ _ _ _=>fP)) rfl) zh2) fun zt1 zh1 ze1=>?_
 refine ⟨_,ae (cu (pv' 0) (bw bH (by rfl) T.eU dH (pa1 (pv' 1))) rfl) zh1,?_⟩
 obtain ⟨as,hS,hT⟩:=id hL
 k_mem
 refine ⟨_,.inl hS,fun cs hcs=>?_⟩
 k_upd
 refine ⟨_,_,_,upo hx hcs,T.bM,T.dA,by decide,?_⟩
 have nx:cs≠x:=fun z=>by rw [z,hx] at hcs;cases hcs
 have k1:L2.aD x H (upd (upd H cs (HO.lst (as.map V.ref))) x (HO.ins Z.bV dx (bG "codes" (.ref cs) []))):=(aD.of ((aw.refl H).lay hcs)).put
 have hx1:upd (upd H cs (HO.lst (as.map V.ref))) x (HO.ins Z.bV dx (bG "codes" (.ref cs) [])) x=some (HO.ins Z.bV dx [("codes",.ref cs)]):=ah
 have hc1:upd (upd H cs (HO.lst (as.map V.ref))) x (HO.ins Z.bV dx (bG "codes" (.ref cs) [])) cs=some (HO.lst (as.map V.ref)):=by rw [aL nx,ah]
 generalize upd (upd H cs (HO.lst (as.map V.ref))) x (HO.ins Z.bV dx (bG "codes" (.ref cs) []))=H1 at *
 k_upd
 refine ⟨⟨_,hS.keepI k1 hx⟩,?_⟩
 refine xG (fun _=>true) (fun _=>V.bl false) (hS.keepI k1 hx) (by rw [WB,hT.1,sizeLine_eq];omega) rfl (fun y _ N hN=>by k_mem;exact hN) (fun y _ _ N hN=>by k_mem;exact hN) fun fl hfl=>?_
 k_mem
 have ef:((as.map V.ref).filter fun _=>true).map (fun _=>V.bl false)=(ls.map fun _=>false).map V.bl:=by
  rw [List.filter_eq_self.mpr (by simp),List.map_map,List.map_map]
  refine List.ext_getElem (by simp [hT.1]) fun i h1 h2=>by simp
 rw [ef]
 have nfx:fl≠x:=fun z=>by rw [z,hx1] at hfl;cases hfl
 have nfc:cs≠fl:=fun z=>by rw [←z,hc1] at hfl;cases hfl
 k_upd
 refine ⟨_,_,_,upo hx1 hfl,T.bM,T.cZ,by show 1 < 1000;decide,?_⟩
 have k2:L2.aD x H1 (upd (upd H1 fl (HO.lst ((ls.map fun _=>false).map V.bl))) x (HO.ins Z.bV dx (bG "failed" (.ref fl) [("codes",.ref cs)]))):=(aD.of ((aw.refl H1).lay hfl)).put
 have hx2:upd (upd H1 fl (HO.lst ((ls.map fun _=>false).map V.bl))) x (HO.ins Z.bV dx (bG "failed" (.ref fl) [("codes",.ref cs)])) x=some (HO.ins Z.bV dx [("codes",.ref cs),("failed",.ref fl)]):=by rw [ah];rfl
 have hf2:upd (upd H1 fl (HO.lst ((ls.map fun _=>false).map V.bl))) x (HO.ins Z.bV dx (bG "failed" (.ref fl) [("codes",.ref cs)])) fl=some (HO.lst ((ls.map fun _=>false).map V.bl)):=by rw [aL nfx,ah]
 generalize upd (upd H1 fl (HO.lst ((ls.map fun _=>false).map V.bl))) x (HO.ins Z.bV dx (bG "failed" (.ref fl) [("codes",.ref cs)]))=H2 at *
 k_upd
 refine ⟨by decide,fun st hst=>⟨_,_,_,upo hx2 hst,T.bM,T.bR,by show 2 < 1000;decide,?_⟩⟩
 have nsx:st≠x:=fun z=>by rw [z,hx2] at hst;cases hst
 have k3:L2.aD x H2 (upd (upd H2 st (HO.tup [V.str (Str.ofString "not rung"),V.non,V.non,V.non])) x (HO.ins Z.bV dx (bG "state" (.ref st) [("codes",.ref cs),("failed",.ref fl)]))):=(aD.of ((aw.refl H2).lay hst)).put
 refine q cs fl st _ hcs (k1.free nfx hfl) ((k1.trans k2).trans k3) ⟨⟨dx,by rw [ah];rfl⟩,⟨as,k3 _ _ nx (k2 _ _ nx hc1),?_⟩,k3 _ _ nfx hf2,SqT.of (by rw [aL nsx,ah];rfl),nfc,by rw [WB]⟩
 exact hT.keepI ((k1.trans k2).trans k3) hx
variable (iD:KN P w K mg base CX0 1 Z.bV (kA K Z))
inductive g0 (K:WA)(Z:Adr)(vs:List V)(H:Hp)(Q:VK)(E:XK):Prop | mk (b cs fl st:Addr) (ls:List Cd) (fs:List Bool) (e:Eng):vs=[.ref b]->bO Z.bV K H b cs fl st ls fs e->Q (.ref st) H->g0 K Z vs H Q E
include T in
theorem yv:FF P w K mg base CX0 1 "engine" "Bells.engine" iW o7 (g0 K Z):=fk0 ym fun vs H Q E h=>by
 obtain ⟨b,cs,fl,st,ls,fs,e,rfl,hB,q⟩:=h
 k_all
 refine ⟨_,ag (ax (aC (pv' 0))),?_⟩
 obtain ⟨⟨dx,hob⟩,⟨as,hcs,hT⟩,hfl,hst,nn,ln⟩:=id hB
 k_mem
 exact fgo hob T.bM T.bR rfl q
variable (qG:KM P w K mg base CX0 1 Z.bV "engine" (g0 K Z))
inductive kC (K:WA)(Z:Adr)(vs:List V)(H:Hp)(Q:VK)(E:XK):Prop | mk (b cs fl st:Addr) (ls:List Cd) (fs:List Bool) (e:Eng):vs=[.ref b]->bO Z.bV K H b cs fl st ls fs e->fs.length<=1000->(∀p H',H p=none->aw H H'->H' p=some (.lst ((dj fs).map V.int))->Q (.ref p) H')->kC K Z vs H Q E
include T in
theorem A2:FF P w K mg base CX0 1 "dead" "Bells.dead" mE vi (kC K Z):=fk0 AJ fun vs H Q E h=>by
 obtain ⟨b,cs,fl,st,ls,fs,e,rfl,hB,hlen,q⟩:=h
 k_all
 refine ⟨_,ag (ax (oq ["level","failed"] [none,none] (zi (by rfl) T.pH mi (aC (pv' 0))) (fun _ _ _ _=>(show PG _ _ (sU K 2 _) from fu (n:=2) rfl (aN (aJ (i:=0) (show (["level","failed"]:List Str).Nodup by decide +kernel) rfl orL) (aN (aJ (i:=1) (show (["level","failed"]:List Str).Nodup by decide +kernel) rfl orL) dY)))) (fun _ _ _ _=>(mh (cO (pv' 1)))) (fun _ _ _ _=>(pv' 0)))),?_⟩
 obtain ⟨⟨dx,hob⟩,⟨as,hcs,hT⟩,hfl,hst,nn,ln⟩:=id hB
 k_mem
 refine fgo hob T.bM T.cZ rfl ?_
 k_mem
 refine ⟨⟨_,SqL.of hfl⟩,?_⟩
 have gi:∀i,i < fs.length->(fs.map V.bl)[i]?=some (V.bl (fs.getD i false)):=fun i hi=>by
  rw [List.getElem?_map,List.getD_eq_getElem?_getD,List.getElem?_eq_getElem hi];rfl
 refine wN fs.length (fun i acc H'=>aw H H'/\acc=(j4 fs i).map V.int) ⟨aw.refl H,rfl⟩ ?_ ?_ ?_ ?_
 ·rintro i acc H' hi ⟨s1,_⟩
  k_upd
  exact ⟨_,_,s1.seq (SqL.of hfl),gi i hi⟩
 ·rintro acc H' ⟨s1,_⟩
  k_upd
  exact ⟨_,s1.seq (SqL.of hfl),by rw [WB];exact Nat.le_refl _⟩
 ·rintro i acc H' hi ⟨s1,rfl⟩
  k_upd
  refine ⟨by have:=y8 fs i;rw [WB,sizeLine_eq];omega,?_⟩
  rintro x H2 ⟨tp,z,rfl,htp,rfl,hz⟩ M hM
  have e:=hz _ (s1.seq (SqL.of hfl))
  rw [gi i hi] at e
  cases e
  k_mem
  refine ⟨_,SqT.of ah,rfl,?_⟩
  k_mem
  refine ⟨⟨rfl,fun k v e=>?_⟩,?_⟩
  ·match k,e with
   | 0,e=>cases e
   | 1,e=>cases e
   | k+2,e=>simp at e
  ·have gs:=DD fs i
   k_upd
   split
   ·rename_i h
    refine hM _ _ ⟨s1.lay htp,?_⟩
    rw [gs,if_pos h,List.map_append];rfl
   ·rename_i h
    refine hM _ _ ⟨s1.lay htp,?_⟩
    rw [gs,if_neg h,List.append_nil]
 ·rintro acc H' ⟨s1,rfl⟩ p hp
  k_upd
  exact q p _ (s1.free hp) (s1.lay hp) ah
variable (vV:KM P w K mg base CX0 1 Z.bV "dead" (kC K Z))
def OS (a:Addr)(ds:List Int)(H:Hp)(i:Nat)(σ:St)(H':Hp):Prop:=H'=H/\(∃t,σ=[some (.ref a),t,none])/\∀j,j < i->0<=ds.getD j 0/\ds.getD j 0<=500
def OT (a:Addr)(ds:List Int)(H:Hp)(i:Nat)(σ:St)(H':Hp):Prop:=H'=H/\(∃t u,σ=[some (.ref a),t,u])/\∀j,j < i->ds.getD j 0 < ds.getD (j+1) 0
inductive g8 (K:WA)(Z:Adr)(vs:List V)(H:Hp)(Q:VK)(E:XK):Prop | mk (a:Addr) (ds:List Int):vs=[.ref a]->SqL K H a (ds.map V.int)->ds.length<=100000->((cD ds->Q .non H))->((¬cD ds->E (.ref Z.bX) none H))->g8 K Z vs H Q E
include T in
theorem yw:FF P w K mg base (CXf P w) 1 "check_depths" "check_depths" iX o8 (g8 K Z):=fkF gT fun vs H Q E h=>by
 obtain ⟨a,ds,rfl,hS,hl,q1,q2⟩:=h
 k_all
 refine seg 2 (ag (en FL rfl (zh (by rfl) T.cQ (pa2 af (aE az (by rfl) T.bZ bx (pa1 (pv' 0))))) (aJ (i:=2) gT.nd rfl orL) (ag (aM (PY (ai au (pv' 0) (pv' 2)) (ai au (pv' 0) (bc dS (pv' 2) af))) (ag (bE T.qv (by rfl) T.pK (pa1 aq))) (aA))))) fun zt2 zh2 ze2=>?_
 refine seg 1 (ae (en FL rfl (eT (pv' 0)) (aJ (i:=1) gT.nd rfl orL) (ag (aM (iJ (jM (pv' 1) af) (gw (HN (pv' 1) (dX (by rfl) T.xq)))).pt (ag (bE T.qv (by rfl) T.pK (pa1 aq))) (aA)))) zh2) fun zt1 zh1 ze1=>?_
 refine ⟨_,ae (aM (iJ (jM (aE az (by rfl) T.bZ bx (pa1 (pv' 0))) (dX (by rfl) T.yr)) (gw (HN (aE az (by rfl) T.bZ bx (pa1 (pv' 0))) (dX (by rfl) T.AO)))).pt (ag (bE T.qv (by rfl) T.pK (pa1 aq))) (aA)) zh1,?_⟩
 k_mem
 refine ⟨_,.inl hS,?_⟩
 rw [WB]
 k_upd
 split
 ·k_upd
  exact ⟨by decide,q2 fun h=>by have:=h.l2;omega⟩
 ·k_upd
  refine ⟨_,.inl hS,?_⟩
  rw [WB]
  k_upd
  split
  ·k_upd
   exact ⟨by decide,q2 fun h=>by have:=h.l6;omega⟩
  ·k_upd
   refine ⟨⟨_,hS⟩,?_⟩
   k_upd
   refine qX (ds.map V.int) (OS a ds H) ⟨rfl,⟨_,rfl⟩,fun j h=>absurd h (Nat.not_lt_zero _)⟩ (fun i σ H' _ ⟨e,_⟩=>by rw [e];exact hS) ?_ ?_
   ·rintro i x σ H' hx ⟨rfl,⟨t,rfl⟩,hj⟩
    obtain ⟨d,rfl,hd,hmem⟩:=ml hx
    have hi:i < ds.length:=(List.getElem?_eq_some_iff.mp hd).1
    have hdg:ds.getD i 0=d:=by rw [List.getD_eq_getElem?_getD,hd];rfl
    k_mem
    split
    ·k_upd
     exact ⟨by decide,q2 fun h=>by have:=h.lo d hmem;omega⟩
    ·split
     ·k_upd
      exact ⟨by decide,q2 fun h=>by have:=h.hi d hmem;omega⟩
     ·k_upd
      refine ⟨rfl,⟨_,rfl⟩,fun j hj'=>?_⟩
      by_cases e:j=i
      ·rw [e,hdg];omega
      ·exact hj j (by omega)
   ·rintro σ H' ⟨rfl,⟨t,rfl⟩,hb⟩
    rw [WB] at hb
    k_mem
    refine ⟨_,.inl hS,⟨by decide,by decide,by rw [WB];omega,by rw [WB];omega⟩,?_⟩
    k_upd
    refine cI (OT a ds H') ⟨rfl,⟨_,_,rfl⟩,fun j h=>absurd h (Nat.not_lt_zero _)⟩ ?_ ?_
    ·rintro i σ H' hi ⟨rfl,⟨t,u,rfl⟩,hj⟩
     rw [WB] at hi
     k_mem
     refine ⟨_,hS,_,cU (by omega) (by omega),_,hS,_,cU (by omega) (by omega),?_⟩
     k_mem
     rw [show (1+(i:Int)).toNat=i+1 by omega,show (1+(i:Int) - 1).toNat=i by omega]
     k_upd
     split
     ·k_upd
      refine ⟨by decide,q2 fun h=>?_⟩
      have:=h.lt (i:=i) (j:=i+1) (by omega) (by omega)
      omega
     ·k_upd
      refine ⟨rfl,⟨_,_,rfl⟩,fun j hj'=>?_⟩
      by_cases e:j=i
      ·rw [e];omega
      ·exact hj j (by omega)
    ·rintro σ H' ⟨rfl,⟨t,u,rfl⟩,hu⟩
     rw [WB] at hu
     k_mem
     exact q1 (cD.of (by omega) (by omega) hb fun i hi=>hu i (by omega))
variable (qH:KD P w K mg base (CXf P w) 1 "check_depths" (g8 K Z))
inductive kD (K:WA)(Z:Adr)(vs:List V)(H:Hp)(Q:VK)(E:XK):Prop | mk (a:Addr) (ds:List Int):vs=[.ref a]->SqL K H a (ds.map V.int)->0 < ds.length->Q (.int (cG ds)) H->kD K Z vs H Q E
include T in
theorem A3:FF P w K mg base CX0 1 "drum_whole" "drum_whole" mG vk (kD K Z):=fk0 AK fun vs H Q E h=>by
 obtain ⟨a,ds,rfl,hS,hl,q⟩:=h
 k_all
 refine ⟨_,ag (ax (ai au (pv' 0) (bc dS (aE az (by rfl) T.bZ bx (pa1 (pv' 0))) af))),?_⟩
 k_mem
 refine ⟨_,.inl hS,_,hS,_,cU (by rw [WB];omega) (by rw [WB];omega),?_⟩
 rw [WB,show ((ds.length:Int) - 1).toNat=ds.length - 1 by omega]
 k_upd
 exact q
variable (vW:KD P w K mg base CX0 1 "drum_whole" (kD K Z))
def Lc (a:Addr)(ds:List Int)(d:Int)(H:Hp)(i:Nat)(σ:St)(H':Hp):Prop:=H'=H/\(∃t,σ=[some (.ref a),some (.int d),t])/\∀j,j < i->ds.getD j 0≠d
inductive qI (K:WA)(Z:Adr)(vs:List V)(H:Hp)(Q:VK)(E:XK):Prop | mk (a:Addr) (ds:List Int) (d:Int):vs=[.ref a,.int d]->SqL K H a (ds.map V.int)->ds.length<=100000->((∀i:Nat,i < ds.length->ds.getD i 0=d->Q (.int i) H))->(((∀i,i < ds.length->ds.getD i 0≠d)->Q .non H))->qI K Z vs H Q E
include T in
theorem EL:FF P w K mg base CX0 1 "level_at" "level_at" uc zl (qI K Z):=fk0 xV fun vs H Q E h=>by
 obtain ⟨a,ds,d,rfl,hS,hl,q1,q2⟩:=h
 k_all
 refine seg 1 (ag (ax eO)) fun zt1 zh1 ze1=>?_
 refine ⟨_,ae (en PassesOwn.never rfl (bP (by rfl) T.cQ (pa1 (aE az (by rfl) T.bZ bx (pa1 (pv' 0))))) (aJ (i:=2) xV.nd rfl orL) (ag (aM (bU (ai au (pv' 0) (pv' 2)) (pv' 1)) (ag (ax (pv' 2))) (aA)))) zh1,?_⟩
 k_mem
 refine ⟨_,.inl hS,by omega,by rw [WB];omega,cI (Lc a ds d H) ⟨rfl,⟨_,rfl⟩,fun _ h=>absurd h (Nat.not_lt_zero _)⟩ ?_ ?_⟩
 ·rintro i σ H' hi ⟨rfl,⟨t,rfl⟩,hj⟩
  rw [WB] at hi
  have hi':i < ds.length:=by omega
  k_mem
  refine ⟨_,hS,_,by rw [Int.zero_add];exact gL hi',?_⟩
  k_mem
  split
  ·rename_i he
   rw [Int.zero_add]
   k_upd
   exact q1 i hi' he
  ·rename_i he
   k_upd
   refine ⟨rfl,⟨_,rfl⟩,fun j hj'=>?_⟩
   by_cases e:j=i
   ·rw [e];exact he
   ·exact hj j (by omega)
 ·rintro σ H' ⟨rfl,⟨t,rfl⟩,hj⟩
  k_mem
  refine q2 fun i hi=>hj i ?_
  rw [WB]
  omega
variable (Ac:KD P w K mg base CX0 1 "level_at" (qI K Z))
inductive g9 (K:WA)(Z:Adr)(vs:List V)(H:Hp)(Q:VK)(E:XK):Prop | mk (sl fa:Int):vs=[.int sl,.int fa]->(if 1<=sl/\sl<=fa/\fa<=500 then Q .non H else E (.ref Z.bY) none H)->g9 K Z vs H Q E
include T in
theorem yx:FF P w K mg base (CXf P w) 1 "check_speeds" "check_speeds" iY o9 (g9 K Z):=fkF yp fun vs H Q E h=>by
 obtain ⟨sl,fa,rfl,q⟩:=h
 k_all
 refine ⟨_,ag (aM (iJ (jM (pv' 0) af) (iJ (jM (pv' 1) (pv' 0)) (gw (HN (pv' 1) (dX (by rfl) T.xr))))).pt (ag (bE T.Ez (by rfl) T.Ed (pa1 aq))) (aA)),?_⟩
 k_mem
 split
 ·rw [if_neg (by omega)] at q
  k_upd
  exact ⟨by decide,q⟩
 ·split
  ·rw [if_neg (by omega)] at q
   k_upd
   exact ⟨by decide,q⟩
  ·split
   ·rw [if_neg (by omega)] at q
    k_upd
    exact ⟨by decide,q⟩
   ·rw [if_pos (by omega)] at q
    k_upd
    exact q
variable (qJ:KD P w K mg base (CXf P w) 1 "check_speeds" (g9 K Z))
inductive kE (K:WA)(Z:Adr)(vs:List V)(H:Hp)(Q:VK)(E:XK):Prop | mk (wy sp:Int):vs=[.int wy,.int sp]->0 < sp->sp < 2 ^ 200->Q (.int ((wy+sp - 1) / sp)) H->kE K Z vs H Q E
include T in
theorem A4:FF P w K mg base CX0 1 "wind_ticks" "wind_ticks" mH vm (kE K Z):=fk0 AL fun vs H Q E h=>by
 obtain ⟨wy,sp,rfl,h0,h1,q⟩:=h
 k_all
 refine ⟨_,ag (ax (bc IQ (bc dS (bc bD (pv' 0) (pv' 1)) af) (pv' 1))),?_⟩
 k_mem
 exact ⟨⟨h0,h1⟩,q⟩
variable (vX:KD P w K mg base CX0 1 "wind_ticks" (kE K Z))
noncomputable abbrev clZ (Z:Adr):Cl:=⟨Z.bV,Z.eW,Z.eD,Z.rA,Z.bF⟩
inductive gD (K:WA)(Z:Adr)(vs:List V)(H:Hp)(Q:VK)(E:XK):Prop | mk (x dx o b y:Addr) (pl:Int) (gs:List Bool):vs=[.ref x,.int pl,.ref o,.ref b,.ref y]->H x=some (.ins Z.eD dx [])->SqL K H o (gs.map V.bl)->(∀(ol:Addr) (H':Hp),H ol=none->aD x H H'->H' x=some (.ins Z.eD dx [("place",.int pl),("opened",.ref ol),("bells",.ref b),("yard",.ref y)])->H' ol=some (.lst (gs.map V.bl))->Q .non H')->gD K Z vs H Q E
include T in
theorem xt:FF P w K mg base CX0 1 "__init__" "Standing.__init__" gU ou (gD K Z):=fk0 xb fun vs H Q E h=>by
 obtain ⟨x,dx,o,b,y,pl,gs,rfl,hx,hO,q⟩:=h
 k_all
 refine ⟨_,ae (cu (pv' 0) (pv' 1) rfl) (ae (cu (pv' 0) (bw bH (by rfl) T.eU dH (pa1 (pv' 2))) rfl) (ae (cu (pv' 0) (pv' 3) rfl) (ag (cu (pv' 0) (pv' 4) rfl)))),?_⟩
 k_mem
 refine ⟨_,_,_,hx,T.aQ,T.cX,by decide,?_⟩
 have k1:L2.aD x H (upd H x (HO.ins Z.eD dx (bG "place" (.int pl) []))):=(aD.of (aw.refl H)).put
 refine ⟨_,.inl (hO.keepI k1 hx),fun ol hol=>?_⟩
 have nol:ol≠x:=fun z=>by rw [z,ah] at hol;cases hol
 refine ⟨_,_,_,upo ah hol,T.aQ,T.cC,by show 1 < 1000;decide,_,_,_,ah,T.aQ,T.cw,by show 2 < 1000;decide,_,_,_,ah,T.aQ,T.bT,by show 3 < 1000;decide,?_⟩
 refine q ol _ (k1.free nol hol) (((k1.trans (aD.of ((aw.refl _).lay hol))).put).put.put) ?_ ?_
 ·rw [ah];rfl
 ·rw [aL nol,aL nol,aL nol,ah]
variable (fA:KN P w K mg base CX0 1 Z.eD (gD K Z))
inductive n6 (K:WA)(Z:Adr)(vs:List V)(H:Hp)(Q:VK)(E:XK):Prop | mk (x dx f:Addr):vs=[.ref x,.ref f,.int 300]->H x=some (.ins Z.rA dx [])->(∀(rl:Addr) (H':Hp),H rl=none->aD x H H'->H' x=some (.ins Z.rA dx [("first",.ref f),("most",.int 300),("rows",.ref rl)])->H' rl=some (.lst [])->Q .non H')->n6 K Z vs H Q E
include T in
theorem CO:FF P w K mg base CX0 1 "__init__" "Book.__init__" pB xQ (n6 K Z):=fk0 Cv fun vs H Q E h=>by
 obtain ⟨x,dx,f0,rfl,hx,q⟩:=h
 k_all
 refine ⟨_,ae (cu (pv' 0) (pv' 1) rfl) (ae (cu (pv' 0) (pv' 2) rfl) (ag (cu (pv' 0) (bj iK) rfl))),?_⟩
 k_mem
 refine ⟨_,_,_,hx,T.dW,T.tL,by decide,_,_,_,ah,T.dW,T.vH,by show 1 < 1000;decide,by decide,fun rl hrl=>?_⟩
 have k1:L2.aD x H (upd (upd H x (HO.ins Z.rA dx (bG "first" (.ref f0) []))) x (HO.ins Z.rA dx (bG "most" (.int 300) (bG "first" (.ref f0) [])))):=((aD.of (aw.refl H)).put).put
 have nrl:rl≠x:=fun z=>by rw [z,ah] at hrl;cases hrl
 refine ⟨_,_,_,upo ah hrl,T.dW,T.cB,by show 2 < 1000;decide,?_⟩
 refine q rl _ (k1.free nrl hrl) ((k1.trans (aD.of ((aw.refl _).lay hrl))).put) ?_ ?_
 ·rw [ah];rfl
 ·rw [aL nrl,ah]
variable (xZ:KN P w K mg base CX0 1 Z.rA (n6 K Z))
inductive jg (K:WA)(Z:Adr)(vs:List V)(H:Hp)(Q:VK)(E:XK):Prop | mk (bk rl:Addr) (g:Cfg) (n0:bh) (rs:List Row):vs=[.ref bk]->BAt (clZ Z) K H bk rl g n0 rs->((rs=[]->E (.ref Z.aI) none H))->((∀rs' r,rs=rs'++[r]->∀p H',aD rl H H'->BAt (clZ Z) K H' bk rl g n0 rs'->SqT K H' p r.deed->Q (.ref p) H'))->jg K Z vs H Q E
include T in
theorem Ad:FF P w K mg base (CXf P w) 1 "strike" "Book.strike" ke tj (jg K Z):=fkF zy fun vs H Q E h=>by
 obtain ⟨bk,rl,g,n0,rs,rfl,hB,q1,q2⟩:=h
 k_all
 refine seg 1 (ag (ax (ai aj (FD PySem.F.plainAttrs_list PySem.F.slot_list_pop PySem.F.type_list_pop Cr (aC (pv' 0))) af))) fun zt1 zh1 ze1=>?_
 refine ⟨_,ae (aM (eY (yQ (aC (pv' 0)) (fun _=>rfl))) (ag (bE T.AX (by rfl) T.tK (pa1 aq))) (aA)) zh1,?_⟩
 obtain ⟨⟨dx,f0,hob,hF⟩,as,hrl,hR⟩:=id hB
 k_mem
 refine fgo hob T.dW T.cB rfl ⟨_,.inl ⟨_,SqL.of hrl,rfl⟩,?_⟩
 rcases dM rs with rfl | ⟨rs',r,rfl⟩
 ·have e:as=[]:=List.length_eq_zero_iff.mp hR.1
  subst e
  k_upd
  exact ⟨by decide,q1 rfl⟩
 ·obtain ⟨as',a,rfl,hR',dd,s,hra,hdd,hs⟩:=hR.last
  k_upd
  rw [if_neg (by simp)]
  k_upd
  refine fgo hob T.dW T.cB rfl ?_
  k_mem
  refine ⟨.inl ⟨rfl,_,SqL.of hrl⟩,_,hrl,.ref a,by simp,?_⟩
  have k1:L2.aD rl H (upd H rl (HO.lst ((as'++[a]).map V.ref).dropLast)):=(aD.of (aw.refl H)).put
  k_mem
  refine ⟨_,hra.keep k1 hrl,_,rfl,?_⟩
  refine q2 rs' r rfl dd _ k1 ⟨⟨dx,f0,k1 _ _ (fun z=>by rw [z,hrl] at hob;cases hob) hob,hF.keep k1 hrl⟩,as',by rw [ah];simp,hR'.keep k1 hrl⟩ (hdd.keep k1 hrl)
variable (tO:KM P w K mg base (CXf P w) 1 Z.rA "strike" (jg K Z))
inductive qK (K:WA)(Z:Adr)(vs:List V)(H:Hp)(Q:VK)(E:XK):Prop | mk (bk rl:Addr) (g:Cfg) (n0:bh) (rs:List Row):vs=[.ref bk]->BAt (clZ Z) K H bk rl g n0 rs->Q (.int (dw rs)) H->qK K Z vs H Q E
include T in
theorem EM:FF P w K mg base CX0 1 "now" "Book.now" ue zp (qK K Z):=fk0 Eb fun vs H Q E h=>by
 obtain ⟨bk,rl,g,n0,rs,rfl,hB,q⟩:=h
 k_all
 refine seg 1 (ag (ax (ai aj (ai au (aC (pv' 0)) (bc dS (aE az (by rfl) T.bZ bx (pa1 (aC (pv' 0)))) af)) af))) fun zt1 zh1 ze1=>?_
 refine ⟨_,ae (aM (eY (yQ (aC (pv' 0)) (fun _=>rfl))) (ag (ax af)) (aA)) zh1,?_⟩
 obtain ⟨⟨dx,f0,hob,hF⟩,as,hrl,hR⟩:=id hB
 k_mem
 refine fgo hob T.dW T.cB rfl ⟨_,.inl ⟨_,SqL.of hrl,rfl⟩,?_⟩
 rcases dM rs with rfl | ⟨rs',r,rfl⟩
 ·have e:as=[]:=List.length_eq_zero_iff.mp hR.1
  subst e
  k_upd
  exact q
 ·obtain ⟨as',a,rfl,hR',dd,s,hra,_,_⟩:=hR.last
  k_upd
  rw [if_neg (by simp)]
  k_upd
  refine fgo hob T.dW T.cB rfl ?_
  k_mem
  refine fgo hob T.dW T.cB rfl ?_
  k_mem
  refine ⟨_,.inl (SqL.of hrl),_,SqL.of hrl,_,Bt,?_⟩
  k_mem
  refine ⟨_,hra,_,rfl,?_⟩
  rw [wU] at q
  k_upd
  exact q
variable (n8:KM P w K mg base CX0 1 Z.rA "now" (qK K Z))
inductive jh (K:WA)(Z:Adr)(vs:List V)(H:Hp)(Q:VK)(E:XK):Prop | mk (bk rl:Addr) (g:Cfg) (n0:bh) (rs:List Row):vs=[.ref bk]->BAt (clZ Z) K H bk rl g n0 rs->(∀s,eK (clZ Z) K H rl g s (ao n0 rs)->Q (.ref s) H)->jh K Z vs H Q E
include T in
theorem Ae:FF P w K mg base CX0 1 "latest" "Book.latest" kg tq (jh K Z):=fk0 zz fun vs H Q E h=>by
 obtain ⟨bk,rl,g,n0,rs,rfl,hB,q⟩:=h
 k_all
 refine seg 1 (ag (ax (ai aj (ai au (aC (pv' 0)) (bc dS (aE az (by rfl) T.bZ bx (pa1 (aC (pv' 0)))) af)) af))) fun zt1 zh1 ze1=>?_
 refine ⟨_,ae (aM (eY (yQ (aC (pv' 0)) (fun _=>rfl))) (ag (ax (aC (pv' 0)))) (aA)) zh1,?_⟩
 obtain ⟨⟨dx,f0,hob,hF⟩,as,hrl,hR⟩:=id hB
 k_mem
 refine fgo hob T.dW T.cB rfl ⟨_,.inl ⟨_,SqL.of hrl,rfl⟩,?_⟩
 rcases dM rs with rfl | ⟨rs',r,rfl⟩
 ·have e:as=[]:=List.length_eq_zero_iff.mp hR.1
  subst e
  k_upd
  exact fgo hob T.dW T.tL rfl (q f0 hF)
 ·obtain ⟨as',a,rfl,hR',dd,s,hra,_,hs⟩:=hR.last
  k_upd
  rw [if_neg (by simp)]
  k_upd
  refine fgo hob T.dW T.cB rfl ?_
  k_mem
  refine fgo hob T.dW T.cB rfl ?_
  k_mem
  refine ⟨_,.inl (SqL.of hrl),_,SqL.of hrl,_,Bt,?_⟩
  k_mem
  refine ⟨_,hra,_,rfl,?_⟩
  rw [oU] at q
  k_upd
  exact q s hs
variable (aK:KM P w K mg base CX0 1 Z.rA "latest" (jh K Z))
inductive n9 (K:WA)(Z:Adr)(vs:List V)(H:Hp)(Q:VK)(E:XK):Prop | mk (bk rl:Addr) (g:Cfg) (n0:bh) (rs:List Row):vs=[.ref bk]->BAt (clZ Z) K H bk rl g n0 rs->rs.length<=1000->(∀(p:Addr) (as:List Addr) (H':Hp),H p=none->aw H H'->H' p=some (.lst (as.map V.ref))->dC K H' as rs->Q (.ref p) H')->n9 K Z vs H Q E
include T in
theorem CP:FF P w K mg base CX0 1 "told" "Book.told" pC xR (n9 K Z):=fk0 Cw fun vs H Q E h=>by
 obtain ⟨bk,rl,g,n0,rs,rfl,hB,hn,q⟩:=h
 k_all
 refine ⟨_,ag (ax (oq ["began","ended","deed","speed","standing"] [none,none,none,none,none] (eT (aC (pv' 0))) (fun _ _ _ _=>(show PG _ _ (sU K 5 _) from fu (n:=5) rfl (aN (aJ (i:=0) (show (["began","ended","deed","speed","standing"]:List Str).Nodup by decide +kernel) rfl orL) (aN (aJ (i:=1) (show (["began","ended","deed","speed","standing"]:List Str).Nodup by decide +kernel) rfl orL) (aN (aJ (i:=2) (show (["began","ended","deed","speed","standing"]:List Str).Nodup by decide +kernel) rfl orL) (aN (aJ (i:=3) (show (["began","ended","deed","speed","standing"]:List Str).Nodup by decide +kernel) rfl orL) (aN (aJ (i:=4) (show (["began","ended","deed","speed","standing"]:List Str).Nodup by decide +kernel) rfl orL) dY))))))) (fun _ _ _ _=>gH) (fun _ _ _ _=>(aY (pa3 (pv' 0) (pv' 1) (pv' 2)))))),?_⟩
 obtain ⟨⟨dx,f0,hob,hF⟩,as,hrl,hR⟩:=id hB
 have hl:=hR.1
 k_mem
 refine fgo hob T.dW T.cB rfl ?_
 k_mem
 refine ⟨⟨_,SqL.of hrl⟩,?_⟩
 refine wN rs.length (fun i acc H'=>aw H H'/\∃bs:List Addr,acc=bs.map V.ref/\dC K H' bs (rs.take i)) ⟨aw.refl H,[],rfl,rfl,fun i a r e _=>by simp at e⟩ ?_ ?_ ?_ ?_
 ·rintro i acc H' hi ⟨s1,_⟩
  have hi':i < as.length:=by omega
  k_upd
  exact ⟨_,.ref as[i],SqL.of (s1 _ _ hrl),by rw [List.getElem?_map,List.getElem?_eq_getElem hi'];rfl⟩
 ·rintro acc H' ⟨s1,_⟩
  k_upd
  exact ⟨_,SqL.of (s1 _ _ hrl),by rw [WB];omega⟩
 ·rintro i acc H1 hi ⟨s1,bs,rfl,hb⟩
  have hi':i < as.length:=by omega
  have hbl:=hb.1
  rw [List.length_take] at hbl
  k_upd
  refine ⟨dE (by rw [WB];omega),?_⟩
  rintro x H2 ⟨e2,y⟩ M hM
  subst e2
  have hy:=y _ (SqL.of (s1 _ _ hrl))
  rw [List.getElem?_map,List.getElem?_eq_getElem hi'] at hy
  cases hy
  obtain ⟨dd,s,hra,hdd,_⟩:=hR.2 i _ _ (List.getElem?_eq_getElem hi') (List.getElem?_eq_getElem hi)
  k_mem
  refine ⟨_,s1.tup hra,rfl,?_⟩
  k_mem
  refine ⟨⟨rfl,fun k v e=>?_⟩,?_⟩
  ·match k,e with
   | 0,e=>cases e
   | 1,e=>cases e
   | 2,e=>cases e
   | 3,e=>cases e
   | 4,e=>cases e
   | k+5,e=>simp at e
  ·k_upd
   refine ⟨by decide,fun p hp=>hM _ _ ⟨s1.lay hp,bs++[p],by rw [List.map_append];rfl,?_⟩⟩
   rw [List.take_succ_eq_append_getElem hi]
   exact (hb.same ((aw.refl _).lay hp)).push ⟨dd,SqT.of ah,(s1.lay hp).tup hdd⟩
 ·rintro acc H1 ⟨s1,bs,rfl,hb⟩ p hp
  rw [List.take_length] at hb
  k_upd
  exact q p bs _ (s1.free hp) (s1.lay hp) ah (hb.same ((aw.refl H1).lay hp))
variable (yb:KM P w K mg base CX0 1 Z.rA "told" (n9 K Z))
inductive CQ (K:WA)(Z:Adr)(vs:List V)(H:Hp)(Q:VK)(E:XK):Prop | mk (a:Addr) (ns:List Int) (k:Int):vs=[.ref a,.int k]->SqL K H a (ns.map V.int)->0<=k->Q (.int (ns.getD k.toNat 0)) H->CQ K Z vs H Q E
include T in
theorem MK:FF P w K mg base CX0 1 "_law_at" "_law_at" Gr K2 (CQ K Z):=fk0 MD fun vs H Q E h=>by
 obtain ⟨a,ns,k,rfl,hS,hk,q⟩:=h
 k_all
 refine seg 1 (ag (ax af)) fun zt1 zh1 ze1=>?_
 refine ⟨_,ae (aM (jM (pv' 1) (aE az (by rfl) T.bZ bx (pa1 (pv' 0)))) (ag (ax (ai au (pv' 0) (pv' 1)))) (aA)) zh1,?_⟩
 k_mem
 refine ⟨_,.inl hS,?_⟩
 rw [WB]
 k_upd
 split
 ·rename_i hlt
  k_upd
  exact ⟨_,hS,_,cU hk hlt,q⟩
 ·rename_i hlt
  rw [JP (by omega)] at q
  k_upd
  exact q
variable (xu:KD P w K mg base CX0 1 "_law_at" (CQ K Z))
def ML (c k n:Int)(H:Hp)(_:Nat)(σ:St)(H':Hp):Prop:=H'=H/\∃r t,σ=[some (.int c),some (.int k),some (.int n),some (.int r),t,none]
inductive xv (K:WA)(Z:Adr)(vs:List V)(H:Hp)(Q:VK)(E:XK):Prop | mk (c k n:Int):vs=[.int c,.int k,.int n]->0<=k->k<=100000->0 < n->(∀r:Int,0<=r->r < n->Q (.int r) H)->xv K Z vs H Q E
include T in
theorem IV:FF P w K mg base CX0 1 "_law_draw" "_law_draw" zF DS (xv K Z):=fk0 lq fun vs H Q E h=>by
 obtain ⟨c,k,n,rfl,hk0,hk1,hn,q⟩:=h
 k_all
 refine seg 2 (ag (ax (bc rg (dU (cb (bc yI (pv' 5) (bc bD (pv' 5) af)) af) af) (pv' 2)))) fun zt2 zh2 ze2=>?_
 refine seg 1 (ae (aF (i:=5) lq.nd rfl orL (cb (bc bD (bc bD (yJ (pv' 0) af) (yJ (pv' 1) af)) af) af)) zh2) fun zt1 zh1 ze1=>?_
 refine ⟨_,ae (aM (bU (cb (pv' 0) af) af) (ae (aF (i:=3) lq.nd rfl orL (dU (pv' 0) af)) (ae (en PassesOwn.never rfl (bP (by rfl) T.cQ (pa1 (pv' 1))) (aJ (i:=4) lq.nd rfl orL) (ag (aF (i:=3) lq.nd rfl orL (dU (pv' 3) af)))) (ag (ax (bc rg (cb (pv' 3) af) (pv' 2)))))) (aA)) zh1,?_⟩
 k_mem
 split
 ·k_upd
  refine ⟨by omega,by omega,cI (ML c k n H) ⟨rfl,_,_,rfl⟩ ?_ ?_⟩
  ·rintro i σ H' hi ⟨rfl,r,t,rfl⟩
   k_mem
   exact ⟨rfl,_,_,rfl⟩
  ·rintro σ H' ⟨rfl,r,t,rfl⟩
   k_mem
   exact ⟨hn,q _ (Int.emod_nonneg _ (by omega)) (Int.emod_lt_of_pos _ hn)⟩
 ·k_upd
  refine ⟨.inl ⟨by omega,by omega⟩,hn,q _ (Int.emod_nonneg _ (by omega)) (Int.emod_lt_of_pos _ hn)⟩
variable (cA:KD P w K mg base CX0 1 "_law_draw" (xv K Z))
inductive uD (K:WA)(Z:Adr)(vs:List V)(H:Hp)(Q:VK)(E:XK):Prop | mk (a:Addr) (ns:List Int) (k:Int):vs=[.ref a,.int k]->SqL K H a (ns.map V.int)->0<=k->k < ns.length->(∀n:Int,Q (.int n) H)->uD K Z vs H Q E
include T in
theorem GJ:FF P w K mg base CX0 1 "_law_mixed" "_law_mixed" xg BE (uD K Z):=fk0 ui fun vs H Q E h=>by
 obtain ⟨a,ns,k,rfl,hS,hk0,hk1,q⟩:=h
 k_all
 refine ⟨_,ae (aF (i:=2) ui.nd rfl orL (ai au (pv' 0) (pv' 1))) (ae (aM (bU (cb (ai au (pv' 0) af) af) af) (ag (ax (pv' 2))) (aA)) (ae (aF (i:=3) ui.nd rfl orL (cb (bc bD (bc bD (yJ (pv' 2) af) (yJ (pv' 1) af)) af) af)) (ag (ax (cb (bc yI (pv' 3) (bc bD (pv' 3) af)) af))))),?_⟩
 k_mem
 refine ⟨_,hS,_,cU hk0 hk1,_,hS,_,cU (ns:=ns) (k:=0) (by omega) (by omega),?_⟩
 k_mem
 split
 ·exact q _
 ·exact ⟨.inl ⟨by omega,by omega⟩,q _⟩
variable (rk:KD P w K mg base CX0 1 "_law_mixed" (uD K Z))
def P1 (a:Addr)(c pl:Int)(dp:Int)(ds:List Int)(H:Hp)(i:Nat)(σ:St)(H':Hp):Prop:=H'=H/\(∃t,σ=[some (.ref a),some (.int c),some (.int pl),some (.int dp),t])/\∀j,j < i->ds.getD j 0≠dp
theorem two_deep {p q c:Int}(h0:0<=c)(h1:c < 2):atI [V.int p,V.int q] c=some (.int (if c=0 then p else q)):=by
 rcases (by omega:c=0\/c=1) with rfl | rfl<;>rfl
inductive CS (K:WA)(Z:Adr)(vs:List V)(H:Hp)(Q:VK)(E:XK):Prop | mk (a:Addr) (ds:List Int) (c pl:Int):vs=[.ref a,.int c,.int pl]->SqL K H a (ds.map V.int)->cD ds->0<=c->c < 2->(∀H',aw H H'->Q (.int ((bQ ds pl c).getD (-1))) H')->CS K Z vs H Q E
include T in
theorem MM:FF P w K mg base CX0 1 "_law_by" "_law_by" Gs K3 (CS K Z):=fk0 Cz fun vs H Q E h=>by
 obtain ⟨a,ds,c,pl,rfl,hS,hsh,h0,h1,q⟩:=h
 k_all
 refine seg 2 (ag (ax (eQ cL af))) fun zt2 zh2 ze2=>?_
 refine seg 1 (ae (en PassesOwn.never rfl (bP (by rfl) T.cQ (pa1 (aE az (by rfl) T.bZ bx (pa1 (pv' 0))))) (aJ (i:=4) Cz.nd rfl orL) (ag (aM (bU (ai au (pv' 0) (pv' 4)) (pv' 3)) (ag (ax (pv' 4))) (aA)))) zh2) fun zt1 zh1 ze1=>?_
 refine ⟨_,ae (aF (i:=3) Cz.nd rfl orL (ai au (bj (pa2 (pv' 2) (bc dS (ai au (pv' 0) (eQ cL af)) (pv' 2)))) (pv' 1))) zh1,?_⟩
 have l6:=hsh.l6
 have l2:=hsh.l2
 k_mem
 refine ⟨_,hS,_,FJ (by omega),?_⟩
 k_mem
 refine ⟨by decide,fun p hp=>⟨_,SqL.of ah,_,two_deep h0 h1,?_⟩⟩
 have s1:=(aw.refl H).lay (o:=HO.lst [V.int pl,V.int (cG ds - pl)]) hp
 generalize upd H p (HO.lst [V.int pl,V.int (cG ds - pl)])=H1 at *
 have ec:bQ ds pl c=lvl ds (if c=0 then pl else cG ds - pl):=by unfold bQ;split<;>rfl
 generalize (if c=0 then pl else cG ds - pl)=dp at *
 k_mem
 refine ⟨_,.inl (s1.seq hS),by omega,by rw [WB];omega,?_⟩
 k_upd
 refine cI (P1 a c pl dp ds H1) ⟨rfl,⟨_,rfl⟩,fun _ h=>absurd h (Nat.not_lt_zero _)⟩ ?_ ?_
 ·rintro i σ H' hi ⟨rfl,⟨t,rfl⟩,hj⟩
  rw [WB] at hi
  have hi':i < ds.length:=by omega
  k_mem
  refine ⟨_,s1.seq hS,_,by rw [Int.zero_add];exact gL hi',?_⟩
  k_mem
  split
  ·rename_i he
   rw [Int.zero_add]
   have q':=q _ s1
   rw [ec,iO hsh hi' he] at q'
   k_upd
   exact q'
  ·rename_i he
   k_upd
   refine ⟨rfl,⟨_,rfl⟩,fun j hj'=>?_⟩
   by_cases e:j=i
   ·rw [e];exact he
   ·exact hj j (by omega)
 ·rintro σ H' ⟨rfl,⟨t,rfl⟩,hj⟩
  k_mem
  have q':=q _ s1
  rw [ec,Dv (fun i hi=>hj i (by rw [WB];omega))] at q'
  k_upd
  exact q'
variable (ji:KD P w K mg base CX0 1 "_law_by" (CS K Z))
theorem MN (x:List V)(k:Nat)(h:k < x.length):uR x none (some (k:Int))=x.take k/\¬(HT.sIx x.length 0 none=0/\HT.sIx x.length x.length (some (k:Int))=x.length):=by
 have e:HT.sIx x.length x.length (some (k:Int))=k:=by simp only [HT.sIx];split<;>omega
 refine ⟨?_,fun z=>by rw [e] at z;omega⟩
 unfold uR
 rw [e]
 simp [HT.sIx]
theorem MO (x:List V)(k:Nat)(h0:0 < k)(h:k<=x.length):uR x (some (k:Int)) none=x.drop k/\¬(HT.sIx x.length 0 (some (k:Int))=0/\HT.sIx x.length x.length none=x.length):=by
 have e:HT.sIx x.length 0 (some (k:Int))=k:=by simp only [HT.sIx];split<;>omega
 refine ⟨?_,fun z=>by rw [e] at z;omega⟩
 unfold uR
 rw [e]
 simp only [HT.sIx]
 exact List.take_of_length_le (by simp)
theorem Le (x:List V)(k:Nat)(v:V)(h:k < x.length):x.take k++[v]++x.drop (k+1)=x.set k v:=by
 rw [List.set_eq_take_append_cons_drop,if_pos h,List.append_assoc];rfl
inductive xw (K:WA)(Z:Adr)(vs:List V)(H:Hp)(Q:VK)(E:XK):Prop | mk (t:Addr) (x:List V) (k:Int) (s:V):vs=[.ref t,.int k,s]->SqT K H t x->0<=k->k < x.length->x.length<=100->(∀p H',aw H H'->H' p=some (.tup (x.set k.toNat s))->Q (.ref p) H')->xw K Z vs H Q E
include T in
theorem IW:FF P w K mg base CX0 1 "_law_swap" "_law_swap" zG DT (xw K Z):=fk0 IT fun vs H Q E h=>by
 obtain ⟨t,x,k,s,rfl,hT,h0,h1,hl,q⟩:=h
 k_all
 refine ⟨_,ag (ax (bc DR (bc DR (yU HM (pv' 0) G1 (vc (pv' 1))) (aY (pa1 (pv' 2)))) (yU HM (pv' 0) (vc (bc bD (pv' 1) af)) G1))),?_⟩
 obtain ⟨k,rfl⟩:=Int.eq_ofNat_of_zero_le h0
 rw [Int.toNat_natCast,←Le x k s (by omega)] at q
 obtain ⟨c1,n1⟩:=MN x k (by omega)
 obtain ⟨c2,n2⟩:=MO x (k+1) (by omega) (by omega)
 k_mem
 rw [show ((k:Int)+1)=((k+1:Nat):Int) from rfl]
 k_upd
 refine ⟨_,hT,n1,?_⟩
 rw [c1]
 refine fun p1 h1'=>⟨by decide,fun p2 h2'=>⟨_,upo ah h2',_,ah,(by rw [List.length_take];show _+1<=1000;omega),fun p3 H3 s3 t3=>?_⟩⟩
 have s2:=(((aw.refl H).lay h1').lay h2').trans s3
 k_upd
 refine ⟨_,s2.tup hT,n2,?_⟩
 rw [c2]
 refine fun p4 h4=>⟨_,upo t3 h4,_,ah,(by simp only [List.length_append,List.length_take,List.length_drop,List.length_singleton];omega),fun p5 H5 s5 t5=>?_⟩
 k_upd
 exact q p5 H5 ((s2.lay h4).trans s5) t5
variable (vY:KD P w K mg base CX0 1 "_law_swap" (xw K Z))
theorem IX {w s t:Int}(hs:1<=s)(h1:w<=t * s)(h2:t=0\/(t - 1) * s < w)(h0:0<=t)(hw:0<=w):t=Ci w s:=by
 have c:=FK (w:=w) (s:=s) hw (by omega)
 unfold Ci
 generalize (w+s - 1) / s=u at *
 obtain ⟨u0,u1,u2,_⟩:=c
 rcases Int.lt_trichotomy t u with h | h | h
 ·exfalso
  have:t<=u - 1:=by omega
  have:=Int.mul_le_mul_of_nonneg_right this (show 0<=s by omega)
  omega
 ·exact h
 ·exfalso
  rcases h2 with rfl | h2
  ·omega
  ·have:u<=t - 1:=by omega
   have:=Int.mul_le_mul_of_nonneg_right this (show 0<=s by omega)
   omega
inductive uE (K:WA)(Z:Adr)(vs:List V)(H:Hp)(Q:VK)(E:XK):Prop | mk (wy sp:Int):vs=[.int wy,.int sp]->0<=wy->wy<=100000->1<=sp->sp<=100000->Q (.int (Ci wy sp)) H->uE K Z vs H Q E
include T in
theorem GK:FF P w K mg base CX0 1 "_law_lasts" "_law_lasts" xl BJ (uE K Z):=fk0 uk fun vs H Q E h=>by
 obtain ⟨wy,sp,rfl,h0,h1,h2,h3,q⟩:=h
 k_all
 refine seg 2 (ag (ax (pv' 2))) fun zt2 zh2 ze2=>?_
 refine seg 1 (ae (Jr PassesOwn.never (jM (bc yI (pv' 2) (pv' 1)) (pv' 0)) (ag (aF (i:=2) uk.nd rfl orL (bc bD (pv' 2) af)))) zh2) fun zt1 zh1 ze1=>?_
 refine ⟨_,ae (aF (i:=2) uk.nd rfl orL af) zh1,?_⟩
 k_mem
 refine Jt (fun σ H'=>H'=H/\∃t:Int,σ=[some (.int wy),some (.int sp),some (.int t)]/\0<=t/\t<=wy/\(t=0\/(t - 1) * sp < wy)) (fun σ H'=>match σ with | [_,_,some (.int t)]=>(wy - t).toNat | _=>0) ⟨rfl,0,rfl,by omega,by omega,.inl rfl⟩ ?_ ?_
 ·rintro σ H' ⟨rfl,t,rfl,t0,t1,t2⟩
  k_mem
  have tm:t * 1<=t * sp:=Int.mul_le_mul_of_nonneg_left h2 t0
  k_upd
  refine ⟨.inl ⟨by omega,by omega⟩,?_⟩
  k_upd
  split
  ·rename_i hlt
   k_upd
   refine ⟨⟨rfl,t+1,rfl,by omega,by omega,.inr (by rw [Int.add_sub_cancel];exact hlt)⟩,?_⟩
   show (wy - (t+1)).toNat < (wy - t).toNat
   omega
  ·rename_i hge
   rw [←IX h2 (by omega) t2 t0 h0] at q
   k_upd
   exact q
 ·intro σ H' R R' hq h
  exact onO.mono (fun v=>onO.mono fun v1=>onI.mono fun i=>onI.mono fun j=>And.imp_right (onO.mono fun v2=>onI.mono fun j2=>onI.mono fun j3 z=>by split at z<;>rename_i c<;>(first | rw [if_pos c] | rw [if_neg c])<;>exact hq _ _ z)) h
variable (BX:KD P w K mg base CX0 1 "_law_lasts" (uE K Z))
def EN (p lt:Addr)(ks:List Str)(ws:List Int)(H:Hp)(i:Nat)(σ:St)(H':Hp):Prop:=H'=H/\(∃t,σ=[some (.ref p),some (.ref lt),t])/\∀j k x,j < i->ks[j]?=some k->ws[j]?=some x->(decide (k="men") && decide (x=10\/x=11))=false
inductive uF (K:WA)(Z:Adr)(vs:List V)(H:Hp)(Q:VK)(E:XK):Prop | mk (p dl cl ll lt:Addr) (g:Cfg) (lds:List Ld) (ws:List Int):vs=[.ref p,.ref lt]->dN K H p dl cl ll g lds->SqT K H lt (ws.map V.int)->ws.length=lds.length->ws.length<=30->((∀x∈ws,x < 10\/x=10\/x=11))->Q (.int (if Dx g.ks ws=true then g.slow else g.fast)) H->uF K Z vs H Q E
include T in
theorem GL:FF P w K mg base CX0 1 "_law_speed" "_law_speed" xm BK (uF K Z):=fk0 zH fun vs H Q E h=>by
 obtain ⟨p,dl,cl,ll,lt,g,lds,ws,rfl,hP,hL,hlen,h30,hwr,q⟩:=h
 k_all
 refine seg 1 (ag (ax (ai au (pv' 0) af))) fun zt1 zh1 ze1=>?_
 refine ⟨_,ae (en PassesOwn.never rfl (bP (by rfl) T.cQ (pa1 (aE az (by rfl) T.bZ bx (pa1 (pv' 1))))) (aJ (i:=2) zH.nd rfl orL) (ag (aM (tW (xK (ai aj (pv' 1) (pv' 2)) af) (me (bU (ai aj (ai au (ai au (pv' 0) af) (pv' 2)) af) aq))).pt (ag (ax (ai au (pv' 0) af))) (aA)))) zh1,?_⟩
 obtain ⟨hp,_,_,⟨bs,hll,hT2⟩,ek⟩:=id hP
 have hbl:=hT2.1
 k_mem
 refine ⟨_,.inr hL,by omega,by rw [WB];omega,?_⟩
 rw [WB]
 k_upd
 refine cI (EN p lt g.ks ws H) ⟨rfl,⟨_,rfl⟩,fun j _ _ hj=>absurd hj (Nat.not_lt_zero _)⟩ ?_ ?_
 ·rintro i σ H' hi ⟨rfl,⟨t,rfl⟩,hj⟩
  have hi':i < ws.length:=by omega
  have hw:ws[i]?=some (ws.getD i 0):=kW hi'
  have hx:=hwr _ (dq hi')
  have ha:bs[i]?=some (bs[i]'(by omega)):=List.getElem?_eq_getElem (by omega)
  have hld:lds[i]?=some (lds[i]'(by omega)):=List.getElem?_eq_getElem (by omega)
  have hrow:=hT2.2 i _ _ ha hld
  have hk:g.ks[i]?=some (lds[i]'(by omega)).1:=by rw [ek,List.getElem?_map,hld];rfl
  have no:(decide ((lds[i]'(by omega)).1="men") && decide (ws.getD i 0=10\/ws.getD i 0=11))=false->EN p lt g.ks ws H' (i+1) [some (V.ref p),some (V.ref lt),some (V.int (0+(i:Int)))] H':=fun hn=>by
   refine ⟨rfl,⟨_,rfl⟩,fun j k x hj' e1 e2=>?_⟩
   by_cases e:j=i
   ·subst e
    rw [hk] at e1;rw [hw] at e2
    cases e1;cases e2
    exact hn
   ·exact hj j k x (by omega) e1 e2
  k_mem
  refine ⟨_,hL,_,by rw [Int.zero_add];exact gL hi',?_⟩
  k_mem
  split
  ·rename_i h10
   k_upd
   refine ⟨_,SqL.of hp,_,rfl,?_⟩
   k_mem
   refine ⟨_,SqL.of hll,_,by rw [Int.zero_add];exact aU (by rw [List.getElem?_map,ha];rfl),?_⟩
   k_mem
   refine ⟨_,hrow,_,rfl,?_⟩
   k_mem
   split
   ·rename_i hm
    have hm':(lds[i]'(by omega)).1="men":=hm
    rw [Dy hk hw hm' (by omega),if_pos rfl] at q
    k_upd
    exact ⟨_,SqL.of hp,_,rfl,q⟩
   ·rename_i hm
    exact no (by rw [decide_eq_false hm];rfl)
  ·rename_i h10
   exact no (by rw [decide_eq_false (p:=ws.getD i 0=10\/ws.getD i 0=11) (by omega),Bool.and_false])
 ·rintro σ H' ⟨rfl,⟨t,rfl⟩,hj⟩
  k_mem
  rw [Bu hj (.inr (by omega)),if_neg Bool.false_ne_true] at q
  k_upd
  exact ⟨_,SqL.of hp,_,rfl,q⟩
variable (BY:KD P w K mg base CX0 1 "_law_speed" (uF K Z))
theorem IY (ls:List Cd):dj (ls.map fun _=>false)=[]:=by
 unfold dj j4
 rw [List.filter_eq_nil_iff.mpr]
 ·rfl
 ·intro j _
  rw [Oq]
  exact Bool.false_ne_true
inductive uG (K:WA)(Z:Adr)(vs:List V)(H:Hp)(Q:VK)(E:XK):Prop | mk (p dl cl ll:Addr) (ds:List Int) (ls:List Cd) (slow fast:Int) (lds:List Ld) (N0:Addr->Prop):vs=[.ref p]->dN K H p dl cl ll (iQ ds ls slow fast lds N0) lds->2<=ds.length->ds.length<=6->lds.length<=30->(∀a H',aw H H'->gP K H' a (iR ds ls lds,0)->Q (.ref a) H')->uG K Z vs H Q E
include T in
theorem GN:FF P w K mg base CX0 1 "_law_first" "_law_first" xn BL (uG K Z):=fk0 um fun vs H Q E h=>by
 obtain ⟨p,dl,cl,ll,ds,ls,slow,fast,lds,N0,rfl,hP,l2,l6,h30,q⟩:=h
 k_all
 refine seg 2 (ag (ax (aY (cq (ai au (ai au (pv' 0) af) af) (cq (bc KZ (aY (pa1 fP)) (pv' 1)) (pa4 (pv' 2) (aY (pa4 aq eO eO eO)) (aY iK) af)))))) fun zt2 zh2 ze2=>?_
 refine seg 1 (ae (aF (i:=2) um.nd rfl orL (bw oY (by rfl) T.vG oR (pa1 (oq ["_law_one"] [none] (eT (ai au (pv' 0) af)) (fun _ _ _ _=>(aJ (i:=0) (show (["_law_one"]:List Str).Nodup by decide +kernel) rfl orL)) (fun _ _ _ _=>gH) (fun _ _ _ _=>(ai (show IxR _ (xH K) from aj) (pv' 0) af)))))) zh2) fun zt1 zh1 ze1=>?_
 refine ⟨_,ae (aF (i:=1) um.nd rfl orL (aE az (by rfl) T.bZ bx (pa1 (ai au (pv' 0) af)))) zh1,?_⟩
 obtain ⟨hp,hdl,_,⟨bs,hll,hT2⟩,_⟩:=id hP
 replace hdl:H dl=some (HO.lst (ds.map V.int)):=hdl
 replace hp:H p=some (HO.lst [V.ref dl,V.ref cl,V.int slow,V.int fast,V.ref ll]):=hp
 have hbl:=hT2.1
 k_mem
 refine ⟨_,SqL.of hp,_,rfl,?_⟩
 k_mem
 refine ⟨_,.inl (SqL.of hdl),?_⟩
 rw [WB]
 k_upd
 refine ⟨_,SqL.of hp,_,rfl,?_⟩
 k_mem
 refine ⟨⟨_,SqL.of hll⟩,?_⟩
 refine LR (fun x=>.int x.2.1) ⟨bs,SqL.of hll,hT2⟩ (by rw [sizeLine_eq];omega) rfl (fun b x hb N hN=>by k_mem;exact ⟨_,hb,_,rfl,hN⟩) fun l1 hl1=>?_
 have s1:=(aw.refl H).lay (o:=HO.lst (lds.map fun x=>V.int x.2.1)) hl1
 k_mem
 refine ⟨_,.inl ⟨SqL.of ah,fun lt hlt=>?_⟩⟩
 have s2:=s1.lay (o:=HO.tup (lds.map fun x=>V.int x.2.1)) hlt
 have ht2:upd (upd H l1 (HO.lst (lds.map fun x=>V.int x.2.1))) lt (HO.tup (lds.map fun x=>V.int x.2.1)) lt=some (HO.tup ((lds.map (·.2.1)).map V.int)):=by rw [ah,List.map_map];rfl
 generalize upd (upd H l1 (HO.lst (lds.map fun x=>V.int x.2.1))) lt (HO.tup (lds.map fun x=>V.int x.2.1))=H2 at *
 k_upd
 refine ⟨_,SqL.of (s2 _ _ hp),_,rfl,?_⟩
 k_mem
 refine ⟨_,SqL.of (s2 _ _ hdl),_,cU (k:=0) (by omega) (by omega),by decide,fun p1 hp1=>⟨_,SqT.of ah,by omega,by omega,fun gt hgt=>⟨by decide,fun ht hht=>⟨by decide,fun dt hdt=>⟨by decide,fun a ha=>?_⟩⟩⟩⟩⟩
 have eg:List.replicate ((ds.length:Nat):Int).toNat (V.bl false)=(ds.map fun _=>false).map V.bl:=by
  rw [List.map_map,Int.toNat_natCast]
  exact (List.map_const' (l:=ds) (b:=V.bl false)).symm
 refine q a _ (((((s2.lay hp1).lay hgt).lay hht).lay hdt).lay ha) ⟨gt,lt,ht,dt,SqT.of ah,SqT.of ?_,upo (upo (upo (upo (upo ht2 hp1) hgt) hht) hdt) ha,SqT.of (upo (upo ah hdt) ha),SqT.of ?_⟩
 ·rw [upo (upo (upo ah hht) hdt) ha,eg];rfl
 ·rw [upo ah ha]
  show _=some (HO.tup ((dj (ls.map fun _=>false)).map V.int))
  rw [IY];rfl
variable (rm:KD P w K mg base CX0 1 "_law_first" (uG K Z))
noncomputable def rwS:Rw->Str
 | .ul=>"UnknownLoad"
 | .nt=>"NotThere"
 | .ct=>"CageTaken"
 | .gs=>"GateShut"
 | .ce=>"CageEmpty"
 | .lv=>"UnknownLevel"
 | .db=>"DeadBell"
 | .nc=>"NoCode"
 | .nr=>"NothingRung"
 | .ch=>"NoChange"
 | .na=>"NotArmed"
 | .go=>"GateOpen"
noncomputable def IZ:Option Rw->Str
 | none=>""
 | some r=>rwS r
theorem Nw (e:Eng):∃wd tU,mm e=.str wd::tU/\(wd="not repeated"↔∃l r,e=.wait l r)/\(wd="armed"↔∃l r,e=.armed l r):=by
 cases e with
 | no=>exact ⟨_,_,rfl,⟨fun z=>absurd z (by decide),fun ⟨_,_,z⟩=>nomatch z⟩,⟨fun z=>absurd z (by decide),fun ⟨_,_,z⟩=>nomatch z⟩⟩
 | wait l r=>exact ⟨_,_,rfl,⟨fun _=>⟨l,r,rfl⟩,fun _=>rfl⟩,⟨fun z=>absurd z (by decide),fun ⟨_,_,z⟩=>nomatch z⟩⟩
 | armed l r=>exact ⟨_,_,rfl,⟨fun z=>absurd z (by decide),fun ⟨_,_,z⟩=>nomatch z⟩,⟨fun _=>⟨l,r,rfl⟩,fun _=>rfl⟩⟩
 | other l r s=>exact ⟨_,_,rfl,⟨fun z=>absurd z (by decide),fun ⟨_,_,z⟩=>nomatch z⟩,⟨fun z=>absurd z (by decide),fun ⟨_,_,z⟩=>nomatch z⟩⟩
 | used l r=>exact ⟨_,_,rfl,⟨fun z=>absurd z (by decide),fun ⟨_,_,z⟩=>nomatch z⟩,⟨fun z=>absurd z (by decide),fun ⟨_,_,z⟩=>nomatch z⟩⟩
inductive gh (K:WA)(Z:Adr)(vs:List V)(H:Hp)(Q:VK)(E:XK):Prop | mk (p dl cl ll a dd:Addr) (g:Cfg) (lds:List Ld) (n:bh) (t:Int) (d:Dd):vs=[.ref p,.ref a,.ref dd]->dN K H p dl cl ll g lds->fg g->df g n->gP K H a (n,t)->SqT K H dd (ddV d)->(((∀c,d≠.unload c)/\(∀k c,d≠.load k c)/\∀c l k,d≠.wind c l k))->(∀H',aw H H'->Q (.str (IZ (cJ g n d))) H')->gh K Z vs H Q E
include T in
theorem vZ:FF P w K mg base CX0 1 "_law_bell_refusal" "_law_bell_refusal" gz k7 (gh K Z):=fk0 vE fun vs H Q E h=>by
 obtain ⟨p,dl,cl,ll,a,dd,g,lds,n,t,d,rfl,hP,hg,hn,hSt,hT,hd,q⟩:=h
 k_all
 refine seg 4 (ag (ax (ai au (bj (pa2 aq aq)) (bw cY (by rfl) T.jS fR (pa1 (cN gQ (ai aj (ai aj (pv' 1) af) (ai aj (pv' 2) af)) (cN gQ (ai aj (pv' 2) af) aq (cy _)) (cy _))))))) fun zt4 zh4 ze4=>?_
 refine seg 3 (ae (aM (bU (ai aj (pv' 2) af) aq) (ae (aM (dO ez (ai aj (pv' 2) af) (ai aj (pv' 1) af) (by rfl)) (ag (ax aq)) (aA)) (ag (ax (ai au (bj (pa2 aq aq)) (bw cY (by rfl) T.jS fR (pa1 (cN ez (ai aj (pv' 2) af) (ai au (ai au (pv' 0) af) (ai aj (pv' 2) af)) (by rfl)))))))) (aA)) zh4) fun zt3 zh3 ze3=>?_
 refine seg 2 (ae (aM (bU (ai aj (pv' 2) af) aq) (ag (ax (ai au (bj (pa2 aq aq)) (bw cY (by rfl) T.jS fR (pa1 (cN ez (ai aj (pv' 2) af) (ai aj (pv' 1) af) (by rfl))))))) (aA)) zh3) fun zt2 zh2 ze2=>?_
 refine seg 1 (ae (aM (iJ (jM (ai aj (pv' 2) af) af) (gw (xK (ai aj (pv' 2) af) (aE az (by rfl) T.bZ bx (pa1 (ai au (pv' 0) af)))))).pt (ag (ax aq)) (aA)) zh2) fun zt1 zh1 ze1=>?_
 refine ⟨_,ae (aM (bU (ai aj (pv' 2) af) aq) (ae (aM (jL (ai aj (ai aj (pv' 1) af) af) aq) (ag (ax aq)) (aA)) (ag (ax (ai au (bj (pa2 aq aq)) (bw cY (by rfl) T.jS fR (pa1 (rh (cN Gq af (ai aj (pv' 2) af) (cy _)) (yL (cN Gq (ai aj (pv' 2) af) af (cy _)))))))))) (aA)) zh1,?_⟩
 obtain ⟨gt,lt,ht,dt,h1,h2,h3,h4,h5⟩:=hSt.un
 obtain ⟨hp,hdl,⟨cs,hcl,hC⟩,_,_⟩:=id hP
 have gl:=hn.gl
 have fl:=hn.fl
 have l6:=hg.sh.l6
 have lc:=hg.lc
 k_mem
 cases d with
 | unload c=>exact absurd rfl (hd.1 c)
 | load k c=>exact absurd rfl (hd.2.1 k c)
 | wind c l k=>exact absurd rfl (hd.2.2 c l k)
 | rept s=>
  refine ⟨_,hT,_,aU (k:=0) rfl,?_⟩
  k_mem
  rw [if_pos rfl]
  k_mem
  refine ⟨_,h1,_,aU (k:=3) rfl,?_⟩
  k_mem
  obtain ⟨wd,rs',ewd,w1,w2⟩:=Nw n.e
  rw [ewd] at h4
  k_upd
  refine ⟨_,h4,_,aU (k:=0) rfl,?_⟩
  k_mem
  have er:cJ g n (.rept s)=if wd="not repeated" then (if 1<=s/\s<=9 then none else some .nc) else some .nr:=by
   by_cases ew:wd="not repeated"
   ·obtain ⟨l,r,e⟩:=w1.mp ew
    k_upd
    rw [if_pos ew];simp only [cJ,e]
   ·rw [if_neg ew]
    simp only [cJ]
    k_upd
    split
    ·rename_i l r e;exact absurd (w1.mpr ⟨l,r,e⟩) ew
    ·rfl
  by_cases ew:wd="not repeated"
  ·rw [if_neg (fun z=>z ew)]
   k_mem
   refine ⟨by decide,fun p3 hp3=>?_⟩
   (generalize hE:upd H p3 _=H4 at *;have s4:=bK hE hp3;have e4:=bg hE;clear hE)
   have q5:=q H4 s4
   rw [er,if_pos ew] at q5
   k_upd
   refine ⟨_,s4.tup hT,_,aU (k:=1) rfl,?_⟩
   k_mem
   by_cases a1:1<=s
   ·rw [if_pos a1]
    k_upd
    refine ⟨_,s4.tup hT,_,aU (k:=1) rfl,?_⟩
    k_mem
    refine ⟨_,SqL.of e4,?_⟩
    by_cases a2:s<=9
    ·rw [if_pos ⟨a1,a2⟩] at q5
     rw [decide_eq_true a2]
     k_upd
     exact ⟨_,rfl,q5⟩
    ·rw [if_neg (fun z=>a2 z.2)] at q5
     rw [decide_eq_false a2]
     k_upd
     exact ⟨_,rfl,q5⟩
   ·rw [if_neg a1]
    k_upd
    rw [if_neg (fun z=>a1 z.1)] at q5
    k_upd
    exact ⟨_,SqL.of e4,_,rfl,q5⟩
  ·rw [if_pos ew]
   have q':=q H (aw.refl _)
   rw [er,if_neg ew] at q'
   k_upd
   exact q'
 | fail l=>
  have elv:l < 0\/(g.ds.length:Int)<=l->cJ g n (.fail l)=some .lv:=fun z=>if_pos (by unfold unk;omega)
  k_upd
  refine ⟨_,hT,_,aU (k:=0) rfl,?_⟩
  k_mem
  rw [if_neg (by decide)]
  k_mem
  refine ⟨_,hT,_,aU (k:=1) rfl,?_⟩
  k_mem
  by_cases h0:l < 0
  ·rw [if_pos h0]
   have q':=q H (aw.refl _)
   rw [elv (.inl h0)] at q'
   k_upd
   exact q'
  k_upd
  rw [if_neg h0]
  k_upd
  refine ⟨_,hT,_,aU (k:=1) rfl,_,SqL.of hp,_,rfl,?_⟩
  k_mem
  refine ⟨_,.inl (SqL.of hdl),?_⟩
  k_mem
  rw [WB]
  by_cases h1':(g.ds.length:Int)<=l
  ·rw [if_pos h1']
   have q':=q H (aw.refl _)
   rw [elv (.inr h1')] at q'
   k_upd
   exact q'
  k_upd
  rw [if_neg h1']
  k_mem
  have lvn:¬unk l g.ds.length:=fun z=>z ⟨by omega,by omega⟩
  have hdd:decide (l∈dj n.fs)=n.fs.getD l.toNat false:=by
   rw [Bool.eq_iff_iff,decide_eq_true_eq,iH]
   k_upd
   exact ⟨fun z=>z.2.2,fun z=>⟨by omega,by omega,z⟩⟩
  k_upd
  refine ⟨_,hT,_,aU (k:=0) rfl,?_⟩
  k_mem
  rw [if_pos rfl]
  k_mem
  refine ⟨by decide,fun p1 hp1=>?_⟩
  (generalize hE:upd H p1 _=H1 at *;have s1:=bK hE hp1;have e1:=bg hE;clear hE)
  k_upd
  refine ⟨_,s1.tup hT,_,aU (k:=1) rfl,_,s1.tup h1,_,aU (k:=4) rfl,?_⟩
  k_mem
  refine ⟨_,.inr (s1.tup h5),rfl,Bp _,_,SqL.of e1,?_⟩
  rw [iq,hdd]
  have q':=q H1 s1
  have er:cJ g n (.fail l)=if n.fs.getD l.toNat false=true then some .ch else none:=if_neg lvn
  rw [er] at q'
  cases eg:n.fs.getD l.toNat false with
  | true=>rw [eg] at q';exact ⟨_,rfl,q'⟩
  | false=>rw [eg] at q';exact ⟨_,rfl,q'⟩
 | ring l s=>
  have elv:l < 0\/(g.ds.length:Int)<=l->cJ g n (.ring l s)=some .lv:=fun z=>if_pos (by unfold unk;omega)
  k_upd
  refine ⟨_,hT,_,aU (k:=0) rfl,?_⟩
  k_mem
  rw [if_neg (by decide)]
  k_mem
  refine ⟨_,hT,_,aU (k:=1) rfl,?_⟩
  k_mem
  by_cases h0:l < 0
  ·rw [if_pos h0]
   have q':=q H (aw.refl _)
   rw [elv (.inl h0)] at q'
   k_upd
   exact q'
  k_upd
  rw [if_neg h0]
  k_upd
  refine ⟨_,hT,_,aU (k:=1) rfl,_,SqL.of hp,_,rfl,?_⟩
  k_mem
  refine ⟨_,.inl (SqL.of hdl),?_⟩
  k_mem
  rw [WB]
  by_cases h1':(g.ds.length:Int)<=l
  ·rw [if_pos h1']
   have q':=q H (aw.refl _)
   rw [elv (.inr h1')] at q'
   k_upd
   exact q'
  k_upd
  rw [if_neg h1']
  k_mem
  have lvn:¬unk l g.ds.length:=fun z=>z ⟨by omega,by omega⟩
  have hdd:decide (l∈dj n.fs)=n.fs.getD l.toNat false:=by
   rw [Bool.eq_iff_iff,decide_eq_true_eq,iH]
   k_upd
   exact ⟨fun z=>z.2.2,fun z=>⟨by omega,by omega,z⟩⟩
  k_upd
  refine ⟨_,hT,_,aU (k:=0) rfl,?_⟩
  k_mem
  rw [if_neg (by decide)]
  k_mem
  refine ⟨_,hT,_,aU (k:=0) rfl,?_⟩
  k_mem
  rw [if_pos rfl]
  k_mem
  refine ⟨_,hT,_,aU (k:=1) rfl,_,h1,_,aU (k:=4) rfl,?_⟩
  k_mem
  refine ⟨_,.inr h5,rfl,Bp _,?_⟩
  rw [iq,hdd]
  have er:cJ g n (.ring l s)=if n.fs.getD l.toNat false=true then some .db else if s=(eN g.ls l).1\/s=(eN g.ls l).2 then none else some .nc:=if_neg lvn
  cases eg:n.fs.getD l.toNat false with
  | true=>
   have q':=q H (aw.refl _)
   rw [er,eg] at q'
   k_upd
   exact q'
  | false=>
   rw [if_neg Bool.false_ne_true]
   k_upd
   refine ⟨by decide,fun p1 hp1=>?_⟩
   (generalize hE:upd H p1 _=H1 at *;have s1:=bK hE hp1;have e1:=bg hE;clear hE)
   obtain ⟨cd,acd,hcd⟩:=mn (cV.same s1 hC) (by omega:0<=l) (by omega)
   k_upd
   refine ⟨_,s1.tup hT,_,aU (k:=2) rfl,_,SqL.of (s1 _ _ hp),_,rfl,_,s1.tup hT,_,aU (k:=1) rfl,?_⟩
   k_mem
   refine ⟨_,SqL.of (s1 _ _ hcl),_,acd,?_⟩
   k_mem
   refine ⟨_,.inr hcd,rfl,rfl,_,SqL.of e1,?_⟩
   have q':=q H1 s1
   rw [er,eg,if_neg Bool.false_ne_true] at q'
   have ei:inV (.int s) (cdV (eN g.ls l))=decide (s=(eN g.ls l).1\/s=(eN g.ls l).2):=by
    show inV (.int s) ([(eN g.ls l).1,(eN g.ls l).2].map V.int)=_
    rw [iq]
    simp
   rw [ei]
   by_cases hc:s=(eN g.ls l).1\/s=(eN g.ls l).2
   ·rw [if_pos hc] at q'
    rw [decide_eq_true hc]
    k_upd
    exact ⟨_,rfl,q'⟩
   ·rw [if_neg hc] at q'
    rw [decide_eq_false hc]
    k_upd
    exact ⟨_,rfl,q'⟩
 | opn l=>
  have elv:l < 0\/(g.ds.length:Int)<=l->cJ g n (.opn l)=some .lv:=fun z=>if_pos (by unfold unk;omega)
  k_upd
  refine ⟨_,hT,_,aU (k:=0) rfl,?_⟩
  k_mem
  rw [if_neg (by decide)]
  k_mem
  refine ⟨_,hT,_,aU (k:=1) rfl,?_⟩
  k_mem
  by_cases h0:l < 0
  ·rw [if_pos h0]
   have q':=q H (aw.refl _)
   rw [elv (.inl h0)] at q'
   k_upd
   exact q'
  k_upd
  rw [if_neg h0]
  k_upd
  refine ⟨_,hT,_,aU (k:=1) rfl,_,SqL.of hp,_,rfl,?_⟩
  k_mem
  refine ⟨_,.inl (SqL.of hdl),?_⟩
  k_mem
  rw [WB]
  by_cases h1':(g.ds.length:Int)<=l
  ·rw [if_pos h1']
   have q':=q H (aw.refl _)
   rw [elv (.inr h1')] at q'
   k_upd
   exact q'
  k_upd
  rw [if_neg h1']
  k_mem
  have lvn:¬unk l g.ds.length:=fun z=>z ⟨by omega,by omega⟩
  k_upd
  refine ⟨_,hT,_,aU (k:=0) rfl,?_⟩
  k_mem
  rw [if_neg (by decide)]
  k_mem
  refine ⟨_,hT,_,aU (k:=0) rfl,?_⟩
  k_mem
  rw [if_neg (by decide)]
  k_mem
  refine ⟨by decide,fun p1 hp1=>?_⟩
  (generalize hE:upd H p1 _=H1 at *;have s1:=bK hE hp1;have e1:=bg hE;clear hE)
  k_upd
  refine ⟨_,s1.tup h1,_,aU (k:=1) rfl,_,s1.tup hT,_,aU (k:=1) rfl,?_⟩
  k_mem
  refine ⟨_,s1.tup h2,_,fB (by omega) (by omega),_,s1.tup hT,_,aU (k:=0) rfl,?_⟩
  k_mem
  refine ⟨_,SqL.of e1,?_⟩
  have q':=q H1 s1
  have er:cJ g n (.opn l)=if n.gates.getD l.toNat false=true then some .ch else none:=if_neg lvn
  rw [er] at q'
  cases eg:n.gates.getD l.toNat false with
  | true=>
   rw [eg] at q'
   k_upd
   exact ⟨_,rfl,q'⟩
  | false=>
   rw [eg] at q'
   k_upd
   exact ⟨_,rfl,q'⟩
 | sht l=>
  have elv:l < 0\/(g.ds.length:Int)<=l->cJ g n (.sht l)=some .lv:=fun z=>if_pos (by unfold unk;omega)
  k_upd
  refine ⟨_,hT,_,aU (k:=0) rfl,?_⟩
  k_mem
  rw [if_neg (by decide)]
  k_mem
  refine ⟨_,hT,_,aU (k:=1) rfl,?_⟩
  k_mem
  by_cases h0:l < 0
  ·rw [if_pos h0]
   have q':=q H (aw.refl _)
   rw [elv (.inl h0)] at q'
   k_upd
   exact q'
  k_upd
  rw [if_neg h0]
  k_upd
  refine ⟨_,hT,_,aU (k:=1) rfl,_,SqL.of hp,_,rfl,?_⟩
  k_mem
  refine ⟨_,.inl (SqL.of hdl),?_⟩
  k_mem
  rw [WB]
  by_cases h1':(g.ds.length:Int)<=l
  ·rw [if_pos h1']
   have q':=q H (aw.refl _)
   rw [elv (.inr h1')] at q'
   k_upd
   exact q'
  k_upd
  rw [if_neg h1']
  k_mem
  have lvn:¬unk l g.ds.length:=fun z=>z ⟨by omega,by omega⟩
  k_upd
  refine ⟨_,hT,_,aU (k:=0) rfl,?_⟩
  k_mem
  rw [if_neg (by decide)]
  k_mem
  refine ⟨_,hT,_,aU (k:=0) rfl,?_⟩
  k_mem
  rw [if_neg (by decide)]
  k_mem
  refine ⟨by decide,fun p1 hp1=>?_⟩
  (generalize hE:upd H p1 _=H1 at *;have s1:=bK hE hp1;have e1:=bg hE;clear hE)
  k_upd
  refine ⟨_,s1.tup h1,_,aU (k:=1) rfl,_,s1.tup hT,_,aU (k:=1) rfl,?_⟩
  k_mem
  refine ⟨_,s1.tup h2,_,fB (by omega) (by omega),_,s1.tup hT,_,aU (k:=0) rfl,?_⟩
  k_mem
  refine ⟨_,SqL.of e1,?_⟩
  have q':=q H1 s1
  have er:cJ g n (.sht l)=if n.gates.getD l.toNat false=false then some .ch else none:=if_neg lvn
  rw [er] at q'
  cases eg:n.gates.getD l.toNat false with
  | true=>
   rw [eg] at q'
   k_upd
   exact ⟨_,rfl,q'⟩
  | false=>
   rw [eg] at q'
   k_upd
   exact ⟨_,rfl,q'⟩
variable (l5:KD P w K mg base CX0 1 "_law_bell_refusal" (gh K Z))
inductive uH (K:WA)(Z:Adr)(vs:List V)(H:Hp)(Q:VK)(E:XK):Prop | mk (ht dd:Addr) (g:Cfg) (n:bh) (d:Dd):vs=[.ref ht,.ref dd]->SqT K H ht (mm n.e)->SqT K H dd (ddV d)->cJ g n d=none->(∀h H',aw H H'->SqT K H' h (mm (y0 g n d))->Q (.ref h) H')->uH K Z vs H Q E
include T in
theorem GO:FF P w K mg base CX0 1 "_law_heard" "_law_heard" xo BM (uH K Z):=fk0 zI fun vs H Q E h=>by
 obtain ⟨ht,dd,g,n,d,rfl,hH,hD,hr,q⟩:=h
 k_all
 refine seg 3 (ag (ax (pv' 0))) fun zt3 zh3 ze3=>?_
 refine seg 2 (ae (aM (bU (ai aj (pv' 1) af) aq) (ag (ax (aY (pa4 aq (ai aj (pv' 0) af) (ai aj (pv' 0) af) (ai aj (pv' 0) af))))) (aA)) zh3) fun zt2 zh2 ze2=>?_
 refine seg 1 (ae (aM (bU (ai aj (pv' 1) af) aq) (ae (aF (i:=2) zI.nd rfl orL (ai au (bj (pa2 aq aq)) (bw cY (by rfl) T.jS fR (pa1 (cN gQ (ai aj (pv' 1) af) (ai aj (pv' 0) af) (cy _)))))) (ag (ax (aY (pa4 (pv' 2) (ai aj (pv' 0) af) (ai aj (pv' 0) af) (ai aj (pv' 1) af)))))) (aA)) zh2) fun zt1 zh1 ze1=>?_
 refine ⟨_,ae (aM (bU (ai aj (pv' 1) af) aq) (ag (ax (aY (pa4 aq (ai aj (pv' 1) af) (ai aj (pv' 1) af) eO)))) (aA)) zh1,?_⟩
 have q0:y0 g n d=n.e->Q (.ref ht) H:=fun e=>q ht H (aw.refl H) (by rw [e];exact hH)
 cases d with
 | ring l s=>
  k_mem
  refine ⟨_,hD,_,rfl,?_⟩
  k_mem
  rw [if_pos rfl]
  k_upd
  refine ⟨_,hD,_,rfl,_,hD,_,rfl,by decide,fun p hp=>?_⟩
  k_upd
  exact q p _ ((aw.refl H).lay hp) (SqT.of ah)
 | rept s=>
  obtain ⟨l,r,e,_⟩:=y3 hr
  have ee:y0 g n (.rept s)=if s=r then .armed l r else .other l r s:=by simp only [y0,e]
  rw [e] at hH
  rw [ee] at q
  k_mem
  refine ⟨_,hD,_,rfl,?_⟩
  k_mem
  rw [if_neg (by decide)]
  k_upd
  refine ⟨_,hD,_,rfl,?_⟩
  k_mem
  rw [if_pos rfl]
  k_upd
  refine ⟨by decide,fun p1 hp1=>⟨_,((aw.refl H).lay hp1).tup hD,_,rfl,_,((aw.refl H).lay hp1).tup hH,_,rfl,?_⟩⟩
  k_mem
  have s1:=(aw.refl H).lay (o:=HO.lst [V.str (Str.ofString "repeated otherwise"),V.str (Str.ofString "armed")]) hp1
  k_upd
  refine ⟨_,SqL.of ah,.str (if s=r then "armed" else "repeated otherwise"),?_,_,s1.tup hH,_,rfl,_,s1.tup hH,_,rfl,_,s1.tup hD,_,rfl,by decide,fun p hp=>?_⟩
  ·by_cases h:s=r
   ·simp only [h,decide_true,if_true];rfl
   ·simp only [h,decide_false,if_false,Bool.false_eq_true];rfl
  ·refine q p _ (s1.lay hp) (SqT.of ?_)
   rw [ah]
   by_cases h:s=r
   ·subst h;simp only [if_true];rfl
   ·rw [if_neg h,if_neg h];rfl
 | wind c l k=>
  obtain ⟨_,_,e⟩:=y6 hr
  rw [e] at hH
  k_mem
  refine ⟨_,hD,_,rfl,?_⟩
  k_mem
  rw [if_neg (by decide)]
  k_upd
  refine ⟨_,hD,_,rfl,?_⟩
  k_mem
  rw [if_neg (by decide)]
  k_upd
  refine ⟨_,hD,_,rfl,?_⟩
  k_mem
  rw [if_pos rfl]
  k_upd
  refine ⟨_,hH,_,rfl,_,hH,_,rfl,_,hH,_,rfl,by decide,fun p hp=>?_⟩
  k_upd
  exact q p _ ((aw.refl H).lay hp) (SqT.of ah)
 | _=>
  k_mem
  refine ⟨_,hD,_,rfl,?_⟩
  k_mem
  rw [if_neg (by decide)]
  k_upd
  refine ⟨_,hD,_,rfl,?_⟩
  k_mem
  rw [if_neg (by decide)]
  k_upd
  refine ⟨_,hD,_,rfl,?_⟩
  k_mem
  rw [if_neg (by decide)]
  k_upd
  exact q0 rfl
variable (BZ:KD P w K mg base CX0 1 "_law_heard" (uH K Z))
inductive qL (K:WA)(Z:Adr)(vs:List V)(H:Hp)(Q:VK)(E:XK):Prop | mk (sl dd:Addr) (as:List Addr) (g:Cfg) (n0:bh) (rs:List Row) (d:Dd):vs=[.ref sl,.ref dd]->H sl=some (.lst (as.map V.ref))->fM (gP K H) as (jJ n0 (rs++[u4 g n0 rs d]))->SqT K H dd (ddV d)->cJ g (ao n0 rs) d=none->(∀v H',aw H H'->u6 K H' (ao n0 rs) (dw rs+oV g (ao n0 rs) d) d v->Q v H')->qL K Z vs H Q E
include T in
theorem EO:FF P w K mg base CX0 1 "_law_answer" "_law_answer" uo zr (qL K Z):=fk0 Ec fun vs H Q E h=>by
 obtain ⟨sl,dd,as,g,n0,rs,d,rfl,hsl,hA,hD,hrf,q⟩:=h
 k_all
 refine seg 1 (ag (ax (ai aj (ai au (pv' 0) (eQ cL af)) af))) fun zt1 zh1 ze1=>?_
 refine ⟨_,ae (aM (bU (ai aj (pv' 1) af) aq) (ag (ax (aY (pa3 (cN gQ (ai aj (pv' 1) af) (ai aj (ai aj (ai au (pv' 0) (eQ cL af)) af) af) (cy _)) (ai aj (ai aj (ai au (pv' 0) (eQ cL af)) af) af) (ai aj (pv' 1) af))))) (aA)) zh1,?_⟩
 rw [mr] at hA
 obtain ⟨as1,b,rfl,hA1,hb⟩:=hA.last
 obtain ⟨as2,a,rfl,ha⟩:=zc hA1
 obtain ⟨gt,lt,ht,dt,h1,h2,h3,h4,h5⟩:=ha.un
 obtain ⟨gt2,lt2,ht2,dt2,hb1,_⟩:=hb.un
 k_mem
 by_cases hr:∃s,d=.rept s
 ·obtain ⟨s,rfl⟩:=hr
  obtain ⟨l,r,he,_⟩:=y3 hrf
  rw [he] at h4
  k_upd
  refine ⟨_,hD,_,aU (k:=0) rfl,?_⟩
  k_mem
  rw [if_pos rfl]
  k_upd
  refine ⟨_,hD,_,aU (k:=1) rfl,_,SqL.of hsl,_,HJ,?_⟩
  k_mem
  refine ⟨_,h1,_,aU (k:=3) rfl,?_⟩
  k_mem
  refine ⟨_,h4,_,aU (k:=2) rfl,?_⟩
  k_mem
  refine ⟨_,SqL.of hsl,_,HJ,?_⟩
  k_mem
  refine ⟨_,h1,_,aU (k:=3) rfl,?_⟩
  k_mem
  refine ⟨_,h4,_,aU (k:=2) rfl,_,hD,_,aU (k:=1) rfl,by decide,fun pq hpq=>?_⟩
  k_upd
  exact q _ _ ((aw.refl H).lay hpq) ⟨pq,l,r,rfl,he,SqT.of ah⟩
 ·obtain ⟨w1,ew1,nw1⟩:=Mx (d:=d) fun s e=>hr ⟨s,e⟩
  k_upd
  refine ⟨_,hD,_,ew1,?_⟩
  k_mem
  rw [if_neg nw1]
  k_mem
  refine ⟨_,SqL.of hsl,_,iu,?_⟩
  k_mem
  exact ⟨_,hb1,_,aU (k:=5) rfl,q _ H (aw.refl _) (by cases d<;>first | exact absurd ⟨_,rfl⟩ hr | rfl)⟩
variable (Af:KD P w K mg base CX0 1 "_law_answer" (qL K Z))
inductive kF (K:WA)(Z:Adr)(vs:List V)(H:Hp)(Q:VK)(E:XK):Prop | mk (p dl cl ll:Addr) (c:Int) (g:Cfg) (lds:List Ld):vs=[.ref p,.int c]->dN K H p dl cl ll g lds->2<=g.ds.length->g.ds.length<=6->lds.length<=30->(∀dd d H',aw H H'->SqT K H' dd (ddV d)->uZ d->Q (.ref dd) H')->kF K Z vs H Q E
include T in
theorem A5:FF P w K mg base CX0 1 "_law_odd_deed" "_law_odd_deed" mS vz (kF K Z):=fk0 cP fun vs H Q E h=>by
 obtain ⟨p,dl,cl,ll,c,g,lds,rfl,hP,l2,l6,l30,q⟩:=h
 k_all
 refine seg 8 (ag (ax (ai au (pv' 7) (cb (dU (pv' 1) af) af)))) fun zt8 zh8 ze8=>?_
 refine seg 7 (ae (aF (i:=7) cP.nd rfl orL (bc ft (pv' 7) (bj (pa3 (aY (pa2 aq (cb (pv' 1) af))) (aY (pa4 aq (cb (pv' 1) af) (pv' 2) (pv' 6))) (aY (pa2 aq (pv' 5))))))) zh8) fun zt7 zh7 ze7=>?_
 refine seg 6 (ae (aF (i:=7) cP.nd rfl orL (bc ft (pv' 7) (bj (pa3 (aY (pa2 aq (pv' 2))) (aY (pa2 aq (pv' 2))) (aY (pa3 aq (pv' 3) (cb (dU (pv' 1) af) af))))))) zh7) fun zt6 zh6 ze6=>?_
 refine seg 5 (ae (aF (i:=7) cP.nd rfl orL (bj (pa4 (aY (pa3 aq (pv' 2) (pv' 4))) (aY (pa3 aq (pv' 5) (pv' 4))) (aY (pa2 aq (pv' 4))) (aY (pa2 aq (pv' 2)))))) zh6) fun zt5 zh5 ze5=>?_
 refine seg 4 (ae (aF (i:=6) cP.nd rfl orL (ai au (bj (pa2 aq aq)) (cb (dU (pv' 1) af) af))) zh5) fun zt4 zh4 ze4=>?_
 refine seg 3 (ae (aF (i:=5) cP.nd rfl orL (bc rg (dU (pv' 1) af) (aE az (by rfl) T.bZ bx (pa1 (ai au (pv' 0) af))))) zh4) fun zt3 zh3 ze3=>?_
 refine seg 2 (ae (aF (i:=4) cP.nd rfl orL (ai au (bj (cq af (cq af (pa4 (eQ cL af) (bc HK af af) af af)))) (cb (dU (pv' 1) af) af))) zh3) fun zt2 zh2 ze2=>?_
 refine seg 1 (ae (aF (i:=3) cP.nd rfl orL (ai au (bj (cq (eQ cL af) (cq (aE az (by rfl) T.bZ bx (pa1 (ai au (pv' 0) af))) (pa4 af af (bc HK af af) af)))) (cb (dU (pv' 1) af) af))) zh2) fun zt1 zh1 ze1=>?_
 refine ⟨_,ae (aF (i:=2) cP.nd rfl orL (ai au (bj (cq (eQ cL af) (cq (aE az (by rfl) T.bZ bx (pa1 (ai au (pv' 0) af))) (pa4 (eQ cL af) af af (eQ cL af))))) (cb (pv' 1) af))) zh1,?_⟩
 obtain ⟨hp,hdl,_,⟨bs,hll,hL⟩,_⟩:=id hP
 have hbl:=hL.1
 k_mem
 refine ⟨_,SqL.of hp,_,rfl,?_⟩
 k_mem
 refine ⟨_,.inl (SqL.of hdl),by decide,fun p1 hp1=>?_⟩
 (generalize hE:upd H p1 _=H1 at *;have s1:=bK hE hp1;have e1:=bg hE;clear hE)
 rw [WB] at e1
 have a1:=cU (ns:=[-1,g.ds.length,-2,1000000000000,9,-7]) (k:=c % 6) (by omega) (by show c % 6 < 6;omega)
 generalize [-1,(g.ds.length:Int),-2,1000000000000,9,-7].getD (c % 6).toNat 0=far at *
 k_upd
 refine ⟨_,SqL.of e1,_,a1,?_⟩
 k_mem
 refine ⟨_,SqL.of (s1 _ _ hp),_,rfl,?_⟩
 k_mem
 refine ⟨_,.inl (SqL.of (s1 _ _ hll)),⟨by decide,by decide,by decide⟩,by decide,fun p2 hp2=>?_⟩
 (generalize hE:upd H1 p2 _=H2 at *;have s2:=bK hE hp2;have e2:=bg hE;clear hE)
 rw [WB] at e2
 have a2:=cU (ns:=[-1,bs.length,0,31,1000000000000000000000000000000,1]) (k:=c / 6 % 6) (by omega) (by show c / 6 % 6 < 6;omega)
 generalize [-1,(bs.length:Int),0,31,1000000000000000000000000000000,1].getD (c / 6 % 6).toNat 0=wide at *
 k_upd
 refine ⟨_,SqL.of e2,_,a2,?_⟩
 k_mem
 refine ⟨⟨by decide,by decide,by decide⟩,by decide,fun p3 hp3=>?_⟩
 (generalize hE:upd H2 p3 _=H3 at *;have s3:=bK hE hp3;have e3:=bg hE;clear hE)
 have a3:=cU (ns:=[0,10,-1,1000000000000000000000000000000,1,9]) (k:=c / 36 % 6) (by omega) (by show c / 36 % 6 < 6;omega)
 generalize [0,10,-1,1000000000000000000000000000000,1,9].getD (c / 36 % 6).toNat 0=few at *
 k_upd
 refine ⟨_,SqL.of e3,_,a3,?_⟩
 k_mem
 have s13:=s1.trans (s2.trans s3)
 k_upd
 refine ⟨_,SqL.of (s13 _ _ hp),_,rfl,?_⟩
 k_mem
 refine ⟨_,.inl (SqL.of (s13 _ _ hdl)),by rw [WB];omega,?_⟩
 rw [WB]
 generalize c / 6 % (g.ds.length:Int)=near at *
 k_mem
 refine ⟨by decide,fun p4 hp4=>?_⟩
 (generalize hE:upd H3 p4 _=H4 at *;have s4:=bK hE hp4;have e4:=bg hE;clear hE)
 obtain ⟨kd,hkd,akd⟩:∃kd:Str,(kd="men"\/kd="coal")/\atI [V.str "men",V.str "coal"] (c / 6 % 2)=some (.str kd):=by
  rcases (by omega:c / 6 % 2=0\/c / 6 % 2=1) with e | e<;>rw [e]
  ·k_upd
   exact ⟨_,.inl rfl,rfl⟩
  ·k_upd
   exact ⟨_,.inr rfl,rfl⟩
 k_upd
 refine ⟨_,SqL.of e4,_,akd,?_⟩
 k_mem
 refine ⟨by decide,fun p5 hp5=>?_⟩
 (generalize hE:upd H4 p5 _=H5 at *;have s5:=bK hE hp5;have e5:=bg hE;clear hE)
 k_upd
 refine ⟨by decide,fun p6 hp6=>?_⟩
 (generalize hE:upd H5 p6 _=H6 at *;have s6:=bK hE hp6;have e6:=bg hE;clear hE)
 k_upd
 refine ⟨by decide,fun p7 hp7=>?_⟩
 (generalize hE:upd H6 p7 _=H7 at *;have s7:=bK hE hp7;have e7:=bg hE;clear hE)
 k_upd
 refine ⟨by decide,fun p8 hp8=>?_⟩
 (generalize hE:upd H7 p8 _=H8 at *;have s8:=bK hE hp8;have e8:=bg hE;clear hE)
 k_upd
 refine ⟨by decide,fun p9 hp9=>?_⟩
 (generalize hE:upd H8 p9 _=H9 at *;have s9:=bK hE hp9;have e9:=bg hE;clear hE)
 k_mem
 refine ⟨by decide,fun p10 hp10=>?_⟩
 (generalize hE:upd H9 p10 _=H10 at *;have s10:=bK hE hp10;have e10:=bg hE;clear hE)
 k_upd
 refine ⟨by decide,fun p11 hp11=>?_⟩
 (generalize hE:upd H10 p11 _=H11 at *;have s11:=bK hE hp11;have e11:=bg hE;clear hE)
 k_upd
 refine ⟨by decide,fun p12 hp12=>?_⟩
 (generalize hE:upd H11 p12 _=H12 at *;have s12:=bK hE hp12;have e12:=bg hE;clear hE)
 k_upd
 refine ⟨by decide,fun p13 hp13=>?_⟩
 (generalize hE:upd H12 p13 _=H13 at *;have s13:=bK hE hp13;have e13:=bg hE;clear hE)
 k_upd
 refine ⟨_,((((s10.trans s11).trans s12).trans s13) _ _ e9),_,e13,(by show 7<=sizeLine;decide),fun p14 hp14=>?_⟩
 (generalize hE:upd H13 p14 _=H14 at *;have s14:=bK hE hp14;have e14:=bg hE;clear hE)
 k_mem
 refine ⟨by decide,fun p15 hp15=>?_⟩
 (generalize hE:upd H14 p15 _=H15 at *;have s15:=bK hE hp15;have e15:=bg hE;clear hE)
 k_upd
 refine ⟨by decide,fun p16 hp16=>?_⟩
 (generalize hE:upd H15 p16 _=H16 at *;have s16:=bK hE hp16;have e16:=bg hE;clear hE)
 k_upd
 refine ⟨by decide,fun p17 hp17=>?_⟩
 (generalize hE:upd H16 p17 _=H17 at *;have s17:=bK hE hp17;have e17:=bg hE;clear hE)
 k_upd
 refine ⟨by decide,fun p18 hp18=>?_⟩
 (generalize hE:upd H17 p18 _=H18 at *;have s18:=bK hE hp18;have e18:=bg hE;clear hE)
 k_upd
 refine ⟨_,((((s15.trans s16).trans s17).trans s18) _ _ e14),_,e18,(by show 10<=sizeLine;decide),fun p19 hp19=>?_⟩
 (generalize hE:upd H18 p19 _=H19 at *;have s19:=bK hE hp19;have e19:=bg hE;clear hE)
 k_mem
 rcases (by omega:c / 216 % 10=0\/c / 216 % 10=1\/c / 216 % 10=2\/c / 216 % 10=3\/c / 216 % 10=4\/c / 216 % 10=5\/c / 216 % 10=6\/c / 216 % 10=7\/c / 216 % 10=8\/c / 216 % 10=9) with hq | hq | hq | hq | hq | hq | hq | hq | hq | hq<;>rw [hq]
 ·k_upd
  exact ⟨_,SqL.of e19,_,rfl,q p5 (.ring far few) _ (s1.trans (((((((((((((((((s2.trans s3).trans s4).trans s5).trans s6).trans s7).trans s8).trans s9).trans s10).trans s11).trans s12).trans s13).trans s14).trans s15).trans s16).trans s17).trans s18).trans s19)) (SqT.of ((((((((((((((s6.trans s7).trans s8).trans s9).trans s10).trans s11).trans s12).trans s13).trans s14).trans s15).trans s16).trans s17).trans s18).trans s19) _ _ e5)) trivial⟩
 ·k_upd
  exact ⟨_,SqL.of e19,_,rfl,q p6 (.ring near few) _ (s1.trans (((((((((((((((((s2.trans s3).trans s4).trans s5).trans s6).trans s7).trans s8).trans s9).trans s10).trans s11).trans s12).trans s13).trans s14).trans s15).trans s16).trans s17).trans s18).trans s19)) (SqT.of (((((((((((((s7.trans s8).trans s9).trans s10).trans s11).trans s12).trans s13).trans s14).trans s15).trans s16).trans s17).trans s18).trans s19) _ _ e6)) trivial⟩
 ·k_upd
  exact ⟨_,SqL.of e19,_,rfl,q p7 (.rept few) _ (s1.trans (((((((((((((((((s2.trans s3).trans s4).trans s5).trans s6).trans s7).trans s8).trans s9).trans s10).trans s11).trans s12).trans s13).trans s14).trans s15).trans s16).trans s17).trans s18).trans s19)) (SqT.of ((((((((((((s8.trans s9).trans s10).trans s11).trans s12).trans s13).trans s14).trans s15).trans s16).trans s17).trans s18).trans s19) _ _ e7)) trivial⟩
 ·k_upd
  exact ⟨_,SqL.of e19,_,rfl,q p8 (.opn far) _ (s1.trans (((((((((((((((((s2.trans s3).trans s4).trans s5).trans s6).trans s7).trans s8).trans s9).trans s10).trans s11).trans s12).trans s13).trans s14).trans s15).trans s16).trans s17).trans s18).trans s19)) (SqT.of (((((((((((s9.trans s10).trans s11).trans s12).trans s13).trans s14).trans s15).trans s16).trans s17).trans s18).trans s19) _ _ e8)) trivial⟩
 ·k_upd
  exact ⟨_,SqL.of e19,_,rfl,q p10 (.sht far) _ (s1.trans (((((((((((((((((s2.trans s3).trans s4).trans s5).trans s6).trans s7).trans s8).trans s9).trans s10).trans s11).trans s12).trans s13).trans s14).trans s15).trans s16).trans s17).trans s18).trans s19)) (SqT.of (((((((((s11.trans s12).trans s13).trans s14).trans s15).trans s16).trans s17).trans s18).trans s19) _ _ e10)) trivial⟩
 ·k_upd
  exact ⟨_,SqL.of e19,_,rfl,q p11 (.fail far) _ (s1.trans (((((((((((((((((s2.trans s3).trans s4).trans s5).trans s6).trans s7).trans s8).trans s9).trans s10).trans s11).trans s12).trans s13).trans s14).trans s15).trans s16).trans s17).trans s18).trans s19)) (SqT.of ((((((((s12.trans s13).trans s14).trans s15).trans s16).trans s17).trans s18).trans s19) _ _ e11)) trivial⟩
 ·k_upd
  exact ⟨_,SqL.of e19,_,rfl,q p12 (.load wide (c / 36 % 2)) _ (s1.trans (((((((((((((((((s2.trans s3).trans s4).trans s5).trans s6).trans s7).trans s8).trans s9).trans s10).trans s11).trans s12).trans s13).trans s14).trans s15).trans s16).trans s17).trans s18).trans s19)) (SqT.of (((((((s13.trans s14).trans s15).trans s16).trans s17).trans s18).trans s19) _ _ e12)) ⟨by omega,by omega⟩⟩
 ·k_upd
  exact ⟨_,SqL.of e19,_,rfl,q p15 (.unload (c % 2)) _ (s1.trans (((((((((((((((((s2.trans s3).trans s4).trans s5).trans s6).trans s7).trans s8).trans s9).trans s10).trans s11).trans s12).trans s13).trans s14).trans s15).trans s16).trans s17).trans s18).trans s19)) (SqT.of ((((s16.trans s17).trans s18).trans s19) _ _ e15)) ⟨by omega,by omega⟩⟩
 ·k_upd
  exact ⟨_,SqL.of e19,_,rfl,q p16 (.wind (c % 2) far kd) _ (s1.trans (((((((((((((((((s2.trans s3).trans s4).trans s5).trans s6).trans s7).trans s8).trans s9).trans s10).trans s11).trans s12).trans s13).trans s14).trans s15).trans s16).trans s17).trans s18).trans s19)) (SqT.of (((s17.trans s18).trans s19) _ _ e16)) ⟨⟨by omega,by omega⟩,hkd⟩⟩
 ·k_upd
  exact ⟨_,SqL.of e19,_,rfl,q p17 (.fail near) _ (s1.trans (((((((((((((((((s2.trans s3).trans s4).trans s5).trans s6).trans s7).trans s8).trans s9).trans s10).trans s11).trans s12).trans s13).trans s14).trans s15).trans s16).trans s17).trans s18).trans s19)) (SqT.of ((s18.trans s19) _ _ e17)) trivial⟩
variable (v3:KD P w K mg base CX0 1 "_law_odd_deed" (kF K Z))
inductive jj (K:WA)(Z:Adr)(vs:List V)(H:Hp)(Q:VK)(E:XK):Prop | mk (lv m:Int):vs=[.int lv,.int m]->((0<=lv/\lv < m->Q .non H)/\(¬(0<=lv/\lv < m)->E (.ref Z.ay) none H))->jj K Z vs H Q E
include T fF in
theorem Ag:FF P w K mg base (CXf P w) 2 "check_level" "check_level" j6 sW (jj K Z):=fkF zt fun vs H Q E h=>by
 obtain ⟨lv,m,rfl,q1,q2⟩:=h
 k_all
 refine ⟨_,ag (aM (eY (cO (dc0 fF hr.dn (pa2 (pv' 0) (pv' 1))))) (ag (bE T.zX (by rfl) T.pI (pa1 aq))) (aA)),?_⟩
 k_mem
 refine ⟨_,_,rfl,?_⟩
 k_mem
 split
 ·rename_i h
  k_upd
  exact ⟨by decide,q2 h⟩
 ·rename_i h
  k_upd
  exact q1 (by simpa using h)
variable (bI:KD P w K mg base (CXf P w) 2 "check_level" (jj K Z))
inductive kG (K:WA)(Z:Adr)(vs:List V)(H:Hp)(Q:VK)(E:XK):Prop | mk (n m:Int):vs=[.int n,.int m]->((0<=n/\n < m->Q .non H)/\(¬(0<=n/\n < m)->E (.ref Z.aG) none H))->kG K Z vs H Q E
include T fF in
theorem A6:FF P w K mg base (CXf P w) 2 "check_load" "check_load" mx vd (kG K Z):=fkF AE fun vs H Q E h=>by
 obtain ⟨n,m,rfl,q1,q2⟩:=h
 k_all
 refine ⟨_,ag (aM (eY (cO (dc0 fF hr.dn (pa2 (pv' 0) (pv' 1))))) (ag (bE T.AQ (by rfl) T.tI (pa1 aq))) (aA)),?_⟩
 k_mem
 refine ⟨_,_,rfl,?_⟩
 k_mem
 split
 ·rename_i h
  k_upd
  exact ⟨by decide,q2 h⟩
 ·rename_i h
  k_upd
  exact q1 (by simpa using h)
variable (iE:KD P w K mg base (CXf P w) 2 "check_load" (kG K Z))
def P2 (l:Addr)(m:Int)(ls:List Ld)(H:Hp)(i:Nat)(σ:St)(H':Hp):Prop:=H'=H/\(∃t u v,σ=[some (.ref l),some (.int m),t,u,v])/\∀(j:Nat) x,j < i->ls[j]?=some x->j0 m x
inductive jk (K:WA)(Z:Adr)(vs:List V)(H:Hp)(Q:VK)(E:XK):Prop | mk (l:Addr) (ls:List Ld) (m:Int):vs=[.ref l,.int m]->fq K H l ls->(((ls.length<=30/\∀x∈ls,j0 m x)->Q .non H))->((¬(ls.length<=30/\∀x∈ls,j0 m x)->E (.ref Z.cE) none H))->jk K Z vs H Q E
include T fF in
theorem Ah:FF P w K mg base (CXf P w) 2 "check_loads" "check_loads" j7 sX (jk K Z):=fkF fV fun vs H Q E h=>by
 obtain ⟨l,ls,m,rfl,hL,q1,q2⟩:=h
 k_all
 refine seg 1 (ag (en FL rfl (eT (pv' 0)) (fu rfl (aN (aJ (i:=2) fV.nd rfl orL) (aN (aJ (i:=3) fV.nd rfl orL) (aN (aJ (i:=4) fV.nd rfl orL) dY)))) (ag (aM (iJ (eY (cO (dc0 fF hr.dn (pa2 (pv' 3) (pv' 1))))) (gw (eY (cO (dc0 fF hr.dn (pa2 (pv' 4) (pv' 1))))))).pt (ag (bE T.zZ (by rfl) T.zP (pa1 aq))) (aA))))) fun zt1 zh1 ze1=>?_
 refine ⟨_,ae (aM (HN (aE az (by rfl) T.bZ bx (pa1 (pv' 0))) (dX (by rfl) T.CB)) (ag (bE T.zZ (by rfl) T.zP (pa1 aq))) (aA)) zh1,?_⟩
 obtain ⟨as,hS,hlen,hT⟩:=id hL
 k_mem
 refine ⟨_,.inl hS,?_⟩
 rw [WB]
 k_upd
 split
 ·k_upd
  exact ⟨by decide,q2 fun h=>by omega⟩
 ·k_upd
  refine ⟨⟨_,hS⟩,?_⟩
  k_upd
  refine qX (as.map V.ref) (P2 l m ls H) ⟨rfl,⟨_,_,_,rfl⟩,fun j x h=>absurd h (Nat.not_lt_zero _)⟩ (fun i σ H' _ ⟨e,_⟩=>by rw [e];exact hS) ?_ ?_
  ·rintro i x σ H' hx ⟨rfl,⟨t,u,v,rfl⟩,hj⟩
   rw [List.getElem?_map] at hx
   obtain ⟨a,ea,rfl⟩:=Option.map_eq_some_iff.mp hx
   have hi:i < as.length:=(List.getElem?_eq_some_iff.mp ea).1
   have el:ls[i]?=some ls[i]:=List.getElem?_eq_getElem (by omega)
   have hm:ls[i]∈ls:=List.getElem_mem _
   k_mem
   refine ⟨_,hT i a _ ea el,rfl,?_⟩
   k_mem
   refine ⟨_,_,rfl,?_⟩
   k_mem
   split
   ·rename_i h1
    k_upd
    exact ⟨by decide,q2 fun h=>h1 (h.2 _ hm).1⟩
   ·rename_i h1
    k_upd
    refine ⟨_,_,rfl,?_⟩
    k_mem
    split
    ·rename_i h2
     k_upd
     exact ⟨by decide,q2 fun h=>h2 (h.2 _ hm).2⟩
    ·rename_i h2
     k_upd
     refine ⟨rfl,⟨_,_,_,rfl⟩,fun j x hj' hx=>?_⟩
     by_cases e:j=i
     ·rw [e,el] at hx
      cases hx
      k_upd
      exact ⟨by omega,by omega⟩
     ·exact hj j x (by omega) hx
  ·rintro σ H' ⟨rfl,⟨t,u,v,rfl⟩,hj⟩
   k_mem
   refine q1 ⟨by omega,fun x hx=>?_⟩
   obtain ⟨j,hj1,rfl⟩:=List.getElem_of_mem hx
   rw [WB] at hj
   exact hj j _ (by omega) (List.getElem?_eq_getElem hj1)
variable (tP:KD P w K mg base (CXf P w) 2 "check_loads" (jk K Z))
def P4 (l:Addr)(m:Int)(ls:List Cd)(H:Hp)(i:Nat)(σ:St)(H':Hp):Prop:=H'=H/\(∃t u,σ=[some (.ref l),some (.int m),t,u])/\∀(j:Nat) x,j < i->ls[j]?=some x->eZ x
inductive jl (K:WA)(Z:Adr)(vs:List V)(H:Hp)(Q:VK)(E:XK):Prop | mk (l:Addr) (ls:List Cd) (m:Int):vs=[.ref l,.int m]->j1 cdV K H l ls->((((ls.length:Int)=m/\∀x∈ls,eZ x)->Q .non H))->((¬((ls.length:Int)=m/\∀x∈ls,eZ x)->E (.ref Z.cF) none H))->jl K Z vs H Q E
include T fj in
theorem Ai:FF P w K mg base (CXf P w) 2 "check_codes" "check_codes" j9 sZ (jl K Z):=fkF iU fun vs H Q E h=>by
 obtain ⟨l,ls,m,rfl,hL,q1,q2⟩:=h
 k_all
 refine seg 1 (ag (en FL rfl (eT (pv' 0)) (fu rfl (aN (aJ (i:=2) iU.nd rfl orL) (aN (aJ (i:=3) iU.nd rfl orL) dY))) (ae (aM (iJ (eY (cO (dc0 fj hr.dn (pa1 (pv' 2))))) (gw (eY (cO (dc0 fj hr.dn (pa1 (pv' 3))))))).pt (ag (bE T.uy (by rfl) T.ur (pa1 aq))) (aA)) (ag (aM (bU (pv' 2) (pv' 3)) (ag (bE T.uy (by rfl) T.ur (pa1 aq))) (aA)))))) fun zt1 zh1 ze1=>?_
 refine ⟨_,ae (aM (jL (aE az (by rfl) T.bZ bx (pa1 (pv' 0))) (pv' 1)) (ag (bE T.uy (by rfl) T.ur (pa1 aq))) (aA)) zh1,?_⟩
 obtain ⟨as,hS,hlen,hT⟩:=id hL
 k_mem
 refine ⟨_,.inl hS,?_⟩
 rw [WB]
 k_upd
 split
 ·k_upd
  exact ⟨by decide,q2 fun h=>by omega⟩
 ·k_upd
  refine ⟨⟨_,hS⟩,?_⟩
  k_upd
  refine qX (as.map V.ref) (P4 l m ls H) ⟨rfl,⟨_,_,rfl⟩,fun j x h=>absurd h (Nat.not_lt_zero _)⟩ (fun i σ H' _ ⟨e,_⟩=>by rw [e];exact hS) ?_ ?_
  ·rintro i x σ H' hx ⟨rfl,⟨t,u,rfl⟩,hj⟩
   rw [List.getElem?_map] at hx
   obtain ⟨a,ea,rfl⟩:=Option.map_eq_some_iff.mp hx
   have hi:i < as.length:=(List.getElem?_eq_some_iff.mp ea).1
   have el:ls[i]?=some ls[i]:=List.getElem?_eq_getElem (by omega)
   have hm:ls[i]∈ls:=List.getElem_mem _
   k_mem
   refine ⟨_,hT i a _ ea el,rfl,?_⟩
   k_mem
   refine ⟨_,rfl,?_⟩
   k_mem
   split
   ·rename_i h1
    k_upd
    exact ⟨by decide,q2 fun h=>h1 (h.2 _ hm).1⟩
   ·rename_i h1
    k_upd
    refine ⟨_,rfl,?_⟩
    k_mem
    split
    ·rename_i h2
     k_upd
     exact ⟨by decide,q2 fun h=>h2 (h.2 _ hm).2.1⟩
    ·rename_i h2
     k_upd
     split
     ·rename_i h3
      k_upd
      exact ⟨by decide,q2 fun h=>(h.2 _ hm).2.2 h3⟩
     ·rename_i h3
      k_upd
      refine ⟨rfl,⟨_,_,rfl⟩,fun j x hj' hx=>?_⟩
      by_cases e:j=i
      ·rw [e,el] at hx
       cases hx
       k_upd
       exact ⟨by omega,by omega,h3⟩
      ·exact hj j x (by omega) hx
  ·rintro σ H' ⟨rfl,⟨t,u,rfl⟩,hj⟩
   k_mem
   refine q1 ⟨by omega,fun x hx=>?_⟩
   obtain ⟨j,hj1,rfl⟩:=List.getElem_of_mem hx
   exact hj j _ (by rw [WB];omega) (List.getElem?_eq_getElem hj1)
variable (tQ:KD P w K mg base (CXf P w) 2 "check_codes" (jl K Z))
inductive hG (K:WA)(Z:Adr)(vs:List V)(H:Hp)(Q:VK)(E:XK):Prop | mk (b cs fl st:Addr) (ls:List Cd) (fs:List Bool) (e:Eng) (s:Int):vs=[.ref b,.int s]->bO Z.bV K H b cs fl st ls fs e->(((∀l r,e≠.wait l r)->E (.ref Z.aH) none H))->((∀l r,e=.wait l r->¬(1<=s/\s<=9)->E (.ref Z.bC) none H))->((∀l r,e=.wait l r->(1<=s/\s<=9)->∀st' p H',H p=none->aD b H H'->bO Z.bV K H' b cs fl st' ls fs (if s=r then .armed l r else .other l r s)->SqT K H' p [.bl (decide (s=r)),.int r,.int s]->Q (.ref p) H'))->hG K Z vs H Q E
include T fj in
theorem yy:FF P w K mg base (CXf P w) 2 "repeat" "Bells.repeat" iV o6 (hG K Z):=fkF fv fun vs H Q E h=>by
 obtain ⟨b,cs,fl,st,ls,fs,e,s,rfl,hB,q1,q2,q3⟩:=h
 k_all
 refine ⟨_,ae (aM (jL (ai aj (aC (pv' 0)) af) aq) (ag (bE T.AS (by rfl) T.tJ (pa1 aq))) (aA)) (ae (aM (eY (cO (dc0 fj hr.dn (pa1 (pv' 1))))) (ag (bE T.Eo (by rfl) T.zR (pa1 aq))) (aA)) (ae (aF (i:=2) fv.nd rfl orL (ai aj (aC (pv' 0)) af)) (ae (aF (i:=3) fv.nd rfl orL (ai aj (aC (pv' 0)) af)) (ae (aF (i:=4) fv.nd rfl orL (cN gQ (pv' 1) (pv' 3) (cy _))) (ae (cu (pv' 0) (aY (pa4 (Dj (cO (pv' 4)) aq aq) (pv' 2) (pv' 3) (pv' 1))) rfl) (ag (ax (aY (pa3 (pv' 4) (pv' 3) (pv' 1)))))))))),?_⟩
 obtain ⟨⟨dx,hob⟩,⟨as,hcs,hT⟩,hfl,hst,nn,ln⟩:=id hB
 k_mem
 refine fgo hob T.bM T.bR rfl ?_
 k_mem
 cases e with
 | wait l r=>
  refine ⟨_,hst,_,rfl,?_⟩
  k_mem
  refine ⟨_,rfl,?_⟩
  k_mem
  split
  ·rename_i h
   exact ⟨by decide,q2 l r rfl h⟩
  ·rename_i h
   have hs:1<=s/\s<=9:=by simpa using h
   refine fgo hob T.bM T.bR rfl ?_
   k_mem
   refine ⟨_,hst,_,rfl,?_⟩
   k_mem
   refine fgo hob T.bM T.bR rfl ?_
   k_mem
   refine ⟨_,hst,_,rfl,?_⟩
   k_mem
   split
   ·rename_i hr
    refine ⟨by decide,fun st' hst'=>⟨_,_,_,upo hob hst',T.bM,T.bR,by show 3 < 1000;decide,by decide,fun p hp=>?_⟩⟩
    have nsx:st'≠b:=fun z=>by rw [z,hob] at hst';cases hst'
    have hpn:=upn (aD.free (H':=upd (upd H st' (HO.tup [V.str (Str.ofString "armed"),V.int l,V.int r,V.int s])) b (HO.ins Z.bV dx (bG "state" (.ref st') [("codes",V.ref cs),("failed",V.ref fl),("state",V.ref st)]))) (p:=b) ((aD.of (aw.refl _)).put) (fun z=>by rw [z,ah] at hp;cases hp) hp)
    have k:=((aD.of ((aw.refl H).lay (o:=HO.tup [V.str (Str.ofString "armed"),V.int l,V.int r,V.int s]) hst')).put (o:=HO.ins Z.bV dx (bG "state" (.ref st') [("codes",V.ref cs),("failed",V.ref fl),("state",V.ref st)])) (p:=b))
    refine q3 l r rfl hs st' p _ hpn (k.trans (aD.of ((aw.refl _).lay hp))) ?_ (SqT.of ?_)
    ·refine (hB.state k (dx:=dx) (by rw [ah];rfl) (SqT.of (xs:=mm (if s=r then .armed l r else .other l r s)) ?_)).same ((aw.refl _).lay hp)
     rw [aL nsx,ah,if_pos hr,hr];rfl
    ·rw [ah]
   ·rename_i hr
    refine ⟨by decide,fun st' hst'=>⟨_,_,_,upo hob hst',T.bM,T.bR,by show 3 < 1000;decide,by decide,fun p hp=>?_⟩⟩
    have nsx:st'≠b:=fun z=>by rw [z,hob] at hst';cases hst'
    have hpn:=upn (aD.free (H':=upd (upd H st' (HO.tup [V.str (Str.ofString "repeated otherwise"),V.int l,V.int r,V.int s])) b (HO.ins Z.bV dx (bG "state" (.ref st') [("codes",V.ref cs),("failed",V.ref fl),("state",V.ref st)]))) (p:=b) ((aD.of (aw.refl _)).put) (fun z=>by rw [z,ah] at hp;cases hp) hp)
    have k:=((aD.of ((aw.refl H).lay (o:=HO.tup [V.str (Str.ofString "repeated otherwise"),V.int l,V.int r,V.int s]) hst')).put (o:=HO.ins Z.bV dx (bG "state" (.ref st') [("codes",V.ref cs),("failed",V.ref fl),("state",V.ref st)])) (p:=b))
    refine q3 l r rfl hs st' p _ hpn (k.trans (aD.of ((aw.refl _).lay hp))) ?_ (SqT.of ?_)
    ·refine (hB.state k (dx:=dx) (by rw [ah];rfl) (SqT.of (xs:=mm (if s=r then .armed l r else .other l r s)) ?_)).same ((aw.refl _).lay hp)
     rw [aL nsx,ah,if_neg hr];rfl
    ·rw [ah]
 | _=>
  refine ⟨_,hst,_,rfl,?_⟩
  k_mem
  first
  | rw [if_pos (by decide)]
  | skip
  exact ⟨by decide,q1 fun l r z=>Eng.noConfusion z⟩
variable (qM:KM P w K mg base (CXf P w) 2 Z.bV "repeat" (hG K Z))
inductive jm (K:WA)(Z:Adr)(vs:List V)(H:Hp)(Q:VK)(E:XK):Prop | mk (a:Addr) (ds:List Int) (p:Int):vs=[.ref a,.int p]->SqL K H a (ds.map V.int)->0 < ds.length->Q (.int (cG ds - p)) H->jm K Z vs H Q E
include T vW in
theorem Aj:FF P w K mg base CX0 2 "other_place" "other_place" ka td (jm K Z):=fk0 zw fun vs H Q E h=>by
 obtain ⟨a,ds,p,rfl,hS,hl,q⟩:=h
 k_all
 refine ⟨_,ag (ax (bc dS (dc0 vW hr.dn (pa1 (pv' 0))) (pv' 1))),?_⟩
 k_mem
 refine ⟨a,ds,rfl,hS,hl,?_⟩
 k_mem
 exact q
variable (eI:KD P w K mg base CX0 2 "other_place" (jm K Z))
inductive kH (K:WA)(Z:Adr)(vs:List V)(H:Hp)(Q:VK)(E:XK):Prop | mk (bk rl dd s:Addr) (g:Cfg) (n0 n:bh) (rs:List Row) (tk sp:Int) (dv:List V):vs=[.ref bk,.ref dd,.int tk,.int sp,.ref s]->BAt (clZ Z) K H bk rl g n0 rs->SqT K H dd dv->eK (clZ Z) K H rl g s n->((300<=rs.length->E (.ref Z.aT) none H))->((rs.length < 300->∀H',aD rl H H'->BAt (clZ Z) K H' bk rl g n0 (rs++[⟨dw rs,dw rs+tk,dv,sp,n⟩])->Q .non H'))->kH K Z vs H Q E
include T n8 in
theorem A7:FF P w K mg base (CXf P w) 2 "write" "Book.write" mI vn (kH K Z):=fkF tF fun vs H Q E h=>by
 obtain ⟨bk,rl,dd,s0,g,n0,n,rs,tk,sp,dv,rfl,hB,hD,hS,q1,q2⟩:=h
 k_all
 refine seg 2 (ag (bN (sS PySem.F.plainAttrs_list PySem.F.slot_list_append PySem.F.type_list_append eS (aC (pv' 0)) (pa1 (aY (cq (pv' 5) (pa4 (bc bD (pv' 5) (pv' 2)) (pv' 1) (pv' 3) (pv' 4)))))))) fun zt2 zh2 ze2=>?_
 refine seg 1 (ae (aF (i:=5) tF.nd rfl orL (dQ (pv' 0) n8 hr.dn bB)) zh2) fun zt1 zh1 ze1=>?_
 refine ⟨_,ae (aM (xK (aE az (by rfl) T.bZ bx (pa1 (aC (pv' 0)))) (aC (pv' 0))) (ag (bE T.GD (by rfl) T.zT (pa1 aq))) (aA)) zh1,?_⟩
 obtain ⟨⟨dx,f0,hob,hF⟩,as,hrl,hR⟩:=id hB
 have hl:=hR.1
 k_mem
 refine fgo hob T.dW T.cB rfl ?_
 k_mem
 refine ⟨_,.inl (SqL.of hrl),_,_,_,hob,T.dW,T.vH,_,rfl,?_⟩
 k_mem
 rw [WB]
 k_upd
 split
 ·k_upd
  exact ⟨by decide,q1 (by omega)⟩
 ·rename_i hlt
  k_upd
  refine mgo hob rfl ⟨_,_,_,_,_,rfl,hB,?_⟩
  k_mem
  refine fgo hob T.dW T.cB rfl ?_
  k_mem
  refine ⟨.inl ⟨rfl,_,SqL.of hrl⟩,by decide,fun p hp=>⟨_,upo hrl hp,dE (by rw [WB];omega),?_⟩⟩
  have s1:=(aw.refl H).lay (o:=HO.tup [V.int (dw rs),V.int (dw rs+tk),V.ref dd,V.int sp,V.ref s0]) hp
  have hrl1:=upo (o:=HO.tup [V.int (dw rs),V.int (dw rs+tk),V.ref dd,V.int sp,V.ref s0]) hrl hp
  have k1:L2.aD rl H (upd (upd H p (HO.tup [V.int (dw rs),V.int (dw rs+tk),V.ref dd,V.int sp,V.ref s0])) rl (HO.lst (as.map V.ref++[V.ref p]))):=(aD.of s1).put
  refine q2 (by omega) _ k1 ⟨⟨dx,f0,k1 _ _ (fun z=>by rw [z,hrl] at hob;cases hob) hob,hF.keep k1 hrl⟩,as++[p],by rw [ah,List.map_append];rfl,?_⟩
  exact (hR.keep k1 hrl).push ⟨dd,s0,(SqT.of ah).rew hrl1,hD.keep k1 hrl,hS.keep k1 hrl⟩
variable (v5:KM P w K mg base (CXf P w) 2 Z.rA "write" (kH K Z))
inductive fH (K:WA)(Z:Adr)(vs:List V)(H:Hp)(Q:VK)(E:XK):Prop | mk (w bk rl:Addr) (g:Cfg) (n0:bh) (rs:List Row):vs=[.ref w]->WAt (clZ Z) K H w bk rl g n0 rs->((rs=[]->E (.ref Z.aI) none H))->((∀rs' r,rs=rs'++[r]->∀p H',aD rl H H'->WAt (clZ Z) K H' w bk rl g n0 rs'->SqT K H' p r.deed->Q (.ref p) H'))->fH K Z vs H Q E
include T tO in
theorem uI:FF P w K mg base (CXf P w) 2 "take_back" "Works.take_back" gf jR (fH K Z):=fkF uh fun vs H Q E h=>by
 obtain ⟨w,bk,rl,g,n0,rs,rfl,hW,q1,q2⟩:=h
 k_all
 refine ⟨_,ag (ax (dQ (aC (pv' 0)) tO hr.dn cj)),?_⟩
 obtain ⟨⟨dx,dl,gl,hob,hdl,hgl,n1,n2⟩,hB⟩:=id hW
 obtain ⟨⟨db,f0,hbo,hF⟩,as,hrl,hR⟩:=id hB
 k_mem
 refine fgo hob T.bu T.br rfl ?_
 k_mem
 exact mgo hbo rfl ⟨_,_,_,_,_,rfl,hB,q1,fun rs2 r e p H' k hB2 hp=>q2 rs2 r e p H' k (hW.keep k hrl hB2) hp⟩
variable (jV:KM P w K mg base (CXf P w) 2 Z.bF "take_back" (fH K Z))
inductive ff (K:WA)(Z:Adr)(vs:List V)(H:Hp)(Q:VK)(E:XK):Prop | mk (w bk rl:Addr) (g:Cfg) (n0:bh) (rs:List Row) (s:Addr) (n:bh):vs=[.ref w,.ref s]->WAt (clZ Z) K H w bk rl g n0 rs->eK (clZ Z) K H rl g s n->g.ks.length=n.ws.length->(∀H',aw H H'->Q (.int (fT g n)) H')->ff K Z vs H Q E
include T jU in
theorem sR:FF P w K mg base CX0 2 "speed_with" "Works.speed_with" fD iS (ff K Z):=fk0 rz fun vs H Q E h=>by
 obtain ⟨w,bk,rl,g,n0,rs,s0,n,rfl,hW,hS,hl,q⟩:=h
 k_all
 refine ⟨_,ag (ax (Dj (cO (dQ (aC (pv' 1)) jU hr.dn bB)) (aC (pv' 0)) (aC (pv' 0)))),?_⟩
 obtain ⟨⟨dx,dl,gl,hob,hdl,hgl,n1,n2⟩,hB⟩:=id hW
 obtain ⟨⟨db,f0,hbo,hF⟩,as,hrl,hR⟩:=id hB
 k_mem
 obtain ⟨A,hA⟩:=id hS
 k_upd
 refine fgo hA.ob T.aQ T.bT rfl ?_
 k_mem
 obtain ⟨dy,hyb⟩:=hA.ya.ob
 k_upd
 refine ⟨_,_,hyb,rfl,_,_,_,_,_,_,rfl,hA.ya,hl,fun H' s1=>?_⟩
 k_mem
 have q':=q H' s1
 unfold fT at q'
 k_upd
 split
 ·rename_i h
  k_upd
  rw [if_pos h] at q'
  k_upd
  exact fgo (s1 _ _ hob) T.bu T.tM rfl q'
 ·rename_i h
  k_upd
  rw [if_neg h] at q'
  k_upd
  exact fgo (s1 _ _ hob) T.bu T.tN rfl q'
variable (eA:KM P w K mg base CX0 2 Z.bF "speed_with" (ff K Z))
inductive dD (K:WA)(Z:Adr)(vs:List V)(H:Hp)(Q:VK)(E:XK):Prop | mk (w bk rl:Addr) (g:Cfg) (n0:bh) (rs:List Row) (lv:Int):vs=[.ref w,.int lv]->WAt (clZ Z) K H w bk rl g n0 rs->0<=lv->lv < (ao n0 rs).gates.length->(((ao n0 rs).gates.getD lv.toNat false=true->Q .non H))->(((ao n0 rs).gates.getD lv.toNat false=false->E (.ref Z.aX) none H))->dD K Z vs H Q E
include T aK in
theorem jG:FF P w K mg base (CXf P w) 2 "refuse_shut_gate" "Works.refuse_shut_gate" dR fh (dD K Z):=fkF jw fun vs H Q E h=>by
 obtain ⟨w,bk,rl,g,n0,rs,lv,rfl,hW,h0,h1,q1,q2⟩:=h
 k_all
 refine ⟨_,ag (aM (eY (cO (ai au (aC (dQ (aC (pv' 0)) aK hr.dn bB)) (pv' 1)))) (ag (bE T.GH (by rfl) T.zV (pa1 aq))) (aA)),?_⟩
 obtain ⟨⟨dx,dl,gl,hob,hdl,hgl,n1,n2⟩,hB⟩:=id hW
 obtain ⟨⟨db,f0,hbo,hF⟩,as,hrl,hR⟩:=id hB
 k_mem
 refine fgo hob T.bu T.br rfl ?_
 k_mem
 refine mgo hbo rfl ⟨_,_,_,_,_,rfl,hB,fun s0 ⟨A,hA⟩=>?_⟩
 k_mem
 refine fgo hA.ob T.aQ T.cC rfl ?_
 k_mem
 refine ⟨_,SqL.of hA.go,_,fB h0 h1,?_⟩
 k_mem
 split
 ·rename_i h
  k_upd
  exact ⟨by decide,q2 (by simpa using h)⟩
 ·rename_i h
  k_upd
  exact q1 (by simpa using h)
variable (cR:KM P w K mg base (CXf P w) 2 Z.bF "refuse_shut_gate" (dD K Z))
inductive oa (K:WA)(Z:Adr)(vs:List V)(H:Hp)(Q:VK)(E:XK):Prop | mk (w bk rl:Addr) (g:Cfg) (n0:bh) (rs:List Row):vs=[.ref w]->WAt (clZ Z) K H w bk rl g n0 rs->Q (.int (dw rs)) H->oa K Z vs H Q E
include T n8 in
theorem CT:FF P w K mg base CX0 2 "now" "Works.now" pD xS (oa K Z):=fk0 Cy fun vs H Q E h=>by
 obtain ⟨w,bk,rl,g,n0,rs,rfl,hW,q⟩:=h
 k_all
 refine ⟨_,ag (ax (dQ (aC (pv' 0)) n8 hr.dn bB)),?_⟩
 obtain ⟨⟨dx,dl,gl,hob,hdl,hgl,n1,n2⟩,hB⟩:=id hW
 obtain ⟨⟨db,f0,hbo,hF⟩,as,hrl,hR⟩:=id hB
 k_mem
 refine fgo hob T.bu T.br rfl ?_
 k_mem
 exact mgo hbo rfl ⟨_,_,_,_,_,rfl,hB,q⟩
variable (jW:KM P w K mg base CX0 2 Z.bF "now" (oa K Z))
inductive kI (K:WA)(Z:Adr)(vs:List V)(H:Hp)(Q:VK)(E:XK):Prop | mk (w bk rl:Addr) (g:Cfg) (n0:bh) (rs:List Row):vs=[.ref w]->WAt (clZ Z) K H w bk rl g n0 rs->rs.length<=1000->(∀(p:Addr) (as:List Addr) (H':Hp),H p=none->aw H H'->H' p=some (.lst (as.map V.ref))->dC K H' as rs->Q (.ref p) H')->kI K Z vs H Q E
include T yb in
theorem A8:FF P w K mg base CX0 2 "book" "Works.book" mP vw (kI K Z):=fk0 AM fun vs H Q E h=>by
 obtain ⟨w,bk,rl,g,n0,rs,rfl,hW,hn,q⟩:=h
 k_all
 refine ⟨_,ag (ax (dQ (aC (pv' 0)) yb hr.dn bB)),?_⟩
 obtain ⟨⟨dx,dl,gl,hob,hdl,hgl,n1,n2⟩,hB⟩:=id hW
 obtain ⟨⟨db,f0,hbo,hF⟩,as,hrl,hR⟩:=id hB
 k_mem
 refine fgo hob T.bu T.br rfl ?_
 k_mem
 exact mgo hbo rfl ⟨_,_,_,_,_,rfl,hB,hn,q⟩
variable (v7:KM P w K mg base CX0 2 Z.bF "book" (kI K Z))
inductive hJ (K:WA)(Z:Adr)(vs:List V)(H:Hp)(Q:VK)(E:XK):Prop | mk (w bk rl:Addr) (g:Cfg) (n0:bh) (rs:List Row):vs=[.ref w]->WAt (clZ Z) K H w bk rl g n0 rs->(∀st,SqT K H st (mm (ao n0 rs).e)->Q (.ref st) H)->hJ K Z vs H Q E
include T qG aK in
theorem yz:FF P w K mg base CX0 2 "engine" "Works.engine" i5 pf (hJ K Z):=fk0 yq fun vs H Q E h=>by
 obtain ⟨w,bk,rl,g,n0,rs,rfl,hW,q⟩:=h
 k_all
 refine ⟨_,ag (ax (dQ (aC (dQ (aC (pv' 0)) aK hr.dn bB)) qG hr.dn bB)),?_⟩
 obtain ⟨⟨dx,dl,gl,hob,hdl,hgl,n1,n2⟩,hB⟩:=id hW
 obtain ⟨⟨db,f0,hbo,hF⟩,as,hrl,hR⟩:=id hB
 k_mem
 refine fgo hob T.bu T.br rfl ?_
 k_mem
 refine mgo hbo rfl ⟨_,_,_,_,_,rfl,hB,fun s0 ⟨A,hA⟩=>?_⟩
 k_mem
 refine fgo hA.ob T.aQ T.cw rfl ?_
 k_mem
 obtain ⟨db2,hbb⟩:=hA.be.ob
 k_upd
 exact mgo hbb rfl ⟨_,_,_,_,_,_,_,rfl,hA.be,q _ hA.be.os⟩
variable (qN:KM P w K mg base CX0 2 Z.bF "engine" (hJ K Z))
inductive kJ (K:WA)(Z:Adr)(vs:List V)(H:Hp)(Q:VK)(E:XK):Prop | mk (w bk rl:Addr) (g:Cfg) (n0:bh) (rs:List Row):vs=[.ref w]->WAt (clZ Z) K H w bk rl g n0 rs->(ao n0 rs).fs.length<=1000->(∀p H',H p=none->aw H H'->H' p=some (.lst ((dj (ao n0 rs).fs).map V.int))->Q (.ref p) H')->kJ K Z vs H Q E
include T vV aK in
theorem A9:FF P w K mg base CX0 2 "dead" "Works.dead" mQ vx (kJ K Z):=fk0 AN fun vs H Q E h=>by
 obtain ⟨w,bk,rl,g,n0,rs,rfl,hW,hn,q⟩:=h
 k_all
 refine ⟨_,ag (ax (dQ (aC (dQ (aC (pv' 0)) aK hr.dn bB)) vV hr.dn bB)),?_⟩
 obtain ⟨⟨dx,dl,gl,hob,hdl,hgl,n1,n2⟩,hB⟩:=id hW
 obtain ⟨⟨db,f0,hbo,hF⟩,as,hrl,hR⟩:=id hB
 k_mem
 refine fgo hob T.bu T.br rfl ?_
 k_mem
 refine mgo hbo rfl ⟨_,_,_,_,_,rfl,hB,fun s0 ⟨A,hA⟩=>?_⟩
 k_mem
 refine fgo hA.ob T.aQ T.cw rfl ?_
 k_mem
 obtain ⟨db2,hbb⟩:=hA.be.ob
 k_upd
 exact mgo hbb rfl ⟨_,_,_,_,_,_,_,rfl,hA.be,hn,q⟩
variable (v8:KM P w K mg base CX0 2 Z.bF "dead" (kJ K Z))
inductive jn (K:WA)(Z:Adr)(vs:List V)(H:Hp)(Q:VK)(E:XK):Prop | mk (w bk rl:Addr) (g:Cfg) (n0:bh) (rs:List Row):vs=[.ref w]->WAt (clZ Z) K H w bk rl g n0 rs->(∀p,H p=none->Q (.ref p) (upd H p (.lst ((ao n0 rs).gates.map V.bl))))->jn K Z vs H Q E
include T aK in
theorem Ak:FF P w K mg base CX0 2 "gates" "Works.gates" kl tw (jn K Z):=fk0 zC fun vs H Q E h=>by
 obtain ⟨w,bk,rl,g,n0,rs,rfl,hW,q⟩:=h
 k_all
 refine ⟨_,ag (ax (bw bH (by rfl) T.eU dH (pa1 (aC (dQ (aC (pv' 0)) aK hr.dn bB))))),?_⟩
 obtain ⟨⟨dx,dl,gl,hob,hdl,hgl,n1,n2⟩,hB⟩:=id hW
 obtain ⟨⟨db,f0,hbo,hF⟩,as,hrl,hR⟩:=id hB
 k_mem
 refine fgo hob T.bu T.br rfl ?_
 k_mem
 refine mgo hbo rfl ⟨_,_,_,_,_,rfl,hB,fun s0 ⟨A,hA⟩=>?_⟩
 k_mem
 refine fgo hA.ob T.aQ T.cC rfl ?_
 k_mem
 exact ⟨_,.inl (SqL.of hA.go),q⟩
variable (tR:KM P w K mg base CX0 2 Z.bF "gates" (jn K Z))
inductive jo (K:WA)(Z:Adr)(vs:List V)(H:Hp)(Q:VK)(E:XK):Prop | mk (w bk rl:Addr) (g:Cfg) (n0:bh) (rs:List Row):vs=[.ref w]->WAt (clZ Z) K H w bk rl g n0 rs->(∀p,H p=none->Q (.ref p) (upd H p (.lst ((ao n0 rs).ws.map V.int))))->jo K Z vs H Q E
include T iC aK in
theorem Al:FF P w K mg base CX0 2 "spots" "Works.spots" ko tD (jo K Z):=fk0 zE fun vs H Q E h=>by
 obtain ⟨w,bk,rl,g,n0,rs,rfl,hW,q⟩:=h
 k_all
 refine ⟨_,ag (ax (dQ (aC (dQ (aC (pv' 0)) aK hr.dn bB)) iC hr.dn bB)),?_⟩
 obtain ⟨⟨dx,dl,gl,hob,hdl,hgl,n1,n2⟩,hB⟩:=id hW
 obtain ⟨⟨db,f0,hbo,hF⟩,as,hrl,hR⟩:=id hB
 k_mem
 refine fgo hob T.bu T.br rfl ?_
 k_mem
 refine mgo hbo rfl ⟨_,_,_,_,_,rfl,hB,fun s0 ⟨A,hA⟩=>?_⟩
 k_mem
 refine fgo hA.ob T.aQ T.bT rfl ?_
 k_mem
 obtain ⟨dy,hyb⟩:=hA.ya.ob
 k_upd
 exact ⟨_,_,hyb,rfl,_,_,_,_,_,_,rfl,hA.ya,q⟩
variable (tS:KM P w K mg base CX0 2 Z.bF "spots" (jo K Z))
inductive gE (K:WA)(Z:Adr)(vs:List V)(H:Hp)(Q:VK)(E:XK):Prop | mk (w bk rl:Addr) (g:Cfg) (n0:bh) (rs:List Row) (c:Int):vs=[.ref w,.int c]->WAt (clZ Z) K H w bk rl g n0 rs->0<=c->c < 2->(∀H',aw H H'->Q (inC (ao n0 rs).ws c) H')->gE K Z vs H Q E
include T cS aK in
theorem xx:FF P w K mg base CX0 2 "in_cage" "Works.in_cage" gY ox (gE K Z):=fk0 xf fun vs H Q E h=>by
 obtain ⟨w,bk,rl,g,n0,rs,c,rfl,hW,h0,h1,q⟩:=h
 k_all
 refine ⟨_,ag (ax (dm' (aC (dQ (aC (pv' 0)) aK hr.dn bB)) cS hr.dn bB (pa1 (pv' 1)))),?_⟩
 obtain ⟨⟨dx,dl,gl,hob,hdl,hgl,n1,n2⟩,hB⟩:=id hW
 obtain ⟨⟨db,f0,hbo,hF⟩,as,hrl,hR⟩:=id hB
 k_mem
 refine fgo hob T.bu T.br rfl ?_
 k_mem
 refine mgo hbo rfl ⟨_,_,_,_,_,rfl,hB,fun s0 ⟨A,hA⟩=>?_⟩
 k_mem
 refine fgo hA.ob T.aQ T.bT rfl ?_
 k_mem
 obtain ⟨dy,hyb⟩:=hA.ya.ob
 k_upd
 exact ⟨_,_,hyb,rfl,_,_,_,_,_,_,_,rfl,hA.ya,h0,h1,q⟩
variable (hV:KM P w K mg base CX0 2 Z.bF "in_cage" (gE K Z))
def I8 (c r0 sh:Int)(l:Addr)(H:Hp)(i:Nat)(σ:St)(H':Hp):Prop:=∃(ds:List Int) (last:Int) (t u:Option V),σ=[some (.int c),some (.int (2+r0)),some (.int sh),none,some (.ref l),some (.int last),t,u]/\mj ds last/\last<=500 - (2+r0)+i/\ds.length=i/\H'=upd H l (.lst (ds.map V.int))
inductive qO (K:WA)(Z:Adr)(vs:List V)(H:Hp)(Q:VK)(E:XK):Prop | mk (c:Int):vs=[.int c]->(∀(l:Addr) (ds:List Int) (H':Hp),H l=none->aw H H'->H' l=some (.lst (ds.map V.int))->cD ds->Q (.ref l) H')->qO K Z vs H Q E
include T cA in
theorem ER:FF P w K mg base CX0 2 "_law_depths" "_law_depths" uj zq (qO K Z):=fk0 dk fun vs H Q E h=>by
 obtain ⟨c,rfl,q⟩:=h
 k_all
 refine ⟨_,ae (aF (i:=1) dk.nd rfl orL (bc bD af (dc0 cA hr.dn (pa3 (pv' 0) af af)))) (ae (aF (i:=2) dk.nd rfl orL (dc0 cA hr.dn (pa3 (pv' 0) af af))) (ae (aM (bU (pv' 2) af) (ae (aF (i:=3) dk.nd rfl (Or.inr rfl) (bc bD af (dc0 cA hr.dn (pa3 (pv' 0) af af)))) (ag (ax (oq ["_law_k","_law_gap"] [none,some 3] (bP (by rfl) T.cQ (pa1 (pv' 1))) (fun _ _ _ _=>(aJ (i:=0) (show (["_law_k","_law_gap"]:List Str).Nodup by decide +kernel) rfl orL)) (fun _ _ _ _=>gH) (fun _ _ _ _=>(bc yI (pv' 1) (pv' 0))))))) (aA)) (ae (aF (i:=4) dk.nd rfl orL (bj iK)) (ae (aF (i:=5) dk.nd rfl orL (eQ cL af)) (ae (en PassesOwn.never rfl (bP (by rfl) T.cQ (pa1 (pv' 1))) (aJ (i:=6) dk.nd rfl orL) (ae (aF (i:=7) dk.nd rfl orL (bc dS (bc bD (bc dS af (pv' 1)) (pv' 6)) (pv' 5))) (ae (aM (bU (pv' 2) af) (ag (aF (i:=7) dk.nd rfl orL (aE (tZ rfl) (by rfl) T.K7 FH (pa2 (pv' 7) af)))) (aA)) (ae (aF (i:=5) dk.nd rfl orL (bc bD (bc bD (pv' 5) af) (dc0 cA hr.dn (pa3 (pv' 0) (bc bD af (pv' 6)) (pv' 7))))) (ag (bN (sS PySem.F.plainAttrs_list PySem.F.slot_list_append PySem.F.type_list_append eS (pv' 4) (pa1 (pv' 5))))))))) (ae (aM (tW (bU (pv' 2) af) (me (bU (dc0 cA hr.dn (pa3 (pv' 0) af af)) af))).pt (ag (ax (bc ft (bc ft (bj (pa1 af)) (yU K0 (pv' 4) (vc af) (vc (eQ cL af)))) (bj (pa1 af))))) (aA)) (ag (ax (pv' 4))))))))),?_⟩
 k_mem
 refine ⟨c,0,5,rfl,by omega,by omega,by omega,fun r0 h0 h0'=>?_⟩
 k_mem
 refine ⟨c,1,4,rfl,by omega,by omega,by omega,fun sh h1 h1'=>?_⟩
 k_mem
 split
 ·refine ⟨c,2,100,rfl,by omega,by omega,by omega,fun r2 h2 h2'=>?_⟩
  k_mem
  refine ⟨by omega,by omega,Cc (fun i=>V.int ((1+r2) * (i:Int))) (Nat.le_trans (by omega:(2+r0).toNat<=1000) (by decide)) rfl (fun i hi N q=>?_) (fun p hp=>?_)⟩
  ·k_mem
   rw [Int.zero_add]
   exact ⟨.inl ⟨by omega,by omega⟩,q⟩
  ·refine q p ((List.range (2+r0).toNat).map fun (i:Nat)=>(1+r2) * (i:Int)) _ hp (fun b o e=>?_) ?_ (cD.even (by omega) (by omega) (by omega) (by omega))
   ·rw [aL (av e hp)];exact e
   ·rw [ah,List.map_map];rfl
 ·refine ⟨by decide,fun l hln=>⟨by omega,by omega,cI (I8 c r0 sh l H) ⟨[],-1,_,_,rfl,mj.nil,by omega,rfl,rfl⟩ ?_ ?_⟩⟩
  ·rintro i σ H' hi ⟨ds,last,t,u,rfl,hR,hla,hlen,rfl⟩
   have l0:=hR.l0
   k_mem
   split
   all_goals
    refine ⟨c,_,_,rfl,by omega,by omega,by (try split)<;>omega,fun r hr0 hr1=>?_⟩
    k_mem
    refine ⟨.inl ⟨rfl,_,SqL.of ah⟩,_,ah,dE (by rw [WB];omega),ds++[last+1+r],last+1+r,_,_,rfl,hR.snoc hr0,?_,by rw [List.length_append,hlen];rfl,?_⟩
    ·(try split at hr1)<;>omega
    ·rw [Lj,List.map_append];rfl
  ·rintro σ H' ⟨ds,last,t,u,rfl,hR,hla,hlen,rfl⟩
   have hsh:=hR.shaft (by omega) (by omega) (by omega)
   have hQ0:Q (V.ref l) (upd H l (HO.lst (List.map V.int ds))):=q l ds _ hln ((aw.refl H).lay hln) ah hsh
   k_mem
   split
   ·refine ⟨c,8,4,rfl,by omega,by omega,by omega,fun r hr0 hr1=>?_⟩
    k_mem
    split
    ·refine ⟨by decide,fun p1 hp1=>⟨_,SqL.of (upo ah hp1),fun p2 hp2=>⟨_,upo ah hp2,_,ah,?_,fun p3 hp3=>⟨by decide,fun p4 hp4=>⟨_,upo ah hp4,_,ah,?_,fun p5 hp5=>?_⟩⟩⟩⟩⟩
     ·have:=jH (List.map V.int ds) (some 1) (some (-1))
      rw [WB] at this
      exact Nat.le_of_lt (dE (by rw [List.length_singleton];omega))
     ·have:=jH (List.map V.int ds) (some 1) (some (-1))
      rw [WB] at this
      exact Nat.le_of_lt (dE (by rw [List.length_append,List.length_singleton,List.length_singleton];omega))
     ·refine q p5 ([0]++(ds.drop 1).take (ds.length - 1 - 1)++[500]) _ (upn (upn (upn (upn (upn hp5))))) ((((((aw.refl H).lay hln).lay hp1).lay hp2).lay hp3).lay hp4 |>.lay hp5) ?_ hsh.ends
      rw [ah,JR ds hsh.l2,List.map_append,List.map_append]
      rfl
    ·exact hQ0
   ·exact hQ0
variable (Am:KD P w K mg base CX0 2 "_law_depths" (qO K Z))
def Lf (K:WA)(c m:Int)(l:Addr)(H:Hp)(i:Nat)(σ:St)(H':Hp):Prop:=aw H H'/\∃(as:List Addr) (ls:List Cd) (t u:Option V),σ=[some (.int c),some (.int m),some (.ref l),t,u]/\H' l=some (.lst (as.map V.ref))/\cV cdV K H' as ls/\ls.length=i/\∀x∈ls,eZ x
inductive uJ (K:WA)(Z:Adr)(vs:List V)(H:Hp)(Q:VK)(E:XK):Prop | mk (c m:Int):vs=[.int c,.int m]->0<=m->m<=500->(∀(l:Addr) (as:List Addr) (ls:List Cd) (H':Hp),H l=none->aw H H'->H' l=some (.lst (as.map V.ref))->cV cdV K H' as ls->(ls.length:Int)=m->(∀x∈ls,eZ x)->Q (.ref l) H')->uJ K Z vs H Q E
include T cA in
theorem GP:FF P w K mg base CX0 2 "_law_codes" "_law_codes" xi BF (uJ K Z):=fk0 mR fun vs H Q E h=>by
 obtain ⟨c,m,rfl,h0,h1,q⟩:=h
 k_all
 refine ⟨_,ae (aF (i:=2) mR.nd rfl orL (bj iK)) (ae (en PassesOwn.never rfl (bP (by rfl) T.cQ (pa1 (pv' 1))) (aJ (i:=3) mR.nd rfl orL) (ae (aF (i:=4) mR.nd rfl orL (bc bD af (dc0 cA hr.dn (pa3 (pv' 0) (oX af (pv' 3)) af)))) (ag (bN (sS PySem.F.plainAttrs_list PySem.F.slot_list_append PySem.F.type_list_append eS (pv' 2) (pa1 (aY (pa2 (pv' 4) (bc bD af (cb (bc bD (pv' 4) (dc0 cA hr.dn (pa3 (pv' 0) (bc bD (oX af (pv' 3)) af) af))) af)))))))))) (ag (ax (pv' 2)))),?_⟩
 k_mem
 refine ⟨by decide,fun l hl=>⟨by omega,by omega,?_⟩⟩
 refine cI (Lf K c m l H) ⟨(aw.refl H).lay hl,[],[],_,_,rfl,ah,cV.nil,rfl,fun x hx=>by cases hx⟩ ?_ ?_
 ·rintro i σ H' hi ⟨s1,as,ls,t,u,rfl,hl',hT,hlen,hg⟩
  k_mem
  refine ⟨c,2 * (0 + ↑i),9,rfl,by omega,by omega,by omega,fun r1 h2 h3=>?_⟩
  k_mem
  refine ⟨.inl ⟨rfl,_,SqL.of hl'⟩,c,2 * (0 + ↑i)+1,8,rfl,by omega,by omega,by omega,fun r2 h4 h5=>?_⟩
  k_mem
  refine ⟨by decide,fun p2 hp2=>⟨_,upo hl' hp2,dE (by rw [WB,hT.1];omega),?_⟩⟩
  have hl2:=upo (o:=HO.tup [V.int (1+r1),V.int (1+(1+r1+r2) % 9)]) hl' hp2
  refine ⟨(s1.lay hp2).rewr hl,as++[p2],ls++[(1+r1,1+(1+r1+r2) % 9)],_,_,rfl,?_,?_,by rw [List.length_append,hlen];rfl,?_⟩
  ·rw [ah,List.map_append];rfl
  ·exact ((hT.same ((aw.refl H').lay hp2)).app (cV.one (SqT.of ah))).rew hl2
  ·intro x hx
   rcases List.mem_append.mp hx with hx | hx
   ·exact hg x hx
   ·rw [List.mem_singleton] at hx
    subst hx
    refine ⟨⟨?_,?_⟩,⟨?_,?_⟩,?_⟩
    ·show 1<=1+r1;omega
    ·show 1+r1<=9;omega
    ·show 1<=1+(1+r1+r2) % 9;omega
    ·show 1+(1+r1+r2) % 9<=9;omega
    ·show 1+r1≠1+(1+r1+r2) % 9;omega
 ·rintro σ H' ⟨s1,as,ls,t,u,rfl,hl',hT,hlen,hg⟩
  k_mem
  exact q l as ls H' hl s1 hl' hT (by omega) hg
variable (B0:KD P w K mg base CX0 2 "_law_codes" (uJ K Z))
def Lg (K:WA)(c m mo:Int)(cn:V)(l:Addr)(H:Hp)(i:Nat)(σ:St)(H':Hp):Prop:=aw H H'/\∃(as:List Addr) (ls:List Ld) (t u:Option V),σ=[some (.int c),some (.int m),some (.int mo),some (.ref l),some cn,t,u]/\H' l=some (.lst (as.map V.ref))/\ju K H' as ls/\ls.length=i/\(∀x∈ls,j0 m x/\FO x)
theorem two_of {r2 r1 mo:Int}(h0:0<=r1)(h1:r1 < mo+1):∃n:Int,atI [V.int r1,V.int mo] (if decide (r2=3)=true then 1 else 0)=some (V.int n)/\0<=n/\n<=mo:=by
 split
 ·exact ⟨mo,rfl,by omega,by omega⟩
 ·exact ⟨r1,rfl,by omega,by omega⟩
inductive uK (K:WA)(Z:Adr)(vs:List V)(H:Hp)(Q:VK)(E:XK):Prop | mk (c m mo:Int):vs=[.int c,.int m,.int mo]->0 < m->0<=mo->mo<=500->(∀(l:Addr) (as:List Addr) (ls:List Ld) (H':Hp),H l=none->aw H H'->H' l=some (.lst (as.map V.ref))->ju K H' as ls->(ls.length:Int)<=mo->(∀x∈ls,j0 m x/\FO x)->Q (.ref l) H')->uK K Z vs H Q E
include T cA in
theorem GQ:FF P w K mg base CX0 2 "_law_loads" "_law_loads" xj BG (uK K Z):=fk0 i6 fun vs H Q E h=>by
 obtain ⟨c,m,mo,rfl,hm,h0,h1,q⟩:=h
 k_all
 refine seg 3 (ag (ax (pv' 3))) fun zt3 zh3 ze3=>?_
 refine seg 2 (ae (en PassesOwn.never rfl (bP (by rfl) T.cQ (pa1 (pv' 4))) (aJ (i:=5) i6.nd rfl orL) (ae (aF (i:=6) i6.nd rfl orL (ai au (bj (pa2 aq aq)) (dc0 cA hr.dn (pa3 (pv' 0) (bc bD (oX af (pv' 5)) af) af)))) (ag (bN (sS PySem.F.plainAttrs_list PySem.F.slot_list_append PySem.F.type_list_append eS (pv' 3) (pa1 (aY (pa3 (pv' 6) (dc0 cA hr.dn (pa3 (pv' 0) (bc bD (oX af (pv' 5)) af) (pv' 1))) (dc0 cA hr.dn (pa3 (pv' 0) (bc bD (oX af (pv' 5)) af) (pv' 1))))))))))) zh3) fun zt2 zh2 ze2=>?_
 refine seg 1 (ae (aF (i:=4) i6.nd rfl orL (ai au (bj (pa2 (dc0 cA hr.dn (pa3 (pv' 0) af (bc bD (pv' 2) af))) (pv' 2))) (bw cY (by rfl) T.jS fR (pa1 (cN gQ (dc0 cA hr.dn (pa3 (pv' 0) af af)) af (cy _)))))) zh2) fun zt1 zh1 ze1=>?_
 refine ⟨_,ae (aF (i:=3) i6.nd rfl orL (bj iK)) zh1,?_⟩
 k_mem
 refine ⟨by decide,fun l hl=>?_⟩
 k_upd
 refine ⟨c,0,mo+1,rfl,by omega,by omega,by omega,fun r1 h2 h3=>⟨by decide,fun p hp=>⟨c,94,4,rfl,by omega,by omega,by omega,fun r2 h4 h5=>⟨_,SqL.of ah,?_⟩⟩⟩⟩
 obtain ⟨n,e,hn0,hn1⟩:=two_of (r2:=r2) h2 h3
 k_upd
 refine ⟨_,e,?_⟩
 k_mem
 refine ⟨by omega,by omega,?_⟩
 k_upd
 refine cI (Lg K c m mo (.int n) l H) ⟨(aw.refl H).lay hl |>.lay hp,[],[],none,none,rfl,upo ah hp,ju.nil,rfl,fun x hx=>by cases hx⟩ ?_ ?_
 ·rintro i σ H' hi ⟨s1,as,ls,t,u,rfl,hl',hT,hlen,hg⟩
  k_mem
  refine ⟨by decide,fun p1 hp1=>?_⟩
  k_upd
  refine ⟨c,3 * (0 + ↑i)+1,2,rfl,by omega,by omega,by omega,fun r3 h6 h7=>?_⟩
  obtain ⟨kd,hk,ek⟩:=JZ h6 h7
  k_mem
  refine ⟨_,SqL.of ah,_,ek,?_⟩
  k_mem
  refine ⟨.inl ⟨rfl,_,SqL.of (upo hl' hp1)⟩,c,3 * (0 + ↑i)+2,m,rfl,by omega,by omega,by omega,fun r4 h8 h9=>?_⟩
  k_upd
  refine ⟨c,3 * (0 + ↑i)+3,m,rfl,by omega,by omega,by omega,fun r5 h10 h11=>?_⟩
  k_mem
  refine ⟨by decide,fun p2 hp2=>⟨_,upo (upo hl' hp1) hp2,dE (by rw [WB,hT.1];omega),?_⟩⟩
  have hl2:=upo (o:=HO.tup [V.str kd,V.int r4,V.int r5]) (upo (o:=HO.lst [V.str (Str.ofString "men"),V.str (Str.ofString "coal")]) hl' hp1) hp2
  k_upd
  refine ⟨(s1.lay hp1 |>.lay hp2).rewr hl,as++[p2],ls++[(kd,r4,r5)],_,_,rfl,?_,?_,by rw [List.length_append,hlen];rfl,?_⟩
  ·rw [ah,List.map_append];rfl
  ·exact ((hT.same ((aw.refl H').lay hp1 |>.lay hp2)).app (ju.one (SqT.of ah))).rew hl2
  ·intro x hx
   rcases List.mem_append.mp hx with hx | hx
   ·exact hg x hx
   ·rw [List.mem_singleton] at hx
    subst hx
    k_upd
    exact ⟨⟨⟨h8,h9⟩,⟨h10,h11⟩⟩,hk⟩
 ·rintro σ H' ⟨s1,as,ls,t,u,rfl,hl',hT,hlen,hg⟩
  k_mem
  exact q l as ls H' hl s1 hl' hT (by omega) hg
variable (B1:KD P w K mg base CX0 2 "_law_loads" (uK K Z))
inductive gj (K:WA)(Z:Adr)(vs:List V)(H:Hp)(Q:VK)(E:XK):Prop | mk (p dl cl ll a dd:Addr) (g:Cfg) (lds:List Ld) (n:bh) (t:Int) (d:Dd):vs=[.ref p,.ref a,.ref dd]->dN K H p dl cl ll g lds->fg g->df g n->gP K H a (n,t)->SqT K H dd (ddV d)->uZ d->(((∃c,d=.unload c)\/∃k c,d=.load k c))->(∀H',aw H H'->Q (.str (IZ (cJ g n d))) H')->gj K Z vs H Q E
include T ji in
theorem v9:FF P w K mg base CX0 2 "_law_load_refusal" "_law_load_refusal" gA lg (gj K Z):=fk0 gg fun vs H Q E h=>by
 obtain ⟨p,dl,cl,ll,a,dd,g,lds,n,t,d,rfl,hP,hg,hn,hSt,hD,ok,hd,q⟩:=h
 k_all
 refine seg 6 (ag (ax (ai au (bj (pa2 aq aq)) (bw cY (by rfl) T.jS fR (pa1 (ai aj (ai aj (pv' 1) af) (pv' 4))))))) fun zt6 zh6 ze6=>?_
 refine seg 5 (ae (aM (dO ez (bc bD af (ai aj (pv' 2) af)) (pv' 3) (by rfl)) (ag (ax aq)) (aA)) zh6) fun zt5 zh5 ze5=>?_
 refine seg 4 (ae (aM (iJ (jM (pv' 4) af) (gw (jL (ai aj (pv' 3) (ai aj (pv' 2) af)) (pv' 4)))).pt (ag (ax aq)) (aA)) zh5) fun zt4 zh4 ze4=>?_
 refine seg 3 (ae (aM (iJ (jM (ai aj (pv' 2) af) af) (gw (xK (ai aj (pv' 2) af) (aE az (by rfl) T.bZ bx (pa1 (pv' 3)))))).pt (ag (ax aq)) (aA)) zh4) fun zt3 zh3 ze3=>?_
 refine seg 2 (ae (aM (bU (ai aj (pv' 2) af) aq) (ae (aM (dO j5 (bc bD af (ai aj (pv' 2) af)) (pv' 3) (by rfl)) (ag (ax aq)) (aA)) (ae (aM (jM (pv' 4) af) (ag (ax aq)) (aA)) (ag (ax (ai au (bj (pa2 aq aq)) (bw cY (by rfl) T.jS fR (pa1 (ai aj (ai aj (pv' 1) af) (pv' 4))))))))) (aA)) zh3) fun zt2 zh2 ze2=>?_
 refine seg 1 (ae (aF (i:=4) gg.nd rfl orL (dc0 ji hr.dn (pa3 (ai au (pv' 0) af) (ai aj (pv' 2) (eQ cL af)) (ai aj (pv' 1) af)))) zh2) fun zt1 zh1 ze1=>?_
 refine ⟨_,ae (aF (i:=3) gg.nd rfl orL (ai aj (pv' 1) af)) zh1,?_⟩
 obtain ⟨gt,lt,ht,dt,h1,h2,h3,h4,h5⟩:=hSt.un
 obtain ⟨hp,hdl,_,_,_⟩:=id hP
 have gl:=hn.gl
 have wl:=hn.wl
 have k30:=hg.k30
 have gate:∀(l:Int) (H1:Hp),aw H H1->0<=l->l < g.ds.length->(n.gates.getD l.toNat false=true->∀H',aw H H'->Q (.str "") H')->(n.gates.getD l.toNat false=false->∀H',aw H H'->Q (.str "GateShut") H')->∀p1,H1 p1=none->Q (if n.gates.getD l.toNat false=true then V.str (Str.ofString "") else V.str (Str.ofString "GateShut")) (upd H1 p1 (HO.lst [V.str (Str.ofString "GateShut"),V.str (Str.ofString "")])):=by
  intro l H1 s1 l0 l1 qy qn p1 hp1
  cases hb:n.gates.getD l.toNat false with
  | true=>exact qy hb _ (s1.lay hp1)
  | false=>exact qn hb _ (s1.lay hp1)
 k_mem
 refine ⟨_,h1,_,rfl,?_⟩
 k_mem
 refine ⟨_,SqL.of hp,_,rfl,?_⟩
 k_mem
 rcases hd with ⟨c,rfl⟩ | ⟨k,c,rfl⟩
 ·have okc:0<=c/\c < 2:=ok
  k_upd
  refine ⟨_,hD,_,rfl,_,h1,_,rfl,?_⟩
  k_mem
  refine ⟨dl,g.ds,c,n.place,rfl,SqL.of hdl,hg.sh,okc.1,okc.2,fun H1 s1=>?_⟩
  k_mem
  refine ⟨_,s1.tup hD,_,rfl,?_⟩
  k_mem
  rw [if_pos rfl]
  k_upd
  refine ⟨_,s1.tup hD,_,rfl,?_⟩
  k_mem
  refine ⟨_,.inr (SqT.of (s1 _ _ h3)),rfl,by simp [bW],?_⟩
  rw [iq]
  k_mem
  split
  ·rename_i hin
   have q1:=q H1 s1
   rw [show cJ g n (.unload c)=some .ce from if_pos hin] at q1
   k_upd
   exact q1
  ·rename_i hin
   have hin':10+c∈n.ws:=Decidable.not_not.mp hin
   k_upd
   split
   ·rename_i hl
    have q1:=q H1 s1
    rw [show cJ g n (.unload c)=some .nt from (if_neg hin).trans (by rw [Hy hl])] at q1
    k_upd
    exact q1
   ·rename_i hl
    obtain ⟨l,el,el2⟩:=Cq hl
    obtain ⟨l0,l1,_⟩:=dz el
    rw [el2]
    k_upd
    refine ⟨by decide,fun p1 hp1=>?_⟩
    have f2:=s1.lay (o:=HO.lst [V.str (Str.ofString "GateShut"),V.str (Str.ofString "")]) hp1
    k_upd
    refine ⟨_,f2.tup h1,_,rfl,?_⟩
    k_mem
    refine ⟨_,f2.tup h2,_,fB l0 (by show l < (n.gates.length:Int);omega),?_⟩
    k_mem
    refine ⟨_,SqL.of ah,_,Hx,?_⟩
    refine gate l H1 s1 l0 l1 (fun hb H' s=>?_) (fun hb H' s=>?_) p1 hp1
    ·have q1:=q H' s
     rw [sV hin' el hb] at q1
     k_upd
     exact q1
    ·have q1:=q H' s
     rw [show cJ g n (.unload c)=some .gs from (if_neg hin).trans (by rw [el];exact if_neg (by rw [hb];decide))] at q1
     k_upd
     exact q1
 ·have okc:0<=c/\c < 2:=ok
  k_upd
  refine ⟨_,hD,_,rfl,_,h1,_,rfl,?_⟩
  k_mem
  refine ⟨dl,g.ds,c,n.place,rfl,SqL.of hdl,hg.sh,okc.1,okc.2,fun H1 s1=>?_⟩
  k_mem
  refine ⟨_,s1.tup hD,_,rfl,?_⟩
  k_mem
  rw [if_neg (by decide)]
  k_upd
  refine ⟨_,s1.tup hD,_,rfl,?_⟩
  k_mem
  split
  ·rename_i hk
   have q1:=q H1 s1
   rw [show cJ g n (.load k c)=some .ul from if_pos (fun z=>by omega)] at q1
   k_upd
   exact q1
  rename_i hk
  k_upd
  refine ⟨_,s1.tup hD,_,rfl,_,.inr (SqT.of (s1 _ _ h3)),?_⟩
  rw [WB]
  k_mem
  split
  ·rename_i hk2
   have q1:=q H1 s1
   rw [show cJ g n (.load k c)=some .ul from if_pos (fun z=>by omega)] at q1
   k_upd
   exact q1
  rename_i hk2
  have hku:¬unk k n.ws.length:=fun z=>z ⟨by omega,by omega⟩
  k_upd
  split
  ·rename_i hl
   have q1:=q H1 s1
   rw [show cJ g n (.load k c)=some .nt from (if_neg hku).trans (by rw [Hy hl])] at q1
   k_upd
   exact q1
  rename_i hl
  obtain ⟨l,el,el2⟩:=Cq hl
  obtain ⟨l0,l1,_⟩:=dz el
  rw [el2]
  k_upd
  refine ⟨_,s1.tup hD,_,rfl,?_⟩
  k_mem
  refine ⟨_,SqT.of (s1 _ _ h3),_,cU (by omega) (by omega),?_⟩
  k_mem
  split
  ·rename_i hne
   have q1:=q H1 s1
   rw [show cJ g n (.load k c)=some .nt from (if_neg hku).trans (by rw [el];exact if_pos hne)] at q1
   k_upd
   exact q1
  rename_i hne
  have heq:n.ws.getD k.toNat 0=l:=Decidable.not_not.mp hne
  k_upd
  refine ⟨_,s1.tup hD,_,rfl,?_⟩
  k_mem
  refine ⟨_,.inr (SqT.of (s1 _ _ h3)),rfl,by simp [bW],?_⟩
  rw [iq]
  k_mem
  split
  ·rename_i hin
   have q1:=q H1 s1
   rw [show cJ g n (.load k c)=some .ct from (if_neg hku).trans (by rw [el];exact (if_neg hne).trans (if_pos hin))] at q1
   k_upd
   exact q1
  rename_i hin
  k_upd
  refine ⟨by decide,fun p1 hp1=>?_⟩
  have f2:=s1.lay (o:=HO.lst [V.str (Str.ofString "GateShut"),V.str (Str.ofString "")]) hp1
  k_upd
  refine ⟨_,f2.tup h1,_,rfl,?_⟩
  k_mem
  refine ⟨_,f2.tup h2,_,fB l0 (by show l < (n.gates.length:Int);omega),?_⟩
  k_mem
  refine ⟨_,SqL.of ah,_,Hx,?_⟩
  refine gate l H1 s1 l0 l1 (fun hb H' s=>?_) (fun hb H' s=>?_) p1 hp1
  ·have q1:=q H' s
   rw [xJ (by omega) (by omega) el heq hin hb] at q1
   k_upd
   exact q1
  ·have q1:=q H' s
   rw [show cJ g n (.load k c)=some .gs from (if_neg hku).trans (by rw [el];exact (if_neg hne).trans ((if_neg hin).trans (if_neg (by rw [hb];decide))))] at q1
   k_upd
   exact q1
variable (l7:KD P w K mg base CX0 2 "_law_load_refusal" (gj K Z))
theorem I9 {ls:List Cd}{l:Int}{k:Str}(hk:k="men"\/k="coal"):∃j:Nat,j < 2/\eqV (([V.str "men",V.str "coal"]:List V).getD j .non) (.str k)=true/\(∀i,i < j->eqV (([V.str "men",V.str "coal"]:List V).getD i .non) (.str k)=false)/\atI (cdV (eN ls l)) (j:Int)=some (.int (cM ls l k)):=by
 rcases hk with rfl | rfl
 ·exact ⟨0,by decide,by decide,fun i h=>absurd h (Nat.not_lt_zero _),rfl⟩
 ·refine ⟨1,by decide,by decide,fun i h=>?_,?_⟩
  ·obtain rfl:i=0:=by omega
   decide
  ·unfold cM
   rw [if_neg (by decide)]
   rfl
def HW (H:Hp)(g:Cfg)(n:bh)(p a dd:Addr)(i:Nat)(σ:St)(H':Hp):Prop:=aw H H'/\(∃t u,σ=[some (.ref p),some (.ref a),some (.ref dd),t,u,none,none])/\∀c:Int,0<=c->c < i->∀l,bQ g.ds n.place c=some l->n.gates.getD l.toNat false=false
inductive gm (K:WA)(Z:Adr)(vs:List V)(H:Hp)(Q:VK)(E:XK):Prop | mk (p dl cl ll a dd:Addr) (g:Cfg) (lds:List Ld) (n:bh) (t:Int) (c l:Int) (k:Str):vs=[.ref p,.ref a,.ref dd]->dN K H p dl cl ll g lds->fg g->df g n->gP K H a (n,t)->SqT K H dd [.str "wind",.int c,.int l,.str k]->((k="men"\/k="coal"))->(∀H',aw H H'->Q (.str (IZ (cJ g n (.wind c l k)))) H')->gm K Z vs H Q E
include T ji in
theorem wa:FF P w K mg base CX0 2 "_law_wind_refusal" "_law_wind_refusal" gB lh (gm K Z):=fk0 dP fun vs H Q E h=>by
 obtain ⟨p,dl,cl,ll,a,dd,g,lds,n,t,c,l,k,rfl,hP,hg,hn,hSt,hT,hk,q⟩:=h
 k_all
 refine seg 5 (ag (ax aq)) fun zt5 zh5 ze5=>?_
 refine seg 4 (ae (aM (iJ (jL (ai aj (pv' 6) af) aq) (iJ (jL (ai aj (pv' 6) af) (ai aj (pv' 2) af)) (gw (jL (ai aj (pv' 6) af) (pv' 5))))).pt (ag (ax aq)) (aA)) zh5) fun zt4 zh4 ze4=>?_
 refine seg 3 (ae (aF (i:=6) dP.nd rfl orL (ai aj (pv' 1) af)) zh4) fun zt3 zh3 ze3=>?_
 refine seg 2 (ae (aF (i:=5) dP.nd rfl orL (ai aj (ai au (ai au (pv' 0) af) (ai aj (pv' 2) af)) (sS PySem.F.plainAttrs_list PySem.F.slot_list_index PySem.F.type_list_index IS (bj (pa2 aq aq)) (pa1 (ai aj (pv' 2) af))))) zh3) fun zt2 zh2 ze2=>?_
 refine seg 1 (ae (en PassesOwn.never rfl (bP (by rfl) T.cQ (pa1 af)) (aJ (i:=3) dP.nd rfl orL) (ae (aF (i:=4) dP.nd rfl orL (dc0 ji hr.dn (pa3 (ai au (pv' 0) af) (pv' 3) (ai aj (pv' 1) af)))) (ag (aM (tW (xK (pv' 4) af) (me (cO (ai aj (ai aj (pv' 1) af) (pv' 4))))).pt (ag (ax aq)) (aA))))) zh2) fun zt1 zh1 ze1=>?_
 refine ⟨_,ae (aM (iJ (jM (ai aj (pv' 2) af) af) (gw (xK (ai aj (pv' 2) af) (aE az (by rfl) T.bZ bx (pa1 (ai au (pv' 0) af)))))).pt (ag (ax aq)) (aA)) zh1,?_⟩
 obtain ⟨gt,lt,ht,dt,h1,h2,h3,h4,h5⟩:=hSt.un
 obtain ⟨hp,hdl,⟨cs,hcl,hC⟩,_,_⟩:=id hP
 have gl:=hn.gl
 have l2:=hg.sh.l2
 have l6:=hg.sh.l6
 have lc:=hg.lc
 have elv:l < 0\/(g.ds.length:Int)<=l->cJ g n (.wind c l k)=some .lv:=fun z=>if_pos (by unfold unk;omega)
 k_mem
 refine ⟨_,hT,_,aU (k:=2) rfl,?_⟩
 k_mem
 by_cases h0:l < 0
 ·rw [if_pos h0]
  have q':=q H (aw.refl _)
  rw [elv (.inl h0)] at q'
  k_upd
  exact q'
 k_upd
 rw [if_neg h0]
 k_upd
 refine ⟨_,hT,_,aU (k:=2) rfl,_,SqL.of hp,_,rfl,?_⟩
 k_mem
 refine ⟨_,.inl (SqL.of hdl),?_⟩
 k_mem
 rw [WB]
 by_cases h1':(g.ds.length:Int)<=l
 ·rw [if_pos h1']
  have q':=q H (aw.refl _)
  rw [elv (.inr h1')] at q'
  k_upd
  exact q'
 k_upd
 rw [if_neg h1']
 k_mem
 have lvn:¬unk l g.ds.length:=fun z=>z ⟨by omega,by omega⟩
 have ego:eR g n=true->cJ g n (.wind c l k)=some .go:=fun z=>by
  show (if unk l g.ds.length then _ else if eR g n=true then _ else _)=_
  k_upd
  rw [if_neg lvn,if_pos z]
 k_upd
 refine ⟨by decide,by decide,?_⟩
 k_upd
 refine cI (lo:=0) (n:=2) (HW H g n p a dd) ⟨aw.refl _,⟨_,_,rfl⟩,fun c h z=>absurd z (by omega)⟩ ?_ ?_
 ·rintro i σ H2 hi ⟨s2,⟨t',u,rfl⟩,hno⟩
  k_mem
  rw [Int.zero_add]
  k_upd
  refine ⟨_,SqL.of (s2 _ _ hp),_,rfl,_,s2.tup h1,_,aU (k:=0) rfl,?_⟩
  k_upd
  refine ⟨dl,g.ds,(i:Int),n.place,rfl,SqL.of (s2 _ _ hdl),hg.sh,by omega,by omega,fun H3 s3=>?_⟩
  have s13:=s2.trans s3
  have nx:∀v,(∀l,bQ g.ds n.place (i:Int)=some l->n.gates.getD l.toNat false=false)->HW H g n p a dd (i+1) [some (V.ref p),some (V.ref a),some (V.ref dd),some (V.int (i:Int)),v,none,none] H3:=fun v hz=>⟨s13,⟨_,_,rfl⟩,fun c h0 hc l hl=>by
   rcases (by omega:c < i\/c=(i:Int)) with z | rfl
   ·exact hno c h0 z l hl
   ·exact hz l hl⟩
  k_mem
  cases hc:bQ g.ds n.place (i:Int) with
  | none=>
   rw [hc] at nx
   k_upd
   rw [if_neg (by show ¬(0:Int)<=-1;decide)]
   exact nx _ fun l z=>nomatch z
  | some lv=>
   obtain ⟨lv0,lv1,_⟩:=dz hc
   k_upd
   rw [if_pos (show (0:Int)<=(some lv).getD (-1) from lv0)]
   k_upd
   refine ⟨_,s13.tup h1,_,aU (k:=1) rfl,?_⟩
   k_mem
   refine ⟨_,s13.tup h2,_,fB lv0 (by omega),?_⟩
   k_mem
   cases eg:n.gates.getD lv.toNat false with
   | true=>
    rw [if_pos rfl]
    have q':=q H3 s13
    rw [ego (Gp (by omega) hc eg)] at q'
    k_upd
    exact q'
   | false=>
    rw [if_neg Bool.false_ne_true]
    exact nx _ fun l z=>by
     rw [hc] at z
     cases z
     exact eg
 ·rintro σ H2 ⟨s2,⟨t',u,rfl⟩,hno⟩
  have hob:¬eR g n=true:=by
   rw [BB hg.sh fun c hc l hl=>hno c (by omega) (by omega) l hl]
   decide
  have er:cJ g n (.wind c l k)=if n.e=.armed l (cM g.ls l k) then none else some .na:=by
   show (if unk l g.ds.length then _ else if eR g n=true then _ else _)=_
   k_upd
   rw [if_neg lvn,if_neg hob]
  obtain ⟨cd,acd,hcd⟩:=mn (cV.same s2 hC) (by omega:0<=l) (by omega)
  k_mem
  refine ⟨_,SqL.of (s2 _ _ hp),_,rfl,_,s2.tup hT,_,aU (k:=2) rfl,?_⟩
  k_mem
  refine ⟨_,SqL.of (s2 _ _ hcl),_,acd,?_⟩
  k_mem
  refine ⟨by decide,fun p2 hp2=>?_⟩
  (generalize hE:upd H2 p2 _=H4 at *;have s4:=bK hE hp2;have e4:=bg hE;clear hE)
  have s24:=s2.trans s4
  obtain ⟨j,j2,k1,k2,k3⟩:=I9 (ls:=g.ls) (l:=l) hk
  k_upd
  refine ⟨.inl ⟨rfl,_,SqL.of e4⟩,_,s24.tup hT,_,aU (k:=3) rfl,_,j,SqL.of e4,rfl,rfl,j2,k1,k2,_,s4.tup hcd,_,k3,?_⟩
  k_mem
  refine ⟨_,s24.tup h1,_,aU (k:=3) rfl,?_⟩
  k_mem
  obtain ⟨wd,rs',ewd,w1,w2⟩:=Nw n.e
  have h44:=s24.tup h4
  rw [ewd] at h44
  have q':=q H4 s24
  rw [er] at q'
  k_upd
  refine ⟨_,h44,_,aU (k:=0) rfl,?_⟩
  k_mem
  by_cases ew:wd="armed"
  ·rw [if_neg (fun z=>z ew)]
   obtain ⟨l',r',he⟩:=w2.mp ew
   have h45:=s24.tup h4
   rw [he] at h45 q'
   k_upd
   refine ⟨_,h45,V.int l',rfl,_,s24.tup hT,_,aU (k:=2) rfl,?_⟩
   k_mem
   by_cases hl:l'=l
   ·rw [if_neg (fun z=>z hl)]
    k_upd
    refine ⟨_,h45,V.int r',rfl,?_⟩
    k_mem
    by_cases hcx:r'=cM g.ls l k
    ·rw [if_neg (fun z=>z hcx)]
     k_upd
     rw [if_pos (by rw [hl,hcx])] at q'
     k_mem
     exact q'
    ·rw [if_pos hcx]
     k_upd
     rw [if_neg (fun z=>by injection z with z1 z2;exact hcx z2)] at q'
     k_upd
     exact q'
   ·rw [if_pos hl]
    k_upd
    rw [if_neg (fun z=>by injection z with z1 z2;exact hl z1)] at q'
    k_upd
    exact q'
  ·rw [if_pos ew]
   k_upd
   rw [if_neg (fun z=>ew (w2.mpr ⟨_,_,z⟩))] at q'
   k_upd
   exact q'
variable (l8:KD P w K mg base CX0 2 "_law_wind_refusal" (gm K Z))
inductive xy (K:WA)(Z:Adr)(vs:List V)(H:Hp)(Q:VK)(E:XK):Prop | mk (p dl cl ll a dd:Addr) (g:Cfg) (lds:List Ld) (n:bh) (t:Int) (d:Dd):vs=[.ref p,.ref a,.ref dd]->dN K H p dl cl ll g lds->fg g->df g n->gP K H a (n,t)->SqT K H dd (ddV d)->uZ d->cJ g n d=none->(∀b H',aw H H'->gP K H' b (di g n d,t+oV g n d)->Q (.ref b) H')->xy K Z vs H Q E
include T ji vY BX BY BZ in
theorem Jb:FF P w K mg base CX0 2 "_law_next" "_law_next" zJ DU (xy K Z):=fk0 cx fun vs H Q E h=>by
 obtain ⟨p,dl,cl,ll,a,dd,g,lds,n,t,d,rfl,hP,hg,hn,hSt,hD,ok,hrf,q⟩:=h
 k_all
 refine seg 8 (ag (ax (aY (cq (pv' 3) (cq (pv' 4) (pa4 (pv' 5) (pv' 6) (pv' 7) (pv' 9))))))) fun zt8 zh8 ze8=>?_
 refine seg 7 (ae (aM (bU (ai aj (pv' 2) af) aq) (ae (aF (i:=11) cx.nd rfl orL (ai au (ai au (pv' 0) af) (ai aj (pv' 2) af))) (ae (aF (i:=12) cx.nd rfl orL (ai au (bj (pa2 (pv' 11) (bc dS (ai au (ai au (pv' 0) af) (eQ cL af)) (pv' 11)))) (ai aj (pv' 2) af))) (ae (aF (i:=9) cx.nd rfl orL (bc bD (pv' 8) (dc0 BX hr.dn (pa2 (aE BD (by rfl) T.Nq JN (pa1 (bc dS (pv' 12) (pv' 3)))) (dc0 BY hr.dn (pa2 (pv' 0) (pv' 5))))))) (ag (aF (i:=3) cx.nd rfl orL (pv' 12)))))) (aA)) zh8) fun zt7 zh7 ze7=>?_
 refine seg 6 (ae (aM (bU (ai aj (pv' 2) af) aq) (ag (aF (i:=7) cx.nd rfl orL (bw oY (by rfl) T.vG oR (pa1 (aE FT (by rfl) T.K8 Iu (pa1 (bc KY (pv' 7) (aY (pa1 (ai aj (pv' 2) af)))))))))) (aA)) zh7) fun zt6 zh6 ze6=>?_
 refine seg 5 (ae (aM (bU (ai aj (pv' 2) af) aq) (ae (aF (i:=10) cx.nd rfl orL (dc0 ji hr.dn (pa3 (ai au (pv' 0) af) (ai aj (pv' 2) af) (pv' 3)))) (ag (aF (i:=5) cx.nd rfl orL (dc0 vY hr.dn (pa3 (pv' 5) (Oy PySem.F.plainAttrs_tuple PySem.F.slot_tuple_index PySem.F.type_tuple_index IF (pv' 5) (pa1 (bc bD af (ai aj (pv' 2) af)))) (pv' 10)))))) (aA)) zh6) fun zt5 zh5 ze5=>?_
 refine seg 4 (ae (aM (bU (ai aj (pv' 2) af) aq) (ag (aF (i:=5) cx.nd rfl orL (dc0 vY hr.dn (pa3 (pv' 5) (ai aj (pv' 2) af) (bc bD af (ai aj (pv' 2) af)))))) (aA)) zh5) fun zt4 zh4 ze4=>?_
 refine seg 3 (ae (aM (iJ (bU (ai aj (pv' 2) af) aq) (gw (bU (ai aj (pv' 2) af) aq))).pt (ag (aF (i:=4) cx.nd rfl orL (dc0 vY hr.dn (pa3 (pv' 4) (ai aj (pv' 2) af) (cN gQ (ai aj (pv' 2) af) aq (cy _)))))) (aA)) zh4) fun zt3 zh3 ze3=>?_
 refine seg 2 (ae (aF (i:=9) cx.nd rfl orL (bc bD (pv' 8) af)) zh3) fun zt2 zh2 ze2=>?_
 refine seg 1 (ae (aF (i:=6) cx.nd rfl orL (dc0 BZ hr.dn (pa2 (pv' 6) (pv' 2)))) zh2) fun zt1 zh1 ze1=>?_
 refine ⟨_,ae (oM (pv' 1) (fu rfl (aN (aJ (i:=3) cx.nd rfl orL) (aN (aJ (i:=4) cx.nd rfl orL) (aN (aJ (i:=5) cx.nd rfl orL) (aN (aJ (i:=6) cx.nd rfl orL) (aN (aJ (i:=7) cx.nd rfl orL) (aN (aJ (i:=8) cx.nd rfl orL) dY)))))))) zh1,?_⟩
 obtain ⟨gt,lt,ht,dt,h1,h2,h3,h4,h5⟩:=hSt
 obtain ⟨hp,hdl,_,⟨bs,hll,hT2⟩,ek⟩:=id hP
 have l2:=hg.sh.l2
 have l6:=hg.sh.l6
 have gl:=hn.gl
 have wl:=hn.wl
 have k30:=hg.k30
 have ekl:lds.length=g.ks.length:=by rw [ek,WB]
 k_mem
 refine ⟨_,h1,rfl,?_⟩
 k_mem
 refine ⟨ht,dd,g,n,d,rfl,h4,hD,hrf,fun hh H1 s1 hH=>?_⟩
 have hD1:=s1.tup hD
 k_mem
 cases d with
 | ring l s=>
  refine ⟨_,hD1,_,rfl,?_⟩
  k_mem
  rw [if_neg (by decide)]
  k_upd
  refine ⟨_,hD1,_,rfl,?_⟩
  k_mem
  rw [if_neg (by decide)]
  k_upd
  refine ⟨_,hD1,_,rfl,?_⟩
  k_mem
  rw [if_neg (by decide)]
  k_upd
  refine ⟨_,hD1,_,rfl,?_⟩
  k_mem
  rw [if_neg (by decide)]
  k_upd
  refine ⟨_,hD1,_,rfl,?_⟩
  k_mem
  rw [if_neg (by decide)]
  k_upd
  refine ⟨_,hD1,_,rfl,?_⟩
  k_mem
  rw [if_neg (by decide)]
  k_upd
  refine ⟨by decide,fun b hb=>q b _ ((s1).lay hb) ⟨gt,lt,hh,dt,SqT.of ah,?_,?_,?_,?_⟩⟩
  ·exact (s1.lay hb).tup h2
  ·exact upo (s1 _ _ h3) hb
  ·exact ((aw.refl H1).lay hb).tup hH
  ·exact (s1.lay hb).tup h5
 | rept s=>
  refine ⟨_,hD1,_,rfl,?_⟩
  k_mem
  rw [if_neg (by decide)]
  k_upd
  refine ⟨_,hD1,_,rfl,?_⟩
  k_mem
  rw [if_neg (by decide)]
  k_upd
  refine ⟨_,hD1,_,rfl,?_⟩
  k_mem
  rw [if_neg (by decide)]
  k_upd
  refine ⟨_,hD1,_,rfl,?_⟩
  k_mem
  rw [if_neg (by decide)]
  k_upd
  refine ⟨_,hD1,_,rfl,?_⟩
  k_mem
  rw [if_neg (by decide)]
  k_upd
  refine ⟨_,hD1,_,rfl,?_⟩
  k_mem
  rw [if_neg (by decide)]
  k_upd
  refine ⟨by decide,fun b hb=>q b _ ((s1).lay hb) ⟨gt,lt,hh,dt,SqT.of ah,?_,?_,?_,?_⟩⟩
  ·exact (s1.lay hb).tup h2
  ·exact upo (s1 _ _ h3) hb
  ·exact ((aw.refl H1).lay hb).tup hH
  ·exact (s1.lay hb).tup h5
 | opn l=>
  obtain ⟨hl,_⟩:=LN hrf
  k_upd
  refine ⟨_,hD1,_,rfl,?_⟩
  k_mem
  rw [if_pos rfl]
  k_upd
  refine ⟨_,hD1,_,rfl,_,hD1,_,rfl,?_⟩
  k_mem
  refine ⟨gt,n.gates.map V.bl,l,.bl true,?_,s1.tup h2,hl.1,by rw [WB];omega,by rw [WB];omega,fun g2 H2 s2 hg2=>?_⟩
  ·rfl
  have s12:=s1.trans s2
  have hD2:=s2.tup hD1
  k_mem
  refine ⟨_,hD2,_,rfl,?_⟩
  k_mem
  rw [if_neg (by decide)]
  k_upd
  refine ⟨_,hD2,_,rfl,?_⟩
  k_mem
  rw [if_neg (by decide)]
  k_upd
  refine ⟨_,hD2,_,rfl,?_⟩
  k_mem
  rw [if_neg (by decide)]
  k_upd
  refine ⟨_,hD2,_,rfl,?_⟩
  k_mem
  rw [if_neg (by decide)]
  k_upd
  refine ⟨by decide,fun b hb=>q b _ ((s12).lay hb) ⟨g2,lt,hh,dt,SqT.of ah,?_,?_,?_,?_⟩⟩
  ·exact SqT.of (by rw [upo hg2 hb,u7];rfl)
  ·exact upo (s12 _ _ h3) hb
  ·exact (s2.lay hb).tup hH
  ·exact (s12.lay hb).tup h5
 | sht l=>
  obtain ⟨hl,_⟩:=LO hrf
  k_upd
  refine ⟨_,hD1,_,rfl,?_⟩
  k_mem
  rw [if_neg (by decide)]
  k_upd
  refine ⟨_,hD1,_,rfl,?_⟩
  k_mem
  rw [if_pos rfl]
  k_upd
  refine ⟨_,hD1,_,rfl,_,hD1,_,rfl,?_⟩
  k_mem
  refine ⟨gt,n.gates.map V.bl,l,.bl false,?_,s1.tup h2,hl.1,by rw [WB];omega,by rw [WB];omega,fun g2 H2 s2 hg2=>?_⟩
  ·rfl
  have s12:=s1.trans s2
  have hD2:=s2.tup hD1
  k_mem
  refine ⟨_,hD2,_,rfl,?_⟩
  k_mem
  rw [if_neg (by decide)]
  k_upd
  refine ⟨_,hD2,_,rfl,?_⟩
  k_mem
  rw [if_neg (by decide)]
  k_upd
  refine ⟨_,hD2,_,rfl,?_⟩
  k_mem
  rw [if_neg (by decide)]
  k_upd
  refine ⟨_,hD2,_,rfl,?_⟩
  k_mem
  rw [if_neg (by decide)]
  k_upd
  refine ⟨by decide,fun b hb=>q b _ ((s12).lay hb) ⟨g2,lt,hh,dt,SqT.of ah,?_,?_,?_,?_⟩⟩
  ·exact SqT.of (by rw [upo hg2 hb,u7];rfl)
  ·exact upo (s12 _ _ h3) hb
  ·exact (s2.lay hb).tup hH
  ·exact (s12.lay hb).tup h5
 | load k c=>
  obtain ⟨hk,l,hl,_,_,_⟩:=DC hrf
  k_upd
  refine ⟨_,hD1,_,rfl,?_⟩
  k_mem
  rw [if_neg (by decide)]
  k_upd
  refine ⟨_,hD1,_,rfl,?_⟩
  k_mem
  rw [if_neg (by decide)]
  k_upd
  refine ⟨_,hD1,_,rfl,?_⟩
  k_mem
  rw [if_pos rfl]
  k_upd
  refine ⟨_,hD1,_,rfl,_,hD1,_,rfl,?_⟩
  k_mem
  refine ⟨lt,n.ws.map V.int,k,.int (10+c),rfl,SqT.of (s1 _ _ h3),hk.1,by rw [WB];omega,by rw [WB];omega,fun w2 H2 s2 hw2=>?_⟩
  have s12:=s1.trans s2
  have hD2:=s2.tup hD1
  k_mem
  refine ⟨_,hD2,_,rfl,?_⟩
  k_mem
  rw [if_neg (by decide)]
  k_upd
  refine ⟨_,hD2,_,rfl,?_⟩
  k_mem
  rw [if_neg (by decide)]
  k_upd
  refine ⟨_,hD2,_,rfl,?_⟩
  k_mem
  rw [if_neg (by decide)]
  k_upd
  refine ⟨by decide,fun b hb=>q b _ ((s12).lay hb) ⟨gt,w2,hh,dt,SqT.of ah,?_,?_,?_,?_⟩⟩
  ·exact (s12.lay hb).tup h2
  ·rw [upo hw2 hb,u7];rfl
  ·exact (s2.lay hb).tup hH
  ·exact (s12.lay hb).tup h5
 | unload c=>
  obtain ⟨hin,l,hl,_⟩:=y4 hrf
  have hix:=wV hin
  k_upd
  refine ⟨_,hD1,_,rfl,?_⟩
  k_mem
  rw [if_neg (by decide)]
  k_upd
  refine ⟨_,hD1,_,rfl,?_⟩
  k_mem
  rw [if_neg (by decide)]
  k_upd
  refine ⟨_,hD1,_,rfl,?_⟩
  k_mem
  rw [if_neg (by decide)]
  k_upd
  refine ⟨_,hD1,_,rfl,?_⟩
  k_mem
  rw [if_pos rfl]
  k_upd
  refine ⟨_,SqL.of (s1 _ _ hp),_,rfl,_,hD1,_,rfl,?_⟩
  k_mem
  refine ⟨dl,g.ds,c,n.place,rfl,SqL.of (s1 _ _ hdl),hg.sh,ok.1,ok.2,fun H2 s2=>?_⟩
  have s12:=s1.trans s2
  have hD2:=s2.tup hD1
  k_mem
  refine ⟨⟨_,_,rfl,s12 _ _ h3⟩,_,hD2,_,rfl,?_⟩
  k_mem
  refine ⟨_,n.ws,_,rfl,rfl,s12 _ _ h3,hin,?_⟩
  k_mem
  refine ⟨lt,n.ws.map V.int,_,.int ((bQ g.ds n.place c).getD (-1)),rfl,SqT.of (s12 _ _ h3),Int.natCast_nonneg _,by rw [WB];omega,by rw [WB];omega,fun w2 H3 s3 hw2=>?_⟩
  have s13:=s12.trans s3
  have hD3:=s3.tup hD2
  k_mem
  refine ⟨_,hD3,_,rfl,?_⟩
  k_mem
  rw [if_neg (by decide)]
  k_upd
  refine ⟨_,hD3,_,rfl,?_⟩
  k_mem
  rw [if_neg (by decide)]
  k_upd
  refine ⟨by decide,fun b hb=>q b _ ((s13).lay hb) ⟨gt,w2,hh,dt,SqT.of ah,?_,?_,?_,?_⟩⟩
  ·exact (s13.lay hb).tup h2
  ·rw [upo hw2 hb,Int.toNat_natCast,u7];rfl
  ·exact ((s2.trans s3).lay hb).tup hH
  ·exact (s13.lay hb).tup h5
 | fail l=>
  obtain ⟨hl,hf⟩:=Ka hrf
  have fl:=hn.fl
  have dlen:=wY n.fs
  k_upd
  refine ⟨_,hD1,_,rfl,?_⟩
  k_mem
  rw [if_neg (by decide)]
  k_upd
  refine ⟨_,hD1,_,rfl,?_⟩
  k_mem
  rw [if_neg (by decide)]
  k_upd
  refine ⟨_,hD1,_,rfl,?_⟩
  k_mem
  rw [if_neg (by decide)]
  k_upd
  refine ⟨_,hD1,_,rfl,?_⟩
  k_mem
  rw [if_neg (by decide)]
  k_upd
  refine ⟨_,hD1,_,rfl,?_⟩
  k_mem
  rw [if_pos rfl]
  k_upd
  refine ⟨_,hD1,_,rfl,?_⟩
  k_mem
  refine ⟨by decide,fun p1 hp1=>⟨_,(s1.lay hp1).tup h5,_,SqT.of ah,by rw [WB];show (dj n.fs).length+1<=1000;omega,fun p2 H2 s2 hc=>?_⟩⟩
  have s12:=(s1.lay (o:=HO.tup [V.int l]) hp1).trans s2
  have f12:=((aw.refl H1).lay (o:=HO.tup [V.int l]) hp1).trans s2
  k_upd
  refine ⟨p2,dj n.fs++[l],rfl,by rw [List.map_append];exact hc,by rw [List.length_append,List.length_singleton];omega,fun l1 ms hl1 hpm hpw=>?_⟩
  rw [IH hl.1 (by omega) hf hpm hpw]
  k_mem
  refine ⟨_,.inl ⟨SqL.of ah,fun d2 hd2=>?_⟩⟩
  have s13:=(s12.lay (o:=HO.lst ((dj (n.fs.set l.toNat true)).map V.int)) hl1).lay (o:=HO.tup ((dj (n.fs.set l.toNat true)).map V.int)) hd2
  have f13:=(f12.lay (o:=HO.lst ((dj (n.fs.set l.toNat true)).map V.int)) hl1).lay (o:=HO.tup ((dj (n.fs.set l.toNat true)).map V.int)) hd2
  have hd3:upd (upd H2 l1 (HO.lst ((dj (n.fs.set l.toNat true)).map V.int))) d2 (HO.tup ((dj (n.fs.set l.toNat true)).map V.int)) d2=some (HO.tup ((dj (n.fs.set l.toNat true)).map V.int)):=ah
  generalize upd (upd H2 l1 (HO.lst ((dj (n.fs.set l.toNat true)).map V.int))) d2 (HO.tup ((dj (n.fs.set l.toNat true)).map V.int))=H3 at *
  have hD3:=f13.tup hD1
  k_mem
  refine ⟨_,hD3,_,rfl,?_⟩
  k_mem
  rw [if_neg (by decide)]
  k_upd
  refine ⟨by decide,fun b hb=>q b _ ((s13).lay hb) ⟨gt,lt,hh,d2,SqT.of ah,?_,?_,?_,?_⟩⟩
  ·exact (s13.lay hb).tup h2
  ·exact upo (s13 _ _ h3) hb
  ·exact (f13.lay hb).tup hH
  ·exact SqT.of (upo hd3 hb)
 | wind c l k=>
  obtain ⟨hl,_,harm⟩:=y6 hrf
  have okc:0<=c/\c < 2:=ok.1
  k_upd
  refine ⟨_,hD1,_,rfl,?_⟩
  k_mem
  rw [if_neg (by decide)]
  k_upd
  refine ⟨_,hD1,_,rfl,?_⟩
  k_mem
  rw [if_neg (by decide)]
  k_upd
  refine ⟨_,hD1,_,rfl,?_⟩
  k_mem
  rw [if_neg (by decide)]
  k_upd
  refine ⟨_,hD1,_,rfl,?_⟩
  k_mem
  rw [if_neg (by decide)]
  k_upd
  refine ⟨_,hD1,_,rfl,?_⟩
  k_mem
  rw [if_neg (by decide)]
  k_upd
  refine ⟨_,hD1,_,rfl,?_⟩
  k_mem
  rw [if_pos rfl]
  k_upd
  refine ⟨_,SqL.of (s1 _ _ hp),_,rfl,?_⟩
  k_mem
  refine ⟨_,hD1,_,rfl,?_⟩
  k_mem
  refine ⟨_,SqL.of (s1 _ _ hdl),_,cU hl.1 hl.2,?_⟩
  k_mem
  refine ⟨_,SqL.of (s1 _ _ hp),_,rfl,?_⟩
  k_mem
  refine ⟨_,SqL.of (s1 _ _ hdl),_,FJ (by omega),?_⟩
  k_mem
  refine ⟨by decide,fun p1 hp1=>⟨_,((aw.refl H1).lay hp1).tup hD1,_,rfl,?_⟩⟩
  k_mem
  refine ⟨_,SqL.of ah,_,two_deep okc.1 okc.2,?_⟩
  have f2:=(aw.refl H1).lay (o:=HO.lst [V.int (g.ds.getD l.toNat 0),V.int (cG g.ds - g.ds.getD l.toNat 0)]) hp1
  have s2:=s1.lay (o:=HO.lst [V.int (g.ds.getD l.toNat 0),V.int (cG g.ds - g.ds.getD l.toNat 0)]) hp1
  generalize upd H1 p1 (HO.lst [V.int (g.ds.getD l.toNat 0),V.int (cG g.ds - g.ds.getD l.toNat 0)])=H2 at *
  rw [show (if c=0 then g.ds.getD l.toNat 0 else cG g.ds - g.ds.getD l.toNat 0)=gO g.ds c l from rfl]
  k_mem
  refine ⟨p,dl,cl,ll,lt,g,lds,n.ws,rfl,hP.same s2,SqT.of (s2 _ _ h3),by omega,by omega,fun x hx=>by have:=hn.wr x hx;omega,?_⟩
  k_mem
  have sp:=hg.speed n
  have pl:=hn.place hg
  have hm:g.ds.getD l.toNat 0∈g.ds:=dq (by omega)
  have m0:=hg.sh.lo _ hm
  have m5:=hg.sh.hi _ hm
  have mw:=hg.sh.le_whole hm
  have w5:=hg.sh.hi _ hg.sh.whole_mem
  have wb:0<=gO g.ds c l/\gO g.ds c l<=500:=by unfold gO;split<;>omega
  rw [show (if Dx g.ks n.ws=true then g.slow else g.fast)=fT g n from rfl]
  k_upd
  refine ⟨_,_,rfl,by split<;>omega,by split<;>omega,by omega,by omega,?_⟩
  k_mem
  refine ⟨by decide,fun b hb=>q b _ ((s2).lay hb) ⟨gt,lt,hh,dt,SqT.of ah,?_,?_,?_,?_⟩⟩
  ·exact (s2.lay hb).tup h2
  ·exact upo (s2 _ _ h3) hb
  ·exact (f2.lay hb).tup hH
  ·exact (s2.lay hb).tup h5
variable (ES:KD P w K mg base CX0 2 "_law_next" (xy K Z))
def P6 (H:Hp)(p a dl cl ht lv:Addr)(r:Int)(g:Cfg)(n:bh)(i:Nat)(σ:St)(H':Hp):Prop:=aw H H'/\(∃t u v,σ=[some (.ref p),some (.ref a),some (.int r),some (.ref dl),some (.ref cl),some (.ref ht),some (.ref lv),t,u,v])/\∀c:Int,0<=c->c < i->∀l,bQ g.ds n.place c=some l->n.gates.getD l.toNat false=false
inductive gn (K:WA)(Z:Adr)(vs:List V)(H:Hp)(Q:VK)(E:XK):Prop | mk (p dl cl ll a:Addr) (g:Cfg) (lds:List Ld) (n:bh) (t r:Int):vs=[.ref p,.ref a,.int r]->dN K H p dl cl ll g lds->fg g->df g n->gP K H a (n,t)->(∀dd d H',aw H H'->SqT K H' dd (ddV d)->uZ d->cJ g n d=none->Q (.ref dd) H')->gn K Z vs H Q E
include T ji in
theorem wc:FF P w K mg base CX0 2 "_law_towards_wind" "_law_towards_wind" gC lj (gn K Z):=fk0 cv fun vs H Q E h=>by
 obtain ⟨p,dl,cl,ll,a,g,lds,n,t,r,rfl,hP,hg,hn,hSt,q⟩:=h
 k_all
 refine seg 8 (ag (ax (aY (pa4 aq (cb (pv' 2) af) (ai aj (pv' 5) af) (pv' 9))))) fun zt8 zh8 ze8=>?_
 refine seg 7 (ae (aF (i:=9) cv.nd rfl orL (ai au (bj (pa2 aq aq)) (bw cY (by rfl) T.jS fR (pa1 (cN gQ (ai aj (ai au (pv' 4) (ai aj (pv' 5) af)) af) (ai aj (pv' 5) af) (cy _)))))) zh8) fun zt7 zh7 ze7=>?_
 refine seg 6 (ae (en PassesOwn.never rfl (bP (by rfl) T.cQ (pa1 af)) (aJ (i:=8) cv.nd rfl orL) (ae (aF (i:=7) cv.nd rfl orL (dc0 ji hr.dn (pa3 (pv' 3) (pv' 8) (ai aj (pv' 1) af)))) (ag (aM (tW (xK (pv' 7) af) (me (cO (ai aj (ai aj (pv' 1) af) (pv' 7))))).pt (ag (ax (aY (pa2 aq (pv' 7))))) (aA))))) zh7) fun zt6 zh6 ze6=>?_
 refine seg 5 (ae (aM (jL (ai aj (pv' 5) af) aq) (ag (ax (ai au (bj (pa2 (aY (pa2 aq af)) (aY (pa2 aq af)))) (bw cY (by rfl) T.jS fR (pa1 (ai aj (ai aj (pv' 1) af) af)))))) (aA)) zh6) fun zt5 zh5 ze5=>?_
 refine seg 4 (ae (aM (tW (jL (ai aj (pv' 5) af) aq) (me (dO (My hr.units0) (pv' 6) (bj iK) (cy _)))).pt (ae (aF (i:=7) cv.nd rfl orL (ai au (pv' 6) (bc rg (pv' 2) (aE az (by rfl) T.bZ bx (pa1 (pv' 6)))))) (ag (ax (aY (pa3 aq (pv' 7) (ai aj (ai au (pv' 4) (pv' 7)) (cb (dU (pv' 2) af) af))))))) (aA)) zh5) fun zt4 zh4 ze4=>?_
 refine seg 3 (ae (aM (bU (ai aj (pv' 5) af) aq) (ag (ax (aY (pa2 aq (ai aj (pv' 5) af))))) (aA)) zh4) fun zt3 zh3 ze3=>?_
 refine seg 2 (ae (Hg ["_law_k","_law_state"] [none,some 1] (iy:=6) cv.nd rfl rfl (bP (by rfl) T.cQ (pa1 (aE az (by rfl) T.bZ bx (pa1 (pv' 3))))) (fun _ _ _ _=>(aJ (i:=0) (show (["_law_k","_law_state"]:List Str).Nodup by decide +kernel) rfl orL)) (fun _ _ _ _=>(mh (dO (show OpR _ _ (Gh K true) from j5) (pv' 0) (ai (show IxR _ (xH K) from aj) (pv' 1) af) (by rfl)))) (fun _ _ _ _=>(pv' 0))) zh3) fun zt2 zh2 ze2=>?_
 refine seg 1 (ae (aF (i:=5) cv.nd rfl orL (ai aj (pv' 1) af)) zh2) fun zt1 zh1 ze1=>?_
 refine ⟨_,ae (MC (i:=3) (j:=4) rfl cv.nd rfl rfl (by decide) rfl rfl (pa2 (ai au (pv' 0) af) (ai au (pv' 0) af)) (by rfl)) zh1,?_⟩
 obtain ⟨gt,lt,ht,dt,h1,h2,h3,h4,h5⟩:=hSt
 obtain ⟨hp,hdl,⟨as,hcl,hT⟩,_,ek⟩:=id hP
 have l2:=hg.sh.l2
 have l6:=hg.sh.l6
 have gl:=hn.gl
 have fl:=hn.fl
 k_mem
 refine ⟨_,SqL.of hp,_,rfl,_,SqL.of hp,_,rfl,?_⟩
 k_mem
 refine ⟨_,h1,_,rfl,?_⟩
 k_mem
 refine ⟨_,.inl (SqL.of hdl),by omega,by rw [WB];omega,?_⟩
 rw [WB,Int.toNat_natCast,←fl]
 refine eB (fun j=>!n.fs.getD j false) (fun (j:Nat)=>.int (j:Int)) (by rw [sizeLine_eq];omega) rfl (fun i hi N hN=>?_) (fun i hi _ N hN=>?_) fun lv hlv=>?_
 ·k_mem
  k_upd
  refine ⟨_,h1,_,rfl,?_⟩
  k_mem
  refine ⟨_,.inr h5,rfl,by simp [bW],?_⟩
  rw [iq]
  have:(!decide (0+(i:Int)∈dj n.fs))=!n.fs.getD i false:=by
   congr 1
   rw [Bool.eq_iff_iff,decide_eq_true_eq,iH,Int.zero_add,Int.toNat_natCast]
   k_upd
   exact ⟨fun z=>z.2.2,fun z=>⟨Int.natCast_nonneg _,by omega,z⟩⟩
  rw [this]
  exact hN
 ·k_mem
  rw [Int.zero_add]
  exact hN
 rw [show List.map (fun (j:Nat)=>V.int (j:Int)) (List.filter (fun j=>!n.fs.getD j false) (List.range n.fs.length))=(jK n.fs).map V.int by unfold jK;rw [List.map_map];rfl] at *
 (generalize hE:upd H lv _=H1 at *;have s1:=bK hE hlv;have hlv1:=bg hE;clear hE)
 k_mem
 have h41:=s1.tup h4
 rcases Qs n.e with ⟨l,rr,he⟩ | ⟨l,rr,he⟩ | ⟨w1,w2,w3,w4,he,na,nb⟩
 ·simp only [he] at h41
  have hr:=hn.code hg (.inl he)
  k_upd
  refine ⟨_,h41,_,rfl,?_⟩
  k_mem
  rw [if_pos rfl]
  k_upd
  refine ⟨_,h41,_,rfl,by decide,fun dd hdd=>?_⟩
  k_upd
  exact q dd (.rept rr) _ (s1.lay hdd) (SqT.of ah) trivial (DN he hr.1 hr.2)
 ·simp only [he] at h41
  obtain ⟨el0,el1,erc⟩:=hn.ew l rr (.inr he)
  k_upd
  refine ⟨_,h41,_,rfl,?_⟩
  k_mem
  rw [if_neg (by decide)]
  k_upd
  refine ⟨_,h41,_,rfl,?_⟩
  k_mem
  rw [if_neg (by decide)]
  k_upd
  refine ⟨_,h41,_,rfl,?_⟩
  k_mem
  rw [if_neg (by decide)]
  k_upd
  refine ⟨by decide,by decide,?_⟩
  k_upd
  refine cI (P6 H1 p a dl cl ht lv r g n) ⟨aw.refl H1,⟨_,_,_,rfl⟩,fun c h0 h=>by omega⟩ ?_ ?_
  ·rintro i σ H2 hi ⟨s2,⟨t1,t2,t3,rfl⟩,hj⟩
   have s12:=s1.trans s2
   have hi2:i < 2:=hi
   k_mem
   refine ⟨_,s12.tup h1,_,rfl,?_⟩
   k_mem
   refine ⟨dl,g.ds,0+(i:Int),n.place,rfl,SqL.of (s12 _ _ hdl),hg.sh,by omega,by omega,fun H3 s3=>?_⟩
   have s13:=s12.trans s3
   k_mem
   split
   ·rename_i hge
    obtain ⟨l',e1,e2⟩:=Cq (by omega:¬(bQ g.ds n.place (0+(i:Int))).getD (-1) < 0)
    obtain ⟨c0,c1,_⟩:=dz e1
    rw [e2] at *
    k_upd
    refine ⟨_,s13.tup h1,_,rfl,?_⟩
    k_mem
    refine ⟨_,s13.tup h2,_,fB c0 (by show l' < (n.gates.length:Int);omega),?_⟩
    k_mem
    split
    ·rename_i ho
     k_upd
     refine ⟨by decide,fun dd hdd=>?_⟩
     k_upd
     exact q dd (.sht l') _ (s13.lay hdd) (SqT.of ah) trivial (tY c0 c1 ho)
    ·rename_i ho
     k_upd
     refine ⟨s2.trans s3,⟨_,_,_,rfl⟩,fun c h0 h l2 el=>?_⟩
     by_cases ec:c=(i:Int)
     ·subst ec
      rw [Int.zero_add] at e1
      rw [e1] at el
      cases el
      simpa using ho
     ·exact hj c h0 (by omega) l2 el
   ·rename_i hge
    have e1:=Hy (by omega:(bQ g.ds n.place (0+(i:Int))).getD (-1) < 0)
    k_upd
    refine ⟨s2.trans s3,⟨_,_,_,rfl⟩,fun c h0 h l2 el=>?_⟩
    by_cases ec:c=(i:Int)
    ·subst ec
     rw [Int.zero_add] at e1
     rw [e1] at el
     cases el
    ·exact hj c h0 (by omega) l2 el
  ·rintro σ H2 ⟨s2,⟨t1,t2,t3,rfl⟩,hj⟩
   have s12:=s1.trans s2
   have ho:eR g n=false:=BB hg.sh fun c hc l' el=>hj c (by omega) (by show c < ((2:Nat):Int);omega) l' el
   have h42:=s2.tup h41
   obtain ⟨ra,era,hra⟩:=mn (hT.same s12) el0 (by rw [hg.lc];exact el1)
   k_mem
   refine ⟨by decide,fun p1 hp1=>?_⟩
   have f1:=(aw.refl H2).lay (o:=HO.lst [V.str (Str.ofString "coal"),V.str (Str.ofString "men")]) hp1
   have hp1':upd H2 p1 (HO.lst [V.str (Str.ofString "coal"),V.str (Str.ofString "men")]) p1=some (HO.lst [V.str (Str.ofString "coal"),V.str (Str.ofString "men")]):=ah
   generalize upd H2 p1 (HO.lst [V.str (Str.ofString "coal"),V.str (Str.ofString "men")])=H3 at *
   have s13:=s12.trans f1
   have h43:=f1.tup h42
   k_upd
   refine ⟨_,h43,_,rfl,?_⟩
   k_mem
   refine ⟨_,SqL.of (s13 _ _ hcl),_,era,?_⟩
   k_mem
   refine ⟨_,f1.tup hra,_,rfl,?_⟩
   k_mem
   refine ⟨_,h43,_,rfl,?_⟩
   k_mem
   refine ⟨_,SqL.of hp1',_,Hx,?_⟩
   k_mem
   refine ⟨_,h43,_,rfl,by decide,fun dd hdd=>?_⟩
   by_cases e:(eN g.ls l).1=rr
   ·refine q dd (.wind (r % 2) l "men") _ (s13.lay hdd) (SqT.of (by rw [ah];simp only [e,decide_true,if_true];rfl)) ⟨⟨by omega,by omega⟩,.inl rfl⟩ (xI el0 el1 ho ?_)
    rw [he,cM,if_pos rfl,e]
   ·refine q dd (.wind (r % 2) l "coal") _ (s13.lay hdd) (SqT.of (by rw [ah];simp only [e,decide_false,Bool.false_eq_true,if_false];rfl)) ⟨⟨by omega,by omega⟩,.inr rfl⟩ (xI el0 el1 ho ?_)
    rw [he,cM,if_neg (by decide)]
    rcases erc with h | h
    ·exact absurd h.symm e
    ·rw [h]
 ·simp only [he] at h41
  k_upd
  refine ⟨_,h41,_,rfl,?_⟩
  k_mem
  rw [if_neg na]
  k_upd
  refine ⟨_,h41,_,rfl,?_⟩
  k_mem
  rw [if_pos nb]
  k_upd
  refine ⟨by decide,fun p1 hp1=>?_⟩
  have f1:=(aw.refl H1).lay (o:=HO.lst []) hp1
  have hp1':upd H1 p1 (HO.lst []) p1=some (HO.lst []):=ah
  generalize upd H1 p1 (HO.lst [])=H2 at *
  have s12:=s1.trans f1
  have h42:=f1.tup h41
  k_mem
  refine ⟨_,SqL.of (f1 _ _ hlv1),_,SqL.of hp1',by simp [bW],rfl,?_⟩
  rw [Hw]
  k_mem
  by_cases hz:(jK n.fs).map V.int=[]
  ·rw [if_neg (fun z=>z hz)]
   k_upd
   refine ⟨_,h42,_,rfl,?_⟩
   k_mem
   rw [if_pos nb]
   k_upd
   refine ⟨by decide,fun p2 hp2=>⟨by decide,fun p3 hp3=>⟨by decide,fun p4 hp4=>?_⟩⟩⟩
   have f4:=(((aw.refl H2).lay (o:=HO.tup [V.str (Str.ofString "open"),V.int 0]) hp2).lay (o:=HO.tup [V.str (Str.ofString "shut"),V.int 0]) hp3).lay (o:=HO.lst [V.ref p2,V.ref p3]) hp4
   have e2:upd (upd (upd H2 p2 (HO.tup [V.str (Str.ofString "open"),V.int 0])) p3 (HO.tup [V.str (Str.ofString "shut"),V.int 0])) p4 (HO.lst [V.ref p2,V.ref p3]) p2=some (HO.tup [V.str (Str.ofString "open"),V.int 0]):=upo (upo ah hp3) hp4
   have e3:upd (upd (upd H2 p2 (HO.tup [V.str (Str.ofString "open"),V.int 0])) p3 (HO.tup [V.str (Str.ofString "shut"),V.int 0])) p4 (HO.lst [V.ref p2,V.ref p3]) p3=some (HO.tup [V.str (Str.ofString "shut"),V.int 0]):=upo ah hp4
   have e4:upd (upd (upd H2 p2 (HO.tup [V.str (Str.ofString "open"),V.int 0])) p3 (HO.tup [V.str (Str.ofString "shut"),V.int 0])) p4 (HO.lst [V.ref p2,V.ref p3]) p4=some (HO.lst [V.ref p2,V.ref p3]):=ah
   generalize upd (upd (upd H2 p2 (HO.tup [V.str (Str.ofString "open"),V.int 0])) p3 (HO.tup [V.str (Str.ofString "shut"),V.int 0])) p4 (HO.lst [V.ref p2,V.ref p3])=H3 at *
   have s13:=s12.trans f4
   k_upd
   refine ⟨_,s13.tup h1,_,rfl,?_⟩
   k_mem
   refine ⟨_,s13.tup h2,_,fB (l:=0) (by omega) (by show (0:Int) < (n.gates.length:Int);omega),?_⟩
   k_mem
   refine ⟨_,SqL.of e4,_,Hx,?_⟩
   by_cases hb:n.gates.getD 0 false=true
   ·rw [if_pos hb]
    k_upd
    exact q p3 (.sht 0) _ s13 (SqT.of e3) trivial (tY (by omega) (by omega) hb)
   ·rw [if_neg hb]
    k_upd
    exact q p2 (.opn 0) _ s13 (SqT.of e2) trivial (zg (by omega) (by omega) (by simpa using hb))
  ·rw [if_pos hz]
   have hlen:0 < (jK n.fs).length:=by
    rcases Nat.eq_zero_or_pos (jK n.fs).length with z | z
    ·exact absurd (by rw [List.eq_nil_of_length_eq_zero z];rfl) hz
    ·exact z
   have hm0:0<=r % ((jK n.fs).length:Int):=Int.emod_nonneg _ (by omega)
   have hm1:r % ((jK n.fs).length:Int) < ((jK n.fs).length:Int):=Int.emod_lt_of_pos _ (by omega)
   obtain ⟨v0,v1,v2⟩:=IM (dq (ds:=jK n.fs) (i:=(r % ((jK n.fs).length:Int)).toNat) (by omega))
   k_upd
   refine ⟨_,.inl (SqL.of (f1 _ _ hlv1)),by rw [WB];omega,_,SqL.of (f1 _ _ hlv1),_,by rw [WB];exact cU hm0 hm1,?_⟩
   generalize (jK n.fs).getD (r % ((jK n.fs).length:Int)).toNat 0=lx at *
   obtain ⟨ra,era,hra⟩:=mn (hT.same s12) v0 (by rw [hg.lc];omega)
   k_mem
   refine ⟨_,SqL.of (s12 _ _ hcl),_,era,?_⟩
   k_mem
   refine ⟨_,hra,_,two_deep (by omega) (by omega),by decide,fun dd hdd=>?_⟩
   refine q dd (.ring lx _) _ (s12.lay hdd) (SqT.of ah) trivial (DM v0 (by omega) v2 ?_)
   k_upd
   split
   ·exact .inl rfl
   ·exact .inr rfl
variable (l9:KD P w K mg base CX0 2 "_law_towards_wind" (gn K Z))
inductive gp (K:WA)(Z:Adr)(vs:List V)(H:Hp)(Q:VK)(E:XK):Prop | mk (p dl cl ll a:Addr) (g:Cfg) (lds:List Ld) (n:bh) (t r:Int):vs=[.ref p,.ref a,.int r]->dN K H p dl cl ll g lds->fg g->df g n->gP K H a (n,t)->(∀dd d H',aw H H'->SqT K H' dd (ddV d)->uZ d->cJ g n d=none->Q (.ref dd) H')->gp K Z vs H Q E
include T ji in
theorem we:FF P w K mg base CX0 2 "_law_towards_load" "_law_towards_load" dZ lp (gp K Z):=fk0 cW fun vs H Q E h=>by
 obtain ⟨p,dl,cl,ll,a,g,lds,n,t,r,rfl,hP,hg,hn,hSt,q⟩:=h
 k_all
 obtain ⟨t1,h1,k1⟩:∃t,PSs (yS CX0 P w K mg base ["_law_setup_here","_law_state","_law_rest","_law_cage","_law_level","_law_waits"] "_law_towards_load" (ak dZ) zf zv zA zo zs H E).nox ((cH dZ).drop 3) t/\∀(c l:Int) (H1:Hp),aw H H1->0<=c->c < 2->bQ g.ds n.place c=some l->t ({nx:=fun _ H2=>Q .non H2,rt:=Q}:oz) [some (.ref p),some (.ref a),some (.int r),some (.int c),some (.int l),none] H1:=by
  refine seg 4 (ag (ax (aY (pa3 aq (ai au (pv' 5) (bc rg (dU (pv' 2) af) (aE az (by rfl) T.bZ bx (pa1 (pv' 5))))) (pv' 3))))) fun zt4 zh4 ze4=>?_
  refine seg 3 (ae (aM (dO (HL hr.units0) (pv' 5) (bj iK) (cy _)) (ag (ax (aY (pa2 aq (pv' 4))))) (aA)) zh4) fun zt3 zh3 ze3=>?_
  refine seg 2 (ae (Hg ["_law_k","_law_state","_law_level"] [none,some 1,some 4] (iy:=5) cW.nd rfl rfl (bP (by rfl) T.cQ (pa1 (aE az (by rfl) T.bZ bx (pa1 (ai aj (pv' 1) af))))) (fun _ _ _ _=>(aJ (i:=0) (show (["_law_k","_law_state","_law_level"]:List Str).Nodup by decide +kernel) rfl orL)) (fun _ _ _ _=>(mh (bU (ai (show IxR _ (xH K) from aj) (ai (show IxR _ (xH K) from aj) (pv' 1) af) (pv' 0)) (pv' 2)))) (fun _ _ _ _=>(pv' 0))) zh3) fun zt2 zh2 ze2=>?_
  refine seg 1 (ae (aM (dO ez (bc bD af (pv' 3)) (ai aj (pv' 1) af) (by rfl)) (ag (ax (aY (pa2 aq (pv' 3))))) (aA)) zh2) fun zt1 zh1 ze1=>?_
  refine ⟨_,ae (aM (eY (cO (ai aj (ai aj (pv' 1) af) (pv' 4)))) (ag (ax (aY (pa2 aq (pv' 4))))) (aA)) zh1,?_⟩
  intro c l H1 s1 c0 c1 hl
  obtain ⟨gt,lt,ht,dt,h1,h2,h3,h4,h5⟩:=(hSt.same s1).un
  obtain ⟨l0,l1,_⟩:=dz hl
  have gl:=hn.gl
  have wl:=hn.wl
  have k30:=hg.k30
  k_mem
  refine ⟨_,h1,_,rfl,?_⟩
  k_mem
  refine ⟨_,h2,_,fB l0 (by show l < (n.gates.length:Int);omega),?_⟩
  k_mem
  split
  ·rename_i ho
   k_upd
   refine ⟨by decide,fun dd hdd=>?_⟩
   k_upd
   exact q dd (.opn l) _ (s1.lay hdd) (SqT.of ah) trivial (zg l0 l1 ho)
  rename_i ho
  have ho':n.gates.getD l.toNat false=true:=by simpa using ho
  k_upd
  refine ⟨_,h1,_,rfl,?_⟩
  k_mem
  refine ⟨_,.inr (SqT.of h3),rfl,by simp [bW],?_⟩
  rw [iq]
  k_mem
  split
  ·rename_i hin
   k_upd
   refine ⟨by decide,fun dd hdd=>?_⟩
   k_upd
   exact q dd (.unload c) _ (s1.lay hdd) (SqT.of ah) ⟨c0,c1⟩ (sV hin hl ho')
  rename_i hin
  k_upd
  refine ⟨_,h1,_,rfl,?_⟩
  k_mem
  refine ⟨_,.inr (SqT.of h3),by omega,by rw [WB];omega,?_⟩
  rw [WB,Int.toNat_natCast]
  refine eB (fun j=>decide (n.ws.getD j 0=l)) (fun (j:Nat)=>.int (j:Int)) (by rw [sizeLine_eq];omega) rfl (fun i hi N hN=>?_) (fun i hi _ N hN=>?_) fun lv hlv=>?_
  ·k_mem
   k_upd
   refine ⟨_,h1,_,rfl,?_⟩
   k_mem
   refine ⟨_,SqT.of h3,_,by rw [Int.zero_add];exact gL hi,?_⟩
   k_mem
   by_cases e:n.ws.getD i 0=l
   ·rw [if_pos e];rw [decide_eq_true e] at hN;exact hN
   ·rw [if_neg e];rw [decide_eq_false e] at hN;exact hN
  ·k_mem
   rw [Int.zero_add]
   exact hN
  rw [show List.map (fun (j:Nat)=>V.int (j:Int)) (List.filter (fun j=>decide (n.ws.getD j 0=l)) (List.range n.ws.length))=(iP n.ws l).map V.int by unfold iP AA;rw [List.map_map];rfl] at *
  have s2:=s1.lay (o:=HO.lst ((iP n.ws l).map V.int)) hlv
  have hlv1:upd H1 lv (HO.lst ((iP n.ws l).map V.int)) lv=some (HO.lst ((iP n.ws l).map V.int)):=ah
  generalize upd H1 lv (HO.lst ((iP n.ws l).map V.int))=H2 at *
  k_mem
  refine ⟨by decide,fun p1 hp1=>?_⟩
  have f1:=(aw.refl H2).lay (o:=HO.lst []) hp1
  have hp1':upd H2 p1 (HO.lst []) p1=some (HO.lst []):=ah
  generalize upd H2 p1 (HO.lst [])=H3 at *
  have s3:=s2.trans f1
  k_upd
  refine ⟨_,SqL.of (f1 _ _ hlv1),_,SqL.of hp1',by simp [bW],rfl,?_⟩
  rw [Hw]
  k_mem
  by_cases hz:(iP n.ws l).map V.int=[]
  ·rw [if_pos hz]
   k_upd
   refine ⟨by decide,fun dd hdd=>?_⟩
   k_upd
   exact q dd (.sht l) _ (s3.lay hdd) (SqT.of ah) trivial (tY l0 l1 ho')
  ·rw [if_neg hz]
   have hlen:0 < (iP n.ws l).length:=by
    rcases Nat.eq_zero_or_pos (iP n.ws l).length with z | z
    ·exact absurd (by rw [List.eq_nil_of_length_eq_zero z];rfl) hz
    ·exact z
   have hm0:0<=r / 2 % ((iP n.ws l).length:Int):=Int.emod_nonneg _ (by omega)
   have hm1:r / 2 % ((iP n.ws l).length:Int) < ((iP n.ws l).length:Int):=Int.emod_lt_of_pos _ (by omega)
   obtain ⟨v0,v1,v2⟩:=KU (dq (ds:=iP n.ws l) (i:=(r / 2 % ((iP n.ws l).length:Int)).toNat) (by omega))
   k_upd
   refine ⟨_,.inl (SqL.of (f1 _ _ hlv1)),by rw [WB];omega,_,SqL.of (f1 _ _ hlv1),_,by rw [WB];exact cU hm0 hm1,by decide,fun dd hdd=>?_⟩
   k_upd
   exact q dd (.load _ c) _ (s3.lay hdd) (SqT.of ah) ⟨c0,c1⟩ (xJ v0 v1 hl v2 hin ho')
 refine seg 2 (ae (aM (jM (pv' 4) af) (ae (aF (i:=3) cW.nd rfl orL (bc dS af (pv' 3))) (ag (aF (i:=4) cW.nd rfl (Or.inr rfl) (dc0 ji hr.dn (pa3 (ai au (pv' 0) af) (pv' 3) (ai aj (pv' 1) af)))))) (aA)) h1) fun zt2 zh2 ze2=>?_
 refine seg 1 (ae (aF (i:=4) cW.nd rfl (Or.inr rfl) (dc0 ji hr.dn (pa3 (ai au (pv' 0) af) (pv' 3) (ai aj (pv' 1) af)))) zh2) fun zt1 zh1 ze1=>?_
 refine ⟨_,ae (aF (i:=3) cW.nd rfl orL (cb (pv' 2) af)) zh1,?_⟩
 obtain ⟨gt,lt,ht,dt,h1,h2,h3,h4,h5⟩:=hSt.un
 obtain ⟨hp,hdl,_,_,_⟩:=id hP
 k_mem
 refine ⟨_,SqL.of hp,_,rfl,_,h1,_,rfl,?_⟩
 k_mem
 refine ⟨dl,g.ds,r % 2,n.place,rfl,SqL.of hdl,hg.sh,by omega,by omega,fun H1 s1=>?_⟩
 k_mem
 split
 ·rename_i hlt
  have e0:=Hy hlt
  k_upd
  refine ⟨_,SqL.of (s1 _ _ hp),_,rfl,_,s1.tup h1,_,rfl,?_⟩
  k_mem
  refine ⟨dl,g.ds,1 - r % 2,n.place,rfl,SqL.of (s1 _ _ hdl),hg.sh,by omega,by omega,fun H2 s2=>?_⟩
  k_mem
  obtain ⟨c,hc,l,hl⟩:=hn.st
  have ec:c=1 - r % 2:=by
   rcases (by omega:c=r % 2\/c=1 - r % 2) with e | e
   ·rw [←e,hl] at e0;cases e0
   ·exact e
  rw [ec] at hl
  rw [hl]
  exact k1 _ l _ (s1.trans s2) (by omega) (by omega) hl
 ·rename_i hlt
  obtain ⟨l,hl,el⟩:=Cq hlt
  rw [el]
  exact k1 _ l _ s1 (by omega) (by omega) hl
variable (ma:KD P w K mg base CX0 2 "_law_towards_load" (gp K Z))
inductive og (K:WA)(Z:Adr)(vs:List V)(H:Hp)(Q:VK)(E:XK):Prop | mk (y kn wh:Addr) (ks:List Str) (ws:List Int) (m n c:Int):vs=[.ref y,.int n,.int c]->dB Z.eW H y kn wh ks ws m->0<=c->c < 2->((¬(0<=n/\n < ws.length)->E (.ref Z.aG) none H))->((0<=n->n < ws.length->(ws.getD n.toNat 0=10\/ws.getD n.toNat 0=11)->E (.ref Z.aV) none H))->((0<=n->n < ws.length->¬(ws.getD n.toNat 0=10\/ws.getD n.toNat 0=11)->10+c∈ws->∀H',aw H H'->E (.ref Z.aO) none H'))->((0<=n->n < ws.length->¬(ws.getD n.toNat 0=10\/ws.getD n.toNat 0=11)->¬10+c∈ws->∀H',aD wh H H'->H' wh=some (.lst ((ws.set n.toNat (10+c)).map V.int))->Q .non H'))->og K Z vs H Q E
include T cS iE in
theorem CU:FF P w K mg base (CXf P w) 3 "into" "Yard.into" pk xN (og K Z):=fkF Cu fun vs H Q E h=>by
 obtain ⟨y,kn,wh,ks,ws,m,n,c,rfl,hy,h0,h1,q1,q2,q3,q4⟩:=h
 k_all
 refine seg 3 (ag (oM (ai aj (dX (by rfl) T.ix) (pv' 2)) (yM (aC (pv' 0)) (pv' 1) kY))) fun zt3 zh3 ze3=>?_
 refine seg 2 (ae (aM (Mz (dm' (pv' 0) cS hr.dn bB (pa1 (pv' 2))) eO) (ag (bE T.Ei (by rfl) T.xX (pa1 aq))) (aA)) zh3) fun zt2 zh2 ze2=>?_
 refine seg 1 (ae (aM (dO ez (ai au (aC (pv' 0)) (pv' 1)) (dX (by rfl) T.ix) (by rfl)) (ag (bE T.uv (by rfl) T.mT (pa1 aq))) (aA)) zh2) fun zt1 zh1 ze1=>?_
 refine ⟨_,ae (bN (dc iE hr.dn cj (pa2 (pv' 1) (aE az (by rfl) T.bZ bx (pa1 (aC (pv' 0))))))) zh1,?_⟩
 obtain ⟨⟨dx,hob⟩,hkn,hwh⟩:=id hy
 k_mem
 refine fgo hob T.dh T.cz rfl ?_
 k_mem
 refine ⟨_,.inl (SqL.of hwh),_,_,rfl,?_⟩
 rw [WB]
 k_upd
 refine ⟨fun hn=>?_,q1⟩
 ·k_mem
  k_upd
  refine fgo hob T.dh T.cz rfl ?_
  k_mem
  refine ⟨_,SqL.of hwh,_,cU hn.1 hn.2,_,.inr (T.iz _),rfl,rfl,?_⟩
  rw [Bv]
  k_mem
  split
  ·rename_i h2
   k_upd
   exact ⟨by decide,q2 hn.1 hn.2 h2⟩
  ·rename_i h2
   k_upd
   refine mgo hob rfl ⟨_,_,_,_,_,_,_,rfl,hy,h0,h1,fun H' s1=>?_⟩
   k_mem
   by_cases hm:10+c∈ws
   ·rw [inC,if_pos hm,if_pos (show ¬(V.int _=V.non) from fun z=>V.noConfusion z)]
    k_upd
    exact ⟨by decide,q3 hn.1 hn.2 h2 hm H' s1⟩
   ·rw [inC,if_neg hm,if_neg (fun z=>z rfl)]
    k_upd
    refine ⟨_,T.iz _,_,Bs h0 h1,_,_,_,s1 _ _ hob,T.dh,T.cz,_,rfl,?_⟩
    k_mem
    refine ⟨_,s1 _ _ hwh,_,Cf hn.1 (by rw [WB];exact hn.2),?_⟩
    refine q4 hn.1 hn.2 h2 hm _ (aD.put (aD.of s1)) ?_
    rw [ah,List.map_set]
variable (yd:KM P w K mg base (CXf P w) 3 Z.eW "into" (og K Z))
inductive qP (K:WA)(Z:Adr)(vs:List V)(H:Hp)(Q:VK)(E:XK):Prop | mk (y kn wh:Addr) (ks:List Str) (ws:List Int) (m c lv:Int):vs=[.ref y,.int c,.int lv]->dB Z.eW H y kn wh ks ws m->0<=c->c < 2->((¬(0<=lv/\lv < m)->E (.ref Z.ay) none H))->((0<=lv->lv < m->¬10+c∈ws->∀H',aw H H'->E (.ref Z.aP) none H'))->((0<=lv->lv < m->10+c∈ws->∀H',aD wh H H'->H' wh=some (.lst ((ws.set (ws.idxOf (10+c)) lv).map V.int))->Q .non H'))->qP K Z vs H Q E
include T cS bI in
theorem ET:FF P w K mg base (CXf P w) 3 "out" "Yard.out" ub zk (qP K Z):=fkF xU fun vs H Q E h=>by
 obtain ⟨y,kn,wh,ks,ws,m,c,lv,rfl,hy,h0,h1,q1,q2,q3⟩:=h
 k_all
 refine seg 3 (ag (oM (pv' 2) (yM (aC (pv' 0)) (pv' 3) kY))) fun zt3 zh3 ze3=>?_
 refine seg 2 (ae (aM (Cs (pv' 3) eO) (ag (bE T.xY (by rfl) T.pJ (pa1 aq))) (aA)) zh3) fun zt2 zh2 ze2=>?_
 refine seg 1 (ae (aF (i:=3) xU.nd rfl orL (dm' (pv' 0) cS hr.dn bB (pa1 (pv' 1)))) zh2) fun zt1 zh1 ze1=>?_
 refine ⟨_,ae (bN (dc bI hr.dn cj (pa2 (pv' 2) (aC (pv' 0))))) zh1,?_⟩
 obtain ⟨⟨dx,hob⟩,hkn,hwh⟩:=id hy
 k_mem
 refine fgo hob T.dh T.iA rfl ?_
 k_mem
 refine ⟨_,_,rfl,fun hlv=>?_,q1⟩
 k_mem
 refine mgo hob rfl ⟨_,_,_,_,_,_,_,rfl,hy,h0,h1,fun H' s1=>?_⟩
 k_mem
 by_cases hm:10+c∈ws
 ·rw [inC,if_pos hm,if_neg (show ¬(V.int _=V.non) from fun z=>V.noConfusion z)]
  have hlt:ws.idxOf (10+c) < ws.length:=List.idxOf_lt_length_iff.mpr hm
  k_mem
  refine fgo (s1 _ _ hob) T.dh T.cz rfl ?_
  k_mem
  refine ⟨_,s1 _ _ hwh,_,Cf (Int.natCast_nonneg _) (by rw [WB];omega),?_⟩
  refine q3 hlv.1 hlv.2 hm _ (aD.put (aD.of s1)) ?_
  rw [ah,List.map_set];rfl
 ·rw [inC,if_neg hm,if_pos rfl]
  k_upd
  exact ⟨by decide,q2 hlv.1 hlv.2 hm H' s1⟩
variable (An:KM P w K mg base (CXf P w) 3 Z.eW "out" (qP K Z))
inductive gF (K:WA)(Z:Adr)(vs:List V)(H:Hp)(Q:VK)(E:XK):Prop | mk (y kn wh:Addr) (ks:List Str) (ws:List Int) (m lv:Int):vs=[.ref y,.int lv]->dB Z.eW H y kn wh ks ws m->ws.length<=1000->((0<=lv/\lv < m->∀p H',H p=none->aw H H'->H' p=some (.lst ((iP ws lv).map V.int))->Q (.ref p) H'))->((¬(0<=lv/\lv < m)->E (.ref Z.ay) none H))->gF K Z vs H Q E
include T bI in
theorem xA:FF P w K mg base (CXf P w) 3 "at_level" "Yard.at_level" gS ot (gF K Z):=fkF xa fun vs H Q E h=>by
 obtain ⟨y,kn,wh,ks,ws,m,lv,rfl,hy,hlen,q1,q2⟩:=h
 k_all
 refine seg 1 (ag (ax (oq ["number","spot","level"] [none,none,some 1] (zi (by rfl) T.pH mi (aC (pv' 0))) (fun _ _ _ _=>(show PG _ _ (sU K 2 _) from fu (n:=2) rfl (aN (aJ (i:=0) (show (["number","spot","level"]:List Str).Nodup by decide +kernel) rfl orL) (aN (aJ (i:=1) (show (["number","spot","level"]:List Str).Nodup by decide +kernel) rfl orL) dY)))) (fun _ _ _ _=>(mh (bU (pv' 1) (pv' 2)))) (fun _ _ _ _=>(pv' 0))))) fun zt1 zh1 ze1=>?_
 refine ⟨_,ae (bN (dc bI hr.dn cj (pa2 (pv' 1) (aC (pv' 0))))) zh1,?_⟩
 obtain ⟨⟨dx,hob⟩,hkn,hwh⟩:=id hy
 k_mem
 refine fgo hob T.dh T.iA rfl ?_
 k_mem
 refine ⟨_,_,rfl,fun hlv=>?_,q2⟩
 k_mem
 refine fgo hob T.dh T.cz rfl ?_
 k_mem
 refine ⟨⟨_,SqL.of hwh⟩,?_⟩
 refine wN ws.length (fun i acc H'=>aw H H'/\acc=(AA ws lv i).map V.int) ⟨aw.refl H,rfl⟩ ?_ ?_ ?_ ?_
 ·rintro i acc H' hi ⟨s1,_⟩
  k_upd
  exact ⟨_,_,s1.seq (SqL.of hwh),by rw [List.getElem?_map,kW hi];rfl⟩
 ·rintro acc H' ⟨s1,_⟩
  k_upd
  exact ⟨_,s1.seq (SqL.of hwh),by rw [WB];exact Nat.le_refl _⟩
 ·rintro i acc H' hi ⟨s1,rfl⟩
  k_upd
  refine ⟨by have:=Dz ws lv i;rw [WB,sizeLine_eq];omega,?_⟩
  rintro x H2 ⟨tp,z,rfl,htp,rfl,hz⟩ M hM
  have e:=hz _ (s1.seq (SqL.of hwh))
  rw [List.getElem?_map,kW hi] at e
  cases e
  k_mem
  refine ⟨_,SqT.of ah,rfl,?_⟩
  k_mem
  refine ⟨⟨rfl,fun k v e=>?_⟩,?_⟩
  ·match k,e with
   | 0,e=>cases e
   | 1,e=>cases e
   | 2,e=>exact e
  ·have gs:=ID ws lv i
   k_upd
   split
   ·rename_i h
    refine hM _ _ ⟨s1.lay htp,?_⟩
    rw [gs,if_pos h,List.map_append];rfl
   ·rename_i h
    refine hM _ _ ⟨s1.lay htp,?_⟩
    rw [gs,if_neg h,List.append_nil]
 ·rintro acc H' ⟨s1,rfl⟩ p hp
  k_upd
  exact q1 hlv p _ (s1.free hp) (s1.lay hp) ah
variable (oy:KM P w K mg base (CXf P w) 3 Z.eW "at_level" (gF K Z))
inductive oh (K:WA)(Z:Adr)(vs:List V)(H:Hp)(Q:VK)(E:XK):Prop | mk (y kn wh:Addr) (ks:List Str) (ws:List Int) (m:Int):vs=[.ref y]->dB Z.eW H y kn wh ks ws m->(∀(y' kn' wh':Addr) (H':Hp),H y'=none->H kn'=none->H wh'=none->kn'≠wh'->aw H H'->dB Z.eW H' y' kn' wh' ks ws m->Q (.ref y') H')->oh K Z vs H Q E
include T jT in
theorem CV:FF P w K mg base CX0 3 "twin" "Yard.twin" pz xO (oh K Z):=fk0 vA fun vs H Q E h=>by
 obtain ⟨y,kn,wh,ks,ws,m,rfl,hy,q⟩:=h
 k_all
 refine ⟨_,ae (aF (i:=1) vA.nd rfl orL (dn jT hr.dn T.K9 bB (pa2 (bj iK) (aC (pv' 0))))) (ae (cu (pv' 1) (bw bH (by rfl) T.eU dH (pa1 (aC (pv' 0)))) rfl) (ae (cu (pv' 1) (bw bH (by rfl) T.eU dH (pa1 (aC (pv' 0)))) rfl) (ag (ax (pv' 1))))),?_⟩
 obtain ⟨⟨dy,hob⟩,hkn,hwh⟩:=id hy
 k_mem
 refine ⟨by decide,fun p0 hp0=>⟨_,_,_,upo hob hp0,T.dh,T.iA,_,rfl,?_⟩⟩
 refine fun x dx hx hdx nxd=>?_
 have s0:=(aw.refl H).lay (o:=HO.lst []) hp0
 have hx':upd (upd H p0 (HO.lst [])) dx (.own x) x=none:=by rw [aL (Ne.symm nxd)];exact hx
 refine ⟨x,dx,p0,[],m,rfl,ah,⟨[],SqL.of (upo (upo ah hdx) hx'),ju.nil⟩,by decide,fun kn0 wh0 H1 hkn0 hwh0 nkw kp hy1=>⟨rfl,?_⟩⟩
 have s1:=s0.trans (gM hx hdx kp)
 obtain ⟨⟨dx1,hob1⟩,hkn1,hwh1⟩:=id hy1
 have hxn:H x=none:=s0.free hx
 clear kp hy1
 k_mem
 refine fgo (s1 _ _ hob) T.dh T.gI rfl ?_
 k_mem
 refine ⟨_,.inl (SqL.of (s1 _ _ hkn)),fun k1 hk1=>⟨_,_,_,upo hob1 hk1,T.dh,T.gI,by show 3 < 1000;decide,?_⟩⟩
 have nk1:k1≠x:=fun z=>by rw [z,hob1] at hk1;cases hk1
 have s2:aw H (upd (upd H1 k1 (HO.lst (ks.map V.str))) x (HO.ins Z.eW dx1 (bG "kinds" (.ref k1) [("kinds",V.ref kn0),("where",V.ref wh0),("many",V.int m)]))):=(s1.lay hk1).rewr hxn
 have hob2:upd (upd H1 k1 (HO.lst (ks.map V.str))) x (HO.ins Z.eW dx1 (bG "kinds" (.ref k1) [("kinds",V.ref kn0),("where",V.ref wh0),("many",V.int m)])) x=some (HO.ins Z.eW dx1 [("kinds",V.ref k1),("where",V.ref wh0),("many",V.int m)]):=by rw [ah];rfl
 have hk2:upd (upd H1 k1 (HO.lst (ks.map V.str))) x (HO.ins Z.eW dx1 (bG "kinds" (.ref k1) [("kinds",V.ref kn0),("where",V.ref wh0),("many",V.int m)])) k1=some (HO.lst (ks.map V.str)):=by rw [aL nk1,ah]
 generalize upd (upd H1 k1 (HO.lst (ks.map V.str))) x (HO.ins Z.eW dx1 (bG "kinds" (.ref k1) [("kinds",V.ref kn0),("where",V.ref wh0),("many",V.int m)]))=H2 at *
 refine fgo (s2 _ _ hob) T.dh T.cz rfl ?_
 k_mem
 refine ⟨_,.inl (SqL.of (s2 _ _ hwh)),fun w1 hw1=>⟨_,_,_,upo hob2 hw1,T.dh,T.cz,by show 3 < 1000;decide,?_⟩⟩
 have nw1:w1≠x:=fun z=>by rw [z,hob2] at hw1;cases hw1
 have nkw1:k1≠w1:=av hk2 hw1
 refine q x k1 w1 _ hxn (s1.free hk1) (s2.free hw1) nkw1 ((s2.lay hw1).rewr hxn) ⟨⟨dx1,by rw [ah];rfl⟩,?_,?_⟩
 ·rw [aL nk1,aL nkw1];exact hk2
 ·rw [aL nw1,ah]
variable (ye:KM P w K mg base CX0 3 Z.eW "twin" (oh K Z))
theorem OU (s:Int)(x:Cd):inV (.int s) (cdV x)=decide (s=x.1\/s=x.2):=Hb s x.1 x.2
inductive kK (K:WA)(Z:Adr)(vs:List V)(H:Hp)(Q:VK)(E:XK):Prop | mk (b cs fl st:Addr) (ls:List Cd) (fs:List Bool) (e:Eng) (lv s:Int):vs=[.ref b,.int lv,.int s]->bO Z.bV K H b cs fl st ls fs e->((¬(0<=lv/\lv < ls.length)->E (.ref Z.ay) none H))->((0<=lv->lv < ls.length->fs.getD lv.toNat false=true->E (.ref Z.ba) none H))->((0<=lv->lv < ls.length->fs.getD lv.toNat false=false->¬(s=(eN ls lv).1\/s=(eN ls lv).2)->E (.ref Z.bC) none H))->((0<=lv->lv < ls.length->fs.getD lv.toNat false=false->(s=(eN ls lv).1\/s=(eN ls lv).2)->∀st' H',aD b H H'->bO Z.bV K H' b cs fl st' ls fs (.wait lv s)->Q .non H'))->kK K Z vs H Q E
include T bI in
theorem Ba:FF P w K mg base (CXf P w) 3 "ring" "Bells.ring" mB vg (kK K Z):=fkF AH fun vs H Q E h=>by
 obtain ⟨b,cs,fl,st,ls,fs,e,lv,s,rfl,hB,q1,q2,q3,q4⟩:=h
 k_all
 refine seg 3 (ag (cu (pv' 0) (aY (pa4 aq (pv' 1) (pv' 2) eO)) rfl)) fun zt3 zh3 ze3=>?_
 refine seg 2 (ae (aM (dO j5 (pv' 2) (ai au (aC (pv' 0)) (pv' 1)) (by rfl)) (ag (bE T.Eo (by rfl) T.zR (pa1 aq))) (aA)) zh3) fun zt2 zh2 ze2=>?_
 refine seg 1 (ae (aM (cO (ai au (aC (pv' 0)) (pv' 1))) (ag (bE T.Gw (by rfl) T.zQ (pa1 aq))) (aA)) zh2) fun zt1 zh1 ze1=>?_
 refine ⟨_,ae (bN (dc bI hr.dn cj (pa2 (pv' 1) (aE az (by rfl) T.bZ bx (pa1 (aC (pv' 0))))))) zh1,?_⟩
 obtain ⟨⟨dx,hob⟩,⟨as,hcs,hT⟩,hfl,hst,nn,ln⟩:=id hB
 k_mem
 refine fgo hob T.bM T.dA rfl ?_
 k_mem
 refine ⟨_,.inl (SqL.of hcs),_,_,rfl,?_⟩
 rw [WB,hT.1]
 k_upd
 refine ⟨fun hlv=>?_,q1⟩
 k_mem
 refine fgo hob T.bM T.cZ rfl ?_
 k_mem
 refine ⟨_,SqL.of hfl,_,fB hlv.1 (by omega),?_⟩
 k_mem
 split
 ·rename_i h
  k_upd
  exact ⟨by decide,q2 hlv.1 hlv.2 h⟩
 ·rename_i h
  k_upd
  refine fgo hob T.bM T.dA rfl ?_
  k_mem
  obtain ⟨ar,ea,hr⟩:=mn hT hlv.1 hlv.2
  k_upd
  refine ⟨_,SqL.of hcs,_,ea,?_⟩
  k_mem
  refine ⟨_,.inr hr,rfl,rfl,?_⟩
  rw [OU]
  k_mem
  split
  ·rename_i h2
   k_upd
   exact ⟨by decide,q3 hlv.1 hlv.2 (by simpa using h) h2⟩
  ·rename_i h2
   k_upd
   refine ⟨by decide,fun st' hst'=>⟨_,_,_,upo hob hst',T.bM,T.bR,by show 3 < 1000;decide,?_⟩⟩
   have nsx:st'≠b:=fun z=>by rw [z,hob] at hst';cases hst'
   refine q4 hlv.1 hlv.2 (by simpa using h) (Decidable.not_not.mp h2) st' _ ((aD.of ((aw.refl H).lay hst')).put) (hB.state ((aD.of ((aw.refl H).lay hst')).put) (dx:=dx) (by rw [ah];rfl) (SqT.of ?_))
   rw [aL nsx,ah];rfl
variable (wg:KM P w K mg base (CXf P w) 3 Z.bV "ring" (kK K Z))
inductive kL (K:WA)(Z:Adr)(vs:List V)(H:Hp)(Q:VK)(E:XK):Prop | mk (b cs fl st:Addr) (ls:List Cd) (fs:List Bool) (e:Eng) (lv:Int):vs=[.ref b,.int lv]->bO Z.bV K H b cs fl st ls fs e->((¬(0<=lv/\lv < ls.length)->E (.ref Z.ay) none H))->((0<=lv->lv < ls.length->fs.getD lv.toNat false=true->E (.ref Z.aS) none H))->((0<=lv->lv < ls.length->fs.getD lv.toNat false=false->∀H',aD fl H H'->H' fl=some (.lst ((fs.set lv.toNat true).map V.bl))->Q .non H'))->kL K Z vs H Q E
include T bI in
theorem Bb:FF P w K mg base (CXf P w) 3 "fail" "Bells.fail" mD vh (kL K Z):=fkF AI fun vs H Q E h=>by
 obtain ⟨b,cs,fl,st,ls,fs,e,lv,rfl,hB,q1,q2,q3⟩:=h
 k_all
 refine seg 2 (ag (oM fP (yM (aC (pv' 0)) (pv' 1) kY))) fun zt2 zh2 ze2=>?_
 refine seg 1 (ae (aM (cO (ai au (aC (pv' 0)) (pv' 1))) (ag (bE T.Aa (by rfl) T.uu (pa1 aq))) (aA)) zh2) fun zt1 zh1 ze1=>?_
 refine ⟨_,ae (bN (dc bI hr.dn cj (pa2 (pv' 1) (aE az (by rfl) T.bZ bx (pa1 (aC (pv' 0))))))) zh1,?_⟩
 obtain ⟨⟨dx,hob⟩,⟨as,hcs,hT⟩,hfl,hst,nn,ln⟩:=id hB
 k_mem
 refine fgo hob T.bM T.dA rfl ?_
 k_mem
 refine ⟨_,.inl (SqL.of hcs),_,_,rfl,?_⟩
 rw [WB,hT.1]
 k_upd
 refine ⟨fun hlv=>?_,q1⟩
 k_mem
 refine fgo hob T.bM T.cZ rfl ?_
 k_mem
 refine ⟨_,SqL.of hfl,_,fB hlv.1 (by omega),?_⟩
 k_mem
 split
 ·rename_i h
  k_upd
  exact ⟨by decide,q2 hlv.1 hlv.2 h⟩
 ·rename_i h
  k_upd
  refine fgo hob T.bM T.cZ rfl ?_
  k_mem
  refine ⟨_,hfl,_,Cf hlv.1 (by rw [WB];omega),?_⟩
  k_upd
  exact q3 hlv.1 hlv.2 (by simpa using h) _ ((aD.of (aw.refl H)).put) (by rw [ah,List.map_set])
variable (wj:KM P w K mg base (CXf P w) 3 Z.bV "fail" (kL K Z))
theorem OV (e:Eng)(lv c:Int):eqL (mm e) [V.str "armed",V.int lv,V.int c,V.int c]=match e with | .armed l' r=>decide (l'=lv/\r=c) | _=>false:=by
 cases e with
 | armed l r=>
  simp only [mm,eqL,Ce,Bool.and_true]
  have:eqV (V.str "armed") (V.str "armed")=true:=rfl
  rw [this]
  by_cases h1:l=lv<;>by_cases h2:r=c<;>simp [h1,h2]
 | _=>rfl
theorem MP {k:Str}(hk:k="men"\/k="coal"):∃i:Int,(if eqV (V.str "men") (V.str k)=true then (0:Int) else 1)=i/\(eqV (V.str "men") (V.str k) || eqV (V.str "coal") (V.str k))=true/\∀x:Cd,atI (cdV x) i=some (.int (if k="men" then x.1 else x.2)):=by
 rcases hk with rfl | rfl
 ·exact ⟨0,rfl,rfl,fun x=>rfl⟩
 ·exact ⟨1,rfl,rfl,fun x=>rfl⟩
inductive oi (K:WA)(Z:Adr)(vs:List V)(H:Hp)(Q:VK)(E:XK):Prop | mk (b cs fl st:Addr) (ls:List Cd) (fs:List Bool) (e:Eng) (lv:Int) (k:Str):vs=[.ref b,.int lv,.str k]->bO Z.bV K H b cs fl st ls fs e->((k="men"\/k="coal"))->((¬(0<=lv/\lv < ls.length)->E (.ref Z.ay) none H))->((0<=lv->lv < ls.length->e≠.armed lv (cM ls lv k)->∀H',aw H H'->E (.ref Z.aW) none H'))->((0<=lv->lv < ls.length->e=.armed lv (cM ls lv k)->∀st' H',aD b H H'->bO Z.bV K H' b cs fl st' ls fs (.used lv (cM ls lv k))->Q .non H'))->oi K Z vs H Q E
include T bI in
theorem CW:FF P w K mg base (CXf P w) 3 "use" "Bells.use" pA xP (oi K Z):=fkF vB fun vs H Q E h=>by
 obtain ⟨b,cs,fl,st,ls,fs,e,lv,k,rfl,hB,hk,q1,q2,q3⟩:=h
 k_all
 refine seg 3 (ag (cu (pv' 0) (aY (pa4 aq (pv' 1) (pv' 3) (pv' 3))) rfl)) fun zt3 zh3 ze3=>?_
 refine seg 2 (ae (aM (dO (Oo hr.units0) (aC (pv' 0)) (aY (pa4 aq (pv' 1) (pv' 3) (pv' 3))) (cy _)) (ag (bE T.Gz (by rfl) T.zS (pa1 aq))) (aA)) zh3) fun zt2 zh2 ze2=>?_
 refine seg 1 (ae (aF (i:=3) vB.nd rfl orL (ai aj (ai au (aC (pv' 0)) (pv' 1)) (sS PySem.F.plainAttrs_tuple PySem.F.slot_tuple_index PySem.F.type_tuple_index IC (dX (by rfl) T.ME) (pa1 (pv' 2))))) zh2) fun zt1 zh1 ze1=>?_
 refine ⟨_,ae (bN (dc bI hr.dn cj (pa2 (pv' 1) (aE az (by rfl) T.bZ bx (pa1 (aC (pv' 0))))))) zh1,?_⟩
 obtain ⟨⟨dx,hob⟩,⟨as,hcs,hT⟩,hfl,hst,nn,ln⟩:=id hB
 k_mem
 refine fgo hob T.bM T.dA rfl ?_
 k_mem
 refine ⟨_,.inl (SqL.of hcs),_,_,rfl,?_⟩
 rw [WB,hT.1]
 k_upd
 refine ⟨fun hlv=>?_,q1⟩
 k_mem
 obtain ⟨ar,ea,hr⟩:=mn hT hlv.1 hlv.2
 obtain ⟨i,ei,ek,ex⟩:=MP hk
 k_upd
 refine fgo hob T.bM T.dA rfl ?_
 k_mem
 refine ⟨_,SqL.of hcs,_,ea,.inr (.inl ⟨rfl,T.MG⟩),_,_,_,_,rfl,rfl,T.MF _,rfl,rfl,rfl,ek,?_⟩
 rw [ei]
 k_mem
 refine ⟨_,hr,_,ex _,?_⟩
 k_mem
 have ec:(if k=Str.ofString "men" then (eN ls lv).1 else (eN ls lv).2)=cM ls lv k:=rfl
 rw [ec]
 k_upd
 refine fgo hob T.bM T.bR rfl ⟨by decide,fun tp htp=>?_⟩
 k_mem
 refine ⟨_,_,_,_,rfl,rfl,((aw.refl H).lay htp).tup hst,SqT.of ah,List.all_eq_true.mpr (wQ e),rfl,?_⟩
 have s0:=(aw.refl H).lay (o:=HO.tup [V.str (Str.ofString "armed"),V.int lv,V.int (cM ls lv k),V.int (cM ls lv k)]) htp
 have e2:eqL (mm e) [V.str (Str.ofString "armed"),V.int lv,V.int (cM ls lv k),V.int (cM ls lv k)]=_:=OV e lv (cM ls lv k)
 rw [e2]
 have hob0:=s0 _ _ hob
 generalize upd H tp (HO.tup [V.str (Str.ofString "armed"),V.int lv,V.int (cM ls lv k),V.int (cM ls lv k)])=H0 at *
 have no:e≠.armed lv (cM ls lv k)->E (.ref Z.aW) none H0:=fun z=>q2 hlv.1 hlv.2 z H0 s0
 cases e with
 | armed l' r=>
  k_mem
  by_cases hh:l'=lv/\r=cM ls lv k
  ·rw [if_neg (by simp [hh])]
   k_mem
   refine ⟨by decide,fun st' hst'=>⟨_,_,_,upo hob0 hst',T.bM,T.bR,by show 3 < 1000;decide,?_⟩⟩
   have nsx:st'≠b:=fun z=>by rw [z,hob0] at hst';cases hst'
   have k0:=((aD.of (s0.lay (o:=HO.tup [V.str (Str.ofString "used up"),V.int lv,V.int (cM ls lv k),V.int (cM ls lv k)]) hst')).put (o:=HO.ins Z.bV dx (bG "state" (.ref st') [("codes",V.ref cs),("failed",V.ref fl),("state",V.ref st)])) (p:=b))
   refine q3 hlv.1 hlv.2 (by rw [hh.1,hh.2]) st' _ k0 (hB.state k0 (dx:=dx) (by rw [ah];rfl) (SqT.of ?_))
   rw [aL nsx,ah];rfl
  ·rw [if_pos (by simp;intro z1 z2;exact hh ⟨z1,z2⟩)]
   k_mem
   exact ⟨by decide,no fun z=>by injection z with z1 z2;exact hh ⟨z1,z2⟩⟩
 | _=>
  k_mem
  exact ⟨by decide,no fun z=>Eng.noConfusion z⟩
variable (yf:KM P w K mg base (CXf P w) 3 Z.bV "use" (oi K Z))
inductive kM (K:WA)(Z:Adr)(vs:List V)(H:Hp)(Q:VK)(E:XK):Prop | mk (b cs fl st:Addr) (ls:List Cd) (fs:List Bool) (e:Eng):vs=[.ref b]->bO Z.bV K H b cs fl st ls fs e->ls.length<=1000->(∀(b' cs' fl':Addr) (H':Hp),H b'=none->H cs'=none->H fl'=none->aw H H'->bO Z.bV K H' b' cs' fl' st ls fs e->Q (.ref b') H')->kM K Z vs H Q E
include T iD in
theorem Bc:FF P w K mg base CX0 3 "twin" "Bells.twin" mF vj (kM K Z):=fk0 tE fun vs H Q E h=>by
 obtain ⟨b,cs,fl,st,ls,fs,e,rfl,hB,hn,q⟩:=h
 k_all
 refine ⟨_,ae (aF (i:=1) tE.nd rfl orL (dn iD hr.dn T.HQ bB (pa1 (aC (pv' 0))))) (ae (cu (pv' 1) (bw bH (by rfl) T.eU dH (pa1 (aC (pv' 0)))) rfl) (ae (cu (pv' 1) (aC (pv' 0)) rfl) (ag (ax (pv' 1))))),?_⟩
 obtain ⟨⟨db,hob⟩,⟨as,hcs,hT⟩,hfl,hst,nn,ln⟩:=id hB
 k_mem
 refine fgo hob T.bM T.dA rfl ?_
 refine fun x dx hx hdx nxd=>?_
 have hx':upd H dx (.own x) x=none:=by rw [aL (Ne.symm nxd)];exact hx
 refine ⟨x,dx,cs,ls,rfl,ah,hB.rows.same (((aw.refl H).lay hdx).lay hx'),hn,fun cs1 fl1 st1 H1 hcs1 hfl1 kp hB1=>⟨rfl,?_⟩⟩
 have s1:=gM hx hdx kp
 obtain ⟨⟨dx1,hob1⟩,⟨as1,hc1,hT1⟩,hf1,_,nn1,ln1⟩:=id hB1
 clear kp
 k_mem
 refine fgo (s1 _ _ hob) T.bM T.cZ rfl ?_
 k_mem
 refine ⟨_,.inl (SqL.of (s1 _ _ hfl)),fun f2 hf2=>⟨_,_,_,upo hob1 hf2,T.bM,T.cZ,by show 3 < 1000;decide,?_⟩⟩
 have nf2:f2≠x:=fun z=>by rw [z,hob1] at hf2;cases hf2
 have ncf:cs1≠f2:=av hc1 hf2
 have ncx:cs1≠x:=fun z=>by rw [z,hob1] at hc1;cases hc1
 have s2:aw H (upd (upd H1 f2 (HO.lst (fs.map V.bl))) x (HO.ins Z.bV dx1 (bG "failed" (.ref f2) [("codes",V.ref cs1),("failed",V.ref fl1),("state",V.ref st1)]))):=(s1.lay hf2).rewr hx
 have k2:L2.aD x H1 (upd (upd H1 f2 (HO.lst (fs.map V.bl))) x (HO.ins Z.bV dx1 (bG "failed" (.ref f2) [("codes",V.ref cs1),("failed",V.ref fl1),("state",V.ref st1)]))):=(aD.of ((aw.refl H1).lay hf2)).put
 have hob2:upd (upd H1 f2 (HO.lst (fs.map V.bl))) x (HO.ins Z.bV dx1 (bG "failed" (.ref f2) [("codes",V.ref cs1),("failed",V.ref fl1),("state",V.ref st1)])) x=some (HO.ins Z.bV dx1 [("codes",V.ref cs1),("failed",V.ref f2),("state",V.ref st1)]):=by rw [ah];rfl
 have hff:upd (upd H1 f2 (HO.lst (fs.map V.bl))) x (HO.ins Z.bV dx1 (bG "failed" (.ref f2) [("codes",V.ref cs1),("failed",V.ref fl1),("state",V.ref st1)])) f2=some (HO.lst (fs.map V.bl)):=by rw [aL nf2,ah]
 generalize upd (upd H1 f2 (HO.lst (fs.map V.bl))) x (HO.ins Z.bV dx1 (bG "failed" (.ref f2) [("codes",V.ref cs1),("failed",V.ref fl1),("state",V.ref st1)]))=H2 at *
 refine fgo (s2 _ _ hob) T.bM T.bR rfl ?_
 k_mem
 refine ⟨_,_,_,hob2,T.bM,T.bR,by show 3 < 1000;decide,?_⟩
 have k3:L2.aD x H2 (upd H2 x (HO.ins Z.bV dx1 (bG "state" (.ref st) [("codes",V.ref cs1),("failed",V.ref f2),("state",V.ref st1)]))):=(aD.of (aw.refl H2)).put
 refine q x cs1 f2 _ hx (fS hcs1) (s1.free hf2) (s2.rewr hx) ⟨⟨dx1,by rw [ah];rfl⟩,⟨as1,k3 _ _ ncx (k2 _ _ ncx hc1),(hT1.keepI k2 hob1).keepI k3 hob2⟩,k3 _ _ nf2 hff,(s2.rewr hx).tup hst,ncf,ln⟩
variable (wm:KM P w K mg base CX0 3 Z.bV "twin" (kM K Z))
inductive jq (K:WA)(Z:Adr)(vs:List V)(H:Hp)(Q:VK)(E:XK):Prop | mk (a:Addr) (ds:List Int) (c lv:Int):vs=[.ref a,.int c,.int lv]->SqL K H a (ds.map V.int)->0<=lv->lv < ds.length->Q (.int (if c=0 then ds.getD lv.toNat 0 else cG ds - ds.getD lv.toNat 0)) H->jq K Z vs H Q E
include T eI in
theorem Ao:FF P w K mg base CX0 3 "wound_place" "wound_place" kb tf (jq K Z):=fk0 zx fun vs H Q E h=>by
 obtain ⟨a,ds,c,lv,rfl,hS,h0,h1,q⟩:=h
 k_all
 refine seg 1 (ag (ax (dc0 eI hr.dn (pa2 (pv' 0) (ai au (pv' 0) (pv' 2)))))) fun zt1 zh1 ze1=>?_
 refine ⟨_,ae (aM (bU (pv' 1) af) (ag (ax (ai au (pv' 0) (pv' 2)))) (aA)) zh1,?_⟩
 k_mem
 split
 ·rename_i hc
  k_upd
  rw [if_pos hc] at q
  k_upd
  exact ⟨_,hS,_,cU h0 h1,q⟩
 ·rename_i hc
  k_upd
  rw [if_neg hc] at q
  k_upd
  refine ⟨_,hS,_,cU h0 h1,?_⟩
  k_mem
  exact ⟨a,ds,_,rfl,hS,by omega,q⟩
variable (tT:KD P w K mg base CX0 3 "wound_place" (jq K Z))
inductive qQ (K:WA)(Z:Adr)(vs:List V)(H:Hp)(Q:VK)(E:XK):Prop | mk (a:Addr) (ds:List Int) (pl:Int):vs=[.ref a,.int pl]->SqL K H a (ds.map V.int)->0 < ds.length->ds.length<=1000->(∀(b:Addr) (H':Hp),H b=none->aw H H'->H' b=some (.lst ((ir ds pl).map V.int))->Q (.ref b) H')->qQ K Z vs H Q E
include T eI in
theorem EU:FF P w K mg base CX0 3 "gates_by" "gates_by" ud zm (qQ K Z):=fk0 xW fun vs H Q E h=>by
 obtain ⟨a,ds,pl,rfl,hS,h0,h1,q⟩:=h
 k_all
 refine ⟨_,ae (aF (i:=2) xW.nd rfl (Or.inr rfl) (aY (pa2 (pv' 1) (dc0 eI hr.dn (pa2 (pv' 0) (pv' 1)))))) (ag (ax (oq ["level","depths","stands"] [none,some 0,some 2] (bP (by rfl) T.cQ (pa1 (aE az (by rfl) T.bZ bx (pa1 (pv' 0))))) (fun _ _ _ _=>(aJ (i:=0) (show (["level","depths","stands"]:List Str).Nodup by decide +kernel) rfl orL)) (fun _ _ _ _=>(mh (dO (show OpR _ _ (Gh K false) from ez) (ai (show IxR _ (Bz K) from au) (pv' 1) (pv' 0)) (pv' 2) (by rfl)))) (fun _ _ _ _=>(pv' 0))))),?_⟩
 k_mem
 refine ⟨a,ds,pl,rfl,hS,h0,?_⟩
 k_mem
 refine ⟨by decide,fun t ht=>⟨_,.inl (((aw.refl H).lay ht).seq hS),by omega,by rw [WB];omega,?_⟩⟩
 refine eB (fun i=>decide (ds.getD i 0=pl\/ds.getD i 0=cG ds - pl)) (fun i=>V.int (i:Int)) (Nat.le_of_lt (dE (by rw [WB];omega))) rfl (fun i hi N q=>?_) (fun i hi _ N q=>?_) (fun b hb=>?_)
 ·rw [WB] at hi
  k_mem
  refine ⟨_,((aw.refl H).lay ht).seq hS,_,by rw [Int.zero_add];exact gL (by omega),_,.inr (SqT.of ah),rfl,rfl,?_⟩
  rw [Hb]
  exact q
 ·k_mem
  rw [Int.zero_add]
  exact q
 ·refine q b _ (upn hb) (((aw.refl H).lay ht).lay hb) ?_
  rw [ah]
  unfold ir
  rw [List.map_map,WB]
  rfl
variable (Ap:KD P w K mg base CX0 3 "gates_by" (qQ K Z))
inductive kO (K:WA)(Z:Adr)(vs:List V)(H:Hp)(Q:VK)(E:XK):Prop | mk (x dx d c l:Addr) (ds:List Int) (ls:List Cd) (lds:List Ld) (slow fast:Int) (N:Addr->Prop):vs=[.ref x,.ref d,.ref c,.int slow,.int fast,.ref l]->H x=some (.ins Z.bF dx [])->SqL K H d (ds.map V.int)->j1 cdV K H c ls->fq K H l lds->ds.length<=1000->ls.length<=1000->lds.length<=1000->((∀p,N p->∃ys,H p=some (.lst ys)))->((¬cD ds->E (.ref Z.bX) none H))->((cD ds->¬((ls.length:Int)=(ds.length:Nat)/\∀x∈ls,eZ x)->E (.ref Z.cF) none H))->((cD ds->((ls.length:Int)=(ds.length:Nat)/\∀x∈ls,eZ x)->¬(1<=slow/\slow<=fast/\fast<=500)->E (.ref Z.bY) none H))->((cD ds->((ls.length:Int)=(ds.length:Nat)/\∀x∈ls,eZ x)->(1<=slow/\slow<=fast/\fast<=500)->¬(lds.length<=30/\∀x∈lds,j0 (ds.length:Nat) x)->E (.ref Z.cE) none H))->((cD ds->((ls.length:Int)=(ds.length:Nat)/\∀x∈ls,eZ x)->(1<=slow/\slow<=fast/\fast<=500)->(lds.length<=30/\∀x∈lds,j0 (ds.length:Nat) x)->∀bk rl H',aD x H H'->H rl=none->WAt (clZ Z) K H' x bk rl (iQ ds ls slow fast lds N) (iR ds ls lds) []->Q .non H'))->kO K Z vs H Q E
include T jT iD qH qJ fA xZ tP tQ in
theorem Be:FF P w K mg base (CXf P w) 3 "__init__" "Works.__init__" mJ vo (kO K Z):=fkF kh fun vs H Q E h=>by
 obtain ⟨x,dx,d,c,l,ds,ls,lds,slow,fast,N,rfl,hx,hD,hC,hL,n1,n2,n3,hN,q1,q2,q3,q4,q5⟩:=h
 k_all
 refine ⟨_,ae (bN (dc qH hr.dn cj (pa1 (pv' 1)))) (ae (bN (dc tQ hr.dn cj (pa2 (pv' 2) (aE az (by rfl) T.bZ bx (pa1 (pv' 1)))))) (ae (bN (dc qJ hr.dn cj (pa2 (pv' 3) (pv' 4)))) (ae (bN (dc tP hr.dn cj (pa2 (pv' 5) (aE az (by rfl) T.bZ bx (pa1 (pv' 1)))))) (ae (cu (pv' 0) (bw bH (by rfl) T.eU dH (pa1 (pv' 1))) rfl) (ae (cu (pv' 0) (pv' 3) rfl) (ae (cu (pv' 0) (pv' 4) rfl) (ae (cu (pv' 0) (oq ["kind","level","goal"] [none,none,none] (eT (pv' 5)) (fun _ _ _ _=>(show PG _ _ (sU K 3 _) from fu (n:=3) rfl (aN (aJ (i:=0) (show (["kind","level","goal"]:List Str).Nodup by decide +kernel) rfl orL) (aN (aJ (i:=1) (show (["kind","level","goal"]:List Str).Nodup by decide +kernel) rfl orL) (aN (aJ (i:=2) (show (["kind","level","goal"]:List Str).Nodup by decide +kernel) rfl orL) dY))))) (fun _ _ _ _=>gH) (fun _ _ _ _=>(pv' 2))) rfl) (ae (Hg ["depth"] [none] (iy:=6) kh.nd rfl rfl (eT (pv' 1)) (fun _ _ _ _=>(aJ (i:=0) (show (["depth"]:List Str).Nodup by decide +kernel) rfl orL)) (fun _ _ _ _=>gH) (fun _ _ _ _=>fP)) (ae (aF (i:=7) kh.nd rfl orL (dn fA hr.dn T.zW bB (pa4 (ai au (pv' 1) af) (pv' 6) (dn iD hr.dn T.HQ bB (pa1 (pv' 2))) (dn jT hr.dn T.K9 bB (pa2 (pv' 5) (aE az (by rfl) T.bZ bx (pa1 (pv' 1)))))))) (ag (cu (pv' 0) (dn xZ hr.dn T.OO bB (pa2 (pv' 7) (dX (by rfl) T.CC))) rfl))))))))))),?_⟩
 k_mem
 refine ⟨d,ds,rfl,hD,by omega,fun sh=>?_,q1⟩
 k_mem
 refine ⟨_,.inl hD,?_⟩
 rw [WB]
 refine ⟨c,ls,_,rfl,hC,fun h2=>?_,q2 sh⟩
 k_mem
 refine ⟨_,_,rfl,?_⟩
 by_cases h3:1<=slow/\slow<=fast/\fast<=500
 case neg=>rw [if_neg h3];exact q3 sh h2 h3
 rw [if_pos h3]
 k_mem
 refine ⟨_,.inl hD,?_⟩
 rw [WB]
 refine ⟨l,lds,_,rfl,hL,fun h4=>?_,q4 sh h2 h3⟩
 replace q5:=q5 sh h2 h3 h4
 clear q1 q2 q3 q4
 k_mem
 refine ⟨_,.inl hD,fun dl hdl=>⟨_,_,_,upo hx hdl,T.bu,T.c9,by decide,_,_,_,ah,T.bu,T.tM,by show 1 < 1000;decide,_,_,_,ah,T.bu,T.tN,by show 2 < 1000;decide,?_⟩⟩
 have ndx:dl≠x:=fun z=>by rw [z,hx] at hdl;cases hdl
 have k1:L2.aD x H (upd (upd (upd (upd H dl (HO.lst (ds.map V.int))) x (HO.ins Z.bF dx (bG "depths" (.ref dl) []))) x (HO.ins Z.bF dx (bG "slow" (.int slow) (bG "depths" (.ref dl) [])))) x (HO.ins Z.bF dx (bG "fast" (.int fast) (bG "slow" (.int slow) (bG "depths" (.ref dl) []))))):=(((aD.of ((aw.refl H).lay hdl)).put).put).put
 have hx1:upd (upd (upd (upd H dl (HO.lst (ds.map V.int))) x (HO.ins Z.bF dx (bG "depths" (.ref dl) []))) x (HO.ins Z.bF dx (bG "slow" (.int slow) (bG "depths" (.ref dl) [])))) x (HO.ins Z.bF dx (bG "fast" (.int fast) (bG "slow" (.int slow) (bG "depths" (.ref dl) [])))) x=some (HO.ins Z.bF dx [("depths",.ref dl),("slow",.int slow),("fast",.int fast)]):=by rw [ah];rfl
 have hd1:upd (upd (upd (upd H dl (HO.lst (ds.map V.int))) x (HO.ins Z.bF dx (bG "depths" (.ref dl) []))) x (HO.ins Z.bF dx (bG "slow" (.int slow) (bG "depths" (.ref dl) [])))) x (HO.ins Z.bF dx (bG "fast" (.int fast) (bG "slow" (.int slow) (bG "depths" (.ref dl) [])))) dl=some (HO.lst (ds.map V.int)):=by rw [aL ndx,aL ndx,aL ndx,ah]
 generalize upd (upd (upd (upd H dl (HO.lst (ds.map V.int))) x (HO.ins Z.bF dx (bG "depths" (.ref dl) []))) x (HO.ins Z.bF dx (bG "slow" (.int slow) (bG "depths" (.ref dl) [])))) x (HO.ins Z.bF dx (bG "fast" (.int fast) (bG "slow" (.int slow) (bG "depths" (.ref dl) []))))=H1 at *
 obtain ⟨asL,hLs,hLt⟩:=id hL
 refine ⟨⟨_,hLs.keepI k1 hx⟩,w8 (fun y=>.int y.2.2) (hL.keepI k1 hx) (by rw [sizeLine_eq];omega) rfl (fun y _ M hM=>by k_mem;exact hM) fun gl hgl=>?_⟩
 k_mem
 refine ⟨_,_,_,upo hx1 hgl,T.bu,T.pL,by show 3 < 1000;decide,?_⟩
 have ngx:gl≠x:=fun z=>by rw [z,hx1] at hgl;cases hgl
 have ngd:dl≠gl:=av hd1 hgl
 have k2:L2.aD x H1 (upd (upd H1 gl (HO.lst (lds.map fun y=>V.int y.2.2))) x (HO.ins Z.bF dx (bG "goals" (.ref gl) [("depths",.ref dl),("slow",.int slow),("fast",.int fast)]))):=(aD.of ((aw.refl H1).lay hgl)).put
 have hx2:upd (upd H1 gl (HO.lst (lds.map fun y=>V.int y.2.2))) x (HO.ins Z.bF dx (bG "goals" (.ref gl) [("depths",.ref dl),("slow",.int slow),("fast",.int fast)])) x=some (HO.ins Z.bF dx [("depths",.ref dl),("slow",.int slow),("fast",.int fast),("goals",.ref gl)]):=by rw [ah];rfl
 have hg2:upd (upd H1 gl (HO.lst (lds.map fun y=>V.int y.2.2))) x (HO.ins Z.bF dx (bG "goals" (.ref gl) [("depths",.ref dl),("slow",.int slow),("fast",.int fast)])) gl=some (HO.lst ((lds.map (·.2.2)).map V.int)):=by rw [aL ngx,ah,List.map_map];rfl
 generalize upd (upd H1 gl (HO.lst (lds.map fun y=>V.int y.2.2))) x (HO.ins Z.bF dx (bG "goals" (.ref gl) [("depths",.ref dl),("slow",.int slow),("fast",.int fast)]))=H2 at *
 have k12:=k1.trans k2
 have hd2:=k2 _ _ ndx hd1
 refine ⟨⟨_,hD.keepI k12 hx⟩,?_⟩
 refine xG (fun _=>true) (fun _=>V.bl false) (hD.keepI k12 hx) (by rw [WB,sizeLine_eq];omega) rfl (fun y _ M hM=>by k_mem;exact hM) (fun y _ _ M hM=>by k_mem;exact hM) fun sh1 hsh1=>?_
 have es:((ds.map V.int).filter fun _=>true).map (fun _=>V.bl false)=(ds.map fun _=>false).map V.bl:=by
  rw [List.filter_eq_self.mpr (by simp),List.map_map,List.map_map];rfl
 rw [es]
 have f3:=(aw.refl H2).lay (o:=HO.lst ((ds.map fun _=>false).map V.bl)) hsh1
 have hs3:upd H2 sh1 (HO.lst ((ds.map fun _=>false).map V.bl)) sh1=some (HO.lst ((ds.map fun _=>false).map V.bl)):=ah
 generalize upd H2 sh1 (HO.lst ((ds.map fun _=>false).map V.bl))=H3 at *
 have k13:L2.aD x H H3:=k12.trans (aD.of f3)
 have sl2:=sh.l2
 k_mem
 refine ⟨_,hD.keepI k13 hx,_,cU (k:=0) (by omega) (by omega),?_⟩
 k_mem
 refine fun b db hb hdb nbd=>?_
 have hb':upd H3 db (.own b) b=none:=by rw [aL (Ne.symm nbd)];exact hb
 refine ⟨b,db,c,ls,rfl,ah,(hC.keepI k13 hx).same (((aw.refl H3).lay hdb).lay hb'),n2,fun cs fl st H4 hcs hfl kp hB=>⟨rfl,?_⟩⟩
 have f4:=gM hb hdb kp
 have fcs:=fS hcs
 have ffl:=fS hfl
 clear kp hcs hfl
 have f34:=f3.trans f4
 have k14:L2.aD x H H4:=k13.trans (aD.of f4)
 k_mem
 refine ⟨_,.inl (hD.keepI k14 hx),?_⟩
 rw [WB]
 refine fun y dy hy hdy nyd=>?_
 have hy':upd H4 dy (.own y) y=none:=by rw [aL (Ne.symm nyd)];exact hy
 refine ⟨y,dy,l,lds,_,rfl,ah,(hL.keepI k14 hx).same (((aw.refl H4).lay hdy).lay hy'),n3,fun kn wh H5 hkn hwh nkw kp hY=>⟨rfl,?_⟩⟩
 have f5:=gM hy hdy kp
 have fkn:=fS hkn
 have fwh:=fS hwh
 clear kp hkn hwh
 k_mem
 refine fun s ds1 hs hds1 nsd=>?_
 have hs':upd H5 ds1 (.own s) s=none:=by rw [aL (Ne.symm nsd)];exact hs
 refine ⟨s,ds1,sh1,b,y,ds.getD 0 0,ds.map fun _=>false,rfl,ah,(((aw.refl H5).lay hds1).lay hs').seq (SqL.of (f5 _ _ (f4 _ _ hs3))),fun ol H6 hol kp hob6 hol6=>⟨rfl,?_⟩⟩
 have f6:=gM hs hds1 kp
 have fol:=fS hol
 clear kp hol
 k_mem
 refine fun bk dbk hbk hdbk nbk=>?_
 refine ⟨bk,dbk,s,rfl,ah,fun rl H7 hrl kp hob7 hrl7=>⟨rfl,?_⟩⟩
 have f7:=gM hbk hdbk kp
 have frl:=fS hrl
 clear kp hrl
 have f26:=(f3.trans f4).trans (f5.trans f6)
 have f27:=f26.trans f7
 have hx7:=f27 _ _ hx2
 k_mem
 refine ⟨_,_,_,hx7,T.bu,T.br,by show 4 < 1000;decide,?_⟩
 have k8:L2.aD x H7 (upd H7 x (HO.ins Z.bF dx (bG "log" (.ref bk) [("depths",.ref dl),("slow",.int slow),("fast",.int fast),("goals",.ref gl)]))):=(aD.of (aw.refl H7)).put
 have hx8:upd H7 x (HO.ins Z.bF dx (bG "log" (.ref bk) [("depths",.ref dl),("slow",.int slow),("fast",.int fast),("goals",.ref gl)])) x=some (HO.ins Z.bF dx [("depths",.ref dl),("slow",.int slow),("fast",.int fast),("goals",.ref gl),("log",.ref bk)]):=by rw [ah];rfl
 generalize upd H7 x (HO.ins Z.bF dx (bG "log" (.ref bk) [("depths",.ref dl),("slow",.int slow),("fast",.int fast),("goals",.ref gl)]))=H8 at *
 have frx:∀z,H6 z=none->H z=none:=fun z hz=>by
  by_cases e:z=x
  ·subst e;rw [f26 _ _ hx2] at hz;cases hz
  ·exact k12.free e (f26.free hz)
 obtain ⟨_,⟨asc,oc4,_⟩,of4,_,ncf,_⟩:=id hB
 obtain ⟨_,okn5,owh5⟩:=id hY
 have hsx:s≠x:=fun z=>by rw [z] at hs;rw [f5 _ _ (f34 _ _ hx2)] at hs;cases hs
 have hbx:b≠x:=fun z=>by rw [z] at hb;rw [f3 _ _ hx2] at hb;cases hb
 have hyx:y≠x:=fun z=>by rw [z] at hy;rw [f34 _ _ hx2] at hy;cases hy
 have hbkx:bk≠x:=fun z=>by rw [z] at hbk;rw [f26 _ _ hx2] at hbk;cases hbk
 have f46:=f5.trans f6
 have hN6:∀p,N p->∃ys,H6 p=some (.lst ys):=fun p hp=>by
  obtain ⟨ys,e⟩:=hN p hp
  exact ⟨ys,f26 _ _ (k12 _ _ (fun z=>by rw [z,hx] at e;cases e) e)⟩
 have hNn:∀p,N p->∀z,H z=none->z≠p:=fun p hp z hz e=>by
  obtain ⟨ys,e'⟩:=hN p hp
  rw [←e,hz] at e';cases e'
 have fr3:∀z,z≠x->H3 z=none->H z=none:=fun z e hz=>k13.free e hz
 have nx3:∀z,H3 z=none->z≠x:=fun z hz e=>by rw [e,f3 _ _ hx2] at hz;cases hz
 have gcs:=fr3 cs (nx3 cs fcs) fcs
 have gfl:=fr3 fl (nx3 fl ffl) ffl
 have gkn:=fr3 kn (nx3 kn (f4.free fkn)) (f4.free fkn)
 have gwh:=fr3 wh (nx3 wh (f4.free fwh)) (f4.free fwh)
 have gol:=fr3 ol (nx3 ol (f4.free (f5.free fol))) (f4.free (f5.free fol))
 have cs5:=f5 _ _ oc4
 have fl5:=f5 _ _ of4
 have hst:bt (clZ Z) K H7 rl (iQ ds ls slow fast lds N) s ⟨ds1,ol,b,cs,fl,st,y,kn,wh⟩ (iR ds ls lds):=
  ⟨f7 _ _ hob6,f7 _ _ hol6,((hB.same f5).same f6).same f7,(hY.same f6).same f7,
   ⟨av hol6 frl,av (f6 _ _ cs5) frl,av (f6 _ _ fl5) frl,av (f6 _ _ okn5) frl,av (f6 _ _ owh5) frl,
   av cs5 fol,av fl5 fol,av okn5 fol,av owh5 fol,
   (av fl5 fol).symm,(av of4 fkn).symm,(av of4 fwh).symm,
   (av owh5 fol).symm,av oc4 fwh,av of4 fwh,nkw⟩,
   ⟨fun p hp=>by obtain ⟨ys,e⟩:=hN6 p hp;exact ⟨ys,f7 _ _ e⟩,fun p hp=>hNn p hp rl (frx rl frl),fun p hp=>hNn p hp ol gol,fun p hp=>hNn p hp cs gcs,fun p hp=>hNn p hp fl gfl,fun p hp=>hNn p hp kn gkn,fun p hp=>hNn p hp wh gwh⟩⟩
 have hst8:=hst.keepI k8 hx7 hsx hbx hyx
 have nrx:rl≠x:=fun z=>by rw [z] at frl;rw [f26 _ _ hx2] at frl;cases frl
 refine q5 bk rl H8 ((k12.trans (aD.of f27)).trans k8) (frx rl frl) ⟨⟨dx,dl,gl,hx8,k8 _ _ ndx (f27 _ _ hd2),k8 _ _ ngx (f27 _ _ hg2),av (f26 _ _ hd2) frl,av (f26 _ _ hg2) frl,fun p hp=>hNn p hp dl hdl,fun p hp=>hNn p hp gl (k1.free ngx hgl)⟩,⟨dbk,s,k8 _ _ hbkx hob7,hst8.at⟩,[],k8 _ _ nrx hrl7,rfl,fun i a r e=>by simp at e⟩
variable (iF:KN P w K mg base (CXf P w) 3 Z.bF (kO K Z))
def yg (Z:Adr)(K:WA)(H:Hp)(w bk rl:Addr)(g:Cfg)(n0:bh)(rs:List Row)(d:Dd)(Q:VK)(E:XK):Prop:=
 (300<=rs.length->∀H',aw H H'->E (.ref Z.aT) none H')/\(rs.length < 300->∀H',aD rl H H'->WAt (clZ Z) K H' w bk rl g n0 (rs++[u4 g n0 rs d])->Q (.int (dw rs+oV g (ao n0 rs) d)) H')
inductive jr (K:WA)(Z:Adr)(vs:List V)(H:Hp)(Q:VK)(E:XK):Prop | mk (w bk rl:Addr) (g:Cfg) (n0:bh) (rs:List Row) (dd s:Addr) (tk:Int) (dv:List V) (n:bh):vs=[.ref w,.ref dd,.int tk,.ref s]->WAt (clZ Z) K H w bk rl g n0 rs->SqT K H dd dv->eK (clZ Z) K H rl g s n->g.ks.length=n.ws.length->((300<=rs.length->∀H',aw H H'->E (.ref Z.aT) none H'))->((rs.length < 300->∀H',aD rl H H'->WAt (clZ Z) K H' w bk rl g n0 (rs++[⟨dw rs,dw rs+tk,dv,fT g n,n⟩])->Q (.int (dw rs+tk)) H'))->jr K Z vs H Q E
include T v5 eA jW in
theorem Aq:FF P w K mg base (CXf P w) 3 "write" "Works.write" kj tu (jr K Z):=fkF zB fun vs H Q E h=>by
 obtain ⟨w,bk,rl,g,n0,rs,dd,s0,tk,dv,n,rfl,hW,hD,hS,hl,q1,q2⟩:=h
 k_all
 refine seg 1 (ag (ax (dQ (pv' 0) jW hr.dn bB))) fun zt1 zh1 ze1=>?_
 refine ⟨_,ae (bN (dm' (aC (pv' 0)) v5 hr.dn cj (pa4 (pv' 1) (pv' 2) (dm' (pv' 0) eA hr.dn bB (pa1 (pv' 3))) (pv' 3)))) zh1,?_⟩
 obtain ⟨⟨dx,dl,gl,hob,hdl,hgl,n1,n2⟩,hB⟩:=id hW
 obtain ⟨⟨db,f0,hbo,hF⟩,as,hrl,hR⟩:=id hB
 k_mem
 refine fgo hob T.bu T.br rfl ?_
 k_mem
 refine mgo hbo rfl (mgo hob rfl ⟨_,_,_,_,_,_,_,_,rfl,hW,hS,hl,fun H1 s1=>?_⟩)
 k_mem
 refine ⟨bk,rl,dd,s0,g,n0,n,rs,tk,fT g n,dv,rfl,hB.same s1,s1.tup hD,hS.same s1,fun h=>q1 h H1 s1,fun h H2 k2 hB2=>?_⟩
 k_mem
 have k1:L2.aD rl H H2:=(aD.of s1).trans k2
 have hW2:WAt (clZ Z) K H2 w bk rl g n0 _:=(hW.same s1).keep k2 (s1 _ _ hrl) hB2
 obtain ⟨dx2,_,_,hob2,_⟩:=id hW2.ob
 k_upd
 refine mgo hob2 rfl ⟨_,_,_,_,_,_,rfl,hW2,?_⟩
 rw [wU]
 k_upd
 exact q2 h H2 k1 hW2
variable (bJ:KM P w K mg base (CXf P w) 3 Z.bF "write" (jr K Z))
inductive eV (K:WA)(Z:Adr)(vs:List V)(H:Hp)(Q:VK)(E:XK):Prop | mk (w bk rl:Addr) (g:Cfg) (n0:bh) (rs:List Row) (pl:Int):vs=[.ref w,.int pl]->WAt (clZ Z) K H w bk rl g n0 rs->0 < g.ds.length->(∀p,H p=none->Q (.ref p) (upd H p (.tup [.int pl,.int (cG g.ds - pl)])))->eV K Z vs H Q E
include T eI in
theorem qR:FF P w K mg base CX0 3 "both_places" "Works.both_places" fe ik (eV K Z):=fk0 pE fun vs H Q E h=>by
 obtain ⟨w,bk,rl,g,n0,rs,pl,rfl,hW,hn,q⟩:=h
 k_all
 refine ⟨_,ag (ax (aY (pa2 (pv' 1) (dc0 eI hr.dn (pa2 (aC (pv' 0)) (pv' 1)))))),?_⟩
 obtain ⟨⟨dx,dl,gl,hob,hdl,hgl,n1,n2⟩,hB⟩:=id hW
 obtain ⟨⟨db,f0,hbo,hF⟩,as,hrl,hR⟩:=id hB
 k_mem
 refine fgo hob T.bu T.c9 rfl ?_
 k_mem
 refine ⟨_,_,_,rfl,SqL.of hdl,hn,?_⟩
 k_mem
 exact ⟨by decide,q⟩
variable (il:KM P w K mg base CX0 3 Z.bF "both_places" (eV K Z))
theorem Jc {x y z i:Int}(h0:0<=i)(h2:i<=2):atI [V.int x,V.int y,V.int z] i=some (.int (if i=0 then x else if i=1 then y else z)):=by
 rcases (by omega:i=0\/i=1\/i=2) with rfl | rfl | rfl<;>rfl
inductive uL (K:WA)(Z:Adr)(vs:List V)(H:Hp)(Q:VK)(E:XK):Prop | mk (a:Addr) (ns:List Int):vs=[.ref a]->SqL K H a (ns.map V.int)->(∀(p dl cl:Addr) (ds:List Int) (as:List Addr) (ls:List Cd) (slow fast:Int) (H':Hp),aw H H'->H p=none->H dl=none->H cl=none->dl≠cl->H' p=some (.lst [.ref dl,.ref cl,.int slow,.int fast])->H' dl=some (.lst (ds.map V.int))->cD ds->H' cl=some (.lst (as.map V.ref))->cV cdV K H' as ls->ls.length=ds.length->(∀x∈ls,eZ x)->(1<=slow/\slow<=fast/\fast<=500)->Q (.ref p) H')->uL K Z vs H Q E
include T xu cA Am B0 in
theorem GR:FF P w K mg base CX0 3 "_law_shaft" "_law_shaft" lr BH (uL K Z):=fk0 fE fun vs H Q E h=>by
 obtain ⟨a,ns,rfl,hS,q⟩:=h
 k_all
 obtain ⟨t1,h1,k1⟩:∃t,PSs (yS CX0 P w K mg base ["_law_script","_law_depths_here","_law_codes_here","_law_cell","_law_slow","_law_fast"] "_law_shaft" (ak lr) zf zv zA zo zs H E).nox ((cH lr).drop 4) t/\∀(dl cl:Addr) (ds:List Int) (as:List Addr) (ls:List Cd) (c slow:Int) (H1:Hp),aw H H1->H dl=none->H cl=none->dl≠cl->H1 dl=some (.lst (ds.map V.int))->cD ds->H1 cl=some (.lst (as.map V.ref))->cV cdV K H1 as ls->ls.length=ds.length->(∀x∈ls,eZ x)->1<=slow->slow<=500->t ({nx:=fun _ H2=>Q .non H2,rt:=Q}:oz) [some (.ref a),some (.ref dl),some (.ref cl),some (.int c),some (.int slow),none] H1:=by
  refine ⟨_,ae (aM (bU (dc0 cA hr.dn (pa3 (pv' 3) af af)) af) (ag (aF (i:=4) fE.nd rfl orL af)) (aA)) (ae (aF (i:=5) fE.nd rfl orL (ai au (bj (pa3 (pv' 4) af (bc bD (pv' 4) (dc0 cA hr.dn (pa3 (pv' 3) af (bc dS af (pv' 4))))))) (aE (tZ rfl) (by rfl) T.K7 FH (pa2 af (dc0 cA hr.dn (pa3 (pv' 3) af af)))))) (ag (ax (bj (pa4 (pv' 1) (pv' 2) (pv' 4) (pv' 5)))))),?_⟩
  intro dl cl ds as ls c slow H1 s1 fd fc ndc hdl hsh hcl hT hlen hg h1 h5
  k_mem
  refine ⟨c,4,16,rfl,by omega,by omega,by omega,fun r4 h40 h41=>?_⟩
  k_mem
  split
  all_goals
   refine ⟨c,2,_,rfl,by omega,by omega,by omega,fun r2 h20 h21=>⟨by decide,fun p1 hp1=>⟨c,3,8,rfl,by omega,by omega,by omega,fun r3 h30 h31=>?_⟩⟩⟩
   k_mem
   refine ⟨_,SqL.of ah,_,Jc (by split<;>omega) (by split<;>omega),by decide,fun p2 hp2=>?_⟩
   refine q p2 dl cl ds as ls _ _ _ (s1.trans (((aw.refl H1).lay hp1).lay hp2)) (s1.free (upn hp2)) fd fc ndc ah (upo (upo hdl hp1) hp2) hsh (upo (upo hcl hp1) hp2) (hT.same (((aw.refl H1).lay hp1).lay hp2)) hlen hg ⟨by omega,?_,?_⟩
   ·(repeat' split)<;>omega
   ·(repeat' split)<;>omega
 refine ⟨_,ae (aF (i:=1) fE.nd rfl orL (dc0 Am hr.dn (pa1 (dc0 xu hr.dn (pa2 (pv' 0) af))))) (ae (aF (i:=2) fE.nd rfl orL (dc0 B0 hr.dn (pa2 (dc0 xu hr.dn (pa2 (pv' 0) af)) (aE az (by rfl) T.bZ bx (pa1 (pv' 1)))))) (ae (aF (i:=3) fE.nd rfl orL (dc0 xu hr.dn (pa2 (pv' 0) af))) (ae (aF (i:=4) fE.nd rfl orL (bc bD af (dc0 cA hr.dn (pa3 (pv' 3) af (ai au (bj (pa2 af af)) (dc0 cA hr.dn (pa3 (pv' 3) af af))))))) h1))),?_⟩
 k_mem
 refine ⟨a,ns,1,rfl,hS,by omega,?_⟩
 k_mem
 refine ⟨_,rfl,fun dl ds H1 hdn s1 hdl hsh=>?_⟩
 have l2:=hsh.l2
 have l6:=hsh.l6
 k_mem
 refine ⟨a,ns,2,rfl,s1.seq hS,by omega,?_⟩
 k_mem
 refine ⟨_,.inl (SqL.of hdl),?_⟩
 rw [WB]
 refine ⟨_,_,rfl,by omega,by omega,fun cl as ls H2 hcn s2 hcl hT hlen hg=>?_⟩
 have ndc:dl≠cl:=av hdl hcn
 k_mem
 refine ⟨a,ns,3,rfl,(s1.trans s2).seq hS,by omega,?_⟩
 k_mem
 refine ⟨by decide,fun p hp=>⟨_,0,2,rfl,by omega,by omega,by omega,fun r0 h00 h01=>?_⟩⟩
 have e0:∃m:Int,(m=30\/m=500)/\atI [V.int 30,V.int 500] r0=some (.int m):=LI (x:=30) (y:=500) (by omega)
 obtain ⟨m,hm,em⟩:=e0
 k_mem
 refine ⟨_,SqL.of ah,_,em,_,1,m,rfl,by omega,by omega,by omega,fun r1 h10 h11=>?_⟩
 k_mem
 have sx:=(aw.refl H2).lay (o:=HO.lst [V.int 30,V.int 500]) hp
 exact k1 dl cl ds as ls _ _ _ ((s1.trans s2).trans sx) hdn (s1.free hcn) ndc (sx _ _ (s2 _ _ hdl)) hsh (sx _ _ hcl) (hT.same sx) (by omega) hg (by omega) (by omega)
variable (B2:KD P w K mg base CX0 3 "_law_shaft" (uL K Z))
inductive oj (K:WA)(Z:Adr)(vs:List V)(H:Hp)(Q:VK)(E:XK):Prop | mk (p dl cl ll sl dd:Addr) (g:Cfg) (lds:List Ld) (n0:bh) (rs:List Row) (as:List Addr):vs=[.ref p,.ref sl,.ref dd]->dN K H p dl cl ll g lds->fg g->df g (ao n0 rs)->rs.length<=1000->H sl=some (.lst (as.map V.ref))->fM (gP K H) as (jJ n0 rs)->(((∃d,SqT K H dd (ddV d)/\uZ d/\∀H',aw H H'->Q (.str (IZ (cJ g (ao n0 rs) d))) H')\/(SqT K H dd [.str "take back"]/\∀H',aw H H'->Q (.str (if rs=[] then "NothingDone" else "")) H')))->oj K Z vs H Q E
include T l5 l7 l8 in
theorem CY:FF P w K mg base CX0 3 "_law_refusal" "_law_refusal" pG xT (oj K Z):=fk0 iw fun vs H Q E h=>by
 obtain ⟨p,dl,cl,ll,sl,dd,g,lds,n0,rs,as,rfl,hP,hg,hn,h300,hsl,hA,hc⟩:=h
 k_all
 refine seg 2 (ag (ax (pv' 3))) fun zt2 zh2 ze2=>?_
 refine seg 1 (ae (aM (bU (ai aj (pv' 2) af) aq) (ag (aF (i:=3) iw.nd rfl orL (dc0 l8 hr.dn (pa3 (pv' 0) (ai au (pv' 1) (eQ cL af)) (pv' 2))))) (ag (aM (dO ez (ai aj (pv' 2) af) (aY (pa2 aq aq)) (by rfl)) (ag (aF (i:=3) iw.nd rfl orL (dc0 l7 hr.dn (pa3 (pv' 0) (ai au (pv' 1) (eQ cL af)) (pv' 2))))) (ag (aF (i:=3) iw.nd rfl orL (dc0 l5 hr.dn (pa3 (pv' 0) (ai au (pv' 1) (eQ cL af)) (pv' 2)))))))) zh2) fun zt1 zh1 ze1=>?_
 refine ⟨_,ae (aM (bU (ai aj (pv' 2) af) aq) (ag (ax (ai au (bj (pa2 aq aq)) (bw cY (by rfl) T.jS fR (pa1 (cN gQ (aE az (by rfl) T.bZ bx (pa1 (pv' 1))) af (cy _))))))) (aA)) zh1,?_⟩
 have hal:=hA.1
 rw [By] at hal
 k_mem
 rcases hc with ⟨d,hD,ok,q⟩ | ⟨hD,q⟩
 rotate_left
 ·k_upd
  refine ⟨_,hD,_,aU (k:=0) rfl,?_⟩
  k_mem
  rw [if_pos rfl]
  k_mem
  refine ⟨by decide,fun p1 hp1=>?_⟩
  (generalize hE:upd H p1 _=H1 at *;have s1:=bK hE hp1;have e1:=bg hE;clear hE)
  k_upd
  refine ⟨_,.inl (SqL.of (s1 _ _ hsl)),?_⟩
  k_mem
  rw [WB,hal]
  k_upd
  refine ⟨_,SqL.of e1,?_⟩
  have q':=q H1 s1
  cases rs with
  | nil=>exact ⟨_,rfl,q'⟩
  | cons x t=>
   rw [decide_eq_false (by simp;omega)]
   k_upd
   exact ⟨_,rfl,q'⟩
 obtain ⟨as1,a,rfl,hSt⟩:=zc hA
 obtain ⟨w0,ew0,nw0⟩:=Hz d
 have nb:∀w:Str,atI (ddV d) 0=some (.str w)->w≠"wind"->w≠"load"->w≠"unload"->(∀c,d≠.unload c)/\(∀k c,d≠.load k c)/\∀c l k,d≠.wind c l k:=by
  intro w e n1 n2 n3
  k_upd
  refine ⟨fun c z=>?_,fun k c z=>?_,fun c l k z=>?_⟩<;>subst z<;>cases e
  ·exact n3 rfl
  ·exact n2 rfl
  ·exact n1 rfl
 k_upd
 refine ⟨_,hD,_,ew0,?_⟩
 k_mem
 rw [if_neg nw0]
 k_mem
 refine ⟨_,hD,_,ew0,?_⟩
 k_mem
 by_cases h1:w0="wind"
 ·rw [if_pos h1]
  obtain ⟨c,l,k,rfl⟩:∃c l k,d=.wind c l k:=by
   cases d with
   | wind c l k=>exact ⟨c,l,k,rfl⟩
   | _=>cases ew0;exact absurd h1 (by decide)
  k_upd
  refine ⟨_,SqL.of hsl,_,iu,?_⟩
  k_mem
  refine ⟨p,dl,cl,ll,a,dd,g,lds,ao n0 rs,dw rs,c,l,k,rfl,hP,hg,hn,hSt,hD,ok.2,fun H2 s2=>?_⟩
  k_mem
  exact q H2 s2
 ·rw [if_neg h1]
  k_mem
  refine ⟨_,hD,_,ew0,by decide,fun p1 hp1=>?_⟩
  (generalize hE:upd H p1 _=H1 at *;have s1:=bK hE hp1;have e1:=bg hE;clear hE)
  k_upd
  refine ⟨_,.inr (SqT.of e1),rfl,rfl,?_⟩
  have ein:inV (.str w0) [V.str "load",V.str "unload"]=(decide (w0="load") || decide (w0="unload")):=by
   simp only [inV,List.any_cons,List.any_nil,Bool.or_false]
   congr 1
   ·show decide (("load":Str)=w0)=_
    exact decide_eq_decide.mpr ⟨Eq.symm,Eq.symm⟩
   ·show decide (("unload":Str)=w0)=_
    exact decide_eq_decide.mpr ⟨Eq.symm,Eq.symm⟩
  rw [ein]
  by_cases h2:w0="load"\/w0="unload"
  ·rw [if_pos (by rcases h2 with h | h<;>simp [h])]
   have hld:(∃c,d=.unload c)\/∃k c,d=.load k c:=by
    cases d with
    | load k c=>exact .inr ⟨k,c,rfl⟩
    | unload c=>exact .inl ⟨c,rfl⟩
    | _=>cases ew0;exact absurd h2 (by decide)
   k_upd
   refine ⟨_,SqL.of (s1 _ _ hsl),_,iu,?_⟩
   k_mem
   refine ⟨p,dl,cl,ll,a,dd,g,lds,ao n0 rs,dw rs,d,rfl,hP.same s1,hg,hn,hSt.same s1,s1.tup hD,ok,hld,fun H2 s2=>?_⟩
   k_mem
   exact q H2 (s1.trans s2)
  ·rw [if_neg (by simp only [Bool.or_eq_true,decide_eq_true_eq];exact h2)]
   k_upd
   refine ⟨_,SqL.of (s1 _ _ hsl),_,iu,?_⟩
   k_mem
   refine ⟨p,dl,cl,ll,a,dd,g,lds,ao n0 rs,dw rs,d,rfl,hP.same s1,hg,hn,hSt.same s1,s1.tup hD,nb w0 ew0 h1 (fun z=>h2 (.inl z)) (fun z=>h2 (.inr z)),fun H2 s2=>?_⟩
   k_mem
   exact q H2 (s1.trans s2)
variable (yh:KD P w K mg base CX0 3 "_law_refusal" (oj K Z))
inductive xB (K:WA)(Z:Adr)(vs:List V)(H:Hp)(Q:VK)(E:XK):Prop | mk (p dl cl ll a:Addr) (c:Int) (g:Cfg) (lds:List Ld) (n:bh) (t:Int):vs=[.ref p,.ref a,.int c]->dN K H p dl cl ll g lds->fg g->df g n->lds.length<=30->gP K H a (n,t)->((∀dd d H',aw H H'->SqT K H' dd (ddV d)->uZ d->Q (.ref dd) H'))->(∀dd H',aw H H'->SqT K H' dd [.str "take back"]->Q (.ref dd) H')->xB K Z vs H Q E
include T v3 l9 ma in
theorem Jd:FF P w K mg base CX0 3 "_law_deed" "_law_deed" zM DZ (xB K Z):=fk0 lu fun vs H Q E h=>by
 obtain ⟨p,dl,cl,ll,a,c,g,lds,n,t,rfl,hP,hg,hn,l30,hSt,q,qb⟩:=h
 k_all
 refine seg 10 (ag (ax (dc0 v3 hr.dn (pa2 (pv' 0) (pv' 4))))) fun zt10 zh10 ze10=>?_
 refine seg 9 (ae (aM (bU (pv' 3) af) (ae (aF (i:=6) lu.nd rfl orL (ai au (bj (pa2 aq aq)) (cb (dU (pv' 4) af) af))) (ag (ax (ai au (bj (pa2 (aY (pa4 aq (cb (dU (pv' 4) af) af) (pv' 5) (pv' 6))) (aY (pa2 aq (cb (pv' 4) af))))) (cb (dU (pv' 4) af) af))))) (aA)) zh10) fun zt9 zh9 ze9=>?_
 refine seg 8 (ae (aM (bU (pv' 3) af) (ag (ax (aY (pa2 aq (bc bD af (cb (pv' 4) af)))))) (aA)) zh9) fun zt8 zh8 ze8=>?_
 refine seg 7 (ae (aM (bU (pv' 3) af) (ag (ax (ai au (bj (pa3 (aY (pa1 aq)) (aY (pa2 aq (pv' 5))) (aY (pa1 aq)))) (cb (pv' 4) af)))) (aA)) zh8) fun zt7 zh7 ze7=>?_
 refine seg 6 (ae (aM (bU (pv' 3) af) (ag (ax (ai au (bj (pa2 (aY (pa2 aq (pv' 5))) (aY (pa2 aq (pv' 5))))) (bw cY (by rfl) T.jS fR (pa1 (ai aj (ai aj (pv' 1) af) (pv' 5))))))) (aA)) zh7) fun zt6 zh6 ze6=>?_
 refine seg 5 (ae (aM (jM (pv' 3) af) (ag (ax (dc0 ma hr.dn (pa3 (pv' 0) (pv' 1) (pv' 4))))) (aA)) zh6) fun zt5 zh5 ze5=>?_
 refine seg 4 (ae (aM (bU (pv' 3) af) (ag (ax (aY (pa3 aq (pv' 5) (ai aj (ai au (ai au (pv' 0) af) (pv' 5)) (cb (dU (pv' 4) af) af)))))) (aA)) zh5) fun zt4 zh4 ze4=>?_
 refine seg 3 (ae (aM (jM (pv' 3) af) (ag (ax (dc0 l9 hr.dn (pa3 (pv' 0) (pv' 1) (pv' 4))))) (aA)) zh4) fun zt3 zh3 ze3=>?_
 refine seg 2 (ae (aF (i:=5) lu.nd rfl orL (bc rg (pv' 4) (aE az (by rfl) T.bZ bx (pa1 (ai au (pv' 0) af))))) zh3) fun zt2 zh2 ze2=>?_
 refine seg 1 (ae (aF (i:=4) lu.nd rfl orL (dU (pv' 2) af)) zh2) fun zt1 zh1 ze1=>?_
 refine ⟨_,ae (aF (i:=3) lu.nd rfl orL (cb (pv' 2) af)) zh1,?_⟩
 obtain ⟨gt,lt,ht,dt,h1,h2,h3,h4,h5⟩:=hSt.un
 obtain ⟨hp,hdl,⟨cs,hcl,hC⟩,_,_⟩:=id hP
 have l2:=hg.sh.l2
 have l6:=hg.sh.l6
 have lc:=hg.lc
 have gl:=hn.gl
 k_mem
 refine ⟨_,SqL.of hp,_,rfl,?_⟩
 k_mem
 refine ⟨_,.inl (SqL.of hdl),by rw [WB];omega,?_⟩
 rw [WB]
 have v0:0<=c / 16 % (g.ds.length:Int):=Int.emod_nonneg _ (by omega)
 have v1:c / 16 % (g.ds.length:Int) < (g.ds.length:Int):=Int.emod_lt_of_pos _ (by omega)
 generalize c / 16 % (g.ds.length:Int)=lv at *
 k_mem
 by_cases c7:c % 16 < 7
 ·rw [if_pos c7]
  k_upd
  exact ⟨p,dl,cl,ll,a,g,lds,_,_,_,rfl,hP,hg,hn,hSt,fun dd d H1 s1 hd ok hr=>q dd d H1 s1 hd ok⟩
 k_upd
 rw [if_neg c7]
 k_mem
 by_cases c8:c % 16=7
 ·rw [if_pos c8]
  obtain ⟨cd,acd,hcd⟩:=mn hC v0 (by omega)
  obtain ⟨sk,ask⟩:∃sk:Int,atI (cdV (eN g.ls lv)) (c / 16 / 6 % 2)=some (.int sk):=by
   rcases (by omega:c / 16 / 6 % 2=0\/c / 16 / 6 % 2=1) with e | e<;>rw [e]
   ·k_upd
    exact ⟨_,rfl⟩
   ·k_upd
    exact ⟨_,rfl⟩
  k_upd
  refine ⟨_,SqL.of hp,_,rfl,?_⟩
  k_mem
  refine ⟨_,SqL.of hcl,_,acd,?_⟩
  k_mem
  exact ⟨_,hcd,_,ask,by decide,fun p1 hp1=>q p1 (.ring lv sk) _ ((aw.refl H).lay hp1) (SqT.of ah) trivial⟩
 k_upd
 rw [if_neg c8]
 k_mem
 by_cases c11:c % 16 < 11
 ·rw [if_pos c11]
  k_upd
  exact ⟨p,dl,cl,ll,a,g,lds,_,_,_,rfl,hP,hg,hn,hSt,fun dd d H1 s1 hd ok hr=>q dd d H1 s1 hd ok⟩
 k_upd
 rw [if_neg c11]
 k_mem
 by_cases e11:c % 16=11
 ·rw [if_pos e11]
  k_upd
  refine ⟨by decide,fun p1 hp1=>?_⟩
  (generalize hE:upd H p1 _=H1 at *;have s1:=bK hE hp1;have e1:=bg hE;clear hE)
  k_upd
  refine ⟨by decide,fun p2 hp2=>?_⟩
  (generalize hE:upd H1 p2 _=H2 at *;have s2:=bK hE hp2;have e2:=bg hE;clear hE)
  k_upd
  refine ⟨by decide,fun p3 hp3=>?_⟩
  (generalize hE:upd H2 p3 _=H3 at *;have s3:=bK hE hp3;have e3:=bg hE;clear hE)
  have s13:=s1.trans (s2.trans s3)
  k_upd
  refine ⟨_,s13.tup h1,_,aU (k:=1) rfl,?_⟩
  k_mem
  refine ⟨_,s13.tup h2,_,fB v0 (by omega),?_⟩
  k_mem
  cases n.gates.getD lv.toNat false
  ·k_upd
   exact ⟨_,SqL.of e3,_,rfl,q p1 (.opn lv) _ s13 (SqT.of ((s2.trans s3) _ _ e1)) trivial⟩
  ·k_upd
   exact ⟨_,SqL.of e3,_,rfl,q p2 (.sht lv) _ s13 (SqT.of (s3 _ _ e2)) trivial⟩
 k_upd
 rw [if_neg e11]
 k_mem
 by_cases e12:c % 16=12
 ·rw [if_pos e12]
  k_upd
  refine ⟨by decide,fun p1 hp1=>?_⟩
  (generalize hE:upd H p1 _=H1 at *;have s1:=bK hE hp1;have e1:=bg hE;clear hE)
  k_upd
  refine ⟨by decide,fun p2 hp2=>?_⟩
  (generalize hE:upd H1 p2 _=H2 at *;have s2:=bK hE hp2;have e2:=bg hE;clear hE)
  k_upd
  refine ⟨by decide,fun p3 hp3=>?_⟩
  (generalize hE:upd H2 p3 _=H3 at *;have s3:=bK hE hp3;have e3:=bg hE;clear hE)
  k_upd
  refine ⟨by decide,fun p4 hp4=>?_⟩
  (generalize hE:upd H3 p4 _=H4 at *;have s4:=bK hE hp4;have e4:=bg hE;clear hE)
  have s14:=s1.trans (s2.trans (s3.trans s4))
  rcases (by omega:c / 16 % 3=0\/c / 16 % 3=1\/c / 16 % 3=2) with e | e | e<;>rw [e]
  ·k_upd
   exact ⟨_,SqL.of e4,_,rfl,qb p1 _ s14 (SqT.of ((s2.trans (s3.trans s4)) _ _ e1))⟩
  ·k_upd
   exact ⟨_,SqL.of e4,_,rfl,q p2 (.fail lv) _ s14 (SqT.of ((s3.trans s4) _ _ e2)) trivial⟩
  ·k_upd
   exact ⟨_,SqL.of e4,_,rfl,qb p3 _ s14 (SqT.of (s4 _ _ e3))⟩
 k_upd
 rw [if_neg e12]
 k_mem
 by_cases e13:c % 16=13
 ·rw [if_pos e13]
  k_upd
  exact ⟨by decide,fun p1 hp1=>q p1 (.rept (1+c / 16 % 9)) _ ((aw.refl H).lay hp1) (SqT.of ah) trivial⟩
 k_upd
 rw [if_neg e13]
 k_mem
 by_cases e14:c % 16=14
 ·rw [if_pos e14]
  k_upd
  refine ⟨by decide,fun p0 hp0=>?_⟩
  (generalize hE:upd H p0 _=H0 at *;have s0:=bK hE hp0;have e0:=bg hE;clear hE)
  obtain ⟨kd,hkd,akd⟩:∃kd:Str,(kd="men"\/kd="coal")/\atI [V.str "men",V.str "coal"] (c / 16 / 6 % 2)=some (.str kd):=by
   rcases (by omega:c / 16 / 6 % 2=0\/c / 16 / 6 % 2=1) with e | e<;>rw [e]
   ·k_upd
    exact ⟨_,.inl rfl,rfl⟩
   ·k_upd
    exact ⟨_,.inr rfl,rfl⟩
  k_upd
  refine ⟨_,SqL.of e0,_,akd,?_⟩
  k_mem
  refine ⟨by decide,fun p1 hp1=>?_⟩
  (generalize hE:upd H0 p1 _=H1 at *;have s1:=bK hE hp1;have e1:=bg hE;clear hE)
  k_upd
  refine ⟨by decide,fun p2 hp2=>?_⟩
  (generalize hE:upd H1 p2 _=H2 at *;have s2:=bK hE hp2;have e2:=bg hE;clear hE)
  k_upd
  refine ⟨by decide,fun p3 hp3=>?_⟩
  (generalize hE:upd H2 p3 _=H3 at *;have s3:=bK hE hp3;have e3:=bg hE;clear hE)
  have s03:=s0.trans (s1.trans (s2.trans s3))
  rcases (by omega:c / 16 / 24 % 2=0\/c / 16 / 24 % 2=1) with e | e<;>rw [e]
  ·k_upd
   exact ⟨_,SqL.of e3,_,rfl,q p1 (.wind (c / 16 / 12 % 2) lv kd) _ s03 (SqT.of ((s2.trans s3) _ _ e1)) ⟨⟨by omega,by omega⟩,hkd⟩⟩
  ·k_upd
   exact ⟨_,SqL.of e3,_,rfl,q p2 (.unload (c / 16 % 2)) _ s03 (SqT.of (s3 _ _ e2)) ⟨by omega,by omega⟩⟩
 k_upd
 rw [if_neg e14]
 k_mem
 exact ⟨p,dl,cl,ll,_,g,lds,rfl,hP,l2,l6,l30,fun dd d H1 s1 hd ok=>q dd d H1 s1 hd ok⟩
variable (wo:KD P w K mg base CX0 3 "_law_deed" (xB K Z))
inductive gG (K:WA)(Z:Adr)(vs:List V)(H:Hp)(Q:VK)(E:XK):Prop | mk (s rl:Addr) (g:Cfg) (n:bh) (ys:List V):vs=[.ref s]->eK (clZ Z) K H rl g s n->H rl=some (.lst ys)->g.ls.length<=1000->(∀(s':Addr) (A:SA) (H':Hp),aw H H'->H s'=none->H A.ol=none->H A.b=none->H A.fl=none->H A.y=none->H A.wh=none->bt (clZ Z) K H' rl g s' A n->Q (.ref s') H')->gG K Z vs H Q E
include T fA ye wm in
theorem xC:FF P w K mg base CX0 4 "twin" "Standing.twin" gV ow (gG K Z):=fk0 xc fun vs H Q E h=>by
 obtain ⟨s0,rl,g,n,ys,rfl,⟨A0,hA⟩,hrl,hls,q⟩:=h
 k_all
 refine ⟨_,ag (ax (dn fA hr.dn T.zW bB (pa4 (aC (pv' 0)) (aC (pv' 0)) (dQ (aC (pv' 0)) wm hr.dn bB) (dQ (aC (pv' 0)) ye hr.dn bB)))),?_⟩
 k_mem
 refine fgo hA.ob T.aQ T.cX rfl (fgo hA.ob T.aQ T.cC rfl (fgo hA.ob T.aQ T.cw rfl ?_))
 k_mem
 obtain ⟨db,hbb⟩:=hA.be.ob
 obtain ⟨dy,hyb⟩:=hA.ya.ob
 k_upd
 refine mgo hbb rfl ⟨_,_,_,_,_,_,_,rfl,hA.be,hls,fun b1 cs1 fl1 H1 hb1 hc1 hf1 s1 hB1=>?_⟩
 k_upd
 refine fgo (s1 _ _ hA.ob) T.aQ T.bT rfl ?_
 k_mem
 refine mgo (s1 _ _ hyb) rfl ⟨_,_,_,_,_,_,rfl,hA.ya.same s1,fun y2 kn2 wh2 H2 hy2 hk2 hw2 nkw s2 hY2=>?_⟩
 refine fun x dx hx hdx nxd=>?_
 have s12:=s1.trans s2
 have hx':upd H2 dx (.own x) x=none:=by rw [aL (Ne.symm nxd)];exact hx
 k_upd
 refine ⟨x,dx,A0.ol,b1,y2,n.place,n.gates,rfl,ah,(((aw.refl H2).lay hdx).lay hx').seq (SqL.of (s12 _ _ hA.go)),fun ol H3 hol kp hob3 hol3=>⟨rfl,?_⟩⟩
 have s3:=gM hx hdx kp
 have holn:=fS hol
 obtain ⟨_,⟨as1,oc1,_⟩,of1,_⟩:=id hB1
 obtain ⟨_,okn2,owh2⟩:=id hY2
 have cs2:=s2 _ _ oc1
 have fl2:=s2 _ _ of1
 refine q x ⟨dx,ol,b1,cs1,fl1,A0.st,y2,kn2,wh2⟩ H3 (s12.trans s3) (s12.free hx) (s12.free holn) hb1 hf1 (s1.free hy2) (s1.free hw2) ⟨hob3,hol3,(hB1.same s2).same s3,hY2.same s3,⟨?_,?_,?_,?_,?_,?_,?_,?_,?_,?_,?_,?_,?_,?_,?_,?_⟩,⟨(hA.nn.same (s12.trans s3)).al,hA.nn.nr,?_,?_,?_,?_,?_⟩⟩
 ·exact (av hrl (s12.free holn)).symm
 ·exact (av hrl hc1).symm
 ·exact (av hrl hf1).symm
 ·exact (av hrl (s1.free hk2)).symm
 ·exact (av hrl (s1.free hw2)).symm
 ·exact av cs2 holn
 ·exact av fl2 holn
 ·exact av okn2 holn
 ·exact av owh2 holn
 ·exact (av fl2 holn).symm
 ·exact (av of1 hk2).symm
 ·exact (av of1 hw2).symm
 ·exact (av owh2 holn).symm
 ·exact av oc1 hw2
 ·exact av of1 hw2
 ·exact nkw
 all_goals
  intro q hq
  obtain ⟨us,hu⟩:=hA.nn.al q hq
 ·exact (av hu (s12.free holn)).symm
 ·exact (av hu hc1).symm
 ·exact (av hu hf1).symm
 ·exact (av hu (s1.free hk2)).symm
 ·exact (av hu (s1.free hw2)).symm
variable (bz:KM P w K mg base CX0 4 Z.eD "twin" (gG K Z))
inductive js (K:WA)(Z:Adr)(vs:List V)(H:Hp)(Q:VK)(E:XK):Prop | mk (w bk rl:Addr) (g:Cfg) (n0:bh) (rs:List Row):vs=[.ref w]->WAt (clZ Z) K H w bk rl g n0 rs->0 < g.ds.length->(∀p,H p=none->Q (.ref p) (upd H p (.tup [.int (ao n0 rs).place,.int (cG g.ds - (ao n0 rs).place)])))->js K Z vs H Q E
include T aK il in
theorem Ar:FF P w K mg base CX0 4 "cages" "Works.cages" km tx (js K Z):=fk0 zD fun vs H Q E h=>by
 obtain ⟨w,bk,rl,g,n0,rs,rfl,hW,hn,q⟩:=h
 k_all
 refine ⟨_,ag (ax (dm' (pv' 0) il hr.dn bB (pa1 (aC (dQ (aC (pv' 0)) aK hr.dn bB))))),?_⟩
 obtain ⟨⟨dx,dl,gl,hob,hdl,hgl,n1,n2⟩,hB⟩:=id hW
 obtain ⟨⟨db,f0,hbo,hF⟩,as,hrl,hR⟩:=id hB
 k_mem
 refine mgo hob rfl (fgo hob T.bu T.br rfl ?_)
 k_mem
 refine mgo hbo rfl ⟨_,_,_,_,_,rfl,hB,fun s0 ⟨A,hA⟩=>?_⟩
 k_mem
 refine fgo hA.ob T.aQ T.cX rfl ?_
 k_upd
 exact ⟨_,_,_,_,_,_,_,rfl,hW,hn,q⟩
variable (gJ:KM P w K mg base CX0 4 Z.bF "cages" (js K Z))
inductive gq (K:WA)(Z:Adr)(vs:List V)(H:Hp)(Q:VK)(E:XK):Prop | mk (w bk rl:Addr) (g:Cfg) (n0:bh) (rs:List Row) (lv:Int):vs=[.ref w,.int lv]->WAt (clZ Z) K H w bk rl g n0 rs->(ao n0 rs).ws.length<=1000->((0<=lv/\lv < g.ds.length->∀p H',H p=none->aw H H'->H' p=some (.lst ((iP (ao n0 rs).ws lv).map V.int))->Q (.ref p) H'))->((¬(0<=lv/\lv < g.ds.length)->E (.ref Z.ay) none H))->gq K Z vs H Q E
include T aK oy in
theorem wq:FF P w K mg base (CXf P w) 4 "at_level" "Works.at_level" gy k6 (gq K Z):=fkF vD fun vs H Q E h=>by
 obtain ⟨w,bk,rl,g,n0,rs,lv,rfl,hW,hn,q1,q2⟩:=h
 k_all
 refine ⟨_,ag (ax (dm' (aC (dQ (aC (pv' 0)) aK hr.dn bB)) oy hr.dn cj (pa1 (pv' 1)))),?_⟩
 obtain ⟨⟨dx,dl,gl,hob,hdl,hgl,n1,n2⟩,hB⟩:=id hW
 obtain ⟨⟨db,f0,hbo,hF⟩,as,hrl,hR⟩:=id hB
 k_mem
 refine fgo hob T.bu T.br rfl ?_
 k_mem
 refine mgo hbo rfl ⟨_,_,_,_,_,rfl,hB,fun s0 ⟨A,hA⟩=>?_⟩
 k_mem
 refine fgo hA.ob T.aQ T.bT rfl ?_
 k_mem
 obtain ⟨dy,hyb⟩:=hA.ya.ob
 k_upd
 exact ⟨_,_,hyb,rfl,_,_,_,_,_,_,_,rfl,hA.ya,hn,q1,q2⟩
variable (md:KM P w K mg base (CXf P w) 4 Z.bF "at_level" (gq K Z))
inductive uM (K:WA)(Z:Adr)(vs:List V)(H:Hp)(Q:VK)(E:XK):Prop | mk (a:Addr) (ns:List Int) (mo:Int):vs=[.ref a,.int mo]->SqL K H a (ns.map V.int)->0<=mo->mo<=30->(∀(p dl cl ll:Addr) (ds:List Int) (ls:List Cd) (slow fast:Int) (lds:List Ld) (H':Hp),aw H H'->H p=none->H dl=none->H cl=none->H ll=none->dN K H' p dl cl ll (iQ ds ls slow fast lds fun _=>False) lds->cD ds->ls.length=ds.length->(∀x∈ls,eZ x)->(1<=slow/\slow<=fast/\fast<=500)->(lds.length:Int)<=mo->(∀x∈lds,j0 (ds.length:Nat) x/\FO x)->Q (.ref p) H')->uM K Z vs H Q E
include T xu B1 B2 in
theorem GS:FF P w K mg base CX0 4 "_law_setup" "_law_setup" xk BI (uM K Z):=fk0 i7 fun vs H Q E h=>by
 obtain ⟨a,ns,mo,rfl,hS,h0,h1,q⟩:=h
 k_all
 refine seg 1 (ag (ax (bj (cq (pv' 2) (pa4 (pv' 3) (pv' 4) (pv' 5) (dc0 B1 hr.dn (pa3 (dc0 xu hr.dn (pa2 (pv' 0) af)) (aE az (by rfl) T.bZ bx (pa1 (pv' 2))) (pv' 1)))))))) fun zt1 zh1 ze1=>?_
 refine ⟨_,ae (oM (dc0 B2 hr.dn (pa1 (pv' 0))) (MA rfl (aN (aJ (i:=2) i7.nd rfl orL) (aN (aJ (i:=3) i7.nd rfl orL) (aN (aJ (i:=4) i7.nd rfl orL) (aN (aJ (i:=5) i7.nd rfl orL) dY)))))) zh1,?_⟩
 k_mem
 refine ⟨a,ns,rfl,hS,fun p dl cl ds as ls slow fast H1 s1 hpn hdn hcn ndc hp hdl hsh hcl hT hlen hg hsp=>?_⟩
 have l2:=hsh.l2
 have l6:=hsh.l6
 k_mem
 refine ⟨_,SqL.of hp,rfl,?_⟩
 k_mem
 refine ⟨a,ns,4,rfl,s1.seq hS,by omega,?_⟩
 k_mem
 refine ⟨_,.inl (SqL.of hdl),?_⟩
 rw [WB]
 k_upd
 refine ⟨_,_,_,rfl,by omega,h0,by omega,fun ll bs lds H2 hln s2 hll hT2 hlen2 hk=>?_⟩
 k_mem
 refine ⟨by decide,fun p5 hp5=>?_⟩
 have s3:=s2.lay (o:=HO.lst [V.ref dl,V.ref cl,V.int slow,V.int fast,V.ref ll]) hp5
 have s23:=(aw.refl H2).lay (o:=HO.lst [V.ref dl,V.ref cl,V.int slow,V.int fast,V.ref ll]) hp5
 k_upd
 exact q p5 dl cl ll ds ls slow fast lds _ (s1.trans s3) (s1.free (s2.free hp5)) hdn hcn (s1.free hln) ⟨ah,s3 _ _ hdl,⟨as,s3 _ _ hcl,hT.same s3⟩,⟨bs,s23 _ _ hll,hT2.same s23⟩,rfl⟩ hsh hlen hg hsp hlen2 hk
variable (rn:KD P w K mg base CX0 4 "_law_setup" (uM K Z))
inductive kP (K:WA)(Z:Adr)(vs:List V)(H:Hp)(Q:VK)(E:XK):Prop | mk (w bk rl:Addr) (g:Cfg) (n0:bh) (rs:List Row) (lv s:Int):vs=[.ref w,.int lv,.int s]->WAt (clZ Z) K H w bk rl g n0 rs->g.ls.length<=1000->g.ks.length=(ao n0 rs).ws.length->((¬(0<=lv/\lv < g.ls.length)->∀H',aw H H'->E (.ref Z.ay) none H'))->((0<=lv->lv < g.ls.length->(ao n0 rs).fs.getD lv.toNat false=true->∀H',aw H H'->E (.ref Z.ba) none H'))->((0<=lv->lv < g.ls.length->(ao n0 rs).fs.getD lv.toNat false=false->¬(s=(eN g.ls lv).1\/s=(eN g.ls lv).2)->∀H',aw H H'->E (.ref Z.bC) none H'))->((0<=lv->lv < g.ls.length->(ao n0 rs).fs.getD lv.toNat false=false->(s=(eN g.ls lv).1\/s=(eN g.ls lv).2)->yg Z K H w bk rl g n0 rs (.ring lv s) Q E))->kP K Z vs H Q E
include T aK wg bJ bz in
theorem Bf:FF P w K mg base (CXf P w) 5 "ring" "Works.ring" mK vp (kP K Z):=fkF tG fun vs H Q E h=>by
 obtain ⟨w,bk,rl,g,n0,rs,lv,s,rfl,hW,hls,hks,q1,q2,q3,q4⟩:=h
 k_all
 refine seg 2 (ag (ax (dm' (pv' 0) bJ hr.dn cj (pa3 (aY (pa3 aq (pv' 1) (pv' 2))) af (pv' 3))))) fun zt2 zh2 ze2=>?_
 refine seg 1 (ae (bN (dm' (aC (pv' 3)) wg hr.dn cj (pa2 (pv' 1) (pv' 2)))) zh2) fun zt1 zh1 ze1=>?_
 refine ⟨_,ae (aF (i:=3) tG.nd rfl orL (dQ (dQ (aC (pv' 0)) aK hr.dn bB) bz hr.dn bB)) zh1,?_⟩
 obtain ⟨⟨dx,dl,gl,hob,hdl,hgl,n1,n2⟩,hB⟩:=id hW
 obtain ⟨⟨db,f0,hbo,hF⟩,as,hrl,hR⟩:=id hB
 k_mem
 refine fgo hob T.bu T.br rfl ?_
 k_mem
 refine mgo hbo rfl ⟨_,_,_,_,_,rfl,hB,fun s0 ⟨A0,hA0⟩=>?_⟩
 k_mem
 refine mgo hA0.ob rfl ⟨_,_,_,_,_,rfl,hA0.at,hrl,hls,fun s1 A H1 e1 hs1 ho1 hb1 hf1 hy1 hw1 hA=>?_⟩
 have hW1:=hW.same e1
 have hob1:=e1 _ _ hob
 have hbo1:=e1 _ _ hbo
 have hrl1:=e1 _ _ hrl
 have hdl1:=e1 _ _ hdl
 k_mem
 refine fgo hA.ob T.aQ T.cw rfl ?_
 k_mem
 obtain ⟨db1,hbb⟩:=hA.be.ob
 k_upd
 refine mgo hbb rfl ⟨_,_,_,_,_,_,_,_,_,rfl,hA.be,fun h=>q1 h _ e1,fun h h' h2=>q2 h h' h2 _ e1,fun h h' h2 h4=>q3 h h' h2 h4 _ e1,fun h h' h2 h4 st2 H2 k2 hB2=>?_⟩
 have h3:=q4 h h' h2 h4
 have e2:=e1.keeps k2 hb1
 have hA2:=hA.bells k2 hB2
 clear k2 hB2
 k_mem
 refine ⟨_,_,e2 _ _ hob,rfl,by decide,fun p hp=>?_⟩
 have e3:=e2.lay (o:=HO.tup [V.str (Str.ofString "ring"),V.int lv,V.int s]) hp
 have f3:=(aw.refl H2).lay (o:=HO.tup [V.str (Str.ofString "ring"),V.int lv,V.int s]) hp
 k_upd
 refine ⟨_,_,_,_,_,_,p,s1,1,ddV (.ring lv s),di g (ao n0 rs) (.ring lv s),rfl,hW.same e3,SqT.of (by rw [ah];rfl),?_,?_,fun h H' s'=>h3.1 h H' (e3.trans s'),fun h H' k hWn=>?_⟩
 ·exact (bt.at hA2).same f3
 ·rw [hks];first | rfl | simp only [di,List.length_set]
 ·k_upd
  exact h3.2 h H' ((aD.of e3).trans k) hWn
variable (wu:KM P w K mg base (CXf P w) 5 Z.bF "ring" (kP K Z))
inductive hZ (K:WA)(Z:Adr)(vs:List V)(H:Hp)(Q:VK)(E:XK):Prop | mk (w bk rl:Addr) (g:Cfg) (n0:bh) (rs:List Row) (s:Int):vs=[.ref w,.int s]->WAt (clZ Z) K H w bk rl g n0 rs->g.ls.length<=1000->g.ks.length=(ao n0 rs).ws.length->(((∀l r,(ao n0 rs).e≠.wait l r)->∀H',aw H H'->E (.ref Z.aH) none H'))->((∀l r,(ao n0 rs).e=.wait l r->¬(1<=s/\s<=9)->∀H',aw H H'->E (.ref Z.bC) none H'))->((∀l r,(ao n0 rs).e=.wait l r->(1<=s/\s<=9)->(300<=rs.length->∀H',aw H H'->E (.ref Z.aT) none H')/\(rs.length < 300->∀p H',aD rl H H'->WAt (clZ Z) K H' w bk rl g n0 (rs++[u4 g n0 rs (.rept s)])->SqT K H' p [.bl (decide (s=r)),.int r,.int s]->Q (.ref p) H')))->hZ K Z vs H Q E
include T aK qM bJ bz in
theorem yA:FF P w K mg base (CXf P w) 5 "repeat" "Works.repeat" iZ pd (hZ K Z):=fkF gW fun vs H Q E h=>by
 obtain ⟨w,bk,rl,g,n0,rs,s,rfl,hW,hls,hks,q1,q2,q3⟩:=h
 k_all
 refine seg 3 (ag (ax (pv' 3))) fun zt3 zh3 ze3=>?_
 refine seg 2 (ae (bN (dm' (pv' 0) bJ hr.dn cj (pa3 (aY (pa2 aq (pv' 1))) af (pv' 2)))) zh3) fun zt2 zh2 ze2=>?_
 refine seg 1 (ae (aF (i:=3) gW.nd rfl orL (dm' (aC (pv' 2)) qM hr.dn cj (pa1 (pv' 1)))) zh2) fun zt1 zh1 ze1=>?_
 refine ⟨_,ae (aF (i:=2) gW.nd rfl orL (dQ (dQ (aC (pv' 0)) aK hr.dn bB) bz hr.dn bB)) zh1,?_⟩
 obtain ⟨⟨dx,dl,gl,hob,hdl,hgl,n1,n2⟩,hB⟩:=id hW
 obtain ⟨⟨db,f0,hbo,hF⟩,as,hrl,hR⟩:=id hB
 k_mem
 refine fgo hob T.bu T.br rfl ?_
 k_mem
 refine mgo hbo rfl ⟨_,_,_,_,_,rfl,hB,fun s0 ⟨A0,hA0⟩=>?_⟩
 k_mem
 refine mgo hA0.ob rfl ⟨_,_,_,_,_,rfl,hA0.at,hrl,hls,fun s1 A H1 e1 hs1 ho1 hb1 hf1 hy1 hw1 hA=>?_⟩
 have hW1:=hW.same e1
 have hob1:=e1 _ _ hob
 have hbo1:=e1 _ _ hbo
 have hrl1:=e1 _ _ hrl
 have hdl1:=e1 _ _ hdl
 k_mem
 refine fgo hA.ob T.aQ T.cw rfl ?_
 k_mem
 obtain ⟨db1,hbb⟩:=hA.be.ob
 k_upd
 refine mgo hbb rfl ⟨_,_,_,_,_,_,_,_,rfl,hA.be,fun h=>q1 h _ e1,fun l r h h'=>q2 l r h h' _ e1,fun l r h h' st2 p2 H2 hp2 k2 hB2 hT2=>?_⟩
 have h3:=q3 l r h h'
 have e2:=e1.keeps k2 hb1
 have hA2:bt (clZ Z) K H2 rl g s1 {A with st:=st2} (di g (ao n0 rs) (.rept s)):=by
  have:=hA.bells k2 hB2
  have e0:di g (ao n0 rs) (.rept s)={(ao n0 rs) with e:=(if s=r then Eng.armed l r else Eng.other l r s)}:=by
   show bh.mk _ _ _ (y0 g (ao n0 rs) (.rept s)) _=_
   rw [show y0 g (ao n0 rs) (.rept s)=(if s=r then Eng.armed l r else Eng.other l r s) from by simp only [y0,h]]
  rw [e0]
  exact this
 clear k2 hB2
 k_mem
 refine ⟨_,_,e2 _ _ hob,rfl,by decide,fun p hp=>?_⟩
 have e3:=e2.lay (o:=HO.tup [V.str (Str.ofString "repeat"),V.int s]) hp
 have f3:=(aw.refl H2).lay (o:=HO.tup [V.str (Str.ofString "repeat"),V.int s]) hp
 k_upd
 refine ⟨_,_,_,_,_,_,p,s1,1,ddV (.rept s),di g (ao n0 rs) (.rept s),rfl,hW.same e3,SqT.of (by rw [ah];rfl),?_,?_,fun h H' s'=>h3.1 h H' (e3.trans s'),fun h H' k hWn=>?_⟩
 ·exact (bt.at hA2).same f3
 ·rw [hks];first | rfl | simp only [di,List.length_set]
 ·k_upd
  exact h3.2 h _ H' ((aD.of e3).trans k) hWn ((f3.tup hT2).keep k (e3 _ _ hrl))
variable (qS:KM P w K mg base (CXf P w) 5 Z.bF "repeat" (hZ K Z))
inductive kQ (K:WA)(Z:Adr)(vs:List V)(H:Hp)(Q:VK)(E:XK):Prop | mk (w bk rl:Addr) (g:Cfg) (n0:bh) (rs:List Row) (lv:Int):vs=[.ref w,.int lv]->WAt (clZ Z) K H w bk rl g n0 rs->g.ls.length<=1000->g.ks.length=(ao n0 rs).ws.length->((¬(0<=lv/\lv < g.ls.length)->∀H',aw H H'->E (.ref Z.ay) none H'))->((0<=lv->lv < g.ls.length->(ao n0 rs).fs.getD lv.toNat false=true->∀H',aw H H'->E (.ref Z.aS) none H'))->((0<=lv->lv < g.ls.length->(ao n0 rs).fs.getD lv.toNat false=false->yg Z K H w bk rl g n0 rs (.fail lv) Q E))->kQ K Z vs H Q E
include T aK wj bJ bz in
theorem Bg:FF P w K mg base (CXf P w) 5 "fail" "Works.fail" mL vq (kQ K Z):=fkF tH fun vs H Q E h=>by
 obtain ⟨w,bk,rl,g,n0,rs,lv,rfl,hW,hls,hks,q1,q2,q3⟩:=h
 k_all
 refine seg 2 (ag (ax (dm' (pv' 0) bJ hr.dn cj (pa3 (aY (pa2 aq (pv' 1))) af (pv' 2))))) fun zt2 zh2 ze2=>?_
 refine seg 1 (ae (bN (dm' (aC (pv' 2)) wj hr.dn cj (pa1 (pv' 1)))) zh2) fun zt1 zh1 ze1=>?_
 refine ⟨_,ae (aF (i:=2) tH.nd rfl orL (dQ (dQ (aC (pv' 0)) aK hr.dn bB) bz hr.dn bB)) zh1,?_⟩
 obtain ⟨⟨dx,dl,gl,hob,hdl,hgl,n1,n2⟩,hB⟩:=id hW
 obtain ⟨⟨db,f0,hbo,hF⟩,as,hrl,hR⟩:=id hB
 k_mem
 refine fgo hob T.bu T.br rfl ?_
 k_mem
 refine mgo hbo rfl ⟨_,_,_,_,_,rfl,hB,fun s0 ⟨A0,hA0⟩=>?_⟩
 k_mem
 refine mgo hA0.ob rfl ⟨_,_,_,_,_,rfl,hA0.at,hrl,hls,fun s1 A H1 e1 hs1 ho1 hb1 hf1 hy1 hw1 hA=>?_⟩
 have hW1:=hW.same e1
 have hob1:=e1 _ _ hob
 have hbo1:=e1 _ _ hbo
 have hrl1:=e1 _ _ hrl
 have hdl1:=e1 _ _ hdl
 k_mem
 refine fgo hA.ob T.aQ T.cw rfl ?_
 k_mem
 obtain ⟨db1,hbb⟩:=hA.be.ob
 k_upd
 refine mgo hbb rfl ⟨_,_,_,_,_,_,_,_,rfl,hA.be,fun h=>q1 h _ e1,fun h h' h2=>q2 h h' h2 _ e1,fun h h' h2 H2 k2 hB2=>?_⟩
 have h3:=q3 h h' h2
 have e2:=e1.keeps k2 hf1
 have hA2:=hA.fail k2 hB2 (List.length_set ..)
 clear k2 hB2
 k_mem
 refine ⟨_,_,e2 _ _ hob,rfl,by decide,fun p hp=>?_⟩
 have e3:=e2.lay (o:=HO.tup [V.str (Str.ofString "fail"),V.int lv]) hp
 have f3:=(aw.refl H2).lay (o:=HO.tup [V.str (Str.ofString "fail"),V.int lv]) hp
 k_upd
 refine ⟨_,_,_,_,_,_,p,s1,1,ddV (.fail lv),di g (ao n0 rs) (.fail lv),rfl,hW.same e3,SqT.of (by rw [ah];rfl),?_,?_,fun h H' s'=>h3.1 h H' (e3.trans s'),fun h H' k hWn=>?_⟩
 ·exact (bt.at hA2).same f3
 ·rw [hks];first | rfl | simp only [di,List.length_set]
 ·k_upd
  exact h3.2 h H' ((aD.of e3).trans k) hWn
variable (wx:KM P w K mg base (CXf P w) 5 Z.bF "fail" (kQ K Z))
inductive fI (K:WA)(Z:Adr)(vs:List V)(H:Hp)(Q:VK)(E:XK):Prop | mk (w bk rl:Addr) (g:Cfg) (n0:bh) (rs:List Row) (wd:Str) (lv:Int) (b:Bool) (d:Dd):vs=[.ref w,.str wd,.int lv,.bl b]->WAt (clZ Z) K H w bk rl g n0 rs->g.ls.length<=1000->g.ks.length=(ao n0 rs).ws.length->(ao n0 rs).gates.length=g.ds.length->(((wd="open"/\b=true/\d=.opn lv)\/(wd="shut"/\b=false/\d=.sht lv)))->((¬(0<=lv/\lv < g.ds.length)->∀H',aw H H'->E (.ref Z.ay) none H'))->((0<=lv->lv < g.ds.length->(ao n0 rs).gates.getD lv.toNat false=b->∀H',aw H H'->E (.ref Z.aS) none H'))->((0<=lv->lv < g.ds.length->(ao n0 rs).gates.getD lv.toNat false=!b->yg Z K H w bk rl g n0 rs d Q E))->fI K Z vs H Q E
include T aK bI bJ bz in
theorem uN:FF P w K mg base (CXf P w) 5 "turn_gate" "Works.turn_gate" fZ jQ (fI K Z):=fkF i3 fun vs H Q E h=>by
 obtain ⟨w,bk,rl,g,n0,rs,wd,lv,b,d,rfl,hW,hls,hks,hgl2,hd,q1,q2,q3⟩:=h
 k_all
 refine seg 4 (ag (ax (dm' (pv' 0) bJ hr.dn cj (pa3 (aY (pa2 (pv' 1) (pv' 2))) af (pv' 4))))) fun zt4 zh4 ze4=>?_
 refine seg 3 (ae (oM (pv' 3) (yM (aC (pv' 4)) (pv' 2) kY)) zh4) fun zt3 zh3 ze3=>?_
 refine seg 2 (ae (aM (bU (ai au (aC (pv' 4)) (pv' 2)) (pv' 3)) (ag (bE T.Aa (by rfl) T.uu (pa1 aq))) (aA)) zh3) fun zt2 zh2 ze2=>?_
 refine seg 1 (ae (bN (dc bI hr.dn cj (pa2 (pv' 2) (aE az (by rfl) T.bZ bx (pa1 (aC (pv' 0))))))) zh2) fun zt1 zh1 ze1=>?_
 refine ⟨_,ae (aF (i:=4) i3.nd rfl orL (dQ (dQ (aC (pv' 0)) aK hr.dn bB) bz hr.dn bB)) zh1,?_⟩
 obtain ⟨⟨dx,dl,gl,hob,hdl,hgl,n1,n2⟩,hB⟩:=id hW
 obtain ⟨⟨db,f0,hbo,hF⟩,as,hrl,hR⟩:=id hB
 k_mem
 refine fgo hob T.bu T.br rfl ?_
 k_mem
 refine mgo hbo rfl ⟨_,_,_,_,_,rfl,hB,fun s0 ⟨A0,hA0⟩=>?_⟩
 k_mem
 refine mgo hA0.ob rfl ⟨_,_,_,_,_,rfl,hA0.at,hrl,hls,fun s1 A H1 e1 hs1 ho1 hb1 hf1 hy1 hw1 hA=>?_⟩
 have hW1:=hW.same e1
 have hob1:=e1 _ _ hob
 have hbo1:=e1 _ _ hbo
 have hrl1:=e1 _ _ hrl
 have hdl1:=e1 _ _ hdl
 k_mem
 refine fgo hob1 T.bu T.c9 rfl ?_
 k_mem
 refine ⟨_,.inl (SqL.of hdl1),_,_,rfl,?_⟩
 rw [WB]
 k_upd
 refine ⟨fun hlv=>?_,fun h=>q1 h _ e1⟩
 k_mem
 refine fgo hA.ob T.aQ T.cC rfl ?_
 k_mem
 refine ⟨_,SqL.of hA.go,_,fB hlv.1 (by omega),?_⟩
 k_mem
 split
 ·rename_i h
  k_upd
  exact ⟨by decide,q2 hlv.1 hlv.2 h _ e1⟩
 ·rename_i h
  have h3:=q3 hlv.1 hlv.2 (by cases b<;>simpa using h)
  k_upd
  refine fgo hA.ob T.aQ T.cC rfl ?_
  k_mem
  refine ⟨_,hA.go,_,Cf hlv.1 (by rw [WB];omega),?_⟩
  have e2:=e1.rewr (o:=HO.lst (((ao n0 rs).gates.map V.bl).set lv.toNat (V.bl b))) ho1
  have k2:L2.aD A.ol H1 (upd H1 A.ol (HO.lst (((ao n0 rs).gates.map V.bl).set lv.toNat (V.bl b)))):=(aD.of (aw.refl H1)).put
  have hA2:=hA.gates k2 (gs:=(ao n0 rs).gates.set lv.toNat b) (by rw [ah,List.map_set])
  generalize upd H1 A.ol (HO.lst (((ao n0 rs).gates.map V.bl).set lv.toNat (V.bl b)))=H2 at *
  have hW2:=hW.same e2
  k_upd
  refine ⟨_,_,e2 _ _ hob,rfl,by decide,fun p hp=>?_⟩
  have e3:=e2.lay (o:=HO.tup [V.str wd,V.int lv]) hp
  have f3:=(aw.refl H2).lay (o:=HO.tup [V.str wd,V.int lv]) hp
  k_upd
  refine ⟨_,_,_,_,_,_,p,s1,1,ddV d,di g (ao n0 rs) d,rfl,hW.same e3,SqT.of ?_,?_,?_,fun h H' s'=>h3.1 h H' (e3.trans s'),fun h H' k hWn=>?_⟩
  ·rw [ah];rcases hd with ⟨rfl,_,rfl⟩ | ⟨rfl,_,rfl⟩<;>rfl
  ·refine (bt.at (A:=A) ?_).same f3
   rcases hd with ⟨_,rfl,rfl⟩ | ⟨_,rfl,rfl⟩<;>exact hA2
  ·rw [hks];rcases hd with ⟨_,rfl,rfl⟩ | ⟨_,rfl,rfl⟩<;>rfl
  ·have:=h3.2 h H' ((aD.of e3).trans k)
   rcases hd with ⟨_,rfl,rfl⟩ | ⟨_,rfl,rfl⟩<;>exact this hWn
variable (eM:KM P w K mg base (CXf P w) 5 Z.bF "turn_gate" (fI K Z))
def MQ (w:Addr)(c lv:Int)(kd:Str)(s:Addr)(H:Hp)(gs:List Int)(gates:List Bool)(i:Nat)(σ:St)(H':Hp):Prop:=H'=H/\(∃t,σ=[some (.ref w),some (.int c),some (.int lv),some (.str kd),some (.ref s),t,none,none])/\∀j,j < i->∀x,gs[j]?=some x->gates.getD x.toNat false=false
inductive kR (K:WA)(Z:Adr)(vs:List V)(H:Hp)(Q:VK)(E:XK):Prop | mk (w bk rl:Addr) (g:Cfg) (n0:bh) (rs:List Row) (c lv:Int) (kd:Str):vs=[.ref w,.int c,.int lv,.str kd]->WAt (clZ Z) K H w bk rl g n0 rs->g.ls.length<=1000->g.ks.length=(ao n0 rs).ws.length->cD g.ds->(ao n0 rs).gates.length=g.ds.length->g.ls.length=g.ds.length->1<=fT g (ao n0 rs)->fT g (ao n0 rs)<=500->((kd="men"\/kd="coal"))->((¬(0<=lv/\lv < g.ds.length)->∀H',aw H H'->E (.ref Z.ay) none H'))->((0<=lv->lv < g.ds.length->eR g (ao n0 rs)=true->∀H',aw H H'->E (.ref Z.bb) none H'))->((0<=lv->lv < g.ds.length->eR g (ao n0 rs)=false->(ao n0 rs).e≠.armed lv (cM g.ls lv kd)->∀H',aw H H'->E (.ref Z.aW) none H'))->((0<=lv->lv < g.ds.length->eR g (ao n0 rs)=false->(ao n0 rs).e=.armed lv (cM g.ls lv kd)->yg Z K H w bk rl g n0 rs (.wind c lv kd) Q E))->kR K Z vs H Q E
include T vX aK bI eA yf tT Ap bJ bz in
theorem Bh:FF P w K mg base (CXf P w) 5 "wind" "Works.wind" mO vv (kR K Z):=fkF fi fun vs H Q E h=>by
 obtain ⟨w,bk,rl,g,n0,rs,c,lv,kd,rfl,hW,hls,hks,hsh,hgl2,hlc,hsp1,hsp5,hkd,q1,q2,q3,q4⟩:=h
 k_all
 refine seg 7 (ag (ax (dm' (pv' 0) bJ hr.dn cj (pa3 (aY (pa4 aq (pv' 1) (pv' 2) (pv' 3))) (pv' 7) (pv' 4))))) fun zt7 zh7 ze7=>?_
 refine seg 6 (ae (cu (pv' 4) (pv' 6) rfl) zh7) fun zt6 zh6 ze6=>?_
 refine seg 5 (ae (aF (i:=7) fi.nd rfl orL (dc0 vX hr.dn (pa2 (aE BD (by rfl) T.Nq JN (pa1 (bc dS (pv' 6) (aC (pv' 4))))) (dm' (pv' 0) eA hr.dn bB (pa1 (pv' 4)))))) zh6) fun zt5 zh5 ze5=>?_
 refine seg 4 (ae (aF (i:=6) fi.nd rfl orL (dc0 tT hr.dn (pa3 (aC (pv' 0)) (pv' 1) (pv' 2)))) zh5) fun zt4 zh4 ze4=>?_
 refine seg 3 (ae (bN (dm' (aC (pv' 4)) yf hr.dn cj (pa2 (pv' 2) (pv' 3)))) zh4) fun zt3 zh3 ze3=>?_
 refine seg 2 (ae (en FL rfl (eT (dc0 Ap hr.dn (pa2 (aC (pv' 0)) (aC (pv' 4))))) (aJ (i:=5) fi.nd rfl orL) (ag (aM (cO (ai au (aC (pv' 4)) (pv' 5))) (ag (bE T.GF (by rfl) T.zU (pa1 aq))) (aA)))) zh3) fun zt2 zh2 ze2=>?_
 refine seg 1 (ae (bN (dc bI hr.dn cj (pa2 (pv' 2) (aE az (by rfl) T.bZ bx (pa1 (aC (pv' 0))))))) zh2) fun zt1 zh1 ze1=>?_
 refine ⟨_,ae (aF (i:=4) fi.nd rfl orL (dQ (dQ (aC (pv' 0)) aK hr.dn bB) bz hr.dn bB)) zh1,?_⟩
 obtain ⟨⟨dx,dl,gl,hob,hdl,hgl,n1,n2⟩,hB⟩:=id hW
 obtain ⟨⟨db,f0,hbo,hF⟩,as,hrl,hR⟩:=id hB
 k_mem
 refine fgo hob T.bu T.br rfl ?_
 k_mem
 refine mgo hbo rfl ⟨_,_,_,_,_,rfl,hB,fun s0 ⟨A0,hA0⟩=>?_⟩
 k_mem
 refine mgo hA0.ob rfl ⟨_,_,_,_,_,rfl,hA0.at,hrl,hls,fun s1 A H1 e1 hs1 ho1 hb1 hf1 hy1 hw1 hA=>?_⟩
 have hW1:=hW.same e1
 have hob1:=e1 _ _ hob
 have hbo1:=e1 _ _ hbo
 have hrl1:=e1 _ _ hrl
 have hdl1:=e1 _ _ hdl
 k_mem
 refine fgo hob1 T.bu T.c9 rfl ?_
 k_mem
 refine ⟨_,.inl (SqL.of hdl1),_,_,rfl,?_⟩
 rw [WB]
 k_upd
 refine ⟨fun hlv=>?_,fun h=>q1 h _ e1⟩
 have l6:=hsh.l6
 k_mem
 refine fgo hob1 T.bu T.c9 rfl ?_
 k_upd
 refine fgo hA.ob T.aQ T.cX rfl ?_
 k_mem
 refine ⟨_,_,_,rfl,SqL.of hdl1,by omega,by omega,fun gb H2 hgb f2 hgb2=>?_⟩
 have e2:=e1.trans f2
 replace hA:=hA.same f2
 k_mem
 refine ⟨⟨_,SqL.of hgb2⟩,?_⟩
 have gr:∀x∈ir g.ds (ao n0 rs).place,0<=x/\x < g.ds.length:=fun x hx=>by
  unfold ir at hx
  rw [List.mem_map] at hx
  obtain ⟨i,hi,rfl⟩:=hx
  have:=List.mem_range.mp (List.mem_filter.mp hi).1
  omega
 k_upd
 refine qX ((ir g.ds (ao n0 rs).place).map V.int) (MQ w c lv kd s1 H2 (ir g.ds (ao n0 rs).place) (ao n0 rs).gates) ⟨rfl,⟨_,rfl⟩,fun j hj=>absurd hj (Nat.not_lt_zero _)⟩ ?_ ?_ ?_
 ·rintro i σ H' _ ⟨rfl,_⟩
  exact SqL.of hgb2
 ·rintro i x σ H' hx ⟨rfl,⟨t,rfl⟩,hj⟩
  obtain ⟨z,rfl,hz,hzm⟩:=ml hx
  have hzr:=gr z hzm
  k_mem
  refine fgo hA.ob T.aQ T.cC rfl ?_
  k_mem
  refine ⟨_,SqL.of hA.go,_,fB hzr.1 (by omega),?_⟩
  k_mem
  split
  ·rename_i hopen
   k_upd
   exact ⟨by decide,q2 hlv.1 hlv.2 (List.any_eq_true.mpr ⟨z,hzm,hopen⟩) _ e2⟩
  ·rename_i hopen
   k_upd
   refine ⟨rfl,⟨_,rfl⟩,fun j hj' y hy=>?_⟩
   by_cases e:j=i
   ·subst e
    rw [hz] at hy
    cases hy
    simpa using hopen
   ·exact hj j (by omega) y hy
 ·rintro σ H' ⟨rfl,⟨t,rfl⟩,hj⟩
  have hno:eR g (ao n0 rs)=false:=by
   unfold eR
   rw [List.any_eq_false]
   intro x hx
   obtain ⟨j,hjx⟩:=List.getElem?_of_mem hx
   rw [hj j (by rw [WB];exact (List.getElem?_eq_some_iff.mp hjx).1) x hjx]
   exact Bool.false_ne_true
  k_mem
  refine fgo hA.ob T.aQ T.cw rfl ?_
  k_mem
  obtain ⟨db1,hbb⟩:=hA.be.ob
  k_upd
  refine mgo hbb rfl ⟨_,_,_,_,_,_,_,_,_,rfl,hA.be,hkd,fun h=>absurd ⟨hlv.1,by omega⟩ h,fun _ _ h H' s'=>q3 hlv.1 hlv.2 hno h H' (e2.trans s'),fun _ _ harm st2 H3 k3 hB3=>?_⟩
  have h3:=q4 hlv.1 hlv.2 hno harm
  have e3:=e2.keeps k3 hb1
  have hA3:=hA.bells k3 hB3
  clear k3 hB3
  k_mem
  refine fgo (e3 _ _ hob) T.bu T.c9 rfl ?_
  k_mem
  refine ⟨_,_,_,_,rfl,SqL.of (e3 _ _ hdl),hlv.1,hlv.2,?_⟩
  rw [show (if c=0 then g.ds.getD lv.toNat 0 else cG g.ds - g.ds.getD lv.toNat 0)=gO g.ds c lv from rfl]
  k_mem
  refine fgo hA3.ob T.aQ T.cX rfl ?_
  k_mem
  refine mgo (e3 _ _ hob) rfl ⟨_,_,_,_,_,_,_,_,rfl,hW.same e3,hA3.at,hks,fun H4 f4=>?_⟩
  have e4:=e3.trans f4
  replace hA3:=hA3.same f4
  have hspd:fT g {(ao n0 rs) with e:=Eng.used lv (cM g.ls lv kd)}=fT g (ao n0 rs):=rfl
  rw [hspd]
  k_upd
  refine ⟨_,_,rfl,by omega,Int.lt_of_le_of_lt hsp5 (by decide),?_⟩
  k_mem
  refine ⟨_,_,_,hA3.ob,T.aQ,T.cX,by show 4 < 1000;decide,?_⟩
  have k5:L2.aD s1 H4 (upd H4 s1 (HO.ins (clZ Z).S A.dx (bG "place" (.int (gO g.ds c lv)) [("place",.int (ao n0 rs).place),("opened",.ref A.ol),("bells",.ref A.b),("yard",.ref A.y)]))):=(aD.of (aw.refl H4)).put
  have e5:=e4.keeps k5 hs1
  have hA5:=hA3.placed k5 (pl:=gO g.ds c lv) (by rw [ah];rfl)
  clear hgb2 f2 f4
  generalize upd H4 s1 (HO.ins (clZ Z).S A.dx (bG "place" (.int (gO g.ds c lv)) [("place",.int (ao n0 rs).place),("opened",.ref A.ol),("bells",.ref A.b),("yard",.ref A.y)]))=H5 at *
  k_upd
  refine ⟨_,_,e5 _ _ hob,rfl,by decide,fun p hp=>?_⟩
  have e6:=e5.lay (o:=HO.tup [V.str (Str.ofString "wind"),V.int c,V.int lv,V.str kd]) hp
  have f6:=(aw.refl H5).lay (o:=HO.tup [V.str (Str.ofString "wind"),V.int c,V.int lv,V.str kd]) hp
  k_upd
  refine ⟨_,_,_,_,_,_,p,s1,(oV g (ao n0 rs) (.wind c lv kd)),ddV (.wind c lv kd),di g (ao n0 rs) (.wind c lv kd),rfl,hW.same e6,SqT.of (by rw [ah];rfl),?_,?_,fun h H' s'=>h3.1 h H' (e6.trans s'),fun h H' k hWn=>?_⟩
  ·exact (bt.at hA5).same f6
  ·rw [hks];first | rfl | simp only [di,List.length_set]
  ·k_upd
   exact h3.2 h H' ((aD.of e6).trans k) hWn
variable (wz:KM P w K mg base (CXf P w) 5 Z.bF "wind" (kR K Z))
theorem two_deepW {p q c:Int}(h0:0<=c)(h1:c < 2):atI [V.int p,V.int q] c=some (.int (if c=0 then p else q)):=by
 rcases (by omega:c=0\/c=1) with rfl | rfl<;>rfl
inductive gu (K:WA)(Z:Adr)(vs:List V)(H:Hp)(Q:VK)(E:XK):Prop | mk (w bk rl:Addr) (g:Cfg) (n0:bh) (rs:List Row) (c:Int):vs=[.ref w,.int c]->WAt (clZ Z) K H w bk rl g n0 rs->cD g.ds->0<=c->c < 2->(∀H',aw H H'->Q (lvV (bQ g.ds (ao n0 rs).place c)) H')->gu K Z vs H Q E
include T Ac gJ in
theorem wA:FF P w K mg base CX0 5 "level_of" "Works.level_of" gx kZ (gu K Z):=fk0 vC fun vs H Q E h=>by
 obtain ⟨w,bk,rl,g,n0,rs,c,rfl,hW,hsh,h0,h1,q⟩:=h
 k_all
 refine ⟨_,ag (ax (dc0 Ac hr.dn (pa2 (aC (pv' 0)) (ai aj (dQ (pv' 0) gJ hr.dn bB) (pv' 1))))),?_⟩
 obtain ⟨⟨dx,dl,gl,hob,hdl,hgl,n1,n2⟩,hB⟩:=id hW
 obtain ⟨⟨db,f0,hbo,hF⟩,as,hrl,hR⟩:=id hB
 k_mem
 refine fgo hob T.bu T.c9 rfl ?_
 k_mem
 refine mgo hob rfl ⟨_,_,_,_,_,_,rfl,hW,by have:=hsh.l2;omega,fun p hp=>?_⟩
 have s1:=(aw.refl H).lay (o:=HO.tup [.int (ao n0 rs).place,.int (cG g.ds - (ao n0 rs).place)]) hp
 k_mem
 refine ⟨_,SqT.of ah,_,two_deepW h0 h1,?_⟩
 have l6:=hsh.l6
 k_upd
 refine ⟨_,_,_,rfl,SqL.of (s1 _ _ hdl),by omega,fun i hi e=>?_,fun hne=>?_⟩
 ·have q':=q _ s1
  rw [show bQ g.ds (ao n0 rs).place c=some (i:Int) from by rw [bQ];split<;>rename_i hc<;>(first | rw [if_pos hc] at e | rw [if_neg hc] at e)<;>exact iO hsh hi e] at q'
  k_upd
  exact q'
 ·have q':=q _ s1
  rw [show bQ g.ds (ao n0 rs).place c=none from by rw [bQ];split<;>rename_i hc<;>refine Dv fun i hi=>?_<;>have:=hne i hi<;>(first | rw [if_pos hc] at this | rw [if_neg hc] at this)<;>exact this] at q'
  k_upd
  exact q'
variable (eX:KM P w K mg base CX0 5 Z.bF "level_of" (gu K Z))
noncomputable def qT (K:WA):Nat->Sp
 | 0=>fun _ _ _ _=>False
 | n+1=>fun vs H Q _=>∃(x y:V) (d:Dt),vs=[x,y]/\Rep K H n x d/\Rep K H n y d/\∀H',aw H H'->Q (.bl true) H'
noncomputable def Je (K:WA)(Z:Adr):Sp:=qT K 5
def HX (x y:V)(H:Hp)(_:Nat)(σ:St)(H':Hp):Prop:=aw H H'/\∃t,σ=[some x,some y,none,t]
theorem Jf {v:V}{T:String}(h:yX v=some T):(["list","tuple"].any (Dq T))=false:=by
 cases v<;>simp only [yX,Option.some.injEq,reduceCtorEq] at h<;>subst h<;>decide
theorem EV {v:V}(h:bW v=true):∃T,yX v=some T:=by
 cases v<;>simp only [bW,reduceCtorEq,Bool.false_eq_true] at h<;>exact ⟨_,rfl⟩
theorem Jg {v:V}(h:bW v=true):Av v v=true:=by
 cases v<;>simp only [bW,reduceCtorEq,Bool.false_eq_true] at h<;>rfl
include T in
theorem yi {n:Nat}(jt:KD P w K mg base CX0 n "_law_same" (qT K n)):FF P w K mg base CX0 (n+1) "_law_same" "_law_same" pF vy (qT K (n+1)):=fk0 xh fun vs H Q E h=>by
 obtain ⟨x,y,d,rfl,hx,hy,q⟩:=h
 k_all
 refine ⟨_,ae (aM (eY (cO (aE wM (by rfl) T.bq aZ (pa2 (pv' 1) (aY (pa2 (fm (v:=.ty "list") (by rfl) T.eU dH rfl) (fm (v:=.ty "tuple") (by rfl) T.vG oR rfl))))))) (ae (aF (i:=2) xh.nd rfl orL (cN gQ (aE wM (by rfl) T.bq aZ (pa2 (pv' 0) (aY (pa2 (fm (v:=.ty "int") (by rfl) T.jS fR rfl) (fm (v:=.ty "str") (by rfl) T.Nr JO rfl))))) (aE wM (by rfl) T.bq aZ (pa2 (pv' 1) (aY (pa2 (fm (v:=.ty "int") (by rfl) T.jS fR rfl) (fm (v:=.ty "str") (by rfl) T.Nr JO rfl))))) (cy _))) (ag (ax (rh (pv' 2) (rh (cN gQ (aE iG (by rfl) T.bq aZ (pa2 (pv' 0) (fm (v:=.ty "bool") (by rfl) T.K6 G8 rfl))) (aE iG (by rfl) T.bq aZ (pa2 (pv' 1) (fm (v:=.ty "bool") (by rfl) T.K6 G8 rfl))) (cy _)) (yL (cN gQ (pv' 0) (pv' 1) (cy _)))))))) (aA)) (ae (aM (jL (aE iG (by rfl) T.bq aZ (pa2 (pv' 0) (fm (v:=.ty "list") (by rfl) T.eU dH rfl))) (aE iG (by rfl) T.bq aZ (pa2 (pv' 1) (fm (v:=.ty "list") (by rfl) T.eU dH rfl)))) (ag (ax fP)) (aA)) (ae (aM (iJ (jL (aE iG (by rfl) T.bq aZ (pa2 (pv' 0) (fm (v:=.ty "tuple") (by rfl) T.vG oR rfl))) (aE iG (by rfl) T.bq aZ (pa2 (pv' 1) (fm (v:=.ty "tuple") (by rfl) T.vG oR rfl)))) (gw (jL (aE az (by rfl) T.bZ bx (pa1 (pv' 0))) (aE az (by rfl) T.bZ bx (pa1 (pv' 1)))))).pt (ag (ax fP)) (aA)) (ae (en PassesOwn.never rfl (bP (by rfl) T.cQ (pa1 (aE az (by rfl) T.bZ bx (pa1 (pv' 1))))) (aJ (i:=3) xh.nd rfl orL) (ag (aM (eY (cO (dc0 jt hr (pa2 (ai JG (pv' 0) (pv' 3)) (ai JG (pv' 1) (pv' 3)))))) (ag (ax fP)) (aA)))) (ag (ax fP))))),?_⟩
 k_mem
 refine ⟨by decide,fun tp htp=>?_⟩
 have s1:=(aw.refl H).lay (o:=HO.tup [V.ty "list",V.ty "tuple"]) htp
 have ht1:upd H tp (HO.tup [V.ty "list",V.ty "tuple"]) tp=some (HO.tup (["list","tuple"].map V.ty)):=ah
 generalize upd H tp (HO.tup [V.ty "list",V.ty "tuple"])=H1 at *
 cases hx with
 | @flat _ v hv=>
  cases hy with
  | flat _=>
   obtain ⟨T0,hT⟩:=EV hv
   refine ⟨_,tp,["list","tuple"],T0,rfl,SqT.of ht1,.inl hT,by decide,?_⟩
   rw [Jf hT]
   k_mem
   refine ⟨by decide,fun p1 hp1=>⟨_,p1,["int","str"],T0,rfl,SqT.of ah,.inl hT,by decide,?_⟩⟩
   refine ⟨by decide,fun p2 hp2=>⟨_,p2,["int","str"],T0,rfl,SqT.of ah,.inl hT,by decide,?_⟩⟩
   k_mem
   rw [if_pos rfl]
   refine ⟨_,"bool",T0,rfl,.inl hT,by decide,_,"bool",T0,rfl,.inl hT,by decide,?_⟩
   k_mem
   rw [if_pos rfl]
   refine Hm.mp ⟨Jg hv,?_⟩
   rw [decide_eq_true rfl]
   exact q _ ((s1.lay hp1).lay hp2)
 | @lst m a xs ds hs hb hl hrx=>
  cases hy with
  | @lst _ b ys _ hs' hb' hl' hry=>
   have ha1:=s1.seq hs
   have hb1:=s1.seq hs'
   refine ⟨.ref b,tp,["list","tuple"],"list",rfl,SqT.of ht1,.inr (.inl ⟨b,ys,rfl,hb1,rfl⟩),by decide,?_⟩
   rw [show (["list","tuple"].any (Dq "list"))=true from by decide]
   k_mem
   refine ⟨.ref a,"list","list",rfl,.inr (.inl ⟨a,xs,rfl,ha1,rfl⟩),by decide,.ref b,"list","list",rfl,.inr (.inl ⟨b,ys,rfl,hb1,rfl⟩),by decide,?_⟩
   k_mem
   refine ⟨.ref a,"tuple","list",rfl,.inr (.inl ⟨a,xs,rfl,ha1,rfl⟩),by decide,.ref b,"tuple","list",rfl,.inr (.inl ⟨b,ys,rfl,hb1,rfl⟩),by decide,?_⟩
   k_mem
   refine ⟨xs,.inl ha1,ys,.inl hb1,?_⟩
   rw [if_neg (by omega)]
   refine ⟨ys,.inl hb1,by omega,by omega,?_⟩
   refine cI (HX (.ref a) (.ref b) H1) ⟨aw.refl _,_,rfl⟩ ?_ ?_
   ·rintro i σ H2 hi ⟨s2,t,rfl⟩
    have hi1:i < xs.length:=by omega
    have hi2:i < ys.length:=by omega
    have hi3:i < ds.length:=by omega
    have ex:xs[i]?=some xs[i]:=List.getElem?_eq_getElem hi1
    have ey:ys[i]?=some ys[i]:=List.getElem?_eq_getElem hi2
    have ed:ds[i]?=some ds[i]:=List.getElem?_eq_getElem hi3
    k_mem
    rw [Int.zero_add]
    refine .inl ⟨a,xs,_,_,rfl,rfl,s2.seq ha1,aU ex,.inl ⟨b,ys,_,_,rfl,rfl,s2.seq hb1,aU ey,?_⟩⟩
    refine ⟨_,_,ds[i],rfl,(hrx i _ _ ex ed).same (s1.trans s2),(hry i _ _ ey ed).same (s1.trans s2),fun H3 s3=>?_⟩
    k_mem
    exact ⟨s2.trans s3,_,rfl⟩
   ·rintro σ H2 ⟨s2,t,rfl⟩
    k_mem
    exact q _ (s1.trans s2)
 | @tup m a xs ds hs hb hl hrx=>
  cases hy with
  | @tup _ b ys _ hs' hb' hl' hry=>
   have ha1:=s1.tup hs
   have hb1:=s1.tup hs'
   refine ⟨.ref b,tp,["list","tuple"],"tuple",rfl,SqT.of ht1,.inr (.inr ⟨b,ys,rfl,hb1,rfl⟩),by decide,?_⟩
   rw [show (["list","tuple"].any (Dq "tuple"))=true from by decide]
   k_mem
   refine ⟨.ref a,"list","tuple",rfl,.inr (.inr ⟨a,xs,rfl,ha1,rfl⟩),by decide,.ref b,"list","tuple",rfl,.inr (.inr ⟨b,ys,rfl,hb1,rfl⟩),by decide,?_⟩
   k_mem
   refine ⟨.ref a,"tuple","tuple",rfl,.inr (.inr ⟨a,xs,rfl,ha1,rfl⟩),by decide,.ref b,"tuple","tuple",rfl,.inr (.inr ⟨b,ys,rfl,hb1,rfl⟩),by decide,?_⟩
   k_mem
   refine ⟨xs,.inr ha1,ys,.inr hb1,?_⟩
   rw [if_neg (by omega)]
   refine ⟨ys,.inr hb1,by omega,by omega,?_⟩
   refine cI (HX (.ref a) (.ref b) H1) ⟨aw.refl _,_,rfl⟩ ?_ ?_
   ·rintro i σ H2 hi ⟨s2,t,rfl⟩
    have hi1:i < xs.length:=by omega
    have hi2:i < ys.length:=by omega
    have hi3:i < ds.length:=by omega
    have ex:xs[i]?=some xs[i]:=List.getElem?_eq_getElem hi1
    have ey:ys[i]?=some ys[i]:=List.getElem?_eq_getElem hi2
    have ed:ds[i]?=some ds[i]:=List.getElem?_eq_getElem hi3
    k_mem
    rw [Int.zero_add]
    refine .inr (.inl ⟨a,xs,_,_,rfl,rfl,s2.tup ha1,aU ex,.inr (.inl ⟨b,ys,_,_,rfl,rfl,s2.tup hb1,aU ey,?_⟩)⟩)
    refine ⟨_,_,ds[i],rfl,(hrx i _ _ ex ed).same (s1.trans s2),(hry i _ _ ey ed).same (s1.trans s2),fun H3 s3=>?_⟩
    k_mem
    exact ⟨s2.trans s3,_,rfl⟩
   ·rintro σ H2 ⟨s2,t,rfl⟩
    k_mem
    exact q _ (s1.trans s2)
include T in
theorem Jh {f:Addr}{fd:FuncData}(b:mg "_law_same"=some (.ref f))(F:Fun K "_law_same" "_law_same" pF f fd)(c:eJ K fd vy []):FF P w K mg base CX0 5 "_law_same" "_law_same" pF vy (qT K 5):=
 have h:∀n,KD P w K mg base CX0 n "_law_same" (qT K n):=fun n=>by
  induction n with
  | zero=>exact ⟨f,fd,_,b,F.kp,c,JY⟩
  | succ n ih=>exact KD.mk b F c (yi T ih)
 yi T (h 4)
variable (jt:KD P w K mg base CX0 5 "_law_same" (Je K Z))
inductive fJ (K:WA)(Z:Adr)(vs:List V)(H:Hp)(Q:VK)(E:XK):Prop | mk (w bk rl:Addr) (g:Cfg) (n0:bh) (rs:List Row) (lv:Int):vs=[.ref w,.int lv]->WAt (clZ Z) K H w bk rl g n0 rs->g.ls.length<=1000->g.ks.length=(ao n0 rs).ws.length->(ao n0 rs).gates.length=g.ds.length->((¬(0<=lv/\lv < g.ds.length)->∀H',aw H H'->E (.ref Z.ay) none H'))->((0<=lv->lv < g.ds.length->(ao n0 rs).gates.getD lv.toNat false=true->∀H',aw H H'->E (.ref Z.aS) none H'))->((0<=lv->lv < g.ds.length->(ao n0 rs).gates.getD lv.toNat false=false->yg Z K H w bk rl g n0 rs (.opn lv) Q E))->fJ K Z vs H Q E
include T eM in
theorem uO:FF P w K mg base (CXf P w) 6 "open_gate" "Works.open_gate" fX jO (fJ K Z):=fkF uf fun vs H Q E h=>by
 obtain ⟨w,bk,rl,g,n0,rs,lv,rfl,hW,hls,hks,hgl2,q1,q2,q3⟩:=h
 k_all
 refine ⟨_,ag (ax (dm' (pv' 0) eM hr.dn cj (pa3 aq (pv' 1) fP))),?_⟩
 obtain ⟨dx,dl,gl,hob,_⟩:=id hW.ob
 k_mem
 exact mgo hob rfl ⟨_,_,_,_,_,_,_,_,_,_,rfl,hW,hls,hks,hgl2,.inl ⟨rfl,rfl,rfl⟩,q1,q2,q3⟩
variable (jX:KM P w K mg base (CXf P w) 6 Z.bF "open_gate" (fJ K Z))
inductive fK (K:WA)(Z:Adr)(vs:List V)(H:Hp)(Q:VK)(E:XK):Prop | mk (w bk rl:Addr) (g:Cfg) (n0:bh) (rs:List Row) (lv:Int):vs=[.ref w,.int lv]->WAt (clZ Z) K H w bk rl g n0 rs->g.ls.length<=1000->g.ks.length=(ao n0 rs).ws.length->(ao n0 rs).gates.length=g.ds.length->((¬(0<=lv/\lv < g.ds.length)->∀H',aw H H'->E (.ref Z.ay) none H'))->((0<=lv->lv < g.ds.length->(ao n0 rs).gates.getD lv.toNat false=false->∀H',aw H H'->E (.ref Z.aS) none H'))->((0<=lv->lv < g.ds.length->(ao n0 rs).gates.getD lv.toNat false=true->yg Z K H w bk rl g n0 rs (.sht lv) Q E))->fK K Z vs H Q E
include T eM in
theorem uP:FF P w K mg base (CXf P w) 6 "shut_gate" "Works.shut_gate" fY jP (fK K Z):=fkF ug fun vs H Q E h=>by
 obtain ⟨w,bk,rl,g,n0,rs,lv,rfl,hW,hls,hks,hgl2,q1,q2,q3⟩:=h
 k_all
 refine ⟨_,ag (ax (dm' (pv' 0) eM hr.dn cj (pa3 aq (pv' 1) fP))),?_⟩
 obtain ⟨dx,dl,gl,hob,_⟩:=id hW.ob
 k_mem
 exact mgo hob rfl ⟨_,_,_,_,_,_,_,_,_,_,rfl,hW,hls,hks,hgl2,.inr ⟨rfl,rfl,rfl⟩,q1,q2,q3⟩
variable (jY:KM P w K mg base (CXf P w) 6 Z.bF "shut_gate" (fK K Z))
inductive kS (K:WA)(Z:Adr)(vs:List V)(H:Hp)(Q:VK)(E:XK):Prop | mk (w bk rl:Addr) (g:Cfg) (n0:bh) (rs:List Row) (k c:Int):vs=[.ref w,.int k,.int c]->WAt (clZ Z) K H w bk rl g n0 rs->g.ls.length<=1000->g.ks.length=(ao n0 rs).ws.length->cD g.ds->(ao n0 rs).gates.length=g.ds.length->g.goals.length=(ao n0 rs).ws.length->0<=c->c < 2->((¬(0<=k/\k < (ao n0 rs).ws.length)->∀H',aw H H'->E (.ref Z.aG) none H'))->((0<=k->k < (ao n0 rs).ws.length->(∀l,bQ g.ds (ao n0 rs).place c=some l->(ao n0 rs).ws.getD k.toNat 0≠l)->∀H',aw H H'->E (.ref Z.aV) none H'))->((∀l,0<=k->k < (ao n0 rs).ws.length->bQ g.ds (ao n0 rs).place c=some l->(ao n0 rs).ws.getD k.toNat 0=l->10+c∈(ao n0 rs).ws->∀H',aw H H'->E (.ref Z.aO) none H'))->((∀l,0<=k->k < (ao n0 rs).ws.length->bQ g.ds (ao n0 rs).place c=some l->(ao n0 rs).ws.getD k.toNat 0=l->¬10+c∈(ao n0 rs).ws->(ao n0 rs).gates.getD l.toNat false=false->∀H',aw H H'->E (.ref Z.aX) none H'))->((∀l,0<=k->k < (ao n0 rs).ws.length->bQ g.ds (ao n0 rs).place c=some l->(ao n0 rs).ws.getD k.toNat 0=l->¬10+c∈(ao n0 rs).ws->(ao n0 rs).gates.getD l.toNat false=true->yg Z K H w bk rl g n0 rs (.load k c) Q E))->kS K Z vs H Q E
include T iC aK iE cR yd bJ bz eX in
theorem Bi:FF P w K mg base (CXf P w) 6 "load" "Works.load" mM vt (kS K Z):=fkF ki fun vs H Q E h=>by
 obtain ⟨w,bk,rl,g,n0,rs,k,c,rfl,hW,hls,hks,hsh,hgl2,hgo,h0,h1,q1,q2,q3,q4,q5⟩:=h
 k_all
 refine seg 6 (ag (ax (dm' (pv' 0) bJ hr.dn cj (pa3 (aY (pa3 aq (pv' 1) (pv' 2))) af (pv' 3))))) fun zt6 zh6 ze6=>?_
 refine seg 5 (ae (bN (dm' (pv' 0) cR hr.dn cj (pa1 (pv' 4)))) zh6) fun zt5 zh5 ze5=>?_
 refine seg 4 (ae (bN (dm' (aC (pv' 3)) yd hr.dn cj (pa2 (pv' 1) (pv' 2)))) zh5) fun zt4 zh4 ze4=>?_
 refine seg 3 (ae (aM (iJ (Cs (pv' 4) eO) (gw (jL (ai au (dQ (aC (pv' 3)) iC hr.dn bB) (pv' 1)) (pv' 4)))).pt (ag (bE T.uv (by rfl) T.mT (pa1 aq))) (aA)) zh4) fun zt3 zh3 ze3=>?_
 refine seg 2 (ae (aF (i:=4) ki.nd rfl orL (dm' (pv' 0) eX hr.dn bB (pa1 (pv' 2)))) zh3) fun zt2 zh2 ze2=>?_
 refine seg 1 (ae (bN (dc iE hr.dn cj (pa2 (pv' 1) (aE az (by rfl) T.bZ bx (pa1 (aC (pv' 0))))))) zh2) fun zt1 zh1 ze1=>?_
 refine ⟨_,ae (aF (i:=3) ki.nd rfl orL (dQ (dQ (aC (pv' 0)) aK hr.dn bB) bz hr.dn bB)) zh1,?_⟩
 obtain ⟨⟨dx,dl,gl,hob,hdl,hgl,n1,n2⟩,hB⟩:=id hW
 obtain ⟨⟨db,f0,hbo,hF⟩,as,hrl,hR⟩:=id hB
 k_mem
 refine fgo hob T.bu T.br rfl ?_
 k_mem
 refine mgo hbo rfl ⟨_,_,_,_,_,rfl,hB,fun s0 ⟨A0,hA0⟩=>?_⟩
 k_mem
 refine mgo hA0.ob rfl ⟨_,_,_,_,_,rfl,hA0.at,hrl,hls,fun s1 A H1 e1 hs1 ho1 hb1 hf1 hy1 hw1 hA=>?_⟩
 have hW1:=hW.same e1
 have hob1:=e1 _ _ hob
 have hbo1:=e1 _ _ hbo
 have hrl1:=e1 _ _ hrl
 have hdl1:=e1 _ _ hdl
 k_mem
 refine fgo hob1 T.bu T.pL rfl ?_
 k_mem
 refine ⟨_,.inl (SqL.of (e1 _ _ hgl)),_,_,rfl,?_⟩
 rw [WB,hgo]
 k_upd
 refine ⟨fun hk=>?_,fun h=>q1 h _ e1⟩
 k_mem
 refine mgo hob1 rfl ⟨_,_,_,_,_,_,_,rfl,hW1,hsh,h0,h1,fun H2 f2=>?_⟩
 have e2:=e1.trans f2
 replace hA:=hA.same f2
 k_mem
 cases hc:bQ g.ds (ao n0 rs).place c with
 | none=>
  rw [if_pos (show lvV none=V.non from rfl)]
  k_upd
  exact ⟨by decide,q2 hk.1 hk.2 (fun l e=>by rw [hc] at e;cases e) _ e2⟩
 | some l=>
  obtain ⟨l0,l1,_⟩:=dz hc
  have l6:=hsh.l6
  k_upd
  rw [if_neg (show ¬(lvV (some l)=V.non) from fun z=>V.noConfusion z)]
  k_upd
  refine fgo hA.ob T.aQ T.bT rfl ?_
  k_mem
  obtain ⟨dy,hyb⟩:=hA.ya.ob
  k_upd
  refine ⟨_,_,hyb,rfl,_,_,_,_,_,_,rfl,hA.ya,fun p hp=>?_⟩
  have e3:=e2.lay (o:=HO.lst ((ao n0 rs).ws.map V.int)) hp
  have f3:=(aw.refl H2).lay (o:=HO.lst ((ao n0 rs).ws.map V.int)) hp
  have hq3:upd H2 p (HO.lst ((ao n0 rs).ws.map V.int)) p=some (HO.lst ((ao n0 rs).ws.map V.int)):=ah
  replace hA:=hA.same f3
  generalize upd H2 p (HO.lst ((ao n0 rs).ws.map V.int))=H3 at *
  k_mem
  refine ⟨_,SqL.of hq3,_,cU hk.1 hk.2,?_⟩
  simp only [lvV]
  k_mem
  split
  ·rename_i hne
   k_upd
   exact ⟨by decide,q2 hk.1 hk.2 (fun l' e=>by rw [hc] at e;cases e;exact hne) _ e3⟩
  ·rename_i hne
   have heq:(ao n0 rs).ws.getD k.toNat 0=l:=Decidable.not_not.mp hne
   k_upd
   refine fgo hA.ob T.aQ T.bT rfl ?_
   k_mem
   obtain ⟨dy,hyb⟩:=hA.ya.ob
   k_upd
   refine ⟨_,_,hyb,rfl,_,_,_,_,_,_,_,_,rfl,hA.ya,h0,h1,fun h=>absurd hk h,fun _ _ h=>by omega,fun _ _ _ h H' s'=>q3 l hk.1 hk.2 hc heq h H' (e3.trans s'),fun _ _ _ hni H4 k4 hw4=>?_⟩
   have e4:=e3.keeps k4 hw1
   have hA4:=hA.spots k4 hw4
   clear k4 hw4
   k_mem
   refine mgo (e4 _ _ hob) rfl ⟨_,_,_,_,_,_,_,rfl,hW.same e4,l0,by omega,fun hg=>?_,fun hg=>q4 l hk.1 hk.2 hc heq hni hg _ e4⟩
   have h3:=q5 l hk.1 hk.2 hc heq hni hg
   k_mem
   refine ⟨_,_,e4 _ _ hob,rfl,by decide,fun p hp=>?_⟩
   have e5:=e4.lay (o:=HO.tup [V.str (Str.ofString "load"),V.int k,V.int c]) hp
   have f5:=(aw.refl H4).lay (o:=HO.tup [V.str (Str.ofString "load"),V.int k,V.int c]) hp
   k_upd
   refine ⟨_,_,_,_,_,_,p,s1,1,ddV (.load k c),di g (ao n0 rs) (.load k c),rfl,hW.same e5,SqT.of (by rw [ah];rfl),?_,?_,fun h H' s'=>h3.1 h H' (e5.trans s'),fun h H' k9 hWn=>?_⟩
   ·exact (bt.at hA4).same f5
   ·rw [hks];first | rfl | simp only [di,List.length_set]
   ·k_upd
    exact h3.2 h H' ((aD.of e5).trans k9) hWn
variable (wB:KM P w K mg base (CXf P w) 6 Z.bF "load" (kS K Z))
inductive ie (K:WA)(Z:Adr)(vs:List V)(H:Hp)(Q:VK)(E:XK):Prop | mk (w bk rl:Addr) (g:Cfg) (n0:bh) (rs:List Row) (c:Int):vs=[.ref w,.int c]->WAt (clZ Z) K H w bk rl g n0 rs->g.ls.length<=1000->g.ks.length=(ao n0 rs).ws.length->cD g.ds->(ao n0 rs).gates.length=g.ds.length->0<=c->c < 2->((¬10+c∈(ao n0 rs).ws->∀H',aw H H'->E (.ref Z.aP) none H'))->((10+c∈(ao n0 rs).ws->bQ g.ds (ao n0 rs).place c=none->∀H',aw H H'->E (.ref Z.aV) none H'))->((∀l,10+c∈(ao n0 rs).ws->bQ g.ds (ao n0 rs).place c=some l->(ao n0 rs).gates.getD l.toNat false=false->∀H',aw H H'->E (.ref Z.aX) none H'))->((∀l,10+c∈(ao n0 rs).ws->bQ g.ds (ao n0 rs).place c=some l->(ao n0 rs).gates.getD l.toNat false=true->yg Z K H w bk rl g n0 rs (.unload c) Q E))->ie K Z vs H Q E
include T cS aK cR An bJ bz eX in
theorem yB:FF P w K mg base (CXf P w) 6 "unload" "Works.unload" i4 pe (ie K Z):=fkF gX fun vs H Q E h=>by
 obtain ⟨w,bk,rl,g,n0,rs,c,rfl,hW,hls,hks,hsh,hgl2,h0,h1,q1,q2,q3,q4⟩:=h
 k_all
 refine seg 6 (ag (ax (dm' (pv' 0) bJ hr.dn cj (pa3 (aY (pa2 aq (pv' 1))) af (pv' 2))))) fun zt6 zh6 ze6=>?_
 refine seg 5 (ae (bN (dm' (aC (pv' 2)) An hr.dn cj (pa2 (pv' 1) (pv' 3)))) zh6) fun zt5 zh5 ze5=>?_
 refine seg 4 (ae (bN (dm' (pv' 0) cR hr.dn cj (pa1 (pv' 3)))) zh5) fun zt4 zh4 ze4=>?_
 refine seg 3 (ae (aM (Cs (pv' 3) eO) (ag (bE T.uv (by rfl) T.mT (pa1 aq))) (aA)) zh4) fun zt3 zh3 ze3=>?_
 refine seg 2 (ae (aF (i:=3) gX.nd rfl orL (dm' (pv' 0) eX hr.dn bB (pa1 (pv' 1)))) zh3) fun zt2 zh2 ze2=>?_
 refine seg 1 (ae (aM (Cs (dm' (aC (pv' 2)) cS hr.dn bB (pa1 (pv' 1))) eO) (ag (bE T.xY (by rfl) T.pJ (pa1 aq))) (aA)) zh2) fun zt1 zh1 ze1=>?_
 refine ⟨_,ae (aF (i:=2) gX.nd rfl orL (dQ (dQ (aC (pv' 0)) aK hr.dn bB) bz hr.dn bB)) zh1,?_⟩
 obtain ⟨⟨dx,dl,gl,hob,hdl,hgl,n1,n2⟩,hB⟩:=id hW
 obtain ⟨⟨db,f0,hbo,hF⟩,as,hrl,hR⟩:=id hB
 k_mem
 refine fgo hob T.bu T.br rfl ?_
 k_mem
 refine mgo hbo rfl ⟨_,_,_,_,_,rfl,hB,fun s0 ⟨A0,hA0⟩=>?_⟩
 k_mem
 refine mgo hA0.ob rfl ⟨_,_,_,_,_,rfl,hA0.at,hrl,hls,fun s1 A H1 e1 hs1 ho1 hb1 hf1 hy1 hw1 hA=>?_⟩
 have hW1:=hW.same e1
 have hob1:=e1 _ _ hob
 have hbo1:=e1 _ _ hbo
 have hrl1:=e1 _ _ hrl
 have hdl1:=e1 _ _ hdl
 k_mem
 refine fgo hA.ob T.aQ T.bT rfl ?_
 k_mem
 obtain ⟨dy,hyb⟩:=hA.ya.ob
 k_upd
 refine ⟨_,_,hyb,rfl,_,_,_,_,_,_,_,rfl,hA.ya,h0,h1,fun H2 f2=>?_⟩
 have e2:=e1.trans f2
 replace hA:=hA.same f2
 k_mem
 by_cases hm:10+c∈(ao n0 rs).ws
 ·rw [inC,if_pos hm]
  k_upd
  rw [if_neg (show ¬(V.int _=V.non) from fun z=>V.noConfusion z)]
  k_mem
  refine mgo (e2 _ _ hob) rfl ⟨_,_,_,_,_,_,_,rfl,hW.same e2,hsh,h0,h1,fun H3 f3=>?_⟩
  have e3:=e2.trans f3
  replace hA:=hA.same f3
  k_mem
  cases hc:bQ g.ds (ao n0 rs).place c with
  | none=>
   rw [if_pos (show lvV none=V.non from rfl)]
   k_upd
   exact ⟨by decide,q2 hm hc _ e3⟩
  | some l=>
   obtain ⟨l0,l1,_⟩:=dz hc
   k_upd
   rw [if_neg (show ¬(lvV (some l)=V.non) from fun z=>V.noConfusion z)]
   k_mem
   refine mgo (e3 _ _ hob) rfl ⟨_,_,_,_,_,_,_,rfl,hW.same e3,l0,by omega,fun hg=>?_,fun hg=>q3 l hm hc hg _ e3⟩
   have h3:=q4 l hm hc hg
   k_mem
   refine fgo hA.ob T.aQ T.bT rfl ?_
   k_mem
   obtain ⟨dy,hyb⟩:=hA.ya.ob
   k_upd
   refine ⟨_,_,hyb,rfl,_,_,_,_,_,_,_,_,rfl,hA.ya,h0,h1,fun h=>absurd ⟨l0,l1⟩ h,fun _ _ h=>absurd hm h,fun _ _ _ H4 k4 hw4=>?_⟩
   have e4:=e3.keeps k4 hw1
   have hA4:bt (clZ Z) K H4 rl g s1 A (di g (ao n0 rs) (.unload c)):=by
    have:=hA.spots k4 hw4
    simp only [di,hc,Option.getD_some]
    exact this
   clear k4 hw4
   k_mem
   refine ⟨_,_,e4 _ _ hob,rfl,by decide,fun p hp=>?_⟩
   have e5:=e4.lay (o:=HO.tup [V.str (Str.ofString "unload"),V.int c]) hp
   have f5:=(aw.refl H4).lay (o:=HO.tup [V.str (Str.ofString "unload"),V.int c]) hp
   k_upd
   refine ⟨_,_,_,_,_,_,p,s1,1,ddV (.unload c),di g (ao n0 rs) (.unload c),rfl,hW.same e5,SqT.of (by rw [ah];rfl),?_,?_,fun h H' s'=>h3.1 h H' (e5.trans s'),fun h H' k hWn=>?_⟩
   ·exact (bt.at hA4).same f5
   ·rw [hks];first | rfl | simp only [di,List.length_set]
   ·k_upd
    exact h3.2 h H' ((aD.of e5).trans k) hWn
 ·rw [inC,if_neg hm]
  k_upd
  rw [if_pos rfl]
  k_upd
  exact ⟨by decide,q1 hm _ e2⟩
variable (qU:KM P w K mg base (CXf P w) 6 Z.bF "unload" (ie K Z))
noncomputable def Lh (g:Cfg)(n:bh)(t:Int):List Dt:=[.flat (.int t),.tup ((mm n.e).map Dt.flat),.lst ((n.gates.map V.bl).map Dt.flat),.lst (((dj n.fs).map V.int).map Dt.flat),.tup ([V.int n.place,V.int (cG g.ds - n.place)].map Dt.flat),.lst ((n.ws.map V.int).map Dt.flat)]
noncomputable def Nx (ws:List Int):Dt:=.lst [.flat (inC ws 0),.flat (inC ws 1)]
def MR (H:Hp)(held:Addr)(ws:List Int)(a0 a1 a2 a3 a4 a5 a6 a7 a8 a9:V)(i:Nat)(σ:St)(H':Hp):Prop:=aD held H H'/\(∃x0 x1,H' held=some (.lst [x0,x1])/\HV ws i 0 x0/\HV ws i 1 x1)/\∃t,σ=[some a0,some a1,some a2,some a3,some a4,some a5,some a6,some a7,some a8,some a9,some (.ref held),t,none,none,none]
inductive xD (K:WA)(Z:Adr)(vs:List V)(H:Hp)(Q:VK)(E:XK):Prop | mk (H0:Hp) (wk bk rl p dl cl ll sl wl:Addr) (g:Cfg) (lds:List Ld) (n0:bh) (rs:List Row):vs=[.ref wk,.ref p,.ref sl,.ref wl]->oA (clZ Z) K H0 H p dl cl ll wk bk rl sl wl g lds n0 rs->rs.length<=300->(∀H',aw H H'->Q (.bl true) H')->xD K Z vs H Q E
include T jW v7 qN v8 tR tS hV gJ md jt in
theorem Ji:FF P w K mg base (CXf P w) 6 "_law_view" "_law_view" i8 DY (xD K Z):=fkF dF fun vs H Q E h=>by
 obtain ⟨H0,wk,bk,rl,p,dl,cl,ll,sl,wl,g,lds,n0,rs,rfl,hX,h300,q⟩:=h
 k_all
 obtain ⟨t2,h2,k2⟩:∃t,PSs (cxF P w K mg base ["_law_works","_law_setup_here","_law_states","_law_rows","_law_place","_law_gates","_law_lying","_law_heard_here","_law_dead","_law_clock","_law_held","_law_k","_law_waits","_law_due","_law_found"] "_law_view" (ak i8) zf zv zA zo zs H E) ((cH i8).drop 5) t/\∀(gt lt ht dt held waits due:Addr) (kk:Option V) (dv:List V) (H1:Hp),aw H H1->SqT K H1 gt ((ao n0 rs).gates.map V.bl)->H1 due=some (.lst dv)->dv.length=6->kX K H1 3 dv (Lh g (ao n0 rs) (dw rs))->Rep K H1 3 (.ref held) (Nx (ao n0 rs).ws)->Rep K H1 3 (.ref waits) (Gn (ao n0 rs).ws g.ds.length)->t ({nx:=fun _ H2=>Q .non H2,rt:=Q}:oz) [some (.ref wk),some (.ref p),some (.ref sl),some (.ref wl),some (.int (ao n0 rs).place),some (.ref gt),some (.ref lt),some (.ref ht),some (.ref dt),some (.int (dw rs)),some (.ref held),kk,some (.ref waits),some (.ref due),none] H1:=by
  refine seg 3 (ag (ax (dc0 jt hr.dn (pa2 (bc ft (pv' 14) (bj (pa1 (dQ (pv' 0) v7 hr.dn bB)))) (bc ft (pv' 13) (bj (pa3 (pv' 10) (pv' 12) (pv' 3)))))))) fun zt3 zh3 ze3=>?_
  refine seg 2 (ae (bN (sS PySem.F.plainAttrs_list PySem.F.slot_list_append PySem.F.type_list_append eS (pv' 14) (pa1 (oq ["_law_at_here","_law_works"] [none,some 0] (bP (by rfl) T.cQ (pa1 (aE az (by rfl) T.bZ bx (pa1 (pv' 5))))) (fun _ _ _ _=>(aJ (i:=0) (show (["_law_at_here","_law_works"]:List Str).Nodup by decide +kernel) rfl orL)) (fun _ _ _ _=>gH) (fun _ _ _ _=>(dm' (pv' 1) md.calm0 hr.dn bB (pa1 (pv' 0)))))))) zh3) fun zt2 zh2 ze2=>?_
  refine seg 1 (ae (bN (sS PySem.F.plainAttrs_list PySem.F.slot_list_append PySem.F.type_list_append eS (pv' 14) (pa1 (bj (pa2 (dm' (pv' 0) hV hr.dn bB (pa1 af)) (dm' (pv' 0) hV hr.dn bB (pa1 af))))))) zh2) fun zt1 zh1 ze1=>?_
  refine ⟨_,ae (aF (i:=14) dF.nd rfl orL (bj (cq (dQ (pv' 0) jW hr.dn bB) (cq (dQ (pv' 0) qN hr.dn bB) (pa4 (dQ (pv' 0) tR hr.dn bB) (dQ (pv' 0) v8 hr.dn bB) (dQ (pv' 0) gJ hr.dn bB) (dQ (pv' 0) tS hr.dn bB)))))) zh1,?_⟩
  intro gt lt ht dt held waits due kk dv H1 s1 hgt hdue hdv hrep hheld hwaits
  have hW:=(hX.same s1).da.wk
  have hg:=hX.cg
  have hn:=hX.snap
  have gl:=hn.gl
  have wl':=hn.wl
  have k30:=hg.k30
  have l6:=hg.sh.l6
  have l2:=hg.sh.l2
  have fl:=hn.fl
  obtain ⟨⟨dx,dl',gl',hob,_⟩,_⟩:=id hW
  k_mem
  refine mgo hob rfl ⟨_,_,_,_,_,_,rfl,hW,?_⟩
  k_mem
  refine mgo hob rfl ⟨_,_,_,_,_,_,rfl,hW,fun st hst=>?_⟩
  k_mem
  refine mgo hob rfl ⟨_,_,_,_,_,_,rfl,hW,fun p1 hp1=>?_⟩
  (generalize hE:upd H1 p1 _=H2 at *;have s2:=bK hE hp1;have e1:=bg hE;clear hE)
  k_mem
  refine mgo (s2 _ _ hob) rfl ⟨_,_,_,_,_,_,rfl,hW.same s2,by omega,fun p2 H3 hp2 s3 e2=>?_⟩
  have s13:=s2.trans s3
  k_mem
  refine mgo (s13 _ _ hob) rfl ⟨_,_,_,_,_,_,rfl,hW.same s13,by omega,fun p3 hp3=>?_⟩
  (generalize hE:upd H3 p3 _=H4 at *;have s4:=bK hE hp3;have e3:=bg hE;clear hE)
  have s14:=s13.trans s4
  k_mem
  refine mgo (s14 _ _ hob) rfl ⟨_,_,_,_,_,_,rfl,hW.same s14,fun p4 hp4=>?_⟩
  (generalize hE:upd H4 p4 _=H5 at *;have s5:=bK hE hp4;have e4:=bg hE;clear hE)
  have s15:=s14.trans s5
  have hf6:kX K H5 3 [.int (dw rs),.ref st,.ref p1,.ref p2,.ref p3,.ref p4] (Lh g (ao n0 rs) (dw rs)):=
   .cons (.flat rfl) (.cons (fL (s15.tup hst) (by rw [Du];decide) (wQ _)) (.cons (Bx (SqL.of (((s3.trans s4).trans s5) _ _ e1)) (by omega)) (.cons (oS (SqL.of ((s4.trans s5) _ _ e2)) (by have:=wY (ao n0 rs).fs;omega)) (.cons (fL (SqT.of (s5 _ _ e3)) (by show 2<=100000;decide) (DQ rfl rfl)) (.cons (oS (SqL.of e4) (by omega)) .nil)))))
  k_mem
  refine ⟨by decide,fun fo hfo=>?_⟩
  (generalize hE:upd H5 fo _=H6 at *;have s6:=bK hE hfo;have e6:=bg hE;clear hE)
  have s16:=s15.trans s6
  k_upd
  refine ⟨.inl ⟨rfl,_,SqL.of e6⟩,?_⟩
  k_upd
  refine mgo (s16 _ _ hob) rfl ⟨_,_,_,_,_,_,_,rfl,hW.same s16,by omega,by omega,fun H7 s7=>?_⟩
  have s17:=s16.trans s7
  k_mem
  refine mgo (s17 _ _ hob) rfl ⟨_,_,_,_,_,_,_,rfl,hW.same s17,by omega,by omega,fun H8 s8=>?_⟩
  have s18:=s17.trans s8
  k_mem
  refine ⟨by decide,fun ic hic=>?_⟩
  (generalize hE:upd H8 ic _=H9 at *;have s9:=bK hE hic;have e9:=bg hE;clear hE)
  have s19:=s18.trans s9
  k_upd
  refine ⟨_,((s7.trans s8).trans s9) _ _ e6,by show 6 < sizeLine;decide,?_⟩
  have k10:L2.aD fo H9 (upd H9 fo (HO.lst ([V.int (dw rs),V.ref st,V.ref p1,V.ref p2,V.ref p3,V.ref p4]++[V.ref ic]))):=(aD.of (aw.refl H9)).put
  have e10:upd H9 fo (HO.lst ([V.int (dw rs),V.ref st,V.ref p1,V.ref p2,V.ref p3,V.ref p4]++[V.ref ic])) fo=some (HO.lst [V.int (dw rs),V.ref st,V.ref p1,V.ref p2,V.ref p3,V.ref p4,V.ref ic]):=ah
  have ffo:H5 fo=none:=hfo
  generalize upd H9 fo (HO.lst ([V.int (dw rs),V.ref st,V.ref p1,V.ref p2,V.ref p3,V.ref p4]++[V.ref ic]))=H10 at *
  have nic:ic≠fo:=fun z=>by
   have:=(s7.trans s8) _ _ e6
   rw [←z,hic] at this
   cases this
  have s5A:aw H5 H10:=(((s6.trans s7).trans s8).trans s9).keeps k10 ffo
  have s1A:aw H1 H10:=s15.trans s5A
  have eicA:H10 ic=some (HO.lst [inC (ao n0 rs).ws 0,inC (ao n0 rs).ws 1]):=k10 _ _ nic e9
  k_mem
  refine ⟨.inl ⟨rfl,_,SqL.of e10⟩,?_⟩
  k_upd
  refine ⟨_,.inr (s1A.tup hgt),by omega,by rw [WB];omega,?_⟩
  rw [WB,Int.toNat_natCast,gl]
  refine uX (fun i acc H'=>aw H10 H'/\∃as:List Addr,acc=as.map V.ref/\eL H' (ao n0 rs).ws as i/\∀a∈as,H10 a=none) ⟨aw.refl _,[],rfl,eL.nil,fun a h=>by cases h⟩ rfl ?_ ?_
  ·rintro i acc H' hi ⟨sx,as,rfl,hws,hfr⟩
   k_upd
   refine ⟨by rw [WB,hws.1,sizeLine_eq];omega,fun N hN=>?_⟩
   have s1x:=s1A.trans sx
   k_mem
   refine mgo (s1x _ _ hob) rfl ⟨_,_,_,_,_,_,_,rfl,hW.same s1x,by omega,fun _ pp H'' hpp sy epp=>?_,fun z=>absurd ⟨by omega,by omega⟩ z⟩
   refine hN _ _ ⟨sx.trans sy,as++[pp],by rw [List.map_append];rfl,(hws.same sy).push (by rw [Int.zero_add] at epp;exact epp),fun a ha=>?_⟩
   rcases List.mem_append.mp ha with ha | ha
   ·exact hfr a ha
   ·rw [List.mem_singleton] at ha
    rw [ha]
    exact sx.free hpp
  rintro acc HA ⟨sx,as,rfl,hws,hfr⟩ al hal
  (generalize hE:upd HA al _=HB at *;have sy:=bK hE hal;have eal:=bg hE;clear hE)
  have sAB:=sx.trans sy
  k_mem
  refine ⟨_,sAB _ _ e10,by show 7 < sizeLine;decide,?_⟩
  have k11:L2.aD fo HB (upd HB fo (HO.lst ([V.int (dw rs),V.ref st,V.ref p1,V.ref p2,V.ref p3,V.ref p4,V.ref ic]++[V.ref al]))):=(aD.of (aw.refl HB)).put
  have e11:upd HB fo (HO.lst ([V.int (dw rs),V.ref st,V.ref p1,V.ref p2,V.ref p3,V.ref p4,V.ref ic]++[V.ref al])) fo=some (HO.lst [V.int (dw rs),V.ref st,V.ref p1,V.ref p2,V.ref p3,V.ref p4,V.ref ic,V.ref al]):=ah
  generalize upd HB fo (HO.lst ([V.int (dw rs),V.ref st,V.ref p1,V.ref p2,V.ref p3,V.ref p4,V.ref ic]++[V.ref al]))=HC at *
  have s5C:aw H5 HC:=(s5A.trans sAB).keeps k11 ffo
  have s1C:aw H1 HC:=s15.trans s5C
  have eicC:=k11 _ _ nic (sAB _ _ eicA)
  have ealC:=k11 _ _ (fun z=>by have:=sx _ _ e10;rw [←z,hal] at this;cases this) eal
  have hwsC:eL HC (ao n0 rs).ws as g.ds.length:=⟨hws.1,fun j a e=>k11 _ _ (fun z=>by
   have:=hfr a (List.mem_of_getElem? e)
   rw [z,e10] at this
   cases this) (sy _ _ (hws.2 j a e))⟩
  have hWC:=hW.same s1C
  have hX1:=hX.same s1
  obtain ⟨bs,hwl,hB⟩:=hX1.da.ro
  k_mem
  refine mgo (s1C _ _ hob) rfl ⟨_,_,_,_,_,_,rfl,hWC,by omega,fun bp bas HD hbp sD ebp hbt=>?_⟩
  k_mem
  refine ⟨by decide,fun l1 hl1=>?_⟩
  (generalize hE:upd HD l1 _=HE at *;have sE:=bK hE hl1;have eE:=bg hE;clear hE)
  have sCE:=sD.trans sE
  have s1E:=s1C.trans sCE
  k_upd
  refine ⟨_,sCE _ _ e11,_,eE,by show 9<=sizeLine;decide,fun fo2 hfo2=>?_⟩
  have sF:=(aw.refl HE).lay (o:=HO.lst ([V.int (dw rs),V.ref st,V.ref p1,V.ref p2,V.ref p3,V.ref p4,V.ref ic,V.ref al]++[V.ref bp])) hfo2
  have eF:upd HE fo2 (HO.lst ([V.int (dw rs),V.ref st,V.ref p1,V.ref p2,V.ref p3,V.ref p4,V.ref ic,V.ref al]++[V.ref bp])) fo2=some (HO.lst [V.int (dw rs),V.ref st,V.ref p1,V.ref p2,V.ref p3,V.ref p4,V.ref ic,V.ref al,V.ref bp]):=ah
  generalize upd HE fo2 (HO.lst ([V.int (dw rs),V.ref st,V.ref p1,V.ref p2,V.ref p3,V.ref p4,V.ref ic,V.ref al]++[V.ref bp]))=HF at *
  have s1F:=s1E.trans sF
  k_upd
  refine ⟨by decide,fun l2 hl2=>?_⟩
  (generalize hE:upd HF l2 _=HG at *;have sG:=bK hE hl2;have eG:=bg hE;clear hE)
  have s1G:=s1F.trans sG
  k_upd
  refine ⟨_,s1G _ _ hdue,_,eG,by rw [hdv];show 9<=sizeLine;decide,fun du2 hdu2=>?_⟩
  (generalize hE:upd HG du2 _=HH at *;have sH:=bK hE hdu2;have eH:=bg hE;clear hE)
  have s1H:=s1G.trans sH
  have sEH:=(sF.trans sG).trans sH
  have hdeeds:=hX.da.run.deeds
  k_upd
  refine ⟨_,_,.lst (Lh g (ao n0 rs) (dw rs)++[Nx (ao n0 rs).ws,Gn (ao n0 rs).ws g.ds.length,Nl rs]),rfl,?_,?_,fun HI sI=>q HI ((s1.trans s1H).trans sI)⟩
  ·refine kX.rep (xs:=[V.int (dw rs),V.ref st,V.ref p1,V.ref p2,V.ref p3,V.ref p4]++[V.ref ic,V.ref al,V.ref bp]) ((hf6.same (((s5C.trans sCE).trans sEH))).append (.cons ?_ (.cons ?_ (.cons ?_ .nil)))) (SqL.of ((sG.trans sH) _ _ eF)) (by show 9<=100000;decide)
   ·exact Dw (SqL.of ((sCE.trans sEH) _ _ eicC)) (.flat (vb _ _)) (.flat (vb _ _))
   ·exact BC (SqL.of ((sCE.trans sEH) _ _ ealC)) (hwsC.same (sCE.trans sEH)) (by omega) (by omega)
   ·exact DH (SqL.of ((sE.trans sEH) _ _ ebp)) (hbt.same (sE.trans sEH)) hdeeds (by omega)
  ·refine kX.rep ((hrep.same s1H).append (.cons (hheld.same s1H) (.cons (hwaits.same s1H) (.cons ?_ .nil)))) (SqL.of eH) (by rw [List.length_append,hdv];show 9<=100000;decide)
   exact DH (SqL.of (s1H _ _ hwl)) (hB.same s1H) hdeeds (by omega)
 obtain ⟨t1,h1,k1⟩:∃t,PSs (cxF P w K mg base ["_law_works","_law_setup_here","_law_states","_law_rows","_law_place","_law_gates","_law_lying","_law_heard_here","_law_dead","_law_clock","_law_held","_law_k","_law_waits","_law_due","_law_found"] "_law_view" (ak i8) zf zv zA zo zs H E) ((cH i8).drop 3) t/\∀(gt lt ht dt held:Addr) (kk:Option V) (H1:Hp),aw H H1->SqT K H1 gt ((ao n0 rs).gates.map V.bl)->H1 lt=some (.tup ((ao n0 rs).ws.map V.int))->SqT K H1 ht (mm (ao n0 rs).e)->SqT K H1 dt ((dj (ao n0 rs).fs).map V.int)->H1 held=some (.lst [inC (ao n0 rs).ws 0,inC (ao n0 rs).ws 1])->t ({nx:=fun _ H2=>Q .non H2,rt:=Q}:oz) [some (.ref wk),some (.ref p),some (.ref sl),some (.ref wl),some (.int (ao n0 rs).place),some (.ref gt),some (.ref lt),some (.ref ht),some (.ref dt),some (.int (dw rs)),some (.ref held),kk,none,none,none] H1:=by
  refine seg 1 (ae (aF (i:=13) dF.nd rfl orL (bj (cq (pv' 9) (cq (pv' 7) (pa4 (bw bH (by rfl) T.eU dH (pa1 (pv' 5))) (bw bH (by rfl) T.eU dH (pa1 (pv' 8))) (aY (pa2 (pv' 4) (bc dS (ai au (ai au (pv' 1) af) (eQ cL af)) (pv' 4)))) (bw bH (by rfl) T.eU dH (pa1 (pv' 6)))))))) h2) fun zt1 zh1 ze1=>?_
  refine ⟨_,ae (OM ["_law_at_here","_law_lying"] "_law_at_here" [none,some 6] (iy:=12) dF.nd rfl rfl (bP (by rfl) T.cQ (pa1 (aE az (by rfl) T.bZ bx (pa1 (pv' 5))))) (fun _ _ _ _=>(aJ (i:=0) (show (["_law_at_here","_law_lying"]:List Str).Nodup by decide +kernel) rfl (Or.inr rfl))) (fun _ _ _ _=>gH) (fun _ _ _ _=>(oq ["_law_k","_law_lying","_law_at_here"] [none,some 1,some 0] (bP (by rfl) T.cQ (pa1 (aE (show de _ (.builtin "len") (Ko K) from az) (by rfl) T.bZ bx (pa1 (pv' 1))))) (fun _ _ _ _=>(aJ (i:=0) (show (["_law_k","_law_lying","_law_at_here"]:List Str).Nodup by decide +kernel) rfl orL)) (fun _ _ _ _=>(mh (bU (ai (show IxR _ (xH K) from aj) (pv' 1) (pv' 0)) (pv' 2)))) (fun _ _ _ _=>(pv' 0))))) zh1,?_⟩
  intro gt lt ht dt held kk H1 s1 h2 h3 h4 h5 hheld
  have hg:=hX.cg
  have hn:=hX.snap
  have gl:=hn.gl
  have wl':=hn.wl
  have k30:=hg.k30
  have l6:=hg.sh.l6
  have l2:=hg.sh.l2
  have fl:=hn.fl
  have hP:=hX.setup.same s1
  k_mem
  refine ⟨_,.inr h2,by omega,by rw [WB];omega,?_⟩
  rw [WB,Int.toNat_natCast,gl]
  refine uX (fun i acc H'=>aw H1 H'/\∃as:List Addr,acc=as.map V.ref/\eL H' (ao n0 rs).ws as i) ⟨aw.refl _,[],rfl,eL.nil⟩ rfl ?_ ?_
  ·rintro i acc H' hi ⟨sx,as,rfl,hws⟩
   k_upd
   refine ⟨by rw [WB,hws.1,sizeLine_eq];omega,fun N hN=>?_⟩
   k_mem
   refine ⟨_,.inr (SqT.of (sx _ _ h3)),by omega,by rw [WB];omega,?_⟩
   rw [WB,Int.toNat_natCast]
   refine eB (fun j=>decide ((ao n0 rs).ws.getD j 0=(i:Int))) (fun (j:Nat)=>.int (j:Int)) (by rw [sizeLine_eq];omega) rfl (fun j hj N hN=>?_) (fun j hj _ N hN=>?_) fun lv hlv=>?_
   ·k_mem
    k_upd
    refine ⟨_,SqT.of (sx _ _ h3),_,by rw [Int.zero_add];exact gL hj,?_⟩
    k_mem
    rw [Int.zero_add]
    by_cases e:(ao n0 rs).ws.getD j 0=(i:Int)
    ·rw [if_pos e];rw [decide_eq_true e] at hN;exact hN
    ·rw [if_neg e];rw [decide_eq_false e] at hN;exact hN
   ·k_mem
    rw [Int.zero_add]
    exact hN
   ·refine hN _ _ ⟨sx.lay hlv,as++[lv],by rw [List.map_append];rfl,(hws.same ((aw.refl H').lay hlv)).push ?_⟩
    rw [ah]
    unfold iP AA
    rw [List.map_map];rfl
  rintro acc H2 ⟨sx,as,rfl,hws⟩ wt hwt
  have s3:=sx.lay (o:=HO.lst (as.map V.ref)) hwt
  (generalize hE:upd H2 wt _=H3 at *;have f3:=bK hE hwt;have ewt:=bg hE;clear hE)
  have s13:=s1.trans s3
  k_mem
  refine ⟨_,.inr (s3.tup h2),fun p1 hp1=>?_⟩
  (generalize hE:upd H3 p1 _=H4 at *;have f4:=bK hE hp1;have e4:=bg hE;clear hE)
  k_upd
  refine ⟨_,.inr ((s3.trans f4).tup h5),fun p2 hp2=>?_⟩
  (generalize hE:upd H4 p2 _=H5 at *;have f5:=bK hE hp2;have e5:=bg hE;clear hE)
  have s15:=(s3.trans f4).trans f5
  k_upd
  refine ⟨_,SqL.of (s15 _ _ hP.ob),_,rfl,?_⟩
  k_mem
  refine ⟨_,SqL.of (s15 _ _ hP.od),_,FJ (by omega),?_⟩
  k_mem
  refine ⟨by decide,fun p3 hp3=>?_⟩
  (generalize hE:upd H5 p3 _=H6 at *;have f6:=bK hE hp3;have e6:=bg hE;clear hE)
  have s16:=s15.trans f6
  k_upd
  refine ⟨_,.inr (SqT.of (s16 _ _ h3)),fun p4 hp4=>?_⟩
  (generalize hE:upd H6 p4 _=H7 at *;have f7:=bK hE hp4;have e7:=bg hE;clear hE)
  have s17:=s16.trans f7
  k_upd
  refine ⟨by decide,fun du hdu=>?_⟩
  (generalize hE:upd H7 du _=H8 at *;have f8:=bK hE hdu;have e8:=bg hE;clear hE)
  have s18:=s17.trans f8
  refine k2 gt lt ht dt held wt du kk _ H8 (s1.trans s18) (s18.tup h2) e8 rfl ?_ ?_ ?_
  ·exact .cons (.flat rfl) (.cons (fL (s18.tup h4) (by rw [Du];decide) (wQ _)) (.cons (Bx (SqL.of ((((f5.trans f6).trans f7).trans f8) _ _ e4)) (by omega)) (.cons (oS (SqL.of (((f6.trans f7).trans f8) _ _ e5)) (by have:=wY (ao n0 rs).fs;omega)) (.cons (fL (SqT.of ((f7.trans f8) _ _ e6)) (by show 2<=100000;decide) (DQ rfl rfl)) (.cons (oS (SqL.of (f8 _ _ e7)) (by omega)) .nil)))))
  ·exact Dw (SqL.of (s18 _ _ hheld)) (.flat (vb _ _)) (.flat (vb _ _))
  ·have f38:=(((f4.trans f5).trans f6).trans f7).trans f8
   exact BC (SqL.of (f38 _ _ ewt)) ((hws.same f3).same f38) (by omega) (by omega)
 refine seg 2 (ae (en FL rfl (bP (by rfl) T.cQ (pa1 (aE az (by rfl) T.bZ bx (pa1 (pv' 6))))) (aJ (i:=11) dF.nd rfl orL) (ag (aM (xK (ai aj (pv' 6) (pv' 11)) af) (ag (oM (pv' 11) (yM (pv' 10) (bc dS (ai aj (pv' 6) (pv' 11)) af) kY))) (aA)))) h1) fun zt2 zh2 ze2=>?_
 refine seg 1 (ae (aF (i:=10) dF.nd rfl orL (bj (pa2 eO eO))) zh2) fun zt1 zh1 ze1=>?_
 refine ⟨_,ae (oM (ai au (pv' 2) (eQ cL af)) (fu rfl (aN (aJ (i:=4) dF.nd rfl orL) (aN (aJ (i:=5) dF.nd rfl orL) (aN (aJ (i:=6) dF.nd rfl (Or.inr rfl)) (aN (aJ (i:=7) dF.nd rfl orL) (aN (aJ (i:=8) dF.nd rfl orL) (aN (aJ (i:=9) dF.nd rfl orL) dY)))))))) zh1,?_⟩
 obtain ⟨hW,⟨as,hsl,hA⟩,⟨bs,hwl,hB⟩,hNs,hNw,hne,hrun⟩:=id hX.da
 have hg:=hX.cg
 have hn:=hX.snap
 have wl':=hn.wl
 have k30:=hg.k30
 have l6:=hg.sh.l6
 obtain ⟨as1,a,rfl,hSt⟩:=zc hA
 obtain ⟨gt,lt,ht,dt,h1,h2,h3,h4,h5⟩:=hSt.un
 k_mem
 refine ⟨_,SqL.of hsl,_,iu,?_⟩
 k_mem
 refine ⟨_,h1,rfl,?_⟩
 k_mem
 refine ⟨by decide,fun held hheld=>?_⟩
 (generalize hE:upd H held _=H1 at *;have f1:=bK hE hheld;have e1:=bg hE;clear hE)
 k_upd
 refine ⟨_,.inr (SqT.of (f1 _ _ h3)),by omega,by rw [WB];omega,?_⟩
 rw [WB,Int.toNat_natCast]
 k_upd
 refine cI (MR H1 held (ao n0 rs).ws (.ref wk) (.ref p) (.ref sl) (.ref wl) (.int (ao n0 rs).place) (.ref gt) (.ref lt) (.ref ht) (.ref dt) (.int (dw rs))) ⟨aD.of (aw.refl _),⟨_,_,e1,HV.nil,HV.nil⟩,_,rfl⟩ ?_ ?_
 ·rintro i σ H2 hi ⟨k2,⟨x0,x1,ex,v0,v1⟩,t,rfl⟩
  have hlt:=f1.keeps k2 hheld _ _ h3
  have hwr:=hn.wr _ (dq hi)
  k_mem
  refine ⟨_,SqT.of hlt,_,by rw [Int.zero_add];exact gL hi,?_⟩
  k_mem
  split
  ·rename_i h10
   k_upd
   refine ⟨_,SqT.of hlt,_,by rw [Int.zero_add];exact gL hi,?_⟩
   k_mem
   rcases (by omega:(ao n0 rs).ws.getD i 0=10\/(ao n0 rs).ws.getD i 0=11) with e | e
   ·rw [e]
    k_upd
    refine ⟨_,ex,0,rfl,?_⟩
    rw [Int.zero_add]
    k_upd
    exact ⟨k2.put,⟨_,_,ah,HV.yes (by rw [e];rfl),v1.no (by rw [e];decide)⟩,_,rfl⟩
   ·rw [e]
    k_upd
    refine ⟨_,ex,1,rfl,?_⟩
    rw [Int.zero_add]
    k_upd
    exact ⟨k2.put,⟨_,_,ah,v0.no (by rw [e];decide),HV.yes (by rw [e];rfl)⟩,_,rfl⟩
  ·rename_i h10
   k_upd
   exact ⟨k2,⟨_,_,ex,v0.no (by omega),v1.no (by omega)⟩,_,rfl⟩
 ·rintro σ H2 ⟨k2,⟨x0,x1,ex,v0,v1⟩,t,rfl⟩
  have s2:=f1.keeps k2 hheld
  rw [v0.all hn (by omega),v1.all hn (by omega)] at ex
  exact k1 gt lt ht dt held t H2 s2 (s2.tup h2) (s2 _ _ h3) (s2.tup h4) (s2.tup h5) ex
variable (qV:KD P w K mg base (CXf P w) 6 "_law_view" (xD K Z))
noncomputable def P8 (Z:Adr):Rw->Addr
 | .lv=>Z.ay
 | .db=>Z.ba
 | .nc=>Z.bC
 | .nr=>Z.aH
 | .ch=>Z.aS
 | .na=>Z.aW
 | .ul=>Z.aG
 | .nt=>Z.aV
 | .ct=>Z.aO
 | .gs=>Z.aX
 | .ce=>Z.aP
 | .go=>Z.bb
inductive xE (K:WA)(Z:Adr)(vs:List V)(H:Hp)(Q:VK)(E:XK):Prop | mk (w bk rl dd:Addr) (g:Cfg) (n0:bh) (rs:List Row):vs=[.ref w,.ref dd]->WAt (clZ Z) K H w bk rl g n0 rs->fg g->df g (ao n0 rs)->rs.length < 300->(((∃d,SqT K H dd (ddV d)/\uZ d/\(∀r,cJ g (ao n0 rs) d=some r->∀H',aw H H'->E (.ref (P8 Z r)) none H')/\(cJ g (ao n0 rs) d=none->∀v H',aD rl H H'->WAt (clZ Z) K H' w bk rl g n0 (rs++[u4 g n0 rs d])->u6 K H' (ao n0 rs) (dw rs+oV g (ao n0 rs) d) d v->Q v H'))\/
  (SqT K H dd [.str "take back"]/\(rs=[]->E (.ref Z.aI) none H)/\∀rs' r,rs=rs'++[r]->∀p H',aD rl H H'->WAt (clZ Z) K H' w bk rl g n0 rs'->SqT K H' p r.deed->Q (.ref p) H')))->xE K Z vs H Q E
include T jV wu qS wx wz jX jY wB qU in
theorem Jj:FF P w K mg base (CXf P w) 7 "_law_call" "_law_call" zK DV (xE K Z):=fkF IU fun vs H Q E h=>by
 obtain ⟨w,bk,rl,dd,g,n0,rs,rfl,hW,hg,hn,h300,hc⟩:=h
 k_all
 refine seg 8 (ag (ax (dQ (pv' 0) jV hr.dn cj))) fun zt8 zh8 ze8=>?_
 refine seg 7 (ae (aM (bU (ai aj (pv' 1) af) aq) (ag (ax (dm' (pv' 0) wx hr.dn cj (pa1 (ai aj (pv' 1) af))))) (aA)) zh8) fun zt7 zh7 ze7=>?_
 refine seg 6 (ae (aM (bU (ai aj (pv' 1) af) aq) (ag (ax (dm' (pv' 0) wz hr.dn cj (pa3 (ai aj (pv' 1) af) (ai aj (pv' 1) af) (ai aj (pv' 1) af))))) (aA)) zh7) fun zt6 zh6 ze6=>?_
 refine seg 5 (ae (aM (bU (ai aj (pv' 1) af) aq) (ag (ax (dm' (pv' 0) qU hr.dn cj (pa1 (ai aj (pv' 1) af))))) (aA)) zh6) fun zt5 zh5 ze5=>?_
 refine seg 4 (ae (aM (bU (ai aj (pv' 1) af) aq) (ag (ax (dm' (pv' 0) wB hr.dn cj (pa2 (ai aj (pv' 1) af) (ai aj (pv' 1) af))))) (aA)) zh5) fun zt4 zh4 ze4=>?_
 refine seg 3 (ae (aM (bU (ai aj (pv' 1) af) aq) (ag (ax (dm' (pv' 0) jY hr.dn cj (pa1 (ai aj (pv' 1) af))))) (aA)) zh4) fun zt3 zh3 ze3=>?_
 refine seg 2 (ae (aM (bU (ai aj (pv' 1) af) aq) (ag (ax (dm' (pv' 0) jX hr.dn cj (pa1 (ai aj (pv' 1) af))))) (aA)) zh3) fun zt2 zh2 ze2=>?_
 refine seg 1 (ae (aM (bU (ai aj (pv' 1) af) aq) (ag (ax (dm' (pv' 0) qS hr.dn cj (pa1 (ai aj (pv' 1) af))))) (aA)) zh2) fun zt1 zh1 ze1=>?_
 refine ⟨_,ae (aM (bU (ai aj (pv' 1) af) aq) (ag (ax (dm' (pv' 0) wu hr.dn cj (pa2 (ai aj (pv' 1) af) (ai aj (pv' 1) af))))) (aA)) zh1,?_⟩
 obtain ⟨⟨dx,dl,gl,hob,hdl,hgl,n1,n2⟩,hB⟩:=id hW
 have l2:=hg.sh.l2
 have l6:=hg.sh.l6
 have lc:=hg.lc
 have wl:=hn.wl
 have gk:=hg.gk
 have full:¬300<=rs.length:=by omega
 k_mem
 rcases hc with ⟨d,hD,ok,qe,q⟩ | ⟨hD,qe,q⟩
 rotate_left
 ·k_upd
  refine ⟨_,hD,_,rfl,?_⟩
  k_mem
  rw [if_neg (by decide)]
  k_upd
  refine ⟨_,hD,_,rfl,?_⟩
  k_mem
  rw [if_neg (by decide)]
  k_upd
  refine ⟨_,hD,_,rfl,?_⟩
  k_mem
  rw [if_neg (by decide)]
  k_upd
  refine ⟨_,hD,_,rfl,?_⟩
  k_mem
  rw [if_neg (by decide)]
  k_upd
  refine ⟨_,hD,_,rfl,?_⟩
  k_mem
  rw [if_neg (by decide)]
  k_upd
  refine ⟨_,hD,_,rfl,?_⟩
  k_mem
  rw [if_neg (by decide)]
  k_upd
  refine ⟨_,hD,_,rfl,?_⟩
  k_mem
  rw [if_neg (by decide)]
  k_upd
  refine ⟨_,hD,_,rfl,?_⟩
  k_mem
  rw [if_neg (by decide)]
  k_upd
  exact mgo hob rfl ⟨_,_,_,_,_,_,rfl,hW,qe,fun rs3 r3 e p H2 k hW2 hp=>q rs3 r3 e p H2 k hW2 hp⟩
 ·cases d with
  | ring l s=>
   refine ⟨_,hD,_,rfl,?_⟩
   k_mem
   rw [if_pos rfl]
   k_upd
   refine mgo hob rfl ⟨_,hD,_,rfl,_,hD,_,rfl,?_⟩
   k_mem
   refine ⟨_,_,_,_,_,_,_,_,rfl,hW,by omega,wl.symm,fun h H2 s2=>qe .lv ?_ H2 s2,fun h h' h3 H2 s2=>qe .db ?_ H2 s2,fun h h' h3 h4 H2 s2=>qe .nc ?_ H2 s2,fun h h' h3 h4=>⟨fun z=>absurd z full,fun _ H2 k2 hW2=>q ?_ _ H2 k2 hW2 rfl⟩⟩
   ·rw [lc] at h
    exact if_pos h
   ·rw [lc] at h'
    exact (if_neg (fun z=>z ⟨h,h'⟩)).trans (if_pos h3)
   ·rw [lc] at h'
    exact (if_neg (fun z=>z ⟨h,h'⟩)).trans ((if_neg (by rw [h3];exact Bool.false_ne_true)).trans (if_neg h4))
   ·rw [lc] at h'
    exact (if_neg (fun z=>z ⟨h,h'⟩)).trans ((if_neg (by rw [h3];exact Bool.false_ne_true)).trans (if_pos h4))
  | rept s=>
   refine ⟨_,hD,_,rfl,?_⟩
   k_mem
   rw [if_neg (by decide)]
   k_upd
   refine ⟨_,hD,_,rfl,?_⟩
   k_mem
   rw [if_pos rfl]
   k_upd
   refine mgo hob rfl ⟨_,hD,_,rfl,?_⟩
   k_mem
   refine ⟨_,_,_,_,_,_,_,rfl,hW,by omega,wl.symm,fun h H2 s2=>qe .nr ?_ H2 s2,fun l r e h H2 s2=>qe .nc ?_ H2 s2,fun l r e h=>⟨fun z=>absurd z full,fun _ p H2 k2 hW2 hT=>q ?_ _ H2 k2 hW2 ⟨p,l,r,rfl,e,hT⟩⟩⟩
   ·simp only [cJ]
   ·simp only [cJ,e];exact if_neg h
   ·simp only [cJ,e];exact if_pos h
  | opn l=>
   refine ⟨_,hD,_,rfl,?_⟩
   k_mem
   rw [if_neg (by decide)]
   k_upd
   refine ⟨_,hD,_,rfl,?_⟩
   k_mem
   rw [if_neg (by decide)]
   k_upd
   refine ⟨_,hD,_,rfl,?_⟩
   k_mem
   rw [if_pos rfl]
   k_upd
   refine mgo hob rfl ⟨_,hD,_,rfl,?_⟩
   k_mem
   refine ⟨_,_,_,_,_,_,_,rfl,hW,by omega,wl.symm,hn.gl,fun h H2 s2=>qe .lv (if_pos h) H2 s2,fun h h' h3 H2 s2=>qe .ch ((if_neg (fun z=>z ⟨h,h'⟩)).trans (if_pos h3)) H2 s2,fun h h' h3=>⟨fun z=>absurd z full,fun _ H2 k2 hW2=>q ((if_neg (fun z=>z ⟨h,h'⟩)).trans (if_neg (by rw [h3];decide))) _ H2 k2 hW2 rfl⟩⟩
  | sht l=>
   refine ⟨_,hD,_,rfl,?_⟩
   k_mem
   rw [if_neg (by decide)]
   k_upd
   refine ⟨_,hD,_,rfl,?_⟩
   k_mem
   rw [if_neg (by decide)]
   k_upd
   refine ⟨_,hD,_,rfl,?_⟩
   k_mem
   rw [if_neg (by decide)]
   k_upd
   refine ⟨_,hD,_,rfl,?_⟩
   k_mem
   rw [if_pos rfl]
   k_upd
   refine mgo hob rfl ⟨_,hD,_,rfl,?_⟩
   k_mem
   refine ⟨_,_,_,_,_,_,_,rfl,hW,by omega,wl.symm,hn.gl,fun h H2 s2=>qe .lv (if_pos h) H2 s2,fun h h' h3 H2 s2=>qe .ch ((if_neg (fun z=>z ⟨h,h'⟩)).trans (if_pos h3)) H2 s2,fun h h' h3=>⟨fun z=>absurd z full,fun _ H2 k2 hW2=>q ((if_neg (fun z=>z ⟨h,h'⟩)).trans (if_neg (by rw [h3];decide))) _ H2 k2 hW2 rfl⟩⟩
  | load k c=>
   refine ⟨_,hD,_,rfl,?_⟩
   k_mem
   rw [if_neg (by decide)]
   k_upd
   refine ⟨_,hD,_,rfl,?_⟩
   k_mem
   rw [if_neg (by decide)]
   k_upd
   refine ⟨_,hD,_,rfl,?_⟩
   k_mem
   rw [if_neg (by decide)]
   k_upd
   refine ⟨_,hD,_,rfl,?_⟩
   k_mem
   rw [if_neg (by decide)]
   k_upd
   refine ⟨_,hD,_,rfl,?_⟩
   k_mem
   rw [if_pos rfl]
   k_upd
   refine mgo hob rfl ⟨_,hD,_,rfl,_,hD,_,rfl,?_⟩
   k_mem
   refine ⟨_,_,_,_,_,_,_,_,rfl,hW,by omega,wl.symm,hg.sh,hn.gl,by omega,ok.1,ok.2,fun h H2 s2=>qe .ul (if_pos h) H2 s2,fun h h' h3 H2 s2=>qe .nt ?_ H2 s2,fun l h h' hl h3 h4 H2 s2=>qe .ct ?_ H2 s2,fun l h h' hl h3 h4 h5 H2 s2=>qe .gs ?_ H2 s2,fun l h h' hl h3 h4 h5=>⟨fun z=>absurd z full,fun _ H2 k2 hW2=>q ?_ _ H2 k2 hW2 rfl⟩⟩
   ·refine (if_neg (fun z=>z ⟨h,h'⟩)).trans ?_
    cases hl:bQ g.ds (ao n0 rs).place c with
    | none=>rfl
    | some l=>exact if_pos (h3 l hl)
   ·refine (if_neg (fun z=>z ⟨h,h'⟩)).trans ?_
    rw [hl]
    exact (if_neg (fun z=>z h3)).trans (if_pos h4)
   ·refine (if_neg (fun z=>z ⟨h,h'⟩)).trans ?_
    rw [hl]
    exact (if_neg (fun z=>z h3)).trans ((if_neg h4).trans (if_neg (by rw [h5];exact Bool.false_ne_true)))
   ·refine (if_neg (fun z=>z ⟨h,h'⟩)).trans ?_
    rw [hl]
    exact (if_neg (fun z=>z h3)).trans ((if_neg h4).trans (if_pos h5))
  | unload c=>
   refine ⟨_,hD,_,rfl,?_⟩
   k_mem
   rw [if_neg (by decide)]
   k_upd
   refine ⟨_,hD,_,rfl,?_⟩
   k_mem
   rw [if_neg (by decide)]
   k_upd
   refine ⟨_,hD,_,rfl,?_⟩
   k_mem
   rw [if_neg (by decide)]
   k_upd
   refine ⟨_,hD,_,rfl,?_⟩
   k_mem
   rw [if_neg (by decide)]
   k_upd
   refine ⟨_,hD,_,rfl,?_⟩
   k_mem
   rw [if_neg (by decide)]
   k_upd
   refine ⟨_,hD,_,rfl,?_⟩
   k_mem
   rw [if_pos rfl]
   k_upd
   refine mgo hob rfl ⟨_,hD,_,rfl,?_⟩
   k_mem
   refine ⟨_,_,_,_,_,_,_,rfl,hW,by omega,wl.symm,hg.sh,hn.gl,ok.1,ok.2,fun h H2 s2=>qe .ce (if_pos h) H2 s2,fun h hl H2 s2=>qe .nt ?_ H2 s2,fun l h hl h3 H2 s2=>qe .gs ?_ H2 s2,fun l h hl h3=>⟨fun z=>absurd z full,fun _ H2 k2 hW2=>q ?_ _ H2 k2 hW2 rfl⟩⟩
   ·refine (if_neg (fun z=>z h)).trans ?_
    simp only [hl]
   ·refine (if_neg (fun z=>z h)).trans ?_
    rw [hl]
    exact if_neg (by rw [h3];exact Bool.false_ne_true)
   ·refine (if_neg (fun z=>z h)).trans ?_
    rw [hl]
    exact if_pos h3
  | wind c l k=>
   refine ⟨_,hD,_,rfl,?_⟩
   k_mem
   rw [if_neg (by decide)]
   k_upd
   refine ⟨_,hD,_,rfl,?_⟩
   k_mem
   rw [if_neg (by decide)]
   k_upd
   refine ⟨_,hD,_,rfl,?_⟩
   k_mem
   rw [if_neg (by decide)]
   k_upd
   refine ⟨_,hD,_,rfl,?_⟩
   k_mem
   rw [if_neg (by decide)]
   k_upd
   refine ⟨_,hD,_,rfl,?_⟩
   k_mem
   rw [if_neg (by decide)]
   k_upd
   refine ⟨_,hD,_,rfl,?_⟩
   k_mem
   rw [if_neg (by decide)]
   k_upd
   refine ⟨_,hD,_,rfl,?_⟩
   k_mem
   rw [if_pos rfl]
   have sp:=hg.speed (ao n0 rs)
   k_upd
   refine mgo hob rfl ⟨_,hD,_,rfl,_,hD,_,rfl,_,hD,_,rfl,?_⟩
   k_mem
   refine ⟨_,_,_,_,_,_,_,_,_,rfl,hW,by omega,wl.symm,hg.sh,hn.gl,lc,sp.1,sp.2,ok.2,fun h H2 s2=>qe .lv (if_pos h) H2 s2,fun h h' h3 H2 s2=>qe .go ((if_neg (fun z=>z ⟨h,h'⟩)).trans (if_pos h3)) H2 s2,fun h h' h3 h4 H2 s2=>qe .na ((if_neg (fun z=>z ⟨h,h'⟩)).trans ((if_neg (by rw [h3];exact Bool.false_ne_true)).trans (if_neg h4))) H2 s2,fun h h' h3 h4=>⟨fun z=>absurd z full,fun _ H2 k2 hW2=>q ((if_neg (fun z=>z ⟨h,h'⟩)).trans ((if_neg (by rw [h3];exact Bool.false_ne_true)).trans (if_pos h4))) _ H2 k2 hW2 rfl⟩⟩
  | fail l=>
   refine ⟨_,hD,_,rfl,?_⟩
   k_mem
   rw [if_neg (by decide)]
   k_upd
   refine ⟨_,hD,_,rfl,?_⟩
   k_mem
   rw [if_neg (by decide)]
   k_upd
   refine ⟨_,hD,_,rfl,?_⟩
   k_mem
   rw [if_neg (by decide)]
   k_upd
   refine ⟨_,hD,_,rfl,?_⟩
   k_mem
   rw [if_neg (by decide)]
   k_upd
   refine ⟨_,hD,_,rfl,?_⟩
   k_mem
   rw [if_neg (by decide)]
   k_upd
   refine ⟨_,hD,_,rfl,?_⟩
   k_mem
   rw [if_neg (by decide)]
   k_upd
   refine ⟨_,hD,_,rfl,?_⟩
   k_mem
   rw [if_neg (by decide)]
   k_upd
   refine ⟨_,hD,_,rfl,?_⟩
   k_mem
   rw [if_pos rfl]
   k_upd
   refine mgo hob rfl ⟨_,hD,_,rfl,?_⟩
   k_mem
   refine ⟨_,_,_,_,_,_,_,rfl,hW,by omega,wl.symm,fun h H2 s2=>qe .lv ?_ H2 s2,fun h h' h3 H2 s2=>qe .ch ?_ H2 s2,fun h h' h3=>⟨fun z=>absurd z full,fun _ H2 k2 hW2=>q ?_ _ H2 k2 hW2 rfl⟩⟩
   ·rw [lc] at h
    exact if_pos h
   ·rw [lc] at h'
    exact (if_neg (fun z=>z ⟨h,h'⟩)).trans (if_pos h3)
   ·rw [lc] at h'
    exact (if_neg (fun z=>z ⟨h,h'⟩)).trans (if_neg (by rw [h3];exact Bool.false_ne_true))
variable (EW:KD P w K mg base (CXf P w) 7 "_law_call" (xE K Z))
noncomputable def oK (Z:Adr)(i:Nat):Addr:=[Z.ay,Z.aG,Z.bb,Z.aX,Z.aW,Z.bC,Z.aH,Z.ba,Z.aS,Z.aV,Z.aO,Z.aP,Z.aI,Z.aT].getD i Z.aT
noncomputable def MS:Rw->Nat
 | .lv=>0
 | .ul=>1
 | .go=>2
 | .gs=>3
 | .na=>4
 | .nc=>5
 | .nr=>6
 | .db=>7
 | .ch=>8
 | .nt=>9
 | .ct=>10
 | .ce=>11
noncomputable def jZ:List Str:=["UnknownLevel","UnknownLoad","GateOpen","GateShut","NotArmed","NoCode","NothingRung","DeadBell","NoChange","NotThere","CageTaken","CageEmpty","NothingDone","BookFull"]
noncomputable def Qv (K:WA)(Z:Adr)(M:Addr->Hp->Prop):XK:=fun cls _ H'=>W.exmOne K cls (.ref Z.bS)=some true/\∀y,H' y=none->fN K [.ref y,.ref Z.ay] (upd H' y (JT y cls)) fun x0 H1=>fN K [.ref y,.ref Z.aG] H1 fun x1 H1=>fN K [.ref y,.ref Z.bb] H1 fun x2 H1=>3<=sizeLine/\∀p,H1 p=none->fN K [.ref y,.ref Z.aX] (upd H1 p (.lst [x0,x1,x2])) fun x3 H1=>fN K [.ref y,.ref Z.aW] H1 fun x4 H1=>fN K [.ref y,.ref Z.bC] H1 fun x5 H1=>3<=sizeLine/\∀q,H1 q=none->∃xs,(upd H1 q (.lst [x3,x4,x5])) p=some (.lst xs)/\∃zs,(upd H1 q (.lst [x3,x4,x5])) q=some (.lst zs)/\xs.length+zs.length<=sizeLine/\∀p,(upd H1 q (.lst [x3,x4,x5])) p=none->fN K [.ref y,.ref Z.aH] (upd (upd H1 q (.lst [x3,x4,x5])) p (.lst (xs++zs))) fun x6 H1=>fN K [.ref y,.ref Z.ba] H1 fun x7 H1=>fN K [.ref y,.ref Z.aS] H1 fun x8 H1=>3<=sizeLine/\∀q,H1 q=none->∃xs,(upd H1 q (.lst [x6,x7,x8])) p=some (.lst xs)/\∃zs,(upd H1 q (.lst [x6,x7,x8])) q=some (.lst zs)/\xs.length+zs.length<=sizeLine/\∀p,(upd H1 q (.lst [x6,x7,x8])) p=none->fN K [.ref y,.ref Z.aV] (upd (upd H1 q (.lst [x6,x7,x8])) p (.lst (xs++zs))) fun x9 H1=>fN K [.ref y,.ref Z.aO] H1 fun x10 H1=>fN K [.ref y,.ref Z.aP] H1 fun x11 H1=>3<=sizeLine/\∀q,H1 q=none->∃xs,(upd H1 q (.lst [x9,x10,x11])) p=some (.lst xs)/\∃zs,(upd H1 q (.lst [x9,x10,x11])) q=some (.lst zs)/\xs.length+zs.length<=sizeLine/\∀p,(upd H1 q (.lst [x9,x10,x11])) p=none->fN K [.ref y,.ref Z.aI] (upd (upd H1 q (.lst [x9,x10,x11])) p (.lst (xs++zs))) fun x12 H1=>fN K [.ref y,.ref Z.aT] H1 fun x13 H1=>2<=sizeLine/\∀q,H1 q=none->∃xs,(upd H1 q (.lst [x12,x13])) p=some (.lst xs)/\∃zs,(upd H1 q (.lst [x12,x13])) q=some (.lst zs)/\xs.length+zs.length<=sizeLine/\∀p,(upd H1 q (.lst [x12,x13])) p=none->M p (upd (upd H1 q (.lst [x12,x13])) p (.lst (xs++zs)))
noncomputable def GU (i:Nat):List Bool:=[decide (i=0),decide (i=1),decide (i=2),decide (i=3),decide (i=4),decide (i=5),decide (i=6),decide (i=7),decide (i=8),decide (i=9),decide (i=10),decide (i=11),decide (i=12),decide (i=13)]
theorem P9 {i:Nat}(h:i < 13):((List.range 14).filter fun j=>(GU i).getD j false).map (fun j=>V.str (jZ.getD j ""))=[.str (jZ.getD i "")]:=by
 rcases (by omega:i=0\/i=1\/i=2\/i=3\/i=4\/i=5\/i=6\/i=7\/i=8\/i=9\/i=10\/i=11\/i=12) with rfl | rfl | rfl | rfl | rfl | rfl | rfl | rfl | rfl | rfl | rfl | rfl | rfl<;>rfl
theorem OW (r:Rw):jZ.getD (MS r) ""=rwS r:=by cases r<;>rfl
theorem Qa (r:Rw):MS r < 13:=by cases r<;>decide
inductive CZ (K:WA)(Z:Adr)(vs:List V)(H:Hp)(Q:VK)(E:XK):Prop | mk (w bk rl dd:Addr) (g:Cfg) (n0:bh) (rs:List Row):vs=[.ref w,.ref dd]->WAt (clZ Z) K H w bk rl g n0 rs->fg g->df g (ao n0 rs)->rs.length < 300->(((∃d,SqT K H dd (ddV d)/\uZ d/\(∀r,cJ g (ao n0 rs) d=some r->∀p p2 H',aw H H'->H' p=some (.lst [.bl false,.ref p2])->H' p2=some (.lst [.str (rwS r)])->Q (.ref p) H')/\(cJ g (ao n0 rs) d=none->∀v p H',aD rl H H'->WAt (clZ Z) K H' w bk rl g n0 (rs++[u4 g n0 rs d])->u6 K H' (ao n0 rs) (dw rs+oV g (ao n0 rs) d) d v->H' p=some (.lst [.bl true,v])->Q (.ref p) H'))\/
  (SqT K H dd [.str "take back"]/\(rs=[]->∀p p2 H',aw H H'->H' p=some (.lst [.bl false,.ref p2])->H' p2=some (.lst [.str "NothingDone"])->Q (.ref p) H')/\∀rs' r,rs=rs'++[r]->∀t p H',aD rl H H'->WAt (clZ Z) K H' w bk rl g n0 rs'->SqT K H' t r.deed->H' p=some (.lst [.bl true,.ref t])->Q (.ref p) H')))->CZ K Z vs H Q E
include T EW in
theorem MT:FF P w K mg base CX0 8 "_law_do" "_law_do" Gu K4 (CZ K Z):=fk0 fz fun vs H Q E h=>by
 obtain ⟨w,bk,rl,dd,g,n0,rs,rfl,hW,hg,hn,h300,hc⟩:=h
 k_all
 refine seg 6 (ag (ax (bj (pa2 fP (pv' 5))))) fun zt6 zh6 ze6=>?_
 refine seg 5 (ae (Hg ["_law_k","_law_names","_law_hit"] [none,some 4,some 2] (iy:=5) fz.nd rfl rfl (bP (by rfl) T.cQ (pa1 (aE az (by rfl) T.bZ bx (pa1 (pv' 4))))) (fun _ _ _ _=>(aJ (i:=0) (show (["_law_k","_law_names","_law_hit"]:List Str).Nodup by decide +kernel) rfl orL)) (fun _ _ _ _=>(mh (cO (ai (show IxR _ (Bz K) from au) (pv' 2) (pv' 0))))) (fun _ _ _ _=>(ai (show IxR _ (Bz K) from au) (pv' 1) (pv' 0)))) zh6) fun zt5 zh5 ze5=>?_
 refine seg 4 (ae (aF (i:=4) fz.nd rfl (Or.inr rfl) (bc ft (pv' 4) (bj (pa2 aq aq)))) zh5) fun zt4 zh4 ze4=>?_
 refine seg 3 (ae (aF (i:=4) fz.nd rfl (Or.inr rfl) (bc ft (pv' 4) (bj (cq aq (cq aq (pa4 aq aq aq aq)))))) zh4) fun zt3 zh3 ze3=>?_
 refine seg 2 (ae (aF (i:=4) fz.nd rfl (Or.inr rfl) (bj (cq aq (cq aq (pa4 aq aq aq aq))))) zh3) fun zt2 zh2 ze2=>?_
 refine seg 1 (ae (Og (i:=3) rfl rfl (fun _ _=>ag (ax (bj (pa2 fP (dcT EW hr.dn (pa2 (pv' 0) (pv' 1))))))) (fun _=>ae (aF (i:=2) fz.nd rfl (Or.inr rfl) (bj (pa3 (aE (show de _ (.builtin "isinstance") (fN K) from dI) (by rfl) T.bq aZ (pa2 (pv' 3) (eh (v:=.ref Z.ay) (by rfl) T.pI rfl))) (aE (show de _ (.builtin "isinstance") (fN K) from dI) (by rfl) T.bq aZ (pa2 (pv' 3) (eh (v:=.ref Z.aG) (by rfl) T.tI rfl))) (aE (show de _ (.builtin "isinstance") (fN K) from dI) (by rfl) T.bq aZ (pa2 (pv' 3) (eh (v:=.ref Z.bb) (by rfl) T.zU rfl)))))) (ae (aF (i:=2) fz.nd rfl (Or.inr rfl) (bc ft (pv' 2) (bj (pa3 (aE (show de _ (.builtin "isinstance") (fN K) from dI) (by rfl) T.bq aZ (pa2 (pv' 3) (eh (v:=.ref Z.aX) (by rfl) T.zV rfl))) (aE (show de _ (.builtin "isinstance") (fN K) from dI) (by rfl) T.bq aZ (pa2 (pv' 3) (eh (v:=.ref Z.aW) (by rfl) T.zS rfl))) (aE (show de _ (.builtin "isinstance") (fN K) from dI) (by rfl) T.bq aZ (pa2 (pv' 3) (eh (v:=.ref Z.bC) (by rfl) T.zR rfl))))))) (ae (aF (i:=2) fz.nd rfl (Or.inr rfl) (bc ft (pv' 2) (bj (pa3 (aE (show de _ (.builtin "isinstance") (fN K) from dI) (by rfl) T.bq aZ (pa2 (pv' 3) (eh (v:=.ref Z.aH) (by rfl) T.tJ rfl))) (aE (show de _ (.builtin "isinstance") (fN K) from dI) (by rfl) T.bq aZ (pa2 (pv' 3) (eh (v:=.ref Z.ba) (by rfl) T.zQ rfl))) (aE (show de _ (.builtin "isinstance") (fN K) from dI) (by rfl) T.bq aZ (pa2 (pv' 3) (eh (v:=.ref Z.aS) (by rfl) T.uu rfl))))))) (ae (aF (i:=2) fz.nd rfl (Or.inr rfl) (bc ft (pv' 2) (bj (pa3 (aE (show de _ (.builtin "isinstance") (fN K) from dI) (by rfl) T.bq aZ (pa2 (pv' 3) (eh (v:=.ref Z.aV) (by rfl) T.mT rfl))) (aE (show de _ (.builtin "isinstance") (fN K) from dI) (by rfl) T.bq aZ (pa2 (pv' 3) (eh (v:=.ref Z.aO) (by rfl) T.xX rfl))) (aE (show de _ (.builtin "isinstance") (fN K) from dI) (by rfl) T.bq aZ (pa2 (pv' 3) (eh (v:=.ref Z.aP) (by rfl) T.pJ rfl))))))) (ag (aF (i:=2) fz.nd rfl (Or.inr rfl) (bc ft (pv' 2) (bj (pa2 (aE (show de _ (.builtin "isinstance") (fN K) from dI) (by rfl) T.bq aZ (pa2 (pv' 3) (eh (v:=.ref Z.aI) (by rfl) T.tK rfl))) (aE (show de _ (.builtin "isinstance") (fN K) from dI) (by rfl) T.bq aZ (pa2 (pv' 3) (eh (v:=.ref Z.aT) (by rfl) T.zT rfl)))))))))))) fz.nd rfl rfl (by rfl) T.Ee) zh2) fun zt1 zh1 ze1=>?_
 refine ⟨_,ae (aF (i:=2) fz.nd rfl (Or.inr rfl) (bj iK)) zh1,?_⟩
 k_mem
 refine ⟨by decide,fun h0 hh0=>?_⟩
 (generalize hE:upd H h0 _=H1 at *;have s1:=bK hE hh0;have e1:=bg hE;clear hE)
 k_mem
 have fin:∀(i:Nat) (ph:Addr) (H2:Hp),i < 13->aw H1 H2->H2 ph=some (.lst ((GU i).map V.bl))->(∀p p2 H',aw H H'->H' p=some (.lst [.bl false,.ref p2])->H' p2=some (.lst [.str (jZ.getD i "")])->Q (.ref p) H')->zt2 {nx:=fun x H'=>Q V.non H',rt:=Q} [some (V.ref w),some (V.ref dd),some (V.ref ph),none,none,none] H2:=by
  intro i ph H2 hi s2 eph qk
  k_mem
  refine ⟨by decide,fun p1 hp1=>?_⟩
  (generalize hE:upd H2 p1 _=H3 at *;have s3:=bK hE hp1;have e3:=bg hE;clear hE)
  k_mem
  refine ⟨by decide,fun p2 hp2=>?_⟩
  (generalize hE:upd H3 p2 _=H4 at *;have s4:=bK hE hp2;have e4:=bg hE;clear hE)
  k_upd
  refine ⟨_,s4 _ _ e3,_,e4,(by show 12<=sizeLine;decide),fun p3 hp3=>?_⟩
  (generalize hE:upd H4 p3 _=H5 at *;have s5:=bK hE hp3;have e5:=bg hE;clear hE)
  k_mem
  refine ⟨by decide,fun p4 hp4=>?_⟩
  (generalize hE:upd H5 p4 _=H6 at *;have s6:=bK hE hp4;have e6:=bg hE;clear hE)
  k_upd
  refine ⟨_,s6 _ _ e5,_,e6,(by show 14<=sizeLine;decide),fun p5 hp5=>?_⟩
  (generalize hE:upd H6 p5 _=H7 at *;have s7:=bK hE hp5;have e7:=bg hE;clear hE)
  replace e7:H7 p5=some (HO.lst (jZ.map V.str)):=e7
  have s27:=s3.trans (s4.trans (s5.trans (s6.trans s7)))
  have eph7:=s27 _ _ eph
  k_mem
  refine ⟨_,.inl (SqL.of e7),by decide,by decide,?_⟩
  refine eB (n:=14) (fun j=>(GU i).getD j false) (fun (j:Nat)=>.str (jZ.getD j "")) (by rw [sizeLine_eq];decide) rfl (fun j hj N hN=>?_) (fun j hj _ N hN=>?_) fun lv hlv=>?_
  ·k_mem
   k_upd
   refine ⟨_,SqL.of eph7,_,fB (by omega) (by show 0+(j:Int) < ((14:Nat):Int);omega),?_⟩
   k_mem
   rw [Int.zero_add,Int.toNat_natCast]
   exact hN
  ·k_mem
   k_upd
   refine ⟨_,SqL.of e7,_,?_,hN⟩
   rw [Int.zero_add]
   exact aU (by rcases (by omega:j=0\/j=1\/j=2\/j=3\/j=4\/j=5\/j=6\/j=7\/j=8\/j=9\/j=10\/j=11\/j=12\/j=13) with rfl | rfl | rfl | rfl | rfl | rfl | rfl | rfl | rfl | rfl | rfl | rfl | rfl | rfl<;>rfl)
  rw [P9 hi]
  (generalize hE:upd H7 lv _=H8 at *;have s8:=bK hE hlv;have e8:=bg hE;clear hE)
  k_mem
  refine ⟨by decide,fun p9 hp9=>?_⟩
  (generalize hE:upd H8 p9 _=H9 at *;have s9:=bK hE hp9;have e9:=bg hE;clear hE)
  k_upd
  exact qk p9 lv H9 (s1.trans (s2.trans (s27.trans (s8.trans s9)))) e9 (s9 _ _ e8)
 have hx:∀i,i < 13->(∀p p2 H',aw H H'->H' p=some (.lst [.bl false,.ref p2])->H' p2=some (.lst [.str (jZ.getD i "")])->Q (.ref p) H')->∀H2,aw H1 H2->Qv K Z (fun ph H'=>zt2 {nx:=fun x H'=>Q V.non H',rt:=Q} [some (V.ref w),some (V.ref dd),some (V.ref ph),none,none,none] H') (.ref (oK Z i)) none H2:=by
  intro i hi qk H2 s2
  have kx:W.exmOne K (.ref (oK Z i)) (.ref Z.bS)=some true/\ExI K (oK Z i)/\W.kitOne K (.ref (oK Z i)) (.ref Z.ay)=some (decide (i=0))/\W.kitOne K (.ref (oK Z i)) (.ref Z.aG)=some (decide (i=1))/\W.kitOne K (.ref (oK Z i)) (.ref Z.bb)=some (decide (i=2))/\W.kitOne K (.ref (oK Z i)) (.ref Z.aX)=some (decide (i=3))/\W.kitOne K (.ref (oK Z i)) (.ref Z.aW)=some (decide (i=4))/\W.kitOne K (.ref (oK Z i)) (.ref Z.bC)=some (decide (i=5))/\W.kitOne K (.ref (oK Z i)) (.ref Z.aH)=some (decide (i=6))/\W.kitOne K (.ref (oK Z i)) (.ref Z.ba)=some (decide (i=7))/\W.kitOne K (.ref (oK Z i)) (.ref Z.aS)=some (decide (i=8))/\W.kitOne K (.ref (oK Z i)) (.ref Z.aV)=some (decide (i=9))/\W.kitOne K (.ref (oK Z i)) (.ref Z.aO)=some (decide (i=10))/\W.kitOne K (.ref (oK Z i)) (.ref Z.aP)=some (decide (i=11))/\W.kitOne K (.ref (oK Z i)) (.ref Z.aI)=some (decide (i=12))/\W.kitOne K (.ref (oK Z i)) (.ref Z.aT)=some (decide (i=13)):=by
   rcases (by omega:i=0\/i=1\/i=2\/i=3\/i=4\/i=5\/i=6\/i=7\/i=8\/i=9\/i=10\/i=11\/i=12) with rfl | rfl | rfl | rfl | rfl | rfl | rfl | rfl | rfl | rfl | rfl | rfl | rfl
   ·k_upd
    exact ⟨T.kq,T.zY,T.iB,T.i9,T.ly,T.lz,T.lA,T.oB,T.ja,T.lB,T.lD,T.lE,T.kr,T.ku,T.jb,T.lF⟩
   ·k_upd
    exact ⟨T.lG,T.AR,T.jc,T.jx,T.mU,T.mV,T.mW,T.pM,T.jy,T.mX,T.mY,T.mZ,T.lH,T.lI,T.jz,T.ng⟩
   ·k_upd
    exact ⟨T.qx,T.GG,T.l3,T.nT,T.sg,T.si,T.sj,T.vT,T.nU,T.so,T.sq,T.sr,T.qz,T.qA,T.nV,T.sv⟩
   ·k_upd
    exact ⟨T.qB,T.GI,T.l4,T.nW,T.sJ,T.sL,T.sM,T.vU,T.nX,T.sN,T.sO,T.sP,T.qC,T.qD,T.nY,T.sQ⟩
   ·k_upd
    exact ⟨T.qs,T.GA,T.lW,T.nJ,T.rY,T.rZ,T.r6,T.vS,T.nK,T.r8,T.r9,T.sd,T.qt,T.qu,T.nL,T.se⟩
   ·k_upd
    exact ⟨T.uz,T.La,T.oJ,T.qj,T.vK,T.vL,T.vM,T.yt,T.ql,T.vN,T.vO,T.vP,T.uA,T.uB,T.qm,T.vQ⟩
   ·k_upd
    exact ⟨T.lS,T.AU,T.jd,T.jA,T.ny,T.nA,T.nB,T.qo,T.jB,T.nC,T.nD,T.nE,T.lT,T.lU,T.jC,T.nF⟩
   ·k_upd
    exact ⟨T.qg,T.Gx,T.lR,T.nq,T.rJ,T.rK,T.rL,T.vJ,T.nu,T.rM,T.rN,T.rO,T.qh,T.qi,T.nv,T.rP⟩
   ·k_upd
    exact ⟨T.qp,T.Gy,T.lV,T.nG,T.rQ,T.rR,T.rS,T.vR,T.nH,T.rT,T.rV,T.rW,T.qq,T.qr,T.nI,T.rX⟩
   ·k_upd
    exact ⟨T.pN,T.Gv,T.lJ,T.nh,T.rB,T.rC,T.rD,T.vI,T.ni,T.rE,T.rF,T.rG,T.pO,T.pP,T.nj,T.rH⟩
   ·k_upd
    exact ⟨T.oC,T.Ej,T.kv,T.lK,T.pQ,T.pR,T.pS,T.uw,T.lL,T.pT,T.pU,T.pV,T.oE,T.oF,T.lM,T.pW⟩
   ·k_upd
    exact ⟨T.oG,T.Ek,T.ky,T.lO,T.pX,T.pY,T.pZ,T.ux,T.lP,T.qa,T.qc,T.qd,T.oH,T.oI,T.lQ,T.qf⟩
   ·k_upd
    exact ⟨T.lX,T.AY,T.je,T.jD,T.nM,T.nN,T.nO,T.qw,T.jE,T.nP,T.nQ,T.nR,T.lY,T.lZ,T.jF,T.nS⟩
  obtain ⟨z0,z1,z2,z3,z4,z5,z6,z7,z8,z9,z10,z11,z12,z13,z14,z15⟩:=kx
  k_upd
  refine ⟨z0,fun y hy=>?_⟩
  (generalize hE:upd H2 y _=H3 at *;have t1:=bK hE hy;have ey1:=bg hE;clear hE)
  refine uW ey1 z1 z2 dJ (uW ey1 z1 z3 dJ (uW ey1 z1 z4 dJ (⟨by decide,fun q0 hq0=>?_⟩)))
  (generalize hE:upd H3 q0 _=H4 at *;have t2:=bK hE hq0;have e2:=bg hE;clear hE)
  have ey2:=t2 _ _ ey1
  refine uW ey2 z1 z5 dJ (uW ey2 z1 z6 dJ (uW ey2 z1 z7 dJ (⟨by decide,fun q1 hq1=>?_⟩)))
  (generalize hE:upd H4 q1 _=H5 at *;have t3:=bK hE hq1;have e3:=bg hE;clear hE)
  have ey3:=t3 _ _ ey2
  k_upd
  refine ⟨_,t3 _ _ e2,_,e3,(by show 6<=sizeLine;decide),fun r1 hr1=>?_⟩
  (generalize hE:upd H5 r1 _=H6 at *;have t4:=bK hE hr1;have e4:=bg hE;clear hE)
  have ey4:=t4 _ _ ey3
  refine uW ey4 z1 z8 dJ (uW ey4 z1 z9 dJ (uW ey4 z1 z10 dJ (⟨by decide,fun q2 hq2=>?_⟩)))
  (generalize hE:upd H6 q2 _=H7 at *;have t5:=bK hE hq2;have e5:=bg hE;clear hE)
  have ey5:=t5 _ _ ey4
  k_upd
  refine ⟨_,t5 _ _ e4,_,e5,(by show 9<=sizeLine;decide),fun r2 hr2=>?_⟩
  (generalize hE:upd H7 r2 _=H8 at *;have t6:=bK hE hr2;have e6:=bg hE;clear hE)
  have ey6:=t6 _ _ ey5
  refine uW ey6 z1 z11 dJ (uW ey6 z1 z12 dJ (uW ey6 z1 z13 dJ (⟨by decide,fun q3 hq3=>?_⟩)))
  (generalize hE:upd H8 q3 _=H9 at *;have t7:=bK hE hq3;have e7:=bg hE;clear hE)
  have ey7:=t7 _ _ ey6
  k_upd
  refine ⟨_,t7 _ _ e6,_,e7,(by show 12<=sizeLine;decide),fun r3 hr3=>?_⟩
  (generalize hE:upd H9 r3 _=H10 at *;have t8:=bK hE hr3;have e8:=bg hE;clear hE)
  have ey8:=t8 _ _ ey7
  refine uW ey8 z1 z14 dJ (uW ey8 z1 z15 dJ (⟨by decide,fun q4 hq4=>?_⟩))
  (generalize hE:upd H10 q4 _=H11 at *;have t9:=bK hE hq4;have e9:=bg hE;clear hE)
  have ey9:=t9 _ _ ey8
  k_upd
  refine ⟨_,t9 _ _ e8,_,e9,(by show 14<=sizeLine;decide),fun r4 hr4=>?_⟩
  (generalize hE:upd H11 r4 _=H12 at *;have t10:=bK hE hr4;have e10:=bg hE;clear hE)
  have ey10:=t10 _ _ ey9
  exact fin i r4 H12 hi ((((((((((s2.trans t1).trans t2).trans t3).trans t4).trans t5).trans t6).trans t7).trans t8).trans t9).trans t10) e10 qk
 have Q12:jZ.getD 12 ""="NothingDone":=rfl
 k_upd
 refine ⟨w,bk,rl,dd,g,n0,rs,rfl,hW.same s1,hg,hn,h300,?_⟩
 rcases hc with ⟨d,hD,ok,qe,q⟩ | ⟨hD,qe,q⟩
 ·refine .inl ⟨d,s1.tup hD,ok,fun r e H2 s2=>?_,fun e v H2 k2 hW2 ans=>?_⟩
  ·have:=hx (MS r) (Qa r) (fun p p2 H' s' e1 e2=>qe r e p p2 H' s' e1 (by rw [←OW];exact e2)) H2 s2
   rw [show oK Z (MS r)=P8 Z r by cases r<;>rfl] at this
   exact this
  ·k_upd
   refine ⟨by decide,fun p hp=>?_⟩
   have f:=(aw.refl H2).lay (o:=HO.lst [V.bl true,v]) hp
   k_upd
   exact q e v p _ (((aD.of s1).trans k2).trans (aD.of f)) (hW2.same f) (ans.same f) ah
 ·refine .inr ⟨s1.tup hD,fun e=>?_,fun rs' r e t H2 k2 hW2 ht=>?_⟩
  ·exact hx 12 (by omega) (fun p p2 H' s' e1 e2=>qe e p p2 H' s' e1 e2) H1 (aw.refl _)
  ·k_upd
   refine ⟨by decide,fun p hp=>?_⟩
   have f:=(aw.refl H2).lay (o:=HO.lst [V.bl true,V.ref t]) hp
   k_upd
   exact q rs' r e t p _ (((aD.of s1).trans k2).trans (aD.of f)) (hW2.same f) (f.tup ht) ah
variable (Li:KD P w K mg base CX0 8 "_law_do" (CZ K Z))
theorem OX (r:Rw):¬rwS r="":=by cases r<;>decide
theorem EX (x:Str):eqL [V.str x] [V.str x]=true:=by simp [eqL,eqV]
theorem rp {xs:List Addr}{b:Bool}{v:V}(h:xs.map V.ref=[.bl b,v]):False:=by cases xs<;>cases h
theorem Jk {K:WA}{H:Hp}{n:bh}{t:Int}{d:Dd}{v v':V}(h:u6 K H n t d v)(h':u6 K H n t d v'):∃D,Rep K H 4 v D/\Rep K H 4 v' D:=by
 by_cases hr:∃s,d=.rept s
 ·obtain ⟨s,rfl⟩:=hr
  obtain ⟨p,l,r,rfl,he,hp⟩:=h
  obtain ⟨p',l',r',rfl,he',hp'⟩:=h'
  rw [he] at he'
  cases he'
  exact ⟨_,yY hp (by simp) (by simp [bW]),yY hp' (by simp) (by simp [bW])⟩
 ·have e1:=h.int fun s e=>hr ⟨s,e⟩
  have e2:=h'.int fun s e=>hr ⟨s,e⟩
  subst e1 e2
  exact ⟨_,.flat rfl,.flat rfl⟩
inductive rq (K:WA)(Z:Adr)(vs:List V)(H:Hp)(Q:VK)(E:XK):Prop | mk (H0:Hp) (w bk rl p dl cl ll sl wl dd:Addr) (g:Cfg) (lds:List Ld) (n0:bh) (rs:List Row):vs=[.ref w,.ref p,.ref sl,.ref wl,.ref dd]->oA (clZ Z) K H0 H p dl cl ll w bk rl sl wl g lds n0 rs->rs.length < 300->(((∃d,SqT K H dd (ddV d)/\uZ d)\/SqT K H dd [.str "take back"]))->(∀rs' H',cK rl sl wl H H'->oA (clZ Z) K H0 H' p dl cl ll w bk rl sl wl g lds n0 rs'->rs'.length<=rs.length+1->Q (.bl true) H')->rq K Z vs H Q E
include T Af ES yh jt Li in
theorem Jl:FF P w K mg base CX0 9 "_law_turn" "_law_turn" zL DW (rq K Z):=fk0 rj fun vs H Q E h=>by
 obtain ⟨H0,w,bk,rl,p,dl,cl,ll,sl,wl,dd,g,lds,n0,rs,rfl,hX,h300,hc,q⟩:=h
 k_all
 refine seg 8 (ag (ax (dc0 jt hr.dn (pa2 (ai au (pv' 6) af) (dc0 Af hr.dn (pa2 (pv' 2) (pv' 4))))))) fun zt8 zh8 ze8=>?_
 refine seg 7 (ae (bN (sS PySem.F.plainAttrs_list PySem.F.slot_list_append PySem.F.type_list_append eS (pv' 3) (pa1 (aY (pa3 (pv' 7) (ai aj (ai au (pv' 2) (eQ cL af)) af) (pv' 4)))))) zh8) fun zt7 zh7 ze7=>?_
 refine seg 6 (ae (bN (sS PySem.F.plainAttrs_list PySem.F.slot_list_append PySem.F.type_list_append eS (pv' 2) (pa1 (dc0 ES hr.dn (pa3 (pv' 1) (ai au (pv' 2) (eQ cL af)) (pv' 4)))))) zh7) fun zt6 zh6 ze6=>?_
 refine seg 5 (ae (aF (i:=7) rj.nd rfl orL (ai aj (ai au (pv' 2) (eQ cL af)) af)) zh6) fun zt5 zh5 ze5=>?_
 refine seg 4 (ae (aM (bU (ai aj (pv' 4) af) aq) (ae (bN (FD PySem.F.plainAttrs_list PySem.F.slot_list_pop PySem.F.type_list_pop Cr (pv' 2))) (ag (ax (dc0 jt hr.dn (pa2 (ai au (pv' 6) af) (ai aj (FD PySem.F.plainAttrs_list PySem.F.slot_list_pop PySem.F.type_list_pop Cr (pv' 3)) af)))))) (aA)) zh5) fun zt4 zh4 ze4=>?_
 refine seg 3 (ae (aM (dO K1 (ai au (pv' 6) af) fP (cy _)) (ag (ax fP)) (aA)) zh4) fun zt3 zh3 ze3=>?_
 refine seg 2 (ae (aM (jL (pv' 5) aq) (ag (ax (rh (cN K1 (ai au (pv' 6) af) fP (cy _)) (yL (cN (HL hr.units0) (ai au (pv' 6) af) (bj (pa1 (pv' 5))) (cy _)))))) (aA)) zh3) fun zt2 zh2 ze2=>?_
 refine seg 1 (ae (aF (i:=6) rj.nd rfl orL (dc0 Li hr.dn (pa2 (pv' 0) (pv' 4)))) zh2) fun zt1 zh1 ze1=>?_
 refine ⟨_,ae (aF (i:=5) rj.nd rfl orL (dc0 yh hr.dn (pa3 (pv' 1) (pv' 2) (pv' 4)))) zh1,?_⟩
 obtain ⟨hW,⟨as,hsl,hA⟩,⟨bs,hwl,hB⟩,hNs,hNw,hne,hrun⟩:=id hX.da
 have hg:=hX.cg
 have hn:=hX.snap
 obtain ⟨rr,hrl⟩:=hW.rows
 have nrs:rl≠sl:=hW.off sl hNs
 have nrw:rl≠wl:=hW.off wl hNw
 k_mem
 rcases hc with ⟨d,hD,ok⟩ | hD
 ·k_upd
  refine ⟨p,dl,cl,ll,sl,dd,g,lds,n0,rs,as,rfl,hX.setup,hg,hn,by omega,hsl,hA,.inl ⟨d,hD,ok,fun HA sA=>?_⟩⟩
  k_mem
  refine ⟨w,bk,rl,dd,g,n0,rs,rfl,hW.same sA,hg,hn,h300,.inl ⟨d,sA.tup hD,ok,fun r e pp p2 HB sB ep ep2=>?_,fun hrf v pp H1 kB hW1 ans ep=>?_⟩⟩
  ·k_mem
   rw [e]
   k_upd
   rw [if_pos (show ¬IZ (some r)="" from OX r)]
   k_upd
   refine ⟨_,SqL.of ep,_,rfl,?_⟩
   k_mem
   refine ⟨_,SqL.of ep,_,rfl,by decide,fun pw hpw=>?_⟩
   (generalize hE:upd HB pw _=HC at *;have sC:=bK hE hpw;have eC:=bg hE;clear hE)
   k_mem
   refine ⟨_,SqL.of (sC _ _ ep2),_,SqL.of eC,rfl,rfl,?_⟩
   rw [show eqL [V.str (rwS r)] [V.str (IZ (some r))]=true from EX _]
   k_upd
   exact q rs HC (cK.of (sA.trans (sB.trans sC))) (hX.same (sA.trans (sB.trans sC))) (by omega)
  ·have k1:L2.aD rl H H1:=(aD.of sA).trans kB
   k_mem
   rw [hrf]
   k_upd
   rw [if_neg (fun z=>z rfl)]
   k_mem
   refine ⟨_,SqL.of ep,_,rfl,?_⟩
   k_mem
   have hD1:=hD.keep k1 hrl
   have hsl1:=k1 _ _ nrs.symm hsl
   have hwl1:=k1 _ _ nrw.symm hwl
   have hA1:fM (gP K H1) as (jJ n0 rs):=hA.imp fun a x h=>h.keep k1 hrl
   have hB1:dC K H1 bs rs:=hB.keep k1 hrl
   have sa1:aw H0 H1:=hX.sa.keeps k1 hX.fr
   have nps:pp≠sl:=fun z=>by rw [z,hsl1] at ep;exact rp (by injection ep with ep;injection ep)
   have npw:pp≠wl:=fun z=>by rw [z,hwl1] at ep;exact rp (by injection ep with ep;injection ep)
   obtain ⟨as1,a,rfl,hSt⟩:=zc hA1
   obtain ⟨gt,lt,ht,dt,h1,h2,h3,h4,h5⟩:=hSt.un
   obtain ⟨w0,ew0,nw0⟩:=Hz d
   have hal:=hA1.1
   have hbl:=hB1.1
   rw [By,List.length_append,List.length_singleton] at hal
   k_upd
   refine ⟨_,hD1,_,ew0,?_⟩
   k_mem
   rw [if_neg nw0]
   k_mem
   refine ⟨_,SqL.of hsl1,_,iu,?_⟩
   k_mem
   refine ⟨_,h1,_,aU (k:=5) rfl,?_⟩
   k_mem
   refine ⟨.inl ⟨rfl,_,SqL.of hsl1⟩,_,SqL.of hsl1,_,iu,?_⟩
   k_mem
   refine ⟨p,dl,cl,ll,a,dd,g,lds,ao n0 rs,dw rs,d,rfl,hX.su.same sa1,hg,hn,hSt,hD1,ok,hrf,fun b H2 s2 hb=>?_⟩
   k_mem
   refine ⟨_,s2 _ _ hsl1,dE (by rw [WB,List.length_append,List.length_singleton];omega),?_⟩
   have k3:L2.aD sl H2 (upd H2 sl (HO.lst (List.map V.ref (as1++[a])++[V.ref b]))):=(aD.of (aw.refl H2)).put
   have e3:upd H2 sl (HO.lst (List.map V.ref (as1++[a])++[V.ref b])) sl=some (HO.lst ((as1++[a]++[b]).map V.ref)):=by rw [ah];simp
   generalize upd H2 sl (HO.lst (List.map V.ref (as1++[a])++[V.ref b]))=H3 at *
   have hW3:=(hW1.same s2).own hNs k3 e3
   have hwl3:=k3 _ _ hne.symm (s2 _ _ hwl1)
   have ep3:=k3 _ _ nps (s2 _ _ ep)
   have hb3:=hb.keep k3 (s2 _ _ hsl1)
   obtain ⟨gt2,lt2,ht2,dt2,hb31,_⟩:=hb3.un
   k_mem
   refine ⟨.inl ⟨rfl,_,SqL.of hwl3⟩,_,SqL.of e3,_,iu,?_⟩
   k_mem
   refine ⟨_,hb31,_,aU (k:=5) rfl,by decide,fun tp htp=>?_⟩
   (generalize hE:upd H3 tp _=H4 at *;have f4:=bK hE htp;have e4:=bg hE;clear hE)
   k_upd
   refine ⟨_,f4 _ _ hwl3,dE (by rw [WB];omega),?_⟩
   have k5:L2.aD wl H4 (upd H4 wl (HO.lst (List.map V.ref bs++[V.ref tp]))):=(aD.of (aw.refl H4)).put
   have e5:upd H4 wl (HO.lst (List.map V.ref bs++[V.ref tp])) wl=some (HO.lst ((bs++[tp]).map V.ref)):=by rw [ah];simp
   generalize upd H4 wl (HO.lst (List.map V.ref bs++[V.ref tp]))=H5 at *
   have hwl4:=f4 _ _ hwl3
   have hW5:=(hW3.same f4).own hNw k5 e5
   have hD5:SqT K H5 dd (ddV d):=(f4.tup ((s2.tup hD1).keep k3 (s2 _ _ hsl1))).keep k5 hwl4
   have hsl5:=k5 _ _ hne (f4 _ _ e3)
   have ep5:=k5 _ _ npw (f4 _ _ ep3)
   have K05:cK rl sl wl H H5:=((((cK.a k1).trans (cK.of s2)).trans (cK.b k3)).trans (cK.of f4)).trans (cK.c k5)
   have hA5:fM (gP K H5) (as1++[a]++[b]) (jJ n0 (rs++[u4 g n0 rs d])):=by
    rw [mr]
    exact fM.push (hA1.imp fun a x h=>(((h.same s2).keep k3 (s2 _ _ hsl1)).same f4).keep k5 hwl4) ((hb3.same f4).keep k5 hwl4)
   have hX5:oA (clZ Z) K H0 H5 p dl cl ll w bk rl sl wl g lds n0 (rs++[u4 g n0 rs d]):=hX.to K05 ⟨hW5,⟨as1++[a]++[b],hsl5,hA5⟩,⟨bs++[tp],e5,((((hB1.same s2).keep k3 (s2 _ _ hsl1)).same f4).keep k5 hwl4).push ⟨dd,(SqT.of e4).keep k5 hwl4,hD5⟩⟩,hNs,hNw,hne,.snoc hrun ok hrf⟩
   have ans5:u6 K H5 (ao n0 rs) (dw rs+oV g (ao n0 rs) d) d v:=(((ans.same s2).keep k3 (s2 _ _ hsl1)).same f4).keep k5 hwl4
   k_mem
   refine ⟨_,SqL.of ep5,_,rfl,?_⟩
   k_upd
   refine ⟨sl,dd,as1++[a]++[b],g,n0,rs,d,rfl,hsl5,hA5,hD5,hrf,fun v' H6 s6 ans6=>?_⟩
   obtain ⟨D,r1,r2⟩:=Jk (ans5.same s6) ans6
   k_upd
   exact ⟨_,_,D,rfl,r1,r2,fun H7 s7=>q _ H7 (K05.trans (cK.of (s6.trans s7))) (hX5.same (s6.trans s7)) (by rw [List.length_append];exact Nat.le_refl _)⟩
 ·obtain h0 | ⟨rs2,r,rfl⟩:=dM rs
  ·subst h0
   k_upd
   refine ⟨p,dl,cl,ll,sl,dd,g,lds,n0,[],as,rfl,hX.setup,hg,hn,by simp,hsl,hA,.inr ⟨hD,fun HA sA=>?_⟩⟩
   k_upd
   rw [if_pos rfl]
   k_mem
   refine ⟨w,bk,rl,dd,g,n0,[],rfl,hW.same sA,hg,hn,h300,.inr ⟨sA.tup hD,fun _ pp p2 HB sB ep ep2=>?_,fun rs' r e=>by simp at e⟩⟩
   k_mem
   rw [if_pos (show ¬("NothingDone":Str)="" by decide)]
   k_upd
   refine ⟨_,SqL.of ep,_,rfl,?_⟩
   k_mem
   refine ⟨_,SqL.of ep,_,rfl,by decide,fun pw hpw=>?_⟩
   (generalize hE:upd HB pw _=HC at *;have sC:=bK hE hpw;have eC:=bg hE;clear hE)
   k_mem
   refine ⟨_,SqL.of (sC _ _ ep2),_,SqL.of eC,rfl,rfl,?_⟩
   rw [EX]
   k_upd
   exact q [] HC (cK.of (sA.trans (sB.trans sC))) (hX.same (sA.trans (sB.trans sC))) (by simp)
  ·k_upd
   refine ⟨p,dl,cl,ll,sl,dd,g,lds,n0,rs2++[r],as,rfl,hX.setup,hg,hn,by omega,hsl,hA,.inr ⟨hD,fun HA sA=>?_⟩⟩
   k_upd
   rw [if_neg (by simp)]
   k_mem
   refine ⟨w,bk,rl,dd,g,n0,rs2++[r],rfl,hW.same sA,hg,hn,h300,.inr ⟨sA.tup hD,fun e=>by simp at e,fun rs' r' e t pp H1 kB hW1 hpp ep=>?_⟩⟩
   obtain ⟨rfl,rfl⟩:=DG e
   have k1:L2.aD rl H H1:=(aD.of sA).trans kB
   have hD1:=hD.keep k1 hrl
   have hsl1:=k1 _ _ nrs.symm hsl
   have hwl1:=k1 _ _ nrw.symm hwl
   have hA1:fM (gP K H1) as (jJ n0 (rs2++[r])):=hA.imp fun a x h=>h.keep k1 hrl
   have hB1:dC K H1 bs (rs2++[r]):=hB.keep k1 hrl
   have nps:pp≠sl:=fun z=>by rw [z,hsl1] at ep;exact rp (by injection ep with ep;injection ep)
   have npw:pp≠wl:=fun z=>by rw [z,hwl1] at ep;exact rp (by injection ep with ep;injection ep)
   rw [mr] at hA1
   obtain ⟨as1,a,rfl,hA2,_⟩:=hA1.last
   obtain ⟨bs1,b,rfl,hB2,dd2,hb1,hb2⟩:=hB1.last
   obtain ⟨dr,hdr⟩:=hrun.deeds r (by simp)
   k_mem
   rw [if_neg (fun z=>z rfl)]
   k_mem
   refine ⟨_,SqL.of ep,_,rfl,?_⟩
   k_mem
   refine ⟨_,hD1,_,aU (k:=0) rfl,?_⟩
   k_mem
   rw [if_pos rfl]
   k_upd
   refine ⟨.inl ⟨rfl,_,SqL.of hsl1⟩,_,hsl1,.ref a,by simp,?_⟩
   have k3:L2.aD sl H1 (upd H1 sl (HO.lst (List.map V.ref (as1++[a])).dropLast)):=(aD.of (aw.refl H1)).put
   have e3:upd H1 sl (HO.lst (List.map V.ref (as1++[a])).dropLast) sl=some (HO.lst (as1.map V.ref)):=by rw [ah];simp
   generalize upd H1 sl (HO.lst (List.map V.ref (as1++[a])).dropLast)=H3 at *
   have hwl3:=k3 _ _ hne.symm hwl1
   have ep3:=k3 _ _ nps ep
   k_upd
   refine ⟨_,SqL.of ep3,_,rfl,?_⟩
   k_mem
   refine ⟨.inl ⟨rfl,_,SqL.of hwl3⟩,_,hwl3,.ref b,by simp,?_⟩
   have k5:L2.aD wl H3 (upd H3 wl (HO.lst (List.map V.ref (bs1++[b])).dropLast)):=(aD.of (aw.refl H3)).put
   have e5:upd H3 wl (HO.lst (List.map V.ref (bs1++[b])).dropLast) wl=some (HO.lst (bs1.map V.ref)):=by rw [ah];simp
   generalize upd H3 wl (HO.lst (List.map V.ref (bs1++[b])).dropLast)=H5 at *
   have K05:cK rl sl wl H H5:=((cK.a k1).trans (cK.b k3)).trans (cK.c k5)
   have hX5:oA (clZ Z) K H0 H5 p dl cl ll w bk rl sl wl g lds n0 rs2:=hX.to K05 ⟨(hW1.own hNs k3 e3).own hNw k5 e5,⟨as1,k5 _ _ hne e3,hA2.imp fun a x h=>(h.keep k3 hsl1).keep k5 hwl3⟩,⟨bs1,e5,(hB2.keep k3 hsl1).keep k5 hwl3⟩,hNs,hNw,hne,hrun.inv.1⟩
   have lenr:=Hi dr
   k_mem
   refine ⟨_,(hb1.keep k3 hsl1).keep k5 hwl3,_,rfl,?_⟩
   k_upd
   refine ⟨_,_,_,rfl,fL ((hpp.keep k3 hsl1).keep k5 hwl3) (by rw [hdr];omega) (by rw [hdr];exact yZ dr),fL ((hb2.keep k3 hsl1).keep k5 hwl3) (by rw [hdr];omega) (by rw [hdr];exact yZ dr),fun H' s=>q rs2 H' (K05.trans (cK.of s)) (hX5.same s) (by simp;omega)⟩
variable (wC:KD P w K mg base CX0 9 "_law_turn" (rq K Z))
def Qb (Z:Adr)(K:WA)(H0:Hp)(a p dl cl ll w bk rl sl wl:Addr)(g:Cfg)(lds:List Ld)(n0:bh)(i:Nat)(σ:St)(H':Hp):Prop:=∃rs,oA (clZ Z) K H0 H' p dl cl ll w bk rl sl wl g lds n0 rs/\rs.length<=i/\∃t u,σ=[some (.ref a),some (.ref p),some (.ref w),some (.ref sl),some (.ref wl),t,u]
noncomputable def As (K:WA)(Z:Adr):Sp:=fun vs H Q _=>∃(a:Addr) (ns:List Int),vs=[.ref a]/\SqL K H a (ns.map V.int)/\ns.length<=63/\∀H',Q (.bl true) H'
include T rk rm iF wo rn qV wC in
theorem OY:FF P w K mg base (CXf P w) 10 "law" "law" zN K5 (As K Z):=fkF uq fun vs H Q E h=>by
 obtain ⟨a,ns,rfl,hS,hn,q⟩:=h
 k_all
 refine seg 5 (ag (ax (dc qV hr.dn cj (pa4 (pv' 2) (pv' 1) (pv' 3) (pv' 4))))) fun zt5 zh5 ze5=>?_
 refine seg 4 (ae (en FL rfl (zh (by rfl) T.cQ (pa2 af (aE (tZ rfl) (by rfl) T.K7 FH (pa2 (aE az (by rfl) T.bZ bx (pa1 (pv' 0))) af)))) (aJ (i:=5) uq.nd rfl orL) (ae (aF (i:=6) uq.nd rfl orL (dc0 wo hr.dn (pa3 (pv' 1) (ai au (pv' 3) (eQ cL af)) (dc0 rk hr.dn (pa2 (pv' 0) (pv' 5)))))) (ae (aM (eY (cO (dc0 wC hr.dn (cq (pv' 2) (pa4 (pv' 1) (pv' 3) (pv' 4) (pv' 6)))))) (ag (ax fP)) (aA)) (ag (aM (tW (bU (cb (pv' 5) af) af) (me (eY (cO (dc qV hr.dn cj (pa4 (pv' 2) (pv' 1) (pv' 3) (pv' 4))))))).pt (ag (ax fP)) (aA)))))) zh5) fun zt4 zh4 ze4=>?_
 refine seg 3 (ae (aF (i:=4) uq.nd rfl orL (bj iK)) zh4) fun zt3 zh3 ze3=>?_
 refine seg 2 (ae (aF (i:=3) uq.nd rfl orL (bj (pa1 (dc0 rm hr.dn (pa1 (pv' 1)))))) zh3) fun zt2 zh2 ze2=>?_
 refine seg 1 (ae (aF (i:=2) uq.nd rfl orL (dn iF hr.dn T.MH cj (cq (bw bH (by rfl) T.eU dH (pa1 (ai au (pv' 1) af))) (pa4 (bw bH (by rfl) T.eU dH (pa1 (ai au (pv' 1) af))) (ai au (pv' 1) af) (ai au (pv' 1) af) (bw bH (by rfl) T.eU dH (pa1 (ai au (pv' 1) af))))))) zh2) fun zt1 zh1 ze1=>?_
 refine ⟨_,ae (aF (i:=1) uq.nd rfl orL (dc0 rn hr.dn (pa2 (pv' 0) af))) zh1,?_⟩
 k_mem
 refine ⟨a,ns,30,rfl,hS,by omega,by omega,fun p dl cl ll ds ls slow fast lds H1 s1 fp fdl fcl fll hP hsh hlen hgd hsp hlm hld=>?_⟩
 have hU:DO ds ls slow fast lds:=⟨hsh,hlen,hgd,hsp,by omega,fun x hx=>(hld x hx).1⟩
 have l2:=hU.sh.l2
 have l6:=hU.sh.l6
 have l30:=hU.l30
 obtain ⟨hp,hdl,⟨as0,hcl,hT⟩,⟨bs0,hll,hT2⟩,_⟩:=id hP
 replace hdl:H1 dl=some (HO.lst (ds.map V.int)):=hdl
 replace hp:H1 p=some (HO.lst [V.ref dl,V.ref cl,V.int slow,V.int fast,V.ref ll]):=hp
 replace hT:cV cdV K H1 as0 ls:=hT
 have hSH:=s1.seq hS
 k_mem
 refine ⟨_,SqL.of hp,_,rfl,?_⟩
 k_mem
 refine ⟨_,.inl (SqL.of hdl),fun h0 hh0=>?_⟩
 (generalize hE:upd H1 h0 _=HD at *;have sD:=bK hE hh0;have eh0:=bg hE;clear hE)
 k_upd
 refine ⟨_,SqL.of (sD _ _ hp),_,rfl,?_⟩
 k_mem
 refine ⟨_,.inl (SqL.of (sD _ _ hcl)),fun h1 hh1=>?_⟩
 (generalize hE:upd HD h1 _=HE at *;have sE:=bK hE hh1;have eh1:=bg hE;clear hE)
 have sDE:=sD.trans sE
 k_upd
 refine ⟨_,SqL.of (sDE _ _ hp),_,rfl,_,SqL.of (sDE _ _ hp),_,rfl,_,SqL.of (sDE _ _ hp),_,rfl,?_⟩
 k_mem
 refine ⟨_,.inl (SqL.of (sDE _ _ hll)),fun h2 hh2=>?_⟩
 (generalize hE:upd HE h2 _=HF at *;have sF:=bK hE hh2;have eh2:=bg hE;clear hE)
 have sDF:=sDE.trans sF
 refine fun w0 dx0 hx0 hdx0 nx0=>?_
 have sx0:=((aw.refl HF).lay (o:=HO.own w0) hdx0).lay (o:=HO.ins Z.bF dx0 []) (show upd HF dx0 (.own w0) w0=none by rw [aL (Ne.symm nx0)];exact hx0)
 k_upd
 refine ⟨w0,dx0,h0,h1,h2,ds,ls,lds,slow,fast,fun _=>False,rfl,ah,sx0.seq (SqL.of ((sE.trans sF) _ _ eh0)),⟨as0,sx0.seq (SqL.of (sF _ _ eh1)),cV.same (sDF.trans sx0) hT⟩,⟨bs0,sx0.seq (SqL.of eh2),ju.same (sDF.trans sx0) hT2⟩,by omega,by omega,by omega,fun p hp=>hp.elim,fun h=>absurd hU.sh h,fun _ h=>absurd ⟨by omega,hU.gd⟩ h,fun _ _ h=>absurd hU.sp h,fun _ _ _ h=>absurd ⟨hU.l30,fun x hx=>hU.gl x hx⟩ h,fun _ _ _ _ bk rl H2 kx hrl hW=>⟨rfl,?_⟩⟩
 have sFH:=gM hx0 hdx0 kx
 have frl:HF rl=none:=fS hrl
 clear kx hrl sx0
 have s12:=sDF.trans sFH
 k_mem
 refine ⟨p,dl,cl,ll,ds,ls,slow,fast,lds,_,rfl,hP.same s12,l2,l6,l30,fun st H3 s3 hst=>?_⟩
 k_mem
 refine ⟨by decide,fun sl hsl=>?_⟩
 have g2:=(aw.refl H3).lay (o:=HO.lst [V.ref st]) hsl
 have hWa:=(hW.same s3).grow hsl g2 ah
 (generalize hE:upd H3 sl _=H4 at *;have s4:=bK hE hsl;have esl:=bg hE;clear hE)
 k_mem
 refine ⟨by decide,fun wl hwl=>?_⟩
 have g3:=(aw.refl H4).lay (o:=HO.lst []) hwl
 have nsw:sl≠wl:=av esl hwl
 have hWb:=hWa.grow hwl g3 ah
 (generalize hE:upd H4 wl _=H5 at *;have s5:=bK hE hwl;have ewl:=bg hE;clear hE)
 have s15:=s12.trans (s3.trans (s4.trans s5))
 have hX:oA (clZ Z) K H1 H5 p dl cl ll w0 bk rl sl wl (iQ ds ls slow fast lds fun q=>(False\/q=sl)\/q=wl) lds (iR ds ls lds) []:=⟨⟨hP.ob,hP.od,hP.oc,hP.ol,hP.ek⟩,s15,sDF.free frl,(s12.trans s3).free hsl,(s12.trans (s3.trans s4)).free hwl,⟨hWb,⟨[st],s5 _ _ esl,fM.nil.push ((hst.same s4).same s5)⟩,⟨[],ewl,dC.nil⟩,.inl (.inr rfl),.inr rfl,nsw,.nil⟩,hU.cfg _,hU.snap _⟩
 clear hWa hWb hst hW
 k_mem
 refine ⟨_,.inl (s15.seq hSH),⟨by decide,by decide,by rw [WB];split<;>omega,by rw [WB];split<;>omega⟩,?_⟩
 k_upd
 refine cI (Qb Z K H1 a p dl cl ll w0 bk rl sl wl _ lds _) ⟨[],hX,Nat.zero_le _,_,_,rfl⟩ ?_ ?_
 ·rintro i σ H6 hi ⟨rs,hX6,hr6,t,u,rfl⟩
  rw [WB] at hi
  have hi':i < 58:=by split at hi<;>omega
  have hi2:i+5 < ns.length:=by split at hi<;>omega
  obtain ⟨as,hsl6,hA6⟩:=hX6.da.st
  obtain ⟨as1,a1,rfl,hSt⟩:=zc hA6
  k_mem
  refine ⟨_,SqL.of hsl6,_,iu,?_⟩
  k_upd
  refine ⟨a,ns,_,rfl,hX6.sa.seq hSH,by omega,by omega,fun c=>?_⟩
  k_mem
  have turn:∀dd H7,aw H6 H7->((∃d,SqT K H7 dd (ddV d)/\uZ d)\/SqT K H7 dd [.str "take back"])->∀M:VK,(∀rs' H',oA (clZ Z) K H1 H' p dl cl ll w0 bk rl sl wl (iQ ds ls slow fast lds fun q=>(False\/q=sl)\/q=wl) lds (iR ds ls lds) rs'->rs'.length<=i+1->M (.bl true) H')->rq K Z [.ref w0,.ref p,.ref sl,.ref wl,.ref dd] H7 M E0:=fun dd H7 s7 hc M hM=>⟨H1,w0,bk,rl,p,dl,cl,ll,sl,wl,dd,_,lds,_,rs,rfl,hX6.same s7,by omega,hc,fun rs' H' _ hX' hl=>hM rs' H' hX' (by omega)⟩
  k_upd
  refine ⟨p,dl,cl,ll,a1,c,_,lds,_,_,rfl,hX6.setup,hX6.cg,hX6.snap,l30,hSt,fun dd d H7 s7 hd ok=>?_,fun dd H7 s7 hd=>?_⟩
  ·refine turn dd H7 s7 (.inl ⟨d,hd,ok⟩) _ fun rs' H8 hX8 hl8=>?_
   k_mem
   by_cases c4:(5+(i:Int)) % 4=0
   ·rw [if_pos c4]
    k_upd
    refine ⟨H1,w0,bk,rl,p,dl,cl,ll,sl,wl,_,lds,_,rs',rfl,hX8,by omega,fun H9 s9=>?_⟩
    k_mem
    exact ⟨rs',hX8.same s9,hl8,_,_,rfl⟩
   ·rw [if_neg c4]
    k_upd
    exact ⟨rs',hX8,hl8,_,_,rfl⟩
  ·refine turn dd H7 s7 (.inr hd) _ fun rs' H8 hX8 hl8=>?_
   k_mem
   by_cases c4:(5+(i:Int)) % 4=0
   ·rw [if_pos c4]
    k_upd
    refine ⟨H1,w0,bk,rl,p,dl,cl,ll,sl,wl,_,lds,_,rs',rfl,hX8,by omega,fun H9 s9=>?_⟩
    k_mem
    exact ⟨rs',hX8.same s9,hl8,_,_,rfl⟩
   ·rw [if_neg c4]
    k_upd
    exact ⟨rs',hX8,hl8,_,_,rfl⟩
 ·rintro σ H6 ⟨rs,hX6,hr6,t,u,rfl⟩
  rw [WB] at hr6
  have hr300:rs.length<=300:=by split at hr6<;>omega
  k_mem
  exact ⟨H1,w0,bk,rl,p,dl,cl,ll,sl,wl,_,lds,_,rs,rfl,hX6,hr300,fun H9 s9=>q _⟩
include T rk rm iF wo rn qV wC in
theorem OZ:FF P w K mg base CX0 10 "law" "law" zN K5 (As K Z):=(OY T rk rm iF wo rn qV wC).calm fun vs H Q E h=>h
end
theorem O0 {l:W.OpenLaw}{w:World}{K:WA}{h:Heap}{mg:Str->Option Value}{fa:Addr}(X:K.In h)(G:h.Ns mainGlobals mg)(hfa:mg "law"=some (.ref fa)){C0 C1 C2 C3 C4 C5 C6 C7 C8 C9 C10 C11 C12 C13 C14 C15 C16 C17 C18 C19 C20 C21 C22 C23:Addr}{ta_KINDS:Addr}{tk_KINDS_0 tk_KINDS_1:Tok}{tn_KINDS:Nat}{ts_KINDS:Array (Option Value)}{ta_CAGE_SPOTS:Addr}{tk_CAGE_SPOTS_0 tk_CAGE_SPOTS_1:Tok}{to_CAGE_SPOTS:Option Addr}{tn_CAGE_SPOTS:Nat}{ts_CAGE_SPOTS:Array (Option Value)}(fx:Nv K C0 C1 C2 C3 C4 C5 C6 C7 C8 C9 C10 C11 C12 C13 C14 C15 C16 C17 C18 C19 C20 C21 C22 C23 ta_KINDS tk_KINDS_0 tk_KINDS_1 tn_KINDS ts_KINDS ta_CAGE_SPOTS tk_CAGE_SPOTS_0 tk_CAGE_SPOTS_1 to_CAGE_SPOTS tn_CAGE_SPOTS ts_CAGE_SPOTS)
 : ∃Z:Adr,∃fd:FuncData,(∀(s:Shared) (v:Value),BindsTo s fd ⟨[v],[]⟩ [("_law_script",v)])/\∀base:Heap,K.In base->base.Ns mainGlobals mg->gv l.prog w K mg base CX0 10 fa fd ["_law_script"] (As K Z):=by
 obtain ⟨z_len,z_list,z_enumerate,z_zip,z_range,z_abs,z_isinstance,z_tuple,z_int,z_str,z_bool,z_min,z_sorted,m0,m1,m2,m3,m4,m5,m6,m7,m8,m9,m10,m11,m12,m13,m14,m15,m16,m17,m18,m19,m20,m21,m22,m23,n_MOST_LOADS,n_FEWEST_STROKES,n_MOST_STROKES,n_FEWEST_LEVELS,n_MOST_LEVELS,n_GREATEST_DEPTH,n_GREATEST_SPEED,n_MOST_DEEDS,n_KINDS,lt_KINDS,n_CAGE_SPOTS,lt_CAGE_SPOTS,cl19,na19_kinds,na19_where,na19_many,cl20,na20_codes,na20_failed,na20_state,cl21,na21_place,na21_opened,na21_bells,na21_yard,cl22,na22_first,na22_most,na22_rows,cl23,na23_depths,na23_slow,na23_fast,na23_goals,na23_log,l0,x0,x1,x2,x3,x4,x5,x6,x7,x8,x9,x10,x11,x12,x13,x14,x15,x16,x17,e0_CageError,k0_UnknownLevel,k0_UnknownLoad,k0_GateOpen,k0_GateShut,k0_NotArmed,k0_NoCode,k0_NothingRung,k0_DeadBell,k0_NoChange,k0_NotThere,k0_CageTaken,k0_CageEmpty,k0_NothingDone,k0_BookFull,e1_CageError,k1_UnknownLevel,k1_UnknownLoad,k1_GateOpen,k1_GateShut,k1_NotArmed,k1_NoCode,k1_NothingRung,k1_DeadBell,k1_NoChange,k1_NotThere,k1_CageTaken,k1_CageEmpty,k1_NothingDone,k1_BookFull,e2_CageError,k2_UnknownLevel,k2_UnknownLoad,k2_GateOpen,k2_GateShut,k2_NotArmed,k2_NoCode,k2_NothingRung,k2_DeadBell,k2_NoChange,k2_NotThere,k2_CageTaken,k2_CageEmpty,k2_NothingDone,k2_BookFull,e3_CageError,k3_UnknownLevel,k3_UnknownLoad,k3_GateOpen,k3_GateShut,k3_NotArmed,k3_NoCode,k3_NothingRung,k3_DeadBell,k3_NoChange,k3_NotThere,k3_CageTaken,k3_CageEmpty,k3_NothingDone,k3_BookFull,e4_CageError,k4_UnknownLevel,k4_UnknownLoad,k4_GateOpen,k4_GateShut,k4_NotArmed,k4_NoCode,k4_NothingRung,k4_DeadBell,k4_NoChange,k4_NotThere,k4_CageTaken,k4_CageEmpty,k4_NothingDone,k4_BookFull,e5_CageError,k5_UnknownLevel,k5_UnknownLoad,k5_GateOpen,k5_GateShut,k5_NotArmed,k5_NoCode,k5_NothingRung,k5_DeadBell,k5_NoChange,k5_NotThere,k5_CageTaken,k5_CageEmpty,k5_NothingDone,k5_BookFull,e6_CageError,k6_UnknownLevel,k6_UnknownLoad,k6_GateOpen,k6_GateShut,k6_NotArmed,k6_NoCode,k6_NothingRung,k6_DeadBell,k6_NoChange,k6_NotThere,k6_CageTaken,k6_CageEmpty,k6_NothingDone,k6_BookFull,e7_CageError,k7_UnknownLevel,k7_UnknownLoad,k7_GateOpen,k7_GateShut,k7_NotArmed,k7_NoCode,k7_NothingRung,k7_DeadBell,k7_NoChange,k7_NotThere,k7_CageTaken,k7_CageEmpty,k7_NothingDone,k7_BookFull,e8_CageError,k8_UnknownLevel,k8_UnknownLoad,k8_GateOpen,k8_GateShut,k8_NotArmed,k8_NoCode,k8_NothingRung,k8_DeadBell,k8_NoChange,k8_NotThere,k8_CageTaken,k8_CageEmpty,k8_NothingDone,k8_BookFull,e9_CageError,k9_UnknownLevel,k9_UnknownLoad,k9_GateOpen,k9_GateShut,k9_NotArmed,k9_NoCode,k9_NothingRung,k9_DeadBell,k9_NoChange,k9_NotThere,k9_CageTaken,k9_CageEmpty,k9_NothingDone,k9_BookFull,e10_CageError,k10_UnknownLevel,k10_UnknownLoad,k10_GateOpen,k10_GateShut,k10_NotArmed,k10_NoCode,k10_NothingRung,k10_DeadBell,k10_NoChange,k10_NotThere,k10_CageTaken,k10_CageEmpty,k10_NothingDone,k10_BookFull,e11_CageError,k11_UnknownLevel,k11_UnknownLoad,k11_GateOpen,k11_GateShut,k11_NotArmed,k11_NoCode,k11_NothingRung,k11_DeadBell,k11_NoChange,k11_NotThere,k11_CageTaken,k11_CageEmpty,k11_NothingDone,k11_BookFull,e12_CageError,k12_UnknownLevel,k12_UnknownLoad,k12_GateOpen,k12_GateShut,k12_NotArmed,k12_NoCode,k12_NothingRung,k12_DeadBell,k12_NoChange,k12_NotThere,k12_CageTaken,k12_CageEmpty,k12_NothingDone,k12_BookFull,e13_CageError,k13_UnknownLevel,k13_UnknownLoad,k13_GateOpen,k13_GateShut,k13_NotArmed,k13_NoCode,k13_NothingRung,k13_DeadBell,k13_NoChange,k13_NotThere,k13_CageTaken,k13_CageEmpty,k13_NothingDone,k13_BookFull,e14_CageError,k14_UnknownLevel,k14_UnknownLoad,k14_GateOpen,k14_GateShut,k14_NotArmed,k14_NoCode,k14_NothingRung,k14_DeadBell,k14_NoChange,k14_NotThere,k14_CageTaken,k14_CageEmpty,k14_NothingDone,k14_BookFull,e15_CageError,k15_UnknownLevel,k15_UnknownLoad,k15_GateOpen,k15_GateShut,k15_NotArmed,k15_NoCode,k15_NothingRung,k15_DeadBell,k15_NoChange,k15_NotThere,k15_CageTaken,k15_CageEmpty,k15_NothingDone,k15_BookFull,e16_CageError,k16_UnknownLevel,k16_UnknownLoad,k16_GateOpen,k16_GateShut,k16_NotArmed,k16_NoCode,k16_NothingRung,k16_DeadBell,k16_NoChange,k16_NotThere,k16_CageTaken,k16_CageEmpty,k16_NothingDone,k16_BookFull,e17_CageError,k17_UnknownLevel,k17_UnknownLoad,k17_GateOpen,k17_GateShut,k17_NotArmed,k17_NoCode,k17_NothingRung,k17_DeadBell,k17_NoChange,k17_NotThere,k17_CageTaken,k17_CageEmpty,k17_NothingDone,k17_BookFull,d0,d1,d2,d3,d4,d5,d6,d7,d8,d9,d10,d11,d12,d13,d14,d15,d16,d17,d18,d19,d20,d21,d22,d23,d24,d25,d26,d27,d28,d29,d30,d31,d32,d33,d34,d35,d36,d37,d38,d39,d40,d41,d42,d43,d44,d45,d46,d47,d48,d49,d50,d51,d52,d53,d54,d55,d56,d57,d58,d59,d60,d61,d62,d63,d64,d65,d66,d67,d68,d69,d70,d71,d72,d73,d74,d75,d76,d77,d78,d79,d80,d81,d82,d83,d84,d85,d86,d87,d88,d89,d90,d91,d92⟩:=fx
 obtain ⟨f0,_,b0,F0⟩:=d0
 obtain ⟨f1,_,b1,F1⟩:=d1
 obtain ⟨f2,_,b2,F2⟩:=d2
 obtain ⟨f3,_,b3,F3⟩:=d3
 obtain ⟨f4,_,b4,F4⟩:=d4
 obtain ⟨f5,_,b5,F5⟩:=d5
 obtain ⟨f6,_,b6,F6⟩:=d6
 obtain ⟨f7,_,b7,F7⟩:=d7
 obtain ⟨f8,_,b8,F8⟩:=d8
 obtain ⟨f9,_,b9,F9⟩:=d9
 obtain ⟨f10,_,b10,F10⟩:=d10
 obtain ⟨f11,_,b11,F11⟩:=d11
 obtain ⟨f12,_,b12,F12⟩:=d12
 obtain ⟨f13,_,b13,F13⟩:=d13
 obtain ⟨f14,_,b14,F14⟩:=d14
 obtain ⟨f15,_,b15,F15⟩:=d15
 obtain ⟨f16,_,b16,F16⟩:=d16
 obtain ⟨f17,_,b17,F17⟩:=d17
 obtain ⟨f18,_,b18,F18⟩:=d18
 obtain ⟨f19,_,b19,F19⟩:=d19
 obtain ⟨f20,_,b20,F20⟩:=d20
 obtain ⟨f21,_,b21,F21⟩:=d21
 obtain ⟨f22,_,b22,F22⟩:=d22
 obtain ⟨f23,_,b23,F23⟩:=d23
 obtain ⟨f24,_,b24,F24⟩:=d24
 obtain ⟨f25,_,b25,F25⟩:=d25
 obtain ⟨f26,_,b26,F26⟩:=d26
 obtain ⟨f27,_,b27,F27⟩:=d27
 obtain ⟨f28,_,b28,F28⟩:=d28
 obtain ⟨f29,_,b29,F29⟩:=d29
 obtain ⟨f30,_,b30,F30⟩:=d30
 obtain ⟨f31,_,b31,F31⟩:=d31
 obtain ⟨f32,_,b32,F32⟩:=d32
 obtain ⟨f33,_,b33,F33⟩:=d33
 obtain ⟨f34,_,b34,F34⟩:=d34
 obtain ⟨f35,_,b35,F35⟩:=d35
 obtain ⟨f36,_,b36,F36⟩:=d36
 obtain ⟨f37,_,b37,F37⟩:=d37
 obtain ⟨f38,_,b38,F38⟩:=d38
 obtain ⟨f39,_,b39,F39⟩:=d39
 obtain ⟨f40,_,b40,F40⟩:=d40
 obtain ⟨f41,_,b41,F41⟩:=d41
 obtain ⟨f42,_,b42,F42⟩:=d42
 obtain ⟨f43,_,b43,F43⟩:=d43
 obtain ⟨f44,_,b44,F44⟩:=d44
 obtain ⟨f45,_,b45,F45⟩:=d45
 obtain ⟨f46,_,b46,F46⟩:=d46
 obtain ⟨f47,_,b47,F47⟩:=d47
 obtain ⟨f48,_,b48,F48⟩:=d48
 obtain ⟨f49,_,b49,F49⟩:=d49
 obtain ⟨f50,_,b50,F50⟩:=d50
 obtain ⟨f51,_,b51,F51⟩:=d51
 obtain ⟨f52,_,b52,F52⟩:=d52
 obtain ⟨f53,_,b53,F53⟩:=d53
 obtain ⟨f54,_,b54,F54⟩:=d54
 obtain ⟨f55,_,b55,F55⟩:=d55
 obtain ⟨f56,_,b56,F56⟩:=d56
 obtain ⟨f57,_,b57,F57⟩:=d57
 obtain ⟨f58,_,b58,F58⟩:=d58
 obtain ⟨f59,_,b59,F59⟩:=d59
 obtain ⟨f60,_,b60,F60⟩:=d60
 obtain ⟨f61,_,b61,F61⟩:=d61
 obtain ⟨f62,_,b62,F62⟩:=d62
 obtain ⟨f63,_,b63,F63⟩:=d63
 obtain ⟨f64,_,b64,F64⟩:=d64
 obtain ⟨f65,_,b65,F65⟩:=d65
 obtain ⟨f66,_,b66,F66⟩:=d66
 obtain ⟨f67,_,b67,F67⟩:=d67
 obtain ⟨f68,_,b68,F68⟩:=d68
 obtain ⟨f69,_,b69,F69⟩:=d69
 obtain ⟨f70,_,b70,F70⟩:=d70
 obtain ⟨f71,_,b71,F71⟩:=d71
 obtain ⟨f72,_,b72,F72⟩:=d72
 obtain ⟨f73,_,b73,F73⟩:=d73
 obtain ⟨f74,_,b74,F74⟩:=d74
 obtain ⟨f75,_,b75,F75⟩:=d75
 obtain ⟨f76,_,b76,F76⟩:=d76
 obtain ⟨f77,_,b77,F77⟩:=d77
 obtain ⟨f78,_,b78,F78⟩:=d78
 obtain ⟨f79,_,b79,F79⟩:=d79
 obtain ⟨f80,_,b80,F80⟩:=d80
 obtain ⟨f81,_,b81,F81⟩:=d81
 obtain ⟨f82,_,b82,F82⟩:=d82
 obtain ⟨f83,_,b83,F83⟩:=d83
 obtain ⟨f84,_,b84,F84⟩:=d84
 obtain ⟨f85,_,b85,F85⟩:=d85
 obtain ⟨f86,_,b86,F86⟩:=d86
 obtain ⟨f87,_,b87,F87⟩:=d87
 obtain ⟨f88,_,b88,F88⟩:=d88
 obtain ⟨f89,_,b89,F89⟩:=d89
 obtain ⟨f90,_,b90,F90⟩:=d90
 obtain ⟨f91,_,b91,F91⟩:=d91
 obtain ⟨f92,_,b92,F92⟩:=d92
 have e:=hfa.symm.trans (W.mg_of X G b92)
 cases e
 obtain ⟨oc,od,kV,dc,pm,an,cd,ct,sl,rfl,ll,cc⟩:=F92.ex
 let Z:Adr:=⟨C0,C1,C2,C3,C4,C5,C6,C7,C8,C9,C10,C11,C12,C13,C14,C15,C16,C17,C18,C19,C20,C21,C22,C23,ta_KINDS,ta_CAGE_SPOTS⟩
 refine ⟨Z,W.fnOf "law" "law" (et zN) (cH zN) (ak zN) .none kV dc pm an cd ct,fun s v=>.of_eq rfl,fun base _ _=>?_⟩
 have T:Txt l.prog w K mg base Z:=⟨W.mg_none_of X G z_len,W.mg_none_of X G z_list,W.mg_none_of X G z_enumerate,W.mg_none_of X G z_zip,W.mg_none_of X G z_range,W.mg_none_of X G z_abs,W.mg_none_of X G z_isinstance,W.mg_none_of X G z_tuple,W.mg_none_of X G z_int,W.mg_none_of X G z_str,W.mg_none_of X G z_bool,W.mg_none_of X G z_min,W.mg_none_of X G z_sorted,KI.txt X G n_MOST_LOADS,KI.txt X G n_FEWEST_STROKES,KI.txt X G n_MOST_STROKES,KI.txt X G n_FEWEST_LEVELS,KI.txt X G n_MOST_LEVELS,KI.txt X G n_GREATEST_DEPTH,KI.txt X G n_GREATEST_SPEED,KI.txt X G n_MOST_DEEDS,⟨_,W.mg_of X G n_KINDS,rfl⟩,fun H=>.inr ⟨_,_,_,lt_KINDS,rfl,rfl,(by show 2<=sizeLine;decide),.cons ⟨_,rfl⟩ (.cons ⟨_,rfl⟩ .nil)⟩,⟨_,lt_KINDS,rfl,rfl⟩,⟨_,W.mg_of X G n_CAGE_SPOTS,rfl⟩,fun H=>.inr ⟨_,_,_,lt_CAGE_SPOTS,rfl,rfl,(by show 2<=sizeLine;decide),.cons ⟨_,rfl⟩ (.cons ⟨_,rfl⟩ .nil)⟩,W.mg_of X G m0,W.mg_of X G m1,W.mg_of X G m2,W.mg_of X G m3,W.mg_of X G m4,W.mg_of X G m5,W.mg_of X G m6,W.mg_of X G m7,W.mg_of X G m8,W.mg_of X G m9,W.mg_of X G m10,W.mg_of X G m11,W.mg_of X G m12,W.mg_of X G m13,W.mg_of X G m14,W.mg_of X G m15,W.mg_of X G m16,W.mg_of X G m17,W.mg_of X G m18,W.mg_of X G m19,W.mg_of X G m20,W.mg_of X G m21,W.mg_of X G m22,W.mg_of X G m23,cl19,na19_kinds,na19_where,na19_many,cl20,na20_codes,na20_failed,na20_state,cl21,na21_place,na21_opened,na21_bells,na21_yard,cl22,na22_first,na22_most,na22_rows,cl23,na23_depths,na23_slow,na23_fast,na23_goals,na23_log,(x0 l0).ex,x0 l0,e0_CageError,k0_UnknownLevel,k0_UnknownLoad,k0_GateOpen,k0_GateShut,k0_NotArmed,k0_NoCode,k0_NothingRung,k0_DeadBell,k0_NoChange,k0_NotThere,k0_CageTaken,k0_CageEmpty,k0_NothingDone,k0_BookFull,(x1 l0).ex,x1 l0,e1_CageError,k1_UnknownLevel,k1_UnknownLoad,k1_GateOpen,k1_GateShut,k1_NotArmed,k1_NoCode,k1_NothingRung,k1_DeadBell,k1_NoChange,k1_NotThere,k1_CageTaken,k1_CageEmpty,k1_NothingDone,k1_BookFull,(x2 l0).ex,x2 l0,e2_CageError,k2_UnknownLevel,k2_UnknownLoad,k2_GateOpen,k2_GateShut,k2_NotArmed,k2_NoCode,k2_NothingRung,k2_DeadBell,k2_NoChange,k2_NotThere,k2_CageTaken,k2_CageEmpty,k2_NothingDone,k2_BookFull,(x3 l0).ex,x3 l0,e3_CageError,k3_UnknownLevel,k3_UnknownLoad,k3_GateOpen,k3_GateShut,k3_NotArmed,k3_NoCode,k3_NothingRung,k3_DeadBell,k3_NoChange,k3_NotThere,k3_CageTaken,k3_CageEmpty,k3_NothingDone,k3_BookFull,(x4 l0).ex,x4 l0,e4_CageError,k4_UnknownLevel,k4_UnknownLoad,k4_GateOpen,k4_GateShut,k4_NotArmed,k4_NoCode,k4_NothingRung,k4_DeadBell,k4_NoChange,k4_NotThere,k4_CageTaken,k4_CageEmpty,k4_NothingDone,k4_BookFull,(x5 l0).ex,x5 l0,e5_CageError,k5_UnknownLevel,k5_UnknownLoad,k5_GateOpen,k5_GateShut,k5_NotArmed,k5_NoCode,k5_NothingRung,k5_DeadBell,k5_NoChange,k5_NotThere,k5_CageTaken,k5_CageEmpty,k5_NothingDone,k5_BookFull,(x6 l0).ex,x6 l0,e6_CageError,k6_UnknownLevel,k6_UnknownLoad,k6_GateOpen,k6_GateShut,k6_NotArmed,k6_NoCode,k6_NothingRung,k6_DeadBell,k6_NoChange,k6_NotThere,k6_CageTaken,k6_CageEmpty,k6_NothingDone,k6_BookFull,(x7 l0).ex,x7 l0,e7_CageError,k7_UnknownLevel,k7_UnknownLoad,k7_GateOpen,k7_GateShut,k7_NotArmed,k7_NoCode,k7_NothingRung,k7_DeadBell,k7_NoChange,k7_NotThere,k7_CageTaken,k7_CageEmpty,k7_NothingDone,k7_BookFull,(x8 l0).ex,x8 l0,e8_CageError,k8_UnknownLevel,k8_UnknownLoad,k8_GateOpen,k8_GateShut,k8_NotArmed,k8_NoCode,k8_NothingRung,k8_DeadBell,k8_NoChange,k8_NotThere,k8_CageTaken,k8_CageEmpty,k8_NothingDone,k8_BookFull,(x9 l0).ex,x9 l0,e9_CageError,k9_UnknownLevel,k9_UnknownLoad,k9_GateOpen,k9_GateShut,k9_NotArmed,k9_NoCode,k9_NothingRung,k9_DeadBell,k9_NoChange,k9_NotThere,k9_CageTaken,k9_CageEmpty,k9_NothingDone,k9_BookFull,(x10 l0).ex,x10 l0,e10_CageError,k10_UnknownLevel,k10_UnknownLoad,k10_GateOpen,k10_GateShut,k10_NotArmed,k10_NoCode,k10_NothingRung,k10_DeadBell,k10_NoChange,k10_NotThere,k10_CageTaken,k10_CageEmpty,k10_NothingDone,k10_BookFull,(x11 l0).ex,x11 l0,e11_CageError,k11_UnknownLevel,k11_UnknownLoad,k11_GateOpen,k11_GateShut,k11_NotArmed,k11_NoCode,k11_NothingRung,k11_DeadBell,k11_NoChange,k11_NotThere,k11_CageTaken,k11_CageEmpty,k11_NothingDone,k11_BookFull,(x12 l0).ex,x12 l0,e12_CageError,k12_UnknownLevel,k12_UnknownLoad,k12_GateOpen,k12_GateShut,k12_NotArmed,k12_NoCode,k12_NothingRung,k12_DeadBell,k12_NoChange,k12_NotThere,k12_CageTaken,k12_CageEmpty,k12_NothingDone,k12_BookFull,(x13 l0).ex,x13 l0,e13_CageError,k13_UnknownLevel,k13_UnknownLoad,k13_GateOpen,k13_GateShut,k13_NotArmed,k13_NoCode,k13_NothingRung,k13_DeadBell,k13_NoChange,k13_NotThere,k13_CageTaken,k13_CageEmpty,k13_NothingDone,k13_BookFull,(x14 l0).ex,x14 l0,e14_CageError,k14_UnknownLevel,k14_UnknownLoad,k14_GateOpen,k14_GateShut,k14_NotArmed,k14_NoCode,k14_NothingRung,k14_DeadBell,k14_NoChange,k14_NotThere,k14_CageTaken,k14_CageEmpty,k14_NothingDone,k14_BookFull,(x15 l0).ex,x15 l0,e15_CageError,k15_UnknownLevel,k15_UnknownLoad,k15_GateOpen,k15_GateShut,k15_NotArmed,k15_NoCode,k15_NothingRung,k15_DeadBell,k15_NoChange,k15_NotThere,k15_CageTaken,k15_CageEmpty,k15_NothingDone,k15_BookFull,(x16 l0).ex,x16 l0,e16_CageError,k16_UnknownLevel,k16_UnknownLoad,k16_GateOpen,k16_GateShut,k16_NotArmed,k16_NoCode,k16_NothingRung,k16_DeadBell,k16_NoChange,k16_NotThere,k16_CageTaken,k16_CageEmpty,k16_NothingDone,k16_BookFull,(x17 l0).ex,x17 l0,e17_CageError,k17_UnknownLevel,k17_UnknownLoad,k17_GateOpen,k17_GateShut,k17_NotArmed,k17_NoCode,k17_NothingRung,k17_DeadBell,k17_NoChange,k17_NotThere,k17_CageTaken,k17_CageEmpty,k17_NothingDone,k17_BookFull⟩
 have D0:=KD.mk (W.mg_of X G b0) F0 F0.b2 (EK T)
 have D4:=KN.mk b4 F4 F4.b3 (CN T)
 have D7:=KM.mk cl19 b7 F7 F7.b1 (AZ T)
 have D8:=KM.mk cl19 b8 F8 F8.b2 (yu T)
 have D10:=KM.mk cl19 b10 F10 F10.b1 (uC T)
 have D12:=KD.mk (W.mg_of X G b12) F12 F12.b1 (Ab T)
 have D14:=KN.mk b14 F14 F14.b2 (A1 T)
 have D17:=KM.mk cl20 b17 F17 F17.b1 (yv T)
 have D19:=KM.mk cl20 b19 F19 F19.b1 (A2 T)
 have D22:=KD.mk (W.mg_of X G b22) F22 F22.b1 (yw T)
 have D23:=KD.mk (W.mg_of X G b23) F23 F23.b1 (A3 T)
 have D25:=KD.mk (W.mg_of X G b25) F25 F25.b2 (EL T)
 have D28:=KD.mk (W.mg_of X G b28) F28 F28.b2 (yx T)
 have D29:=KD.mk (W.mg_of X G b29) F29 F29.b2 (A4 T)
 have D30:=KN.mk b30 F30 F30.b5 (xt T)
 have D32:=KN.mk b32 F32 F32.b3 (CO T)
 have D34:=KM.mk cl22 b34 F34 F34.b1 (Ad T)
 have D35:=KM.mk cl22 b35 F35 F35.b1 (EM T)
 have D36:=KM.mk cl22 b36 F36 F36.b1 (Ae T)
 have D37:=KM.mk cl22 b37 F37 F37.b1 (CP T)
 have D63:=KD.mk (W.mg_of X G b63) F63 F63.b2 (MK T)
 have D64:=KD.mk (W.mg_of X G b64) F64 F64.b3 (IV T)
 have D65:=KD.mk (W.mg_of X G b65) F65 F65.b2 (GJ T)
 have D72:=KD.mk (W.mg_of X G b72) F72 F72.b3 (MM T)
 have D73:=KD.mk (W.mg_of X G b73) F73 F73.b3 (IW T)
 have D74:=KD.mk (W.mg_of X G b74) F74 F74.b2 (GK T)
 have D75:=KD.mk (W.mg_of X G b75) F75 F75.b2 (GL T)
 have D76:=KD.mk (W.mg_of X G b76) F76 F76.b1 (GN T)
 have D77:=KD.mk (W.mg_of X G b77) F77 F77.b3 (vZ T)
 have D81:=KD.mk (W.mg_of X G b81) F81 F81.b2 (GO T)
 have D83:=KD.mk (W.mg_of X G b83) F83 F83.b2 (EO T)
 have D90:=KD.mk (W.mg_of X G b90) F90 F90.b2 (A5 T)
 have D1:=KD.mk (W.mg_of X G b1) F1 F1.b2 (Ag T D0)
 have D2:=KD.mk (W.mg_of X G b2) F2 F2.b2 (A6 T D0)
 have D3:=KD.mk (W.mg_of X G b3) F3 F3.b2 (Ah T D0)
 have D13:=KD.mk (W.mg_of X G b13) F13 F13.b2 (Ai T D12)
 have D16:=KM.mk cl20 b16 F16 F16.b2 (yy T D12)
 have D24:=KD.mk (W.mg_of X G b24) F24 F24.b2 (Aj T D23)
 have D33:=KM.mk cl22 b33 F33 F33.b5 (A7 T D35)
 have D48:=KM.mk cl23 b48 F48 F48.b1 (uI T D34)
 have D50:=KM.mk cl23 b50 F50 F50.b2 (sR T D10)
 have D52:=KM.mk cl23 b52 F52 F52.b2 (jG T D36)
 have D53:=KM.mk cl23 b53 F53 F53.b1 (CT T D35)
 have D54:=KM.mk cl23 b54 F54 F54.b1 (A8 T D37)
 have D55:=KM.mk cl23 b55 F55 F55.b1 (yz T D17 D36)
 have D56:=KM.mk cl23 b56 F56 F56.b1 (A9 T D19 D36)
 have D57:=KM.mk cl23 b57 F57 F57.b1 (Ak T D36)
 have D60:=KM.mk cl23 b60 F60 F60.b1 (Al T D7 D36)
 have D61:=KM.mk cl23 b61 F61 F61.b2 (xx T D8 D36)
 have D67:=KD.mk (W.mg_of X G b67) F67 F67.b1 (ER T D64)
 have D68:=KD.mk (W.mg_of X G b68) F68 F68.b2 (GP T D64)
 have D69:=KD.mk (W.mg_of X G b69) F69 F69.b3 (GQ T D64)
 have D78:=KD.mk (W.mg_of X G b78) F78 F78.b3 (v9 T D72)
 have D79:=KD.mk (W.mg_of X G b79) F79 F79.b3 (wa T D72)
 have D82:=KD.mk (W.mg_of X G b82) F82 F82.b3 (Jb T D72 D73 D74 D75 D81)
 have D88:=KD.mk (W.mg_of X G b88) F88 F88.b3 (wc T D72)
 have D89:=KD.mk (W.mg_of X G b89) F89 F89.b3 (we T D72)
 have D5:=KM.mk cl19 b5 F5 F5.b3 (CU T D8 D2)
 have D6:=KM.mk cl19 b6 F6 F6.b3 (ET T D8 D1)
 have D9:=KM.mk cl19 b9 F9 F9.b2 (xA T D1)
 have D11:=KM.mk cl19 b11 F11 F11.b1 (CV T D4)
 have D15:=KM.mk cl20 b15 F15 F15.b3 (Ba T D1)
 have D18:=KM.mk cl20 b18 F18 F18.b2 (Bb T D1)
 have D20:=KM.mk cl20 b20 F20 F20.b3 (CW T D1)
 have D21:=KM.mk cl20 b21 F21 F21.b1 (Bc T D14)
 have D26:=KD.mk (W.mg_of X G b26) F26 F26.b3 (Ao T D24)
 have D27:=KD.mk (W.mg_of X G b27) F27 F27.b2 (EU T D24)
 have D38:=KN.mk b38 F38 F38.b6 (Be T D4 D14 D22 D28 D30 D32 D3 D13)
 have D49:=KM.mk cl23 b49 F49 F49.b4 (Aq T D33 D50 D53)
 have D59:=KM.mk cl23 b59 F59 F59.b2 (qR T D24)
 have D70:=KD.mk (W.mg_of X G b70) F70 F70.b1 (GR T D63 D64 D67 D68)
 have D80:=KD.mk (W.mg_of X G b80) F80 F80.b3 (CY T D77 D78 D79)
 have D91:=KD.mk (W.mg_of X G b91) F91 F91.b3 (Jd T D90 D88 D89)
 have D31:=KM.mk cl21 b31 F31 F31.b1 (xC T D30 D11 D21)
 have D58:=KM.mk cl23 b58 F58 F58.b1 (Ar T D36 D59)
 have D62:=KM.mk cl23 b62 F62 F62.b2 (wq T D36 D9)
 have D71:=KD.mk (W.mg_of X G b71) F71 F71.b2 (GS T D63 D69 D70)
 have D39:=KM.mk cl23 b39 F39 F39.b3 (Bf T D36 D15 D49 D31)
 have D40:=KM.mk cl23 b40 F40 F40.b2 (yA T D36 D16 D49 D31)
 have D41:=KM.mk cl23 b41 F41 F41.b2 (Bg T D36 D18 D49 D31)
 have D44:=KM.mk cl23 b44 F44 F44.b4 (uN T D36 D1 D49 D31)
 have D47:=KM.mk cl23 b47 F47 F47.b4 (Bh T D29 D36 D1 D50 D20 D26 D27 D49 D31)
 have D51:=KM.mk cl23 b51 F51 F51.b2 (wA T D25 D58)
 have D66:=KD.mk (W.mg_of X G b66) F66 F66.b2 (Jh T (W.mg_of X G b66) F66 F66.b2)
 have D42:=KM.mk cl23 b42 F42 F42.b2 (uO T D44)
 have D43:=KM.mk cl23 b43 F43 F43.b2 (uP T D44)
 have D45:=KM.mk cl23 b45 F45 F45.b3 (Bi T D7 D36 D2 D52 D5 D49 D31 D51)
 have D46:=KM.mk cl23 b46 F46 F46.b2 (yB T D8 D36 D52 D6 D49 D31 D51)
 have D87:=KD.mk (W.mg_of X G b87) F87 F87.b4 (Ji T D53 D54 D55 D56 D57 D60 D61 D58 D62 D66)
 have D84:=KD.mk (W.mg_of X G b84) F84 F84.b2 (Jj T D48 D39 D40 D41 D47 D42 D43 D45 D46)
 have D85:=KD.mk (W.mg_of X G b85) F85 F85.b2 (MT T D84)
 have D86:=KD.mk (W.mg_of X G b86) F86 F86.b5 (Jl T D83 D82 D80 D66 D85)
 exact OZ T D65 D76 D38 D91 D71 D87 D86 _ _ F92
theorem Jm {K:WA}{Z:Adr}{H:Hp}{a:Addr}{ns:List Int}(hl:ns.length<=63)(hS:SqL K H a (ns.map V.int)){Q:VK}{E:XK}(q:∀H',Q (.bl true) H'):As K Z [.ref a] H Q E:=⟨a,ns,rfl,hS,hl,q⟩
noncomputable def SPl (K:WA):Sp:=fun vs H Q _=>∃(a:Addr) (ns:List Int),vs=[.ref a]/\SqL K H a (ns.map V.int)/\ns.length<=63/\∀H',Q (.bl true) H'
theorem Qw {l:W.OpenLaw}{q:Program}{loose:List Str}{XP:(Str->Option Value)->Heap->Prop}{YP:World->Heap->Prop}{d:DefRec}{K:Params->WA}(hn:l.most=some 63)(hdf:d.params.defaults=[])
  (hY:∀(w:World) (h:Heap),YP w h->(K w.params).In h)
  (F:∀(w:World) (mg:Str->Option Value) (fa:Addr) (h:Heap),(K w.params).In h->h.Ns mainGlobals mg->mg d.name=some (.ref fa)->
   ∃Z:Adr,∃fd:FuncData,(∀(s:Shared) (u:Value),BindsTo s fd ⟨[u],[]⟩ [("_law_script",u)])/\∀base:Heap,(K w.params).In base->base.Ns mainGlobals mg->gv l.prog w (K w.params) mg base CX0 10 fa fd ["_law_script"] (As (K w.params) Z)) :
  W.WalkO q loose XP YP l.row.toRowW d [] (fun f vs=>PySem.call f vs):=
 L2.LD (n:=63) (k:=10) (x:="_law_script") (CX:=fun _=>CX0) (sp:=fun w=>SPl (K w.params)) hn (by decide) hdf ⟨rfl,by decide,by decide⟩ hY
  (fun w mg fa h a b c=>let ⟨Z,fd,b1,b2⟩:=F w mg fa h a b c;⟨fd,b1,fun base x y=>(b2 base x y).imp fun vs H Q E ⟨a,ns,e,hS,hl,q⟩=>by subst e;exact Jm hl hS q⟩) (fun _ _ a ns hl _ hS=>⟨a,ns,rfl,hS,hl,fun _=>rfl⟩) fun _ _ _ _ _ z=>z
end K32
local macro_rules | `(tactic| walk_at "m_is") => `(tactic| (delta L2.Xm; kts_exm))
local macro_rules | `(tactic| walk_at "h_is") => `(tactic| (delta L2.Kt; kit_is))
local macro_rules | `(tactic| walk_at "n_is") => `(tactic| (delta L2.NI; k_is))
local macro_rules | `(tactic| walk_at "a_is") => `(tactic| (delta L2.bA; k_is))
local macro_rules | `(tactic| walk_at "i_is") => `(tactic| (apply L2.KI.mk; k_is))
local macro_rules | `(tactic| walk_at "c_is") => `(tactic| (apply L2.Cls.mk; iterate 4 k_is))
local macro_rules | `(tactic| walk_at "o_is") => `(tactic| (apply L2.C0I.mk; k_is; exact rfl; k_is; exact rfl; exact rfl))
local macro_rules | `(tactic| walk_at "x_is") => `(tactic| (apply L2.XI.mk; k_is; k_is; exact rfl; exact rfl; k_is; k_is))
local macro_rules | `(tactic| walk_at "d_is") => `(tactic| (apply L2.DI.mk; iterate 4 k_is))
local macro_rules | `(tactic| walk_at "e_is") => `(tactic| (apply L2.MI.mk; iterate 5 k_is))
local macro_rules | `(tactic| walk_at "t_is") => `(tactic| (apply L2.II.mk; iterate 7 k_is))
open PySem PySem.W PyProof.Rows
set_option maxRecDepth 100000 in
set_option maxHeartbeats 0 in
theorem PySem.Challenge.cw_cagebells_k32_whole_every_answer_holds : PySem.Challenge.rw_cagebells_k32_whole_every_answer.Holds := by
 refine hd ?_
 k_fill
 refine K32.Qw (l:=PySem.Challenge.rw_cagebells_k32_whole_every_answer) rfl rfl (fun w h Y=>W.kIn_of Y) ?F
 case F=>
  intro w mg fa h KX G hmg
  apply K32.O0 KX G hmg
  apply K32.Nv.mk
  iterate 13 k_is
  iterate 24 walk_at "n_is"
  iterate 8 walk_at "i_is"
  iterate 4 k_is
  walk_at "c_is"
  iterate 3 walk_at "a_is"
  walk_at "c_is"
  iterate 3 walk_at "a_is"
  walk_at "c_is"
  iterate 4 walk_at "a_is"
  walk_at "c_is"
  iterate 3 walk_at "a_is"
  walk_at "c_is"
  iterate 5 walk_at "a_is"
  walk_at "o_is"
  iterate 18 walk_at "x_is"
  walk_at "m_is"
  iterate 14 walk_at "h_is"
  walk_at "m_is"
  iterate 14 walk_at "h_is"
  walk_at "m_is"
  iterate 14 walk_at "h_is"
  walk_at "m_is"
  iterate 14 walk_at "h_is"
  walk_at "m_is"
  iterate 14 walk_at "h_is"
  walk_at "m_is"
  iterate 14 walk_at "h_is"
  walk_at "m_is"
  iterate 14 walk_at "h_is"
  walk_at "m_is"
  iterate 14 walk_at "h_is"
  walk_at "m_is"
  iterate 14 walk_at "h_is"
  walk_at "m_is"
  iterate 14 walk_at "h_is"
  walk_at "m_is"
  iterate 14 walk_at "h_is"
  walk_at "m_is"
  iterate 14 walk_at "h_is"
  walk_at "m_is"
  iterate 14 walk_at "h_is"
  walk_at "m_is"
  iterate 14 walk_at "h_is"
  walk_at "m_is"
  iterate 14 walk_at "h_is"
  walk_at "m_is"
  iterate 14 walk_at "h_is"
  walk_at "m_is"
  iterate 14 walk_at "h_is"
  walk_at "m_is"
  iterate 14 walk_at "h_is"
  iterate 4 walk_at "d_is"
  walk_at "t_is"
  iterate 7 walk_at "e_is"
  iterate 2 walk_at "d_is"
  walk_at "t_is"
  iterate 7 walk_at "e_is"
  iterate 8 walk_at "d_is"
  walk_at "t_is"
  walk_at "e_is"
  walk_at "t_is"
  iterate 5 walk_at "e_is"
  walk_at "t_is"
  iterate 24 walk_at "e_is"
  iterate 30 walk_at "d_is"
