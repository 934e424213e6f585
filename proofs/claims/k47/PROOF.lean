import PyProof.Rows.All
import OpenK.KLine
import KE.RegKIsAll
import KE.RegKTryMore
import Lean
import PyProof.EqAt
import PyProof.EqKinds
import PyProof.TupleCall
import KE.KTupSum
import KE.KItem
import PySem.Challenge.RW_cagebells_k47_whole_two_works_apart
set_option Elab.async false
set_option linter.all false
set_option maxRecDepth 100000
set_option compiler.extract_closed false
noncomputable abbrev WA:=PySem.W.Frag
theorem WB{α β}{l:List α}(f:α→β):(l.map f).length=l.length:=List.length_map f
namespace PySem.W.Fast
noncomputable abbrev T:=True
theorem t:T:=⟨⟩
def tw4438417478396228384:=t
def tw7118054607924466081:=t
def tw7103901088158463082:=t
def tw8562973070931587703:=t
def tw861502493610598483:=t
def tw1473020252915687041:=t
def tw2329794625582287724:=t
def tw14204761386411717603:=t
def tw13049043944605299518:=t
def tw14865148556353764299:=t
def tw4607664621782217103:=t
def tw7774113678449685934:=t
def tw4885688941381972832:=t
def tw8221011285162254004:=t
def tw13359257691425115219:=t
def tw10321690164698994850:=t
def tw8917917961894373751:=t
def tw13797646191491285992:=t
def tw9721000390032803332:=t
def tw18017129668781235815:=t
def tw17723881924890802966:=t
def tw9023412946914863120:=t
def tw12978664727549452272:=t
def tw6605169337270321112:=t
def tw13137863566704004603:=t
def tw15018716904364860632:=t
def tw14565471765716263578:=t
def tw12145756527313086355:=t
def tw15279809834360698895:=t
def tw6191700953566675008:=t
def tw7353485770183898095:=t
def tw3507769193172341495:=t
def tw14783254181412418846:=t
def tw13872120688422071045:=t
def tw11589282660436910429:=t
def tw9385439782273163706:=t
def tw16945406819829945896:=t
def tw4512776594637900181:=t
def tw15499940227032437249:=t
def tw17047726808428361225:=t
def tw6851275008772768644:=t
def tw13851515409511356469:=t
def tw13343918040275786880:=t
def tw5139147944107052514:=t
def tw13385558918117058561:=t
def tw6594970650091316094:=t
def tw10406584006884427733:=t
def tw9004299641416957276:=t
def tw10368827614151553891:=t
def tw15251835097244881130:=t
def tw561727478393794602:=t
def tw376983999666122830:=t
def tw1736905686312603939:=t
def tw431221854992830470:=t
def tw2466311954974566718:=t
def tw6338894885288841830:=t
def tw16506471722634982818:=t
def tw4413860948169739490:=t
def tw13861322856664149509:=t
def tw8412748745612879247:=t
def tw15805137534098808535:=t
def tw2132029292895624192:=t
def tw8622715204490130888:=t
def tw12884060626414724322:=t
def tw726351398001015727:=t
def tw5171440476677080432:=t
def tw11180800956215176064:=t
def tw11009225556382593827:=t
def tw2875624504187281209:=t
def tw11272164335830466941:=t
def tw13813618637161013713:=t
def tw7403982271040965895:=t
def tw5037459499596335280:=t
def tw5306753302271460952:=t
def tw7985883749528016586:=t
def tw4091352561680426876:=t
def tw11373181179767321252:=t
def tw10624116801336726872:=t
def tw11717715558655726156:=t
def tw9162645422354645296:=t
def tw5459702643516471331:=t
def tw14904287247971174143:=t
def tw3277229846650655979:=t
def tw16103829930404553856:=t
def tw6942634455013318504:=t
def tw14958820412457663293:=t
def tw6973427100653255629:=t
def tw9969077435446430640:=t
def tw2167315655227761912:=t
def tw14617222483516278133:=t
def tw12041797014711123256:=t
def tw15685335758407661847:=t
def tw6128106870883400570:=t
def tw15227483606004533461:=t
def tw577049184839899653:=t
def tw12138319994727072339:=t
def tw8210202977690762169:=t
def tw16217903435359918192:=t
def tw13937768818610491111:=t
def tw9619071485814978506:=t
def tw3945831679567021610:=t
def tw16822532161544500889:=t
def tw2041926188850086339:=t
def tw7181997581385953548:=t
def tw3099597729799864441:=t
def tw4693966885379303072:=t
def tw13669536469129627823:=t
def tw10956520680868813917:=t
def tw6125853113672642322:=t
def tw15401437161963490237:=t
def tw7374399212775623666:=t
def tw14932756227218503593:=t
def tw17339309145561079191:=t
def tw17518593693041627797:=t
def tw10741264400317747893:=t
def tw8535803893964050539:=t
def tw1484650774730072618:=t
def tw11692469974320434101:=t
def tw17680797132471856694:=t
def tw5634867526602368427:=t
def tw2546767868308347339:=t
def tw9646623106273453227:=t
def tw10851082721055443051:=t
def tw5376530373609499990:=t
def tw1835071406663858368:=t
def tw12147665669636231765:=t
def tw12091442091272426231:=t
def tw7164969610272591079:=t
def tw14520296925931582552:=t
def tw1941844328875101383:=t
def tw1599053048872161195:=t
def tw12330612334027959195:=t
def tw2641800013201688601:=t
def tw13861969467909019144:=t
def tw757356599333046425:=t
def tw14569604634059749682:=t
def tw3671519592330383864:=t
def tw7046044490832178742:=t
def tw16140922888777852060:=t
def tw2358075552688931204:=t
def tw1342123614928995077:=t
def tw14727194681476072466:=t
def tw599730875272715187:=t
def tw13484562703626004877:=t
def tw16132249320637822498:=t
def tw4859391219904099992:=t
def tw17980500129456985241:=t
def tw7764699552788554220:=t
def tw8392358500681263680:=t
def tw17348111734160510231:=t
def tw8297923619242306668:=t
def tw5395340147747708899:=t
def tw18310463660012746435:=t
def tw7942791058656714990:=t
def tw13831308528885131752:=t
def tw7478123994339007903:=t
def tw3303267245142563540:=t
def tw4490611911172417597:=t
def tw17184031218471190783:=t
def tw16721508838639397229:=t
def tw8318101203651539667:=t
def tw1922157984580058403:=t
def tw4944497897694004105:=t
def tw16654469307462801742:=t
def tw12901003280762261817:=t
def tw15702583709834301711:=t
def tw2894314189432023629:=t
def tw17963105932079019327:=t
def tw10149570385669482864:=t
def tw2197298608192791410:=t
def tw2629151800749243262:=t
def tw15699961213505342161:=t
def tw6575520176995025181:=t
def tw5816495043963226922:=t
def tw9757595895972200118:=t
def tw2399617604181995578:=t
def tw6607644564249050058:=t
def tw3778530596728393105:=t
def tw1956775160557780875:=t
def tw2392593158011319353:=t
def tw4884199854448574:=t
def tw651700358538967526:=t
def tw9320515035125037321:=t
def tw15326580083554890809:=t
def tw11078473246598507814:=t
def tw17678831435119133177:=t
def tw10297410513487048360:=t
def tw16691165463884887630:=t
def tw6084841979344569690:=t
def tw10295913840692754127:=t
def tw7007286002206832825:=t
def tw15590096980072825465:=t
def tw4189273013823423559:=t
def tw11063759124802658401:=t
def tw4290864757253303354:=t
def tw3953844824629472508:=t
def tw11707130962622978684:=t
def tw17261404542052806724:=t
def tw11863963456291920697:=t
def tw4470585836733325578:=t
def tw13539809779269347639:=t
def tw9215358943560890414:=t
def tw4565167180653195659:=t
def tw7053471978191194526:=t
def tw18384110700954362821:=t
def tw1158361714356455011:=t
def tw2333105410213810865:=t
def tw11308061921803828041:=t
def tw10510019762269167821:=t
def tw3297117884562324255:=t
def tw9317495090193701157:=t
def tw5338801713223979382:=t
def tw13571862603940711859:=t
def tw7538781388859322016:=t
def tw16864618592142003386:=t
def tw1537541725227008683:=t
def tw17271881437230615512:=t
def tw18105302477358141223:=t
def tw542563422162235373:=t
def tw14391293386007564604:=t
def tw463774138113389760:=t
def tw12435058653956393420:=t
def tw16797375974695604193:=t
def tw6508132753307246276:=t
def tw15764947353670896545:=t
def tw16860917588515726111:=t
def tw9104974531708491489:=t
def tw8272569733616993153:=t
def tw13349420017058727143:=t
def tw14594842627406614536:=t
def tw1205604411410820431:=t
def tw786537726763496527:=t
def tw3897268976836264337:=t
def tw17916429707943930468:=t
def tw12843764043397292189:=t
def tw1804834754348979943:=t
def tw9806118890596472461:=t
def tw1630143524128594353:=t
def tw14849461344987154502:=t
def tw12826555694032677247:=t
def tw4334401890000744311:=t
def tw10026605065719503897:=t
def tw17558320327384617127:=t
def tw12669407529647801677:=t
def tw429539710256275620:=t
def tw8115137120850386438:=t
def tw14689541978594310382:=t
def tw8752102160057688731:=t
def tw1402340071739887797:=t
def tw14710976976299594304:=t
def tw12091130801917272685:=t
def tw14785633479632635281:=t
def tw2956708394376553000:=t
def tw2259672571474061568:=t
def tw7766106395892283477:=t
def tw10293081186089767411:=t
def tw13160504802963445071:=t
def tw247591363613054380:=t
def tw8757255369765604158:=t
def tw8646635810480103244:=t
def tw4341293187932698999:=t
def tw8356303796347215682:=t
def tw4267111383703672358:=t
def tw4211115844707057057:=t
def tw16925712312323332580:=t
def tw13465540834166320765:=t
def tw12627051441459223148:=t
def tw4313010194945074917:=t
def tw5221592684559293012:=t
def tw1848955828906020544:=t
def tw2983494736656345032:=t
def tw4971374062829452455:=t
def tw11401859456886640639:=t
def tw2172276787581067923:=t
def tw8047209995159408440:=t
def tw258204147387103276:=t
def tw1866716027138748530:=t
def tw8171798328758944481:=t
def tw18101783494082082527:=t
def tw7921390202802761869:=t
def tw12954591660760965231:=t
def tw13462424878891718212:=t
def tw13082796549270168242:=t
def tw12528533614272120300:=t
def tw5008593111378822452:=t
def tw4683681711962371626:=t
def tw9592300441314626372:=t
def tw13956191218907399338:=t
def tw8865387616306378214:=t
def tw3985964047577975286:=t
def tw9461873434466728008:=t
def tw7422445781565681216:=t
def tw9536688357841153863:=t
def tw8219003486749837733:=t
def tw7424060955962978353:=t
def tw7249310025045793396:=t
def tw6145912378217320015:=t
def tw4548300405975405348:=t
def tw4436474186459923750:=t
def tw3641951560692057861:=t
def tw3042748168174471775:=t
def tw18094105663378112561:=t
def tw17760279517084355780:=t
def tw17590705303994421779:=t
def tw17318462890700432884:=t
def tw14827714588952709054:=t
def tw14760874974797668852:=t
def tw14135006944967825841:=t
def tw1205274952441263945:=t
def tw4757880891971583632:=t
def tw3308634892276815127:=t
def tw11564986514327137767:=t
def tw908480701973217441:=t
def tw18031968618487185184:=t
def tw11566098044289413073:=t
def tw14935467056822913822:=t
def tw17338325484393633139:=t
def tw8733291241859026926:=t
def tw3300257896294614128:=t
def tw10539347186207431242:=t
def tw7322748291113730364:=t
def tw9860861378791804195:=t
def tw87601786513091389:=t
def tw12382822922155266910:=t
def tw12325864989022198202:=t
def tw7770478706760583155:=t
def tw14540961386073393648:=t
def tw14061609134260724683:=t
def tw12936088452001202715:=t
def tw5537553045615171315:=t
def tw3543459598558145280:=t
def tw2941924889016668590:=t
def tw16248296213531012650:=t
def tw15402603294489630176:=t
def tw3239113980409921550:=t
def tw15254633091992210921:=t
def tw9689729476882780088:=t
def tw8002303944043701648:=t
def tw3681537716864247207:=t
def tw8157277791214410489:=t
def tw9972681490609642005:=t
def tw8331849164307833061:=t
def tw18335596039185421423:=t
def tw896239598344801917:=t
def tw11962351593759143498:=t
def tw6690350156832105676:=t
def tw16409965706819354750:=t
def tw4635989785427082552:=t
def tw8997383693586321770:=t
def tw12750670339961964742:=t
def tw2708214617527550399:=t
def tw3235425350174046738:=t
def tw11907897558876765624:=t
def tw8912161614967838395:=t
def tw5890639436620234070:=t
def tw18418582437962087742:=t
def tw18367749455379333440:=t
def tw3721919958574915784:=t
def tw15166322114958858414:=t
def tw1000662321505670351:=t
def tw9456574344343218679:=t
def tw7480016910919988345:=t
def tw5438652380644606353:=t
def tw4408816720484365081:=t
def tw15779231459743154856:=t
def tw13757698761724263525:=t
def tw12772213712371865176:=t
def tw11434409910335936926:=t
def tw9977182230042388008:=t
def tw9879335643197240621:=t
def tw6968137755033780318:=t
def tw6472337539984862722:=t
def tw5702276774652866934:=t
def tw2455152089536381482:=t
def tw2353497105660221152:=t
def tw1979317910248211280:=t
def tw17351735930882485243:=t
def tw16670775579421159206:=t
def tw16120054744476736488:=t
def tw13855379610559885079:=t
def tw12269216009862288129:=t
def tw11429584451438056573:=t
def tw3520257249291928256:=t
def tw5909976876416983842:=t
def tw5725222548895626118:=t
def tw4993863958327201973:=t
def tw4340673293219707767:=t
def tw3604082896382514872:=t
def tw13567515925198824819:=t
def tw10310341975313369176:=t
def tw578191462805490351:=t
def tw987426779421491659:=t
def tw9381626543082597023:=t
def tw14341141199694864594:=t
def tw16522183678017940807:=t
def tw7484994123860896570:=t
def tw16766484511958638138:=t
def tw8232614014015475128:=t
def tw3726453103677007866:=t
def tw15235614512728720:=t
def tw15214748959534726111:=t
def tw14261769069557060686:=t
def tw2576523973992343609:=t
def tw11824586356888161845:=t
def tw14170518179582410385:=t
def tw6128145076113358165:=t
def tw7900394595670775223:=t
def tw4545961482378311905:=t
def tw593343749668468936:=t
def tw5783627655825047438:=t
def tw5467331546851215429:=t
def tw2595585439558603231:=t
def tw14736888041290939073:=t
def tw14537775516033599862:=t
def tw1932759071263863916:=t
def tw938635154573522699:=t
def tw7151132215420815488:=t
def tw10341888390210383824:=t
def tw16053306600634468012:=t
def tw12298192366917762067:=t
def tw15577281813014381367:=t
def tw17852080271459398996:=t
def tw5449563278759341024:=t
def tw8278001386518606062:=t
def tw9223045988441327695:=t
def tw890339118813698166:=t
def tw2773992215795510196:=t
def tw16309811473084048462:=t
def tw15621415185263527259:=t
def tw11076892268299887525:=t
def tw2925816871977632210:=t
def tw86012387029904805:=t
def tw6984818610989830729:=t
def tw3652199383789512132:=t
def tw12315944733273679750:=t
def tw11449968299874610285:=t
def tw10312438410070409164:=t
def tw9947508896943372755:=t
def tw991626836265849350:=t
def tw8212203176049278890:=t
def tw7091221385724896812:=t
def tw6542358382571353910:=t
def tw6327569006664949090:=t
def tw6046103115902281144:=t
def tw5694767641087392711:=t
def tw360634875079729221:=t
def tw3328118118096588273:=t
def tw3198059409981156222:=t
def tw2597523674469684444:=t
def tw2228412568605170491:=t
def tw211337195705725219:=t
def tw1986786360949550309:=t
def tw17659185236578331656:=t
def tw17658959251048325594:=t
def tw15621116118777243554:=t
def tw15481805183316651443:=t
def tw15142666989864626641:=t
def tw14859695947638507448:=t
def tw14847308668706973960:=t
def tw1467881925912835984:=t
def tw14074196154385387334:=t
def tw13851971633180934007:=t
def tw13142635158332540280:=t
def tw12408111787983249662:=t
def tw12396662096508845406:=t
def tw11853640710764476214:=t
def tw11513857634932158529:=t
def tw11368310244458860372:=t
def tw11263768400469242888:=t
def tw866717566613908145:=t
def tw8159993647027272844:=t
def tw6105849179199505303:=t
def tw14219159868682941630:=t
def tw9784134513789038367:=t
def tw28018229315631829:=t
def tw2400638427578300857:=t
def tw2314633323536394700:=t
def tw1956260828630720203:=t
def tw11384182702204212275:=t
def tw574750475667985467:=t
def tw14226173905949225808:=t
def tw1142673529048489019:=t
def tw2692750590507578028:=t
def tw6953138203311097117:=t
def tw9679390387850249182:=t
def tw9387514328989991554:=t
def tw8995945545434573385:=t
def tw5289818103960998278:=t
def tw2135409205425526673:=t
def tw17691633702590694504:=t
def tw14647417624928369756:=t
def tw12960429369202013873:=t
def tw12360917755211006479:=t
def tw11408881796089955267:=t
def tw10958628066121416707:=t
def tw10538165733446703262:=t
def tw10388488172074580225:=t
def tw14904681115217272601:=t
def tw2731476521559533851:=t
def tw523537741815420091:=t
def tw13996866031312336078:=t
def tw9950792792127014553:=t
def tw8285278889055680438:=t
def tw8191318114535113306:=t
def tw5285915839522022235:=t
def tw4607425872040536859:=t
def tw18048741565030583774:=t
def tw15861351967447197489:=t
def tw15418378422589880096:=t
def tw14940998509354871970:=t
def tw13205091638197436094:=t
def tw12652081859355081885:=t
def tw11066385474520676512:=t
def tw1045582712504079209:=t
def tw10387345722656961088:=t
def tw6188973233030003785:=t
def tw18003772858949239459:=t
def tw16607193741793207195:=t
def tw12003660372656728261:=t
def tw9818998656811842119:=t
def tw9496581404884138560:=t
def tw9404705873571188630:=t
def tw7882045510503734624:=t
def tw7792700002687035005:=t
def tw761803264340522177:=t
def tw7372170664606466022:=t
def tw6248682570935725439:=t
def tw6170744672141170255:=t
def tw6060609690816243450:=t
def tw6044648929357246223:=t
def tw5812350808301622050:=t
def tw3344036261162260069:=t
def tw3328811466098603303:=t
def tw2483321941437592071:=t
def tw209982475168477708:=t
def tw1864683662541468164:=t
def tw18073898193381586223:=t
def tw17472340661787783526:=t
def tw17346623794827051843:=t
def tw17267597263503486738:=t
def tw1725486776273817318:=t
def tw1719895430356276633:=t
def tw16003985067176294414:=t
def tw15925456577456769635:=t
def tw15267169705364848929:=t
def tw14782954611325821827:=t
def tw14715273107921467267:=t
def tw14560624547652848805:=t
def tw14172470266813156586:=t
def tw13468011388731342839:=t
def tw10826640976665885199:=t
def tw1062514266329012355:=t
def tw10085292869130188298:=t
def tw6526287140368922620:=t
def tw9363214764283991203:=t
def tw4580019852769339753:=t
def tw9316815775250114193:=t
def tw4323258101793500111:=t
def tw12681666616541194006:=t
def tw12405761042648551022:=t
def tw13265978090383273239:=t
def tw11391943821493960052:=t
def tw12020253756985099128:=t
def tw7592715696027808041:=t
def tw243476719192100926:=t
def tw10479991185640055810:=t
def tw9433028549170029634:=t
def tw9402243437249704421:=t
def tw9399754086935153974:=t
def tw9045458381397004210:=t
def tw8222940686941784037:=t
def tw6714880395473160397:=t
def tw4493901809537577575:=t
def tw354308444213283272:=t
def tw2813801546833155447:=t
def tw18407495941553956032:=t
def tw17016834523296244275:=t
def tw16728255500844073214:=t
def tw16145670418848962200:=t
def tw15627779663793561183:=t
def tw15565715512253457277:=t
def tw15052318979288761249:=t
def tw14036186469904095446:=t
def tw12670982853097334264:=t
def tw12132596417379514657:=t
def tw11481637867367846703:=t
def tw11153475782318119604:=t
def tw10161179621583223854:=t
def tw2034817482908223496:=t
def tw9910136688757260964:=t
def tw8854275682344465072:=t
def tw8282588126930224528:=t
def tw6621635546502472408:=t
def tw4843829748527759242:=t
def tw17689344090056996911:=t
def tw14800370929953404514:=t
def tw12731152576971404446:=t
def tw10627929193734500438:=t
def tw10118262284458037933:=t
def tw5449601097390414333:=t
def tw3110587219445414310:=t
def tw12930229547647579594:=t
def tw10861573186032746274:=t
def tw10374632558016547081:=t
def tw1378205811072252300:=t
def tw11468729153070441980:=t
def tw16151628708876355199:=t
def tw8374155422468719031:=t
def tw16873086082458093902:=t
def tw14404928986312190071:=t
def tw13885670934486923800:=t
def tw11215392098479208961:=t
def tw7557421358154311045:=t
def tw6522051377940421278:=t
def tw17410218998227585676:=t
def tw9744259246892133002:=t
def tw8924819469995637033:=t
def tw8919978131948313185:=t
def tw7217548393331319763:=t
def tw6798380500665416597:=t
def tw622995879521568732:=t
def tw5217270863462422736:=t
def tw3419001889969749887:=t
def tw3238445694619138142:=t
def tw17260811203177919210:=t
def tw14611616552423853409:=t
def tw14454166528178196959:=t
def tw14022695629967993375:=t
def tw13710940844802916613:=t
def tw11524815483048965402:=t
def tw11502921971960690029:=t
def tw11161164713144168021:=t
def tw9201617497623189827:=t
def tw643336161829623379:=t
def tw9919008367099125623:=t
def tw772564365185477556:=t
def tw6858818405166986180:=t
def tw5994696166404524948:=t
def tw5010956058597451964:=t
def tw5002640475654186023:=t
def tw447263597446747957:=t
def tw443766864951011646:=t
def tw3475869608268796686:=t
def tw2950685276103557050:=t
def tw2084650752826471497:=t
def tw1717767836212652739:=t
def tw16682895059504647277:=t
def tw16615150188913437886:=t
def tw16108870410212019532:=t
def tw1495895850433845275:=t
def tw14553807712399142462:=t
def tw13812277999558781770:=t
def tw13421457143807847188:=t
def tw13257283266767686631:=t
def tw12488014758255163090:=t
def tw12459912946257978736:=t
def tw10258873121960336067:=t
def tw9848817304349107530:=t
def tw8760152093665844161:=t
def tw8080008513338510535:=t
def tw5832305185047221409:=t
def tw5444512763150141072:=t
def tw5362036446546632119:=t
def tw4039707410889071942:=t
def tw2403389108928632939:=t
def tw18328257000508772394:=t
def tw15539815450414544023:=t
def tw15173544498738437827:=t
def tw14703100239697439463:=t
def tw13444670453868202053:=t
def tw13367274342830030513:=t
def tw10910644110388302437:=t
def tw11898673842065290130:=t
def tw2483420100392427323:=t
def tw1825952489489211193:=t
def tw16756451883985382160:=t
def tw10510056951384868246:=t
def tw6822071536725586909:=t
def tw446995266069924076:=t
def tw2244103112122482387:=t
def tw1915925776726481438:=t
def tw1708089923452030704:=t
def tw3919386906821981792:=t
def tw7212858340449540239:=t
def tw6356304189028158447:=t
def tw6278996535519779258:=t
def tw6056707288978253535:=t
def tw5665240888008139550:=t
def tw4096438862311573950:=t
def tw3300454383303005205:=t
def tw2570914705882880060:=t
def tw16723463757517087524:=t
def tw16626521671886133394:=t
def tw16279288168775177219:=t
def tw14842496431369740429:=t
def tw14592624751514493413:=t
def tw13953587524928339648:=t
def tw13631397514672939371:=t
def tw13034982811429478159:=t
def tw10698057553749749337:=t
def tw8981176238543900561:=t
def tw8915285831880473931:=t
def tw8834805137890396735:=t
def tw8413399678365625193:=t
def tw8185545411690514434:=t
def tw8060666987683057360:=t
def tw6325675986683464353:=t
def tw5462360663327728810:=t
def tw4903002758410956813:=t
def tw4684226298888400098:=t
def tw4077048163395320219:=t
def tw4026147355466621588:=t
def tw3456351732281881909:=t
def tw2846267367221353805:=t
def tw17877845533520812795:=t
def tw17188069144378779261:=t
def tw1663524305781585820:=t
def tw14811890972901180937:=t
def tw13459084325293418506:=t
def tw12064304430848566033:=t
def tw11107512795663914464:=t
def tw10886659093417053267:=t
def tw9869809959619462935:=t
def tw9461912720999461741:=t
def tw9252304221032618942:=t
def tw9113380124883318265:=t
def tw8950108695139179302:=t
def tw6900931685637148767:=t
def tw6657536258744368796:=t
def tw6597789921013551971:=t
def tw6329614223026926184:=t
def tw6094820017090691545:=t
def tw5388589039460942527:=t
def tw5263133172445716209:=t
def tw5086489192560080304:=t
def tw4766597723019941021:=t
def tw2759284407945088205:=t
def tw256182404569192445:=t
def tw2333531293284704758:=t
def tw18402647697222807634:=t
def tw17137270108147033825:=t
def tw16765560720781731146:=t
def tw16746677531222629524:=t
def tw15932183184989994656:=t
def tw15792790952358468732:=t
def tw15240619367488684849:=t
def tw15036080040530398195:=t
def tw14934011241717051027:=t
def tw14334995849660946996:=t
def tw14294133066467233204:=t
def tw14260533273033392520:=t
def tw14081431093454284249:=t
def tw13298828918039433023:=t
def tw13127508451798649013:=t
def tw13053394406489344094:=t
def tw13037224057902187189:=t
def tw12461081396071149458:=t
def tw12125097214300078407:=t
def tw11512705759438076691:=t
def tw11280630913190679075:=t
def tw11207431853666184334:=t
def tw10859743581388371069:=t
def tw10713865542653931438:=t
def tw10164718903369591474:=t
def tw9931937742245647033:=t
def tw9796564346219866840:=t
def tw977512076041815475:=t
def tw9768418358887946270:=t
def tw9678289623588505577:=t
def tw9630203353718772412:=t
def tw9592521066531166775:=t
def tw9584292182412213727:=t
def tw9530734954097333506:=t
def tw9495317472360511255:=t
def tw9304451534382375720:=t
def tw9197174079833555027:=t
def tw9003107776662980439:=t
def tw896878414759379649:=t
def tw8909772338491405060:=t
def tw8908233856664302321:=t
def tw8833860146974802555:=t
def tw8833496514701923757:=t
def tw8757050672659960515:=t
def tw8739830900816887780:=t
def tw866652123128751154:=t
def tw8565224436197482051:=t
def tw8480184845173159842:=t
def tw8432719020341155521:=t
def tw8431482922422412695:=t
def tw8428246938381088814:=t
def tw8274446707539698164:=t
def tw8006371003960147343:=t
def tw7998583776865276027:=t
def tw7943549864190904611:=t
def tw7873786274422454737:=t
def tw7873748247521183178:=t
def tw7867829370405329436:=t
def tw7837367980739423823:=t
def tw7828442866392281868:=t
def tw7787813539459594420:=t
def tw7607420049574824106:=t
def tw7520747337044880989:=t
def tw7509565986652818475:=t
def tw7501186508268903616:=t
def tw7485256538410118956:=t
def tw7350462372000428638:=t
def tw727553628536289456:=t
def tw7220529860990300233:=t
def tw7086961617601330827:=t
def tw7050804516273991350:=t
def tw6880980288501444468:=t
def tw6828597562223498359:=t
def tw6782663255696616371:=t
def tw6751970477201280107:=t
def tw6701911527682315725:=t
def tw6651725471809605288:=t
def tw6557801498797044033:=t
def tw6549852094080907030:=t
def tw6548459193220583526:=t
def tw6469784823511061222:=t
def tw6408400580700104982:=t
def tw6331431999304432861:=t
def tw6259241058660970061:=t
def tw6229817132586351632:=t
def tw6216382948874008006:=t
def tw6208910965292489261:=t
def tw6194202620331982285:=t
def tw6172094611929405055:=t
def tw6124413428159637790:=t
def tw609457278022895560:=t
def tw6030501089693204938:=t
def tw5992840812097835891:=t
def tw5953359166732830163:=t
def tw5874822333441161849:=t
def tw5805800948307579973:=t
def tw5667099127317398114:=t
def tw5662061979359257339:=t
def tw5649666937502919571:=t
def tw5622701340561072331:=t
def tw5515903443438498500:=t
def tw5498123283257192965:=t
def tw5483103596317574428:=t
def tw547895379624588593:=t
def tw5404398260228975080:=t
def tw539538531456391632:=t
def tw5344687154915797982:=t
def tw5342471268416680606:=t
def tw5341297951324810720:=t
def tw5322009542560784348:=t
def tw5274481202262711730:=t
def tw5233118043267047457:=t
def tw514280064592716601:=t
def tw5137589814051832496:=t
def tw5101696844757716304:=t
def tw5072417060200589145:=t
def tw5000232492035539693:=t
def tw4946147512530127568:=t
def tw4938610541543285704:=t
def tw4906484309439969231:=t
def tw4860023922305330110:=t
def tw4858918184162951299:=t
def tw4773484457636388862:=t
def tw4772062507164038959:=t
def tw4734895289157585001:=t
def tw4704452742865826424:=t
def tw4600438763894957952:=t
def tw4561898282857576226:=t
def tw4547051000311932777:=t
def tw4524658085876675188:=t
def tw4517560463748656503:=t
def tw4483904966330829159:=t
def tw4449799235075362730:=t
def tw4449297822257671152:=t
def tw4382473104129494423:=t
def tw4321966507151631593:=t
def tw4309217394794523951:=t
def tw4186743451310774866:=t
def tw4171853373547519906:=t
def tw4075453323654395381:=t
def tw4063829332388037331:=t
def tw4051853165826885262:=t
def tw384561282630992784:=t
def tw3831019782443316194:=t
def tw3801850119919557013:=t
def tw3676754643040562684:=t
def tw3581434408401558974:=t
def tw3436067635600285980:=t
def tw3433779192033484610:=t
def tw3382625519597670723:=t
def tw3374319085511977134:=t
def tw3365755272349913518:=t
def tw3350206127114907401:=t
def tw3270257207059953099:=t
def tw3233987462203235646:=t
def tw306047672372848657:=t
def tw2997492091776894028:=t
def tw2997480634906808460:=t
def tw2990168724187919761:=t
def tw2983127059725616120:=t
def tw296083027919845158:=t
end PySem.W.Fast
section
open PySem PySem.W PyProof.Rows
set_option maxHeartbeats 0 in
open_top hd for PySem.Challenge.rw_cagebells_k47_whole_two_works_apart
end
set_option Elab.async false
set_option linter.all false
set_option maxRecDepth 100000
namespace L2
open PySem PySem.Spec PyProof.Rows
noncomputable abbrev Key:=Sum Int Str
noncomputable def G9:Key->Value->Bool
 | .inl k,v=>Value.isInt k v
 | .inr x,v=>Value.isStrOf x v
noncomputable def KZ (w:World):Key->Int
 | .inl k=>hashInt k
 | .inr x=>hashStr w x
theorem cW:∀{k:Key} {v:Value},G9 k v=true->(∃i t,k=Sum.inl i/\v=Value.int i t)\/(∃x t,k=Sum.inr x/\v=Value.str x t)
 | .inl i,v,h=>by
  obtain ⟨t,e⟩:=Value.isInt_shape (k:=i) (v:=v) h
  exact .inl ⟨i,t,rfl,e⟩
 | .inr x,v,h=>by
  obtain ⟨t,e⟩:=Value.isStrOf_shape (x:=x) (v:=v) h
  exact .inr ⟨x,t,rfl,e⟩
theorem Ic (a b:Int):decide ((Sum.inl a:Key)=Sum.inl b)=(a == b):=by
 by_cases e:a=b
 ·subst e;simp
 ·have h:¬(Sum.inl a:Key)=Sum.inl b:=fun q=>e (Sum.inl.inj q)
  rw [decide_eq_false h]
  exact (beq_eq_false_iff_ne.mpr e).symm
theorem Ie (a b:Str):decide ((Sum.inr a:Key)=Sum.inr b)=decide (a=b):=by
 by_cases e:a=b
 ·subst e;simp
 ·have h:¬(Sum.inr a:Key)=Sum.inr b:=fun q=>e (Sum.inr.inj q)
  rw [decide_eq_false h,decide_eq_false e]
theorem Ig (a:Int)(b:Str):decide ((Sum.inl a:Key)=Sum.inr b)=false:=decide_eq_false (fun q=>nomatch q)
theorem Ih (a:Str)(b:Int):decide ((Sum.inr a:Key)=Sum.inl b)=false:=decide_eq_false (fun q=>nomatch q)
noncomputable def xH (prog:Program)(w:World):PySem.KeyKind prog w Key where
 is:=G9
 hash:=KZ w
 inj:=fun v a b ha hb=>by
  rcases cW ha with ⟨i,t,rfl,rfl⟩ | ⟨x,t,rfl,rfl⟩
  ·rcases cW hb with ⟨j,u,rfl,e⟩ | ⟨y,u,rfl,e⟩
   ·injection e with e1 _;rw [e1]
   ·exact nomatch e
  ·rcases cW hb with ⟨j,u,rfl,e⟩ | ⟨y,u,rfl,e⟩
   ·exact nomatch e
   ·injection e with e1 _;rw [e1]
 byValue:=fun k v h=>by
  rcases cW h with ⟨i,t,rfl,rfl⟩ | ⟨x,t,rfl,rfl⟩<;>rfl
 pyHash:=fun hv h=>by
  rcases cW hv with ⟨i,t,rfl,rfl⟩ | ⟨x,t,rfl,rfl⟩
  ·exact wpAny_pyHash_int h
  ·exact wpAny_pyHash_str h
 eqBool:=fun hu hv h=>by
  rcases cW hu with ⟨i,t,rfl,rfl⟩ | ⟨x,t,rfl,rfl⟩
  ·rcases cW hv with ⟨j,u,rfl,rfl⟩ | ⟨y,u,rfl,rfl⟩
   ·rw [Ic] at h;exact wpAny_eqBool_int h
   ·rw [Ig] at h;exact SeqAt.EqAt.int_str i t y u _ _ _ _ h
  ·rcases cW hv with ⟨j,u,rfl,rfl⟩ | ⟨y,u,rfl,rfl⟩
   ·rw [Ih] at h;exact SeqAt.EqAt.str_int x t j u _ _ _ _ h
   ·rw [Ie] at h;exact wpAny_eqBool_str h
 «strs»:=fun k x t v h=>by
  rcases cW h with ⟨i,u,rfl,e⟩ | ⟨y,u,rfl,e⟩
  ·exact nomatch e
  ·injection e with e1 _
   subst e1
   cases v<;>rfl
inductive V where
 | non | bl (b:Bool) | int (i:Int) | str (x:Str) | byt (b:Array UInt8) | flt (b:UInt64) | ref (a:Addr) | ty (n:String)
 deriving DecidableEq
noncomputable def bI:V->Value->Prop
 | .non,u=>u=Value.none
 | .bl b,u=>u=Value.bool b
 | .int i,u=>∃t,u=Value.int i t
 | .str x,u=>∃t,u=Value.str x t
 | .byt b,u=>∃t,u=Value.bytes b t
 | .flt b,u=>∃t,u=Value.float b t
 | .ref a,u=>u=Value.ref a
 | .ty n,u=>u=Value.type n
noncomputable abbrev bz:List V->List Value->Prop:=Paired bI
theorem bz.length {xs:List V}{us:List Value}(r:bz xs us):xs.length=us.length:=Paired.length r
theorem bz.get:∀{xs:List V} {us:List Value} {i:Nat} {x:V},bz xs us->xs[i]?=some x->∃u,us[i]?=some u/\bI x u
 | _,_,_,_,.nil,e=>by simp at e
 | _,_,0,_,.cons r _,e=>by simp at e;subst e;exact ⟨_,rfl,r⟩
 | _,_,i+1,x,.cons _ t,e=>by
  obtain ⟨u,h1,h2⟩:=bz.get (i:=i) (x:=x) t (by simpa using e)
  exact ⟨u,by simpa using h1,h2⟩
theorem bz.set {x:V}{u:Value}(r:bI x u):∀{xs:List V} {us:List Value} (i:Nat),bz xs us->bz (xs.set i x) (us.set i u)
 | _,_,_,.nil=>.nil
 | _,_,0,.cons _ t=>.cons r t
 | _,_,i+1,.cons q t=>.cons q (bz.set r i t)
theorem bz.append:∀{xs ys:List V} {us ws:List Value},bz xs us->bz ys ws->bz (xs++ys) (us++ws)
 | _,_,_,_,.nil,s=>s
 | _,_,_,_,.cons r t,s=>.cons r (bz.append t s)
theorem bz.take:∀{xs:List V} {us:List Value} (n:Nat),bz xs us->bz (xs.take n) (us.take n)
 | _,_,0,_=>.nil
 | _,_,_+1,.nil=>.nil
 | _,_,n+1,.cons r t=>.cons r (bz.take n t)
theorem bz.drop:∀{xs:List V} {us:List Value} (n:Nat),bz xs us->bz (xs.drop n) (us.drop n)
 | _,_,0,r=>r
 | _,_,_+1,.nil=>.nil
 | _,_,n+1,.cons _ t=>bz.drop n t
noncomputable def vL:Option V->Option Value->Prop
 | some v,some u=>bI v u
 | none,none=>True
 | _,_=>False
noncomputable def KV {κ:Type}:List (κ×V)->List (κ×Value)->Prop:=Paired fun (p:κ×V) (q:κ×Value)=>p.1=q.1/\bI p.2 q.2
noncomputable def kV:Key->V
 | .inl i=>.int i
 | .inr x=>.str x
inductive HO where
 | lst (xs:List V)
 | tup (xs:List V)
 | dK (kvs:List (Key×V)) | dT (kvs:List (List Key×V))
 | set (S:Int->Bool) (n:Nat)
 | ins (C dx:Addr) (fs:List (Str×V))
 | own (x:Addr)
 | xd (fs:List (Str×V))
 | met (f x:Addr)
 | rng (lo hi:Int)
 | frz (o:Obj) (u:HO)
 | tbl (ps:Array Value)
 | ext (φ:Heap->Prop)
noncomputable abbrev Hp:=Addr->Option HO
noncomputable def upd (H:Hp)(a:Addr)(o:HO):Hp:=fun b=>if b=a then some o else H b
theorem ag {H:Hp}{a:Addr}{o:HO}:upd H a o a=some o:=by unfold upd;rw [if_pos rfl]
theorem aK {H:Hp}{a b:Addr}{o:HO}(h:b≠a):upd H a o b=H b:=by unfold upd;rw [if_neg h]
theorem Fl {H:Hp}{a:Addr}{o u:HO}:upd (upd H a o) a u=upd H a u:=by
 funext b;unfold upd;split<;>rfl
theorem ai {H:Hp}{a b:Addr}{o:HO}(h:H a=some o)(h':H b=none):a≠b:=by
 intro e;subst e;rw [h] at h';cases h'
def hZ (h:Heap)(a:Addr)(items:Array Value):Prop:=∃o,h.get? a=some o/\(o.cls=.type "tuple"/\∃n,o.data=.seq items n)/\o.dict=none
theorem hZ.tup {h:Heap}{a:Addr}{items:Array Value}(x:hZ h a items):IsTup h a items:=let ⟨o,e,c,_⟩:=x;⟨o,e,c⟩
theorem hZ.lt {h:Heap}{a:Addr}{items:Array Value}(x:hZ h a items):a < h.objs.size:=let ⟨_,e,_⟩:=x;Heap.lt_size e
theorem hZ.new (h:Heap)(items:Array Value):hZ (h.push {cls:=.type "tuple",data:=.seq items}) h.objs.size items:=⟨_,Heap.get?_push_size _ rfl,⟨rfl,_,rfl⟩,rfl⟩
section
variable (P:Program)(w:World)
noncomputable def fh (H:Hp)(h:Heap)(a:Addr):HO->Prop
 | .lst xs=>xs.length<=sizeLine/\∃(its:List Value) (n:Nat),bz xs its/\h.get? a=some {cls:=.type "list",data:=.seq its.toArray n}
 | .tup xs=>xs.length<=sizeLine/\∃its:List Value,bz xs its/\hZ h a its.toArray
 | .dK kvs=>kvs.length<=sizeLine/\(a == sysModules)=false/\∃vs,KV kvs vs/\h.DictOf (xH P w) a vs
 | .dT kvs=>kvs.length<=sizeLine/\(a == sysModules)=false/\∃xs:List (List Key×Addr×Value),
   Paired (fun (p:List Key×V) (q:List Key×Addr×Value)=>p.1=q.1/\H q.2.1=some (.tup (p.1.map kV))/\bI p.2 q.2.2) kvs xs/\
   ∃o es ep,h.get? a=some o/\o.ExactDict/\o.data=.dict es ep/\es.toList=xs.map (entryOfKey (tupleKind (xH P w)))/\(xs.map (·.1)).Nodup
 | .set S n=>h.SetOf (intKind P w) a S n
 | .ins C dx fs=>H dx=some (.own a)/\fs.length<=1000/\dx≠a/\h.get? a=some (W.instObj C dx)/\
   ∃mA,h.Ns1 dx mA/\(∀f,vL (fs.lookup f) (mA f))/\PySem.Within mA (fs.map (·.1))
 | .own _=>∃o,h.get? a=some o
 | .xd fs=>∃mA,h.Ns1 a mA/\∀f,vL (fs.lookup f) (mA f)
 | .rng lo hi=>∃t u v,h.get? a=some {cls:=.type "range",data:=.fields #[.int lo t,.int hi u,.int 1 v]}
 | .frz o u=>h.get? a=some o/\fh H h a u
 | .tbl ps=>h.get? a=some {cls:=.none,data:=.fields ps}
 | .met f x=>h.get? a=some (W.methodObj (.ref f) (.ref x))
 | .ext φ=>φ h/\(∃o,h.get? a=some o)/\∀h1 h2:Heap,φ h1->(∀o,h1.get? a=some o->h2.get? a=some o)->φ h2
def HOk (H:Hp)(h:Heap):Prop:=∀a o,H a=some o->fh P w H h a o
end
section
variable {P:Program}{w:World}{H H':Hp}{h h':Heap}{a:Addr}{o:HO}
theorem fh.lt (x:fh P w H h a o):a < h.objs.size:=by
 cases o with
 | lst xs=>obtain ⟨_,_,_,_,e⟩:=x;exact Heap.lt_size e
 | tup xs=>obtain ⟨_,_,_,p⟩:=x;exact p.lt
 | dK kvs=>obtain ⟨_,_,_,_,o,_,_,e,_⟩:=x;exact Heap.lt_size e
 | dT kvs=>obtain ⟨_,_,_,_,o,_,_,e,_⟩:=x;exact Heap.lt_size e
 | set S n=>obtain ⟨o,_,_,_,e,_⟩:=x;exact Heap.lt_size e
 | ins C dx fs=>obtain ⟨_,_,_,e,_⟩:=x;exact Heap.lt_size e
 | own y=>obtain ⟨_,e⟩:=x;exact Heap.lt_size e
 | xd fs=>obtain ⟨_,⟨_,_,_,e,_⟩,_⟩:=x;exact Heap.lt_size e
 | rng lo hi=>obtain ⟨_,_,_,e⟩:=x;exact Heap.lt_size e
 | frz ob u=>obtain ⟨e,_⟩:=x;exact Heap.lt_size e
 | tbl ps=>exact Heap.lt_size (show h.get? a=some _ from x)
 | met f y=>exact Heap.lt_size (show h.get? a=some _ from x)
 | ext φ=>obtain ⟨_,⟨_,e⟩,_⟩:=x;exact Heap.lt_size e
theorem Paired.mapP {α β:Type}{F G:α->β->Prop}:∀{l₁:List α} {l₂:List β},Paired F l₁ l₂->(∀a b,F a b->G a b)->Paired G l₁ l₂
 | _,_,.nil,_=>.nil
 | _,_,.cons r t,f=>.cons (f _ _ r) (Paired.mapP t f)
theorem fh.stay (x:fh P w H h a o)(k:∀b u,(b=a\/H b=some (.own a))->h.get? b=some u->h'.get? b=some u)
  (ho:∀b,H b=some (.own a)->H' b=some (.own a)) (ht:∀b xs,H b=some (.tup xs)->H' b=some (.tup xs)):fh P w H' h' a o:=by
 induction o with
 | lst xs=>obtain ⟨z,its,n,r,e⟩:=x;exact ⟨z,its,n,r,k _ _ (.inl rfl) e⟩
 | tup xs=>obtain ⟨z,its,r,ob,e,c⟩:=x;exact ⟨z,its,r,ob,k _ _ (.inl rfl) e,c⟩
 | dK kvs=>obtain ⟨z,y,vs,r,ob,es,ep,e,c⟩:=x;exact ⟨z,y,vs,r,ob,es,ep,k _ _ (.inl rfl) e,c⟩
 | dT kvs=>
  obtain ⟨z,y,xs,r,ob,es,ep,e,c⟩:=x
  exact ⟨z,y,xs,Paired.mapP r fun p q z=>⟨z.1,ht _ _ z.2.1,z.2.2⟩,ob,es,ep,k _ _ (.inl rfl) e,c⟩
 | set S n=>obtain ⟨ob,es,ep,t,e,c⟩:=x;exact ⟨ob,es,ep,t,k _ _ (.inl rfl) e,c⟩
 | ins C dx fs=>
  obtain ⟨d,z,ne,e,mA,⟨od,es,ep,e2,c⟩,r⟩:=x
  exact ⟨ho _ d,z,ne,k _ _ (.inl rfl) e,mA,⟨od,es,ep,k _ _ (.inr d) e2,c⟩,r⟩
 | own y=>obtain ⟨ob,e⟩:=x;exact ⟨ob,k _ _ (.inl rfl) e⟩
 | xd fs=>obtain ⟨mA,⟨od,es,ep,e,c⟩,r⟩:=x;exact ⟨mA,⟨od,es,ep,k _ _ (.inl rfl) e,c⟩,r⟩
 | rng lo hi=>obtain ⟨t,u,v,e⟩:=x;exact ⟨t,u,v,k _ _ (.inl rfl) e⟩
 | frz ob u ih=>obtain ⟨e,q⟩:=x;exact ⟨k _ _ (.inl rfl) e,ih q⟩
 | tbl ps=>
  have e:h.get? a=some {cls:=.none,data:=.fields ps}:=x
  show h'.get? a=some {cls:=.none,data:=.fields ps}
  exact k a _ (.inl rfl) e
 | met f y=>
  have e:h.get? a=some (W.methodObj (.ref f) (.ref y)):=x
  show h'.get? a=some (W.methodObj (.ref f) (.ref y))
  exact k a _ (.inl rfl) e
 | ext φ=>obtain ⟨p,⟨o,e⟩,st⟩:=x;exact ⟨st _ _ p fun o q=>k _ _ (.inl rfl) q,⟨o,k _ _ (.inl rfl) e⟩,st⟩
theorem HOk.lt (x:HOk P w H h)(e:H a=some o):a < h.objs.size:=(x a o e).lt
theorem HOk.fresh (x:HOk P w H h)(e:h.objs.size<=a):H a=none:=by
 cases q:H a with
 | none=>rfl
 | some u=>exact absurd (Nat.lt_of_lt_of_le (x.lt q) e) (Nat.lt_irrefl _)
theorem HOk.kept (x:HOk P w H h)(k:∀b u,h.get? b=some u->h'.get? b=some u):HOk P w H h':=fun a o e=>
 (x a o e).stay (fun b u _ q=>k b u q) (fun _ q=>q) fun _ _ q=>q
theorem HOk.laid (x:HOk P w H h)(k:∀b u,h.get? b=some u->h'.get? b=some u)(hp:h.objs.size<=a)(new:fh P w (upd H a o) h' a o):HOk P w (upd H a o) h':=fun b u e=>by
 have hn:=x.fresh hp
 by_cases hb:b=a
 ·subst hb;rw [ag] at e;cases e;exact new
 ·rw [aK hb] at e
  exact (x b u e).stay (fun c v _ q=>k c v q) (fun c q=>by rw [aK (ai q hn)];exact q) fun c xs q=>by rw [aK (ai q hn)];exact q
end
def Rd (H:Hp)(a:Addr)(u:HO):Prop:=H a=some u\/∃o,H a=some (.frz o u)
theorem Rd.ok {P:Program}{w:World}{H:Hp}{h:Heap}{a:Addr}{u:HO}(r:Rd H a u)(x:HOk P w H h):fh P w H h a u:=by
 rcases r with r | ⟨o,r⟩
 ·exact x a u r
 ·obtain ⟨_,q⟩:=x a _ r
  exact q
noncomputable def Mut:Option HO->Prop
 | some (.lst _)=>True
 | some (.dK _)=>True
 | some (.dT _)=>True
 | some (.set _ _)=>True
 | some (.ins _ _ _)=>True
 | some (.ext _)=>True
 | _=>False
section
variable {P:Program}{w:World}{H:Hp}{h h':Heap}{x e:Addr}{o':HO}
theorem HOk.write (ok:HOk P w H h)(mu:Mut (H x))(he:e=x\/H e=some (.own x))(k:∀b u,b≠e->h.get? b=some u->h'.get? b=some u)(heo:∃u,h'.get? e=some u)
  (new:fh P w (upd H x o') h' x o'):HOk P w (upd H x o') h':=fun b u q=>by
 have nown:∀c y,H c=some (.own y)->c≠x:=fun c y r z=>by subst z;rw [r] at mu;exact mu
 have ntup:∀c xs,H c=some (.tup xs)->c≠x:=fun c xs r z=>by subst z;rw [r] at mu;exact mu
 by_cases hb:b=x
 ·subst hb;rw [ag] at q;cases q;exact new
 ·rw [aK hb] at q
  by_cases hbe:b=e
  ·have q':H b=some (.own x):=by
    rcases he with z | z
    ·exact absurd (hbe.trans z) hb
    ·rw [hbe];exact z
   rw [q] at q';cases q'
   obtain ⟨v,hv⟩:=heo
   exact ⟨v,by rw [hbe];exact hv⟩
  ·refine (ok b u q).stay (fun c v hc r=>k c v ?_ r) (fun c r=>by rw [aK (nown c b r)];exact r) fun c xs r=>by rw [aK (ntup c xs r)];exact r
   rcases hc with rfl | hc
   ·exact hbe
   ·rintro rfl
    rcases he with z | z
    ·exact nown c b hc z
    ·rw [hc] at z;cases z;exact hb rfl
end
structure Un (fs ex:List Addr)(H H':Hp)(h h':Heap):Prop where
 keep:∀b o,h.get? b=some o->H b=none->b∉fs->b∉ex->h'.get? b=some o
 slot:∀b o,h.get? b=some o->H b=none->b∈fs->b∉ex->∃sl,h'.get? b=some {o with slots:=sl}
 free:∀b o,h.get? b=some o->H b=none->b∉ex->H' b=none
 there:∀b o,h.get? b=some o->b∉ex->∃o',h'.get? b=some o'
 tups:∀b xs,H b=some (.tup xs)->H' b=some (.tup xs)
 frzs:∀b o u,H b=some (.frz o u)->H' b=some (.frz o u)
 tbls:∀b ps,H b=some (.tbl ps)->∃more,H' b=some (.tbl (ps++more))
section
variable {fs fs' ex ex':List Addr}{H H1 H2:Hp}{h h1 h2 h':Heap}{a x e:Addr}{o:HO}
theorem Un.any (u:Un fs ex H H1 h h1){b:Addr}{ob:Obj}(q:h.get? b=some ob)(n:H b=none)(hx:b∉ex):∃sl,h1.get? b=some {ob with slots:=sl}:=by
 by_cases hb:b∈fs
 ·exact u.slot b ob q n hb hx
 ·exact ⟨ob.slots,u.keep b ob q n hb hx⟩
theorem Un.kept (k:∀b u,h.get? b=some u->h'.get? b=some u):Un fs ex H H h h':=
 ⟨fun b ob q _ _ _=>k b ob q,fun b ob q _ _ _=>⟨ob.slots,k b ob q⟩,fun _ _ _ n _=>n,fun b ob q _=>⟨ob,k b ob q⟩,fun _ _ q=>q,fun _ _ _ q=>q,fun _ ps q=>⟨#[],by rw [q];simp⟩⟩
theorem Un.refl:Un fs ex H H h h:=Un.kept fun _ _ q=>q
theorem Un.laid (k:∀b u,h.get? b=some u->h'.get? b=some u)(hp:h.objs.size<=a)(hn:H a=none):Un fs ex H (upd H a o) h h' where
 keep:=fun b u q _ _ _=>k b u q
 slot:=fun b u q _ _ _=>⟨u.slots,k b u q⟩
 free:=fun b u q n _=>by rw [aK (Nat.ne_of_lt (Nat.lt_of_lt_of_le (Heap.lt_size q) hp))];exact n
 there:=fun b u q _=>⟨u,k b u q⟩
 tups:=fun b xs q=>by rw [aK (ai q hn)];exact q
 frzs:=fun b u xs q=>by rw [aK (ai q hn)];exact q
 tbls:=fun b ps q=>⟨#[],by rw [aK (ai q hn),q];simp⟩
theorem Un.write (mu:Mut (H x))(he:e=x\/H e=some (.own x))(k:∀b u,b≠e->h.get? b=some u->h'.get? b=some u)(heo:∃u,h'.get? e=some u):Un fs ex H (upd H x o) h h':=by
 have hx:∀b,H b=none->b≠x:=fun b n z=>by subst z;rw [n] at mu;exact mu
 have hb:∀b,H b=none->b≠e:=fun b n z=>by
  subst z
  rcases he with r | r
  ·exact hx b n r
  ·rw [n] at r;cases r
 have hm:∀b u,H b=some u->¬Mut (some u)->b≠x:=fun b u q nm z=>by subst z;rw [q] at mu;exact nm mu
 refine ⟨fun b u q n _ _=>k b u (hb b n) q,fun b u q n _ _=>⟨u.slots,k b u (hb b n) q⟩,fun b u q n _=>by rw [aK (hx b n)];exact n,fun b u q _=>?_,
  fun b xs q=>by rw [aK (hm b _ q fun z=>z)];exact q,fun b u xs q=>by rw [aK (hm b _ q fun z=>z)];exact q,fun b ps q=>⟨#[],by rw [aK (hm b _ q fun z=>z),q];simp⟩⟩
 by_cases hbe:b=e
 ·subst hbe;exact heo
 ·exact ⟨u,k b u hbe q⟩
end
noncomputable def trk (h:Heap)(H:Hp):List Addr:=(List.range h.objs.size).filter fun a=>(H a).isSome
noncomputable def xI (h:Heap)(H:Hp):Heap:=W.hideAll h (trk h H)
theorem B8 (h:Heap)(H:Hp):(xI h H).objs.size=h.objs.size:=W.hideAll_size _ _
theorem Dk {h:Heap}{H:Hp}{b:Addr}{o:Obj}(e:h.get? b=some o)(n:H b=none):(xI h H).get? b=some o:=
 W.hideAll_get _ e fun hm=>by
  have q:(H b).isSome=true:=(List.mem_filter.mp hm).2
  rw [n] at q;simp at q
theorem Fm {h:Heap}{H:Hp}{b:Addr}{o:Obj}(e:(xI h H).get? b=some o):h.get? b=some o/\H b=none:=by
 have e':h.get? b=some o:=W.of_hideAll (trk h H) e
 refine ⟨e',?_⟩
 cases q:H b with
 | none=>rfl
 | some x=>
  have hm:b∈trk h H:=List.mem_filter.mpr ⟨List.mem_range.mpr (Heap.lt_size e'),by simp [q]⟩
  have z:(xI h H).get? b=none:=W.hideAll_none (trk h H) hm
  rw [z] at e;cases e
noncomputable def Fn (g h:Heap)(L:Addr):List (Addr×Obj):=(List.range h.objs.size).filterMap fun a=>if a=L\/(g.get? a).isSome=true then none else (h.get? a).map fun o=>(a,o)
noncomputable def qP (g h:Heap)(L d:Addr):List (Addr×Obj):=(Fn g h L).filter fun p=>decide (p.1≠d)
structure Mod (K:WA)(mg:Str->Option Value)(base:Heap):Prop where
 kin:K.In base
 glob:base.Ns mainGlobals mg
 blt:∃mb,base.Ns builtinsNs mb/\∀x:Str,x≠"__name__"->mb x=bootBuiltins x
 nolimit:base.NoLimit
structure Cx where
 prog:Program
 w:World
 K:WA
 mg:Str->Option Value
 base:Heap
 A:Around
 N:List Str
 s₀:Shared
 H₀:Hp
 env:Env
 outer:List Env
 stack:List Env
 ex:List Addr
 fn:Str->Bool
 calm:Bool
 pn:List (Addr×Obj)
 xe:Value->Shared->Prop
noncomputable def frs (l:List Env):List Addr:=l.filterMap (·.frame)
noncomputable abbrev Cx.fs (X:Cx):List Addr:=frs X.outer
def Vis (sc:Scope)(x:Str):Prop:=sc.names.lookup x=some .local\/sc.names.lookup x=some .cell\/sc.names.lookup x=some .free
def Loc (sc:Scope)(x:Str):Prop:=sc.names.lookup x=some .local\/sc.names.lookup x=some .cell
def K1 (env:Env)(h:Heap)(m:Str->Option Value)(x:Str)(u:Value):Prop:=
 (env.kindOf x=some .local/\m x=some u)\/((env.kindOf x=some .cell\/env.kindOf x=some .free)/\∃c,env.cells.lookup x=some c/\h.IsCell c (some u))
structure Cx.Ok (X:Cx):Prop where
 mod:Mod X.K X.mg X.base
 kind:X.env.scope.kind=.function
 glob:X.env.globals=mainGlobals
 blt:X.env.builtins=builtinsNs
 above:X.s₀.heap.objs.size<=X.env.locals
 inj:∀x y c,X.env.cells.lookup x=some c->X.env.cells.lookup y=some c->x=y
 has:∀x,(X.env.kindOf x=some .cell\/X.env.kindOf x=some .free)->∃c,X.env.cells.lookup x=some c
 cab:∀x c,X.fn x=true->X.env.cells.lookup x=some c->X.s₀.heap.objs.size<=c
 hd:X.calm=true->X.A.handled=none
 frames:X.A.frames=some X.stack
 stk:X.stack=X.outer\/(X.stack=X.env::X.outer/\X.env.frame=some X.env.locals)
 exf:∀b∈X.ex,b≠X.env.locals/\∀x c,X.env.cells.lookup x=some c->c≠b
 bs:∀b o,X.base.get? b=some o->X.s₀.heap.get? b=some o/\X.H₀ b=none
 bsz:X.base.objs.size<=X.s₀.heap.objs.size
 noex:∀b o,X.base.get? b=some o->b∉X.ex
 exfs:∀b∈X.ex,b∉X.fs
 funs:X.s₀.heap.FunFrames X.base X.outer
 frf:∀b∈X.fs,X.H₀ b=none
structure Inv (X:Cx)(pins:List (Addr×Obj))(σ:List (Option V))(H:Hp)(s:Shared):Prop where
 ok:X.Ok
 os:s.os=X.s₀.os
 bare:AllBare s.gens
 base:Un X.fs X.ex X.H₀ H X.s₀.heap s.heap
 loc:∃m,s.heap.Ns X.env.locals m/\∀(i:Nat) (x:Str) (v:V),X.N[i]?=some x->σ[i]?=some (some v)->Vis X.env.scope x->∃u,bI v u/\K1 X.env s.heap m x u
 cell:∀x c,X.env.cells.lookup x=some c->∃v,s.heap.IsCell c v
 free:H X.env.locals=none
 freeC:∀x c,X.env.cells.lookup x=some c->H c=none
 pin:∀p∈X.pn++pins,s.heap.get? p.1=some p.2/\H p.1=none/\p.1≠X.env.locals/\p.1∉X.fs/\∀v,p.2.data≠.cell v
 hok:HOk X.prog X.w H s.heap
 len:σ.length=X.N.length
section
variable {X:Cx}{pins:List (Addr×Obj)}{σ:List (Option V)}{H H':Hp}{s:Shared}{h':Heap}
theorem Cx.Ok.nofr (ok:X.Ok){b:Addr}{o:Obj}(e:X.base.get? b=some o):b∉X.fs:=fun hb=>by
 have:=(ok.funs.mem hb).1
 rw [e] at this;cases this
theorem Inv.bs (I:Inv X pins σ H s):∀b o,X.base.get? b=some o->s.heap.get? b=some o/\H b=none:=fun b o e=>
 ⟨I.base.keep b o (I.ok.bs b o e).1 (I.ok.bs b o e).2 (I.ok.nofr e) (I.ok.noex b o e),I.base.free b o (I.ok.bs b o e).1 (I.ok.bs b o e).2 (I.ok.noex b o e)⟩
theorem Inv.bk (I:Inv X pins σ H s):∀b o,X.base.get? b=some o->s.heap.get? b=some o:=fun b o e=>(I.bs b o e).1
theorem Inv.mod (I:Inv X pins σ H s):Mod X.K X.mg X.base:=I.ok.mod
theorem Inv.kIn (I:Inv X pins σ H s):X.K.In s.heap:=I.ok.mod.kin.keeps I.bk
theorem Inv.fr (I:Inv X pins σ H s):∃m,Fr X.base X.env.locals s.heap m:=
 let ⟨m,hn,_⟩:=I.loc
 ⟨m,hn,I.bk,Nat.le_trans I.ok.bsz I.ok.above⟩
theorem Inv.lt (I:Inv X pins σ H s):X.env.locals < s.heap.objs.size:=let ⟨_,hn,_⟩:=I.loc;hn.lt
theorem Inv.sz (I:Inv X pins σ H s):X.s₀.heap.objs.size<=s.heap.objs.size:=Nat.le_trans I.ok.above (Nat.le_of_lt I.lt)
theorem Inv.nofs (I:Inv X pins σ H s){a:Addr}(h:s.heap.objs.size<=a):a∉X.fs:=fun hb=>by
 obtain ⟨_,o,ho,_⟩:=I.ok.funs.mem hb
 exact absurd (Nat.lt_of_lt_of_le (Heap.lt_size ho) (Nat.le_trans I.sz h)) (Nat.lt_irrefl _)
theorem Inv.cne (I:Inv X pins σ H s):∀x c,X.env.cells.lookup x=some c->c≠X.env.locals:=fun x c e z=>by
 obtain ⟨v,o,ho,hd⟩:=I.cell x c e
 obtain ⟨m,⟨o',es,ep,ho',hd',_⟩,_⟩:=I.loc
 rw [z,ho'] at ho;cases ho;rw [hd'] at hd;cases hd
theorem Inv.funs (I:Inv X pins σ H s):s.heap.FunFrames X.base X.outer:=by
 have all:∀(l:List Env),(∀b∈frs l,b∈X.fs)->X.s₀.heap.FunFrames X.base l->s.heap.FunFrames X.base l:=by
  intro l
  induction l with
  | nil=>intro _ _;trivial
  | cons env r ih=>
   intro hs hl
   obtain ⟨hk,⟨L,o,hf,hn,ho,hd⟩,hr⟩:=hl
   have hL:L∈X.fs:=hs L (by unfold frs;rw [List.filterMap_cons,hf];exact List.mem_cons_self)
   obtain ⟨sl,e⟩:=I.base.slot L o ho (I.ok.frf L hL) hL fun z=>I.ok.exfs L z hL
   exact ⟨hk,⟨L,_,hf,hn,e,hd⟩,ih (fun b hb=>hs b (by unfold frs;rw [List.filterMap_cons,hf];exact List.mem_cons_of_mem _ hb)) hr⟩
 exact all X.outer (fun _ hb=>hb) I.ok.funs
theorem Inv.stack (I:Inv X pins σ H s):s.heap.FunFrames X.base X.stack:=by
 rcases I.ok.stk with e | ⟨e,hf⟩
 ·rw [e];exact I.funs
 ·rw [e]
  obtain ⟨m,hn,_⟩:=I.loc
  refine .cons (by rw [I.ok.kind];decide) hf hn ?_ I.funs
  exact Heap.get?_none_of_le (Nat.le_trans I.ok.bsz I.ok.above)
theorem Inv.stkSub (I:Inv X pins σ H s):∀b∈frs X.stack,b∈X.env.locals::X.fs:=fun b hb=>by
 rcases I.ok.stk with e | ⟨e,hf⟩
 ·rw [e] at hb;exact List.mem_cons_of_mem _ hb
 ·rw [e] at hb
  unfold frs at hb
  rw [List.filterMap_cons,hf] at hb
  exact hb
theorem Inv.stkFree (I:Inv X pins σ H s):∀b∈frs X.stack,H b=none:=fun b hb=>by
 rcases List.mem_cons.mp (I.stkSub b hb) with e | hb
 ·rw [e];exact I.free
 ·obtain ⟨_,o,ho,_⟩:=I.ok.funs.mem hb
  exact I.base.free b o ho (I.ok.frf b hb) fun z=>I.ok.exfs b z hb
theorem Inv.step {g':Array GenState}{t':Nat}{d':Drawn}{ch:List Addr}(I:Inv X pins σ H s)
  (hch:∀b∈ch,(b∈X.ex\/X.s₀.heap.objs.size<=b)/\b≠X.env.locals/\(∀x c,X.env.cells.lookup x=some c->c≠b)/\∀p∈X.pn++pins,p.1≠b)
  (keep:∀b o,b≠X.env.locals->b∉X.fs->b∉ch->s.heap.get? b=some o->H b=none->h'.get? b=some o)
  (slot:∀b o,b≠X.env.locals->b∈X.fs->b∉ch->s.heap.get? b=some o->H b=none->∃sl,h'.get? b=some {o with slots:=sl}) (free:∀b o,b∉ch->s.heap.get? b=some o->H b=none->H' b=none)
  (there:∀b o,b∉ch->s.heap.get? b=some o->∃o',h'.get? b=some o')
  (tups:∀b xs,H b=some (.tup xs)->H' b=some (.tup xs)) (frzs:∀b o u,H b=some (.frz o u)->H' b=some (.frz o u)) (tbls:∀b ps,H b=some (.tbl ps)->∃more,H' b=some (.tbl (ps++more)))
  (ns:∀m,s.heap.Ns X.env.locals m->h'.Ns X.env.locals m) (hok:HOk X.prog X.w H' h') (hg:AllBare g') :
  Inv X pins σ H' {s with heap:=h',gens:=g',drawn:=d',toks:=t'}:=by
 have neL:∀b o,X.s₀.heap.get? b=some o->b≠X.env.locals:=fun b o e=>Nat.ne_of_lt (Nat.lt_of_lt_of_le (Heap.lt_size e) I.ok.above)
 have neC:∀b o,X.s₀.heap.get? b=some o->b∉X.ex->b∉ch:=fun b o e hx hb=>by
  rcases (hch b hb).1 with z | z
  ·exact hx z
  ·exact absurd (Nat.lt_of_lt_of_le (Heap.lt_size e) z) (Nat.lt_irrefl _)
 have cellK:∀x c,X.env.cells.lookup x=some c->∀v,s.heap.IsCell c v->h'.IsCell c v:=fun x c e v ⟨o,ho,hd⟩=>by
  have nch:c∉ch:=fun z=>(hch c z).2.2.1 x c e rfl
  by_cases hc:c∈X.fs
  ·obtain ⟨sl,q⟩:=slot c o (I.cne x c e) hc nch ho (I.freeC x c e)
   exact ⟨_,q,hd⟩
  ·exact ⟨o,keep c o (I.cne x c e) hc nch ho (I.freeC x c e),hd⟩
 refine ⟨I.ok,I.os,hg,⟨fun b o e n hb hx=>?_,fun b o e n hb hx=>?_,fun b o e n hx=>?_,fun b o e hx=>?_,fun b xs e=>tups b xs (I.base.tups b xs e),fun b o xs e=>frzs b o xs (I.base.frzs b o xs e),fun b ps e=>?_⟩,?_,fun x c e=>?_,?_,fun x c e=>?_,fun p hp=>?_,hok,I.len⟩
 ·exact keep b o (neL b o e) hb (neC b o e hx) (I.base.keep b o e n hb hx) (I.base.free b o e n hx)
 ·obtain ⟨sl,e1⟩:=I.base.slot b o e n hb hx
  obtain ⟨sl',e2⟩:=slot b _ (neL b o e) hb (neC b o e hx) e1 (I.base.free b o e n hx)
  exact ⟨sl',e2⟩
 ·obtain ⟨o',e1⟩:=I.base.there b o e hx
  exact free b o' (neC b o e hx) e1 (I.base.free b o e n hx)
 ·obtain ⟨o',e1⟩:=I.base.there b o e hx
  exact there b o' (neC b o e hx) e1
 ·obtain ⟨m1,e1⟩:=I.base.tbls b ps e
  obtain ⟨m2,e2⟩:=tbls b _ e1
  exact ⟨m1++m2,by rw [e2,Array.append_assoc]⟩
 ·obtain ⟨m,hn,hl⟩:=I.loc
  refine ⟨m,ns m hn,fun i x v e1 e2 e3=>?_⟩
  obtain ⟨u,r,l⟩:=hl i x v e1 e2 e3
  refine ⟨u,r,?_⟩
  rcases l with l | ⟨k,c,e,z⟩
  ·exact .inl l
  ·exact .inr ⟨k,c,e,cellK x c e _ z⟩
 ·obtain ⟨v,z⟩:=I.cell x c e
  exact ⟨v,cellK x c e v z⟩
 ·obtain ⟨m,⟨o,_,_,ho,_⟩,_⟩:=I.loc
  exact free _ o (fun z=>(hch _ z).2.1 rfl) ho I.free
 ·obtain ⟨v,o,ho,hd⟩:=I.cell x c e
  exact free c o (fun z=>(hch c z).2.2.1 x c e rfl) ho (I.freeC x c e)
 ·obtain ⟨e,n,ne,nf,d⟩:=I.pin p hp
  have nch:p.1∉ch:=fun z=>(hch p.1 z).2.2.2 p hp rfl
  exact ⟨keep p.1 p.2 ne nf nch e n,free p.1 p.2 nch e n,ne,nf,d⟩
theorem Inv.un {t':Nat}(I:Inv X pins σ H s)(u:Un X.fs [] H H' s.heap h')(hok:HOk X.prog X.w H' h'):Inv X pins σ H' {s with heap:=h',toks:=t'}:=by
 obtain ⟨m,⟨o,es,ep,ho,r⟩,_⟩:=id I.loc
 obtain ⟨sl,hL⟩:=u.any ho I.free (by simp)
 exact I.step (g':=s.gens) (d':=s.drawn) (ch:=[]) (fun _ z=>nomatch z) (fun b o _ hb _ e n=>u.keep b o e n hb (by simp)) (fun b o _ hb _ e n=>u.slot b o e n hb (by simp)) (fun b o _ e n=>u.free b o e n (by simp)) (fun b o _ e=>u.there b o e (by simp)) u.tups u.frzs u.tbls (fun m' hm=>by
  obtain ⟨o',es',ep',ho',r'⟩:=hm
  rw [ho] at ho';cases ho'
  exact ⟨_,es',ep',hL,r'⟩) hok I.bare
theorem Inv.call {g':Array GenState}{t':Nat}{d':Drawn}{ch:List Addr}(I:Inv X pins σ H s)(u:Un (frs X.stack) ch H H' s.heap h')(hok:HOk X.prog X.w H' h')(hg:AllBare g')
  (hch:∀b∈ch,(b∈X.ex\/X.s₀.heap.objs.size<=b)/\b≠X.env.locals/\(∀x c,X.env.cells.lookup x=some c->c≠b)/\∀p∈X.pn++pins,p.1≠b) :
  Inv X pins σ H' {s with heap:=h',gens:=g',drawn:=d',toks:=t'}:=by
 obtain ⟨m,⟨o,es,ep,ho,r⟩,_⟩:=id I.loc
 obtain ⟨sl,hL⟩:=u.any ho I.free fun z=>(hch _ z).2.1 rfl
 exact I.step (ch:=ch) hch (fun b o hL hb hc e n=>u.keep b o e n (fun z=>(List.mem_cons.mp (I.stkSub b z)).elim hL hb) hc) (fun b o _ _ hc e n=>u.any e n hc) (fun b o hc e n=>u.free b o e n hc) (fun b o hc e=>u.there b o e hc) u.tups u.frzs u.tbls (fun m' hm=>by
  obtain ⟨o',es',ep',ho',r'⟩:=hm
  rw [ho] at ho';cases ho'
  exact ⟨_,es',ep',hL,r'⟩) hok hg
theorem Inv.turned {t':Nat}{it:Addr}(I:Inv X pins σ H s)(k:∀b o,b≠it->s.heap.get? b=some o->h'.get? b=some o)(hn:H it=none)(hL:it≠X.env.locals)
  (h1:it∈X.ex\/X.s₀.heap.objs.size<=it) (h2:∀x c,X.env.cells.lookup x=some c->c≠it) (h3:∀p∈X.pn++pins,p.1≠it):Inv X pins σ H {s with heap:=h',toks:=t'}:=by
 have nit:∀b u,H b=some u->b≠it:=fun b u e z=>by rw [z,hn] at e;cases e
 refine I.step (g':=s.gens) (d':=s.drawn) (ch:=[it]) (fun b hb=>?_) (fun b o _ _ hc e _=>k b o (fun z=>hc (by simp [z])) e) (fun b o _ _ hc e _=>⟨o.slots,k b o (fun z=>hc (by simp [z])) e⟩) (fun _ _ _ _ n=>n)
  (fun b o hc e=>⟨o,k b o (fun z=>hc (by simp [z])) e⟩) (fun _ _ e=>e) (fun _ _ _ e=>e) (fun b ps e=>⟨#[],by rw [e];simp⟩) (fun m hm=>?_) (fun b u e=>?_) I.bare
 ·have e:b=it:=by simpa using hb
  subst e
  exact ⟨h1,hL,h2,h3⟩
 ·obtain ⟨o,es,ep,ho,r⟩:=hm
  exact ⟨o,es,ep,k _ o (Ne.symm hL) ho,r⟩
 ·refine (I.hok b u e).stay (fun c v hc q=>k c v ?_ q) (fun _ q=>q) fun _ _ q=>q
  rcases hc with z | z
  ·rw [z];exact nit b u e
  ·exact nit c _ z
theorem Inv.tok (I:Inv X pins σ H s)(t:Nat):Inv X pins σ H {s with toks:=t}:=I.un (h':=s.heap) (t':=t) Un.refl I.hok
theorem Inv.kept {t':Nat}(I:Inv X pins σ H s)(k:∀b u,s.heap.get? b=some u->h'.get? b=some u):Inv X pins σ H {s with heap:=h',toks:=t'}:=I.un (Un.kept k) (I.hok.kept k)
theorem Inv.laid {a:Addr}{o:HO}{t':Nat}(I:Inv X pins σ H s)(k:∀b u,s.heap.get? b=some u->h'.get? b=some u)(hp:s.heap.objs.size<=a)(new:fh X.prog X.w (upd H a o) h' a o) :
  Inv X pins σ (upd H a o) {s with heap:=h',toks:=t'}:=I.un (Un.laid k hp (I.hok.fresh hp)) (I.hok.laid k hp new)
theorem Inv.write {x e:Addr}{o:HO}{t':Nat}(I:Inv X pins σ H s)(mu:Mut (H x))(he:e=x\/H e=some (.own x))(k:∀b u,b≠e->s.heap.get? b=some u->h'.get? b=some u)(heo:∃u,h'.get? e=some u)
  (new:fh X.prog X.w (upd H x o) h' x o):Inv X pins σ (upd H x o) {s with heap:=h',toks:=t'}:=I.un (Un.write mu he k heo) (I.hok.write mu he k heo new)
theorem Inv.weak {σ':List (Option V)}(I:Inv X pins σ H s)(hl:σ'.length=σ.length)(w:∀(i:Nat) v,σ'[i]?=some (some v)->σ[i]?=some (some v)):Inv X pins σ' H s:=
 ⟨I.ok,I.os,I.bare,I.base,let ⟨m,hn,hl'⟩:=I.loc;⟨m,hn,fun i x v e1 e2 e3=>hl' i x v e1 (w i v e2) e3⟩,I.cell,I.free,I.freeC,I.pin,I.hok,hl.trans I.len⟩
theorem Inv.pins_of {pins':List (Addr×Obj)}(I:Inv X pins σ H s)(h:∀p∈pins',s.heap.get? p.1=some p.2/\H p.1=none/\p.1≠X.env.locals/\p.1∉X.fs/\∀v,p.2.data≠.cell v):Inv X pins' σ H s:=
 ⟨I.ok,I.os,I.bare,I.base,I.loc,I.cell,I.free,I.freeC,fun p hp=>(List.mem_append.mp hp).elim (fun z=>I.pin p (List.mem_append_left _ z)) (h p),I.hok,I.len⟩
theorem yC {N:List Str}(hN:N.Nodup){i j:Nat}{x:Str}(a:N[i]?=some x)(b:N[j]?=some x):i=j:=by
 obtain ⟨h1,e1⟩:=List.getElem?_eq_some_iff.mp a
 obtain ⟨h2,e2⟩:=List.getElem?_eq_some_iff.mp b
 exact (List.getElem_inj hN).mp (e1.trans e2.symm)
theorem qQ {M:Model}{A:Around}{E:Value->Shared->Prop}{i:Nat}{x:Str}{v:V}{u:Value}{Q:Unit->Shared->Prop}(I:Inv X pins σ H s)(hN:X.N.Nodup)(hi:X.N[i]?=some x)(hx:Loc X.env.scope x)(r:bI v u)
  (h:∀s',Inv X pins (σ.set i (some v)) H s'->(∃a,Heap.SameBut a s.heap s'.heap/\(a=X.env.locals\/X.env.cells.lookup x=some a))->Q () s') (hf:X.fn x=true\/X.env.scope.names.lookup x=some .local:=by first | exact .inl rfl | exact .inr rfl | assumption):wpAny M A (storeName X.env x u) Q E s:=by
 obtain ⟨m,hn,hl⟩:=id I.loc
 have hcls:(X.env.scope.kind == .class || (X.env.scope.kind == .module && X.env.locals != X.env.globals))=false:=by rw [I.ok.kind];rfl
 have hiσ:i < σ.length:=by rw [I.len];exact (List.getElem?_eq_some_iff.mp hi).1
 have cne:=I.cne
 have tracked:∀{a:Addr} {h':Heap},(∃o,s.heap.get? a=some o/\H a=none)->Heap.SameBut a s.heap h'->HOk X.prog X.w H h':=fun {a h'} ha hs b ob e=>by
  obtain ⟨_,_,hfree⟩:=ha
  refine (I.hok b ob e).stay (fun c w' hc q=>(hs.2 c ?_).trans q) (fun _ q=>q) fun _ _ q=>q
  rintro rfl
  rcases hc with rfl | hc
  ·rw [hfree] at e;cases e
  ·rw [hfree] at hc;cases hc
 rcases hx with hk | hk
 ·refine wpAny_storeName_local hk hn (fun h' hn' hs=>?_) hcls
  obtain ⟨oL,_,_,hoL,_⟩:=id hn
  refine h _ ⟨I.ok,I.os,I.bare,⟨fun b o e n hb hx=>?_,fun b o e n hb hx=>?_,I.base.free,fun b o e hx=>?_,I.base.tups,I.base.frzs,I.base.tbls⟩,⟨_,hn',fun j y v' e1 e2 e3=>?_⟩,fun y c e=>?_,I.free,I.freeC,fun p hp=>?_,tracked ⟨oL,hoL,I.free⟩ hs,by simpa using I.len⟩ ⟨_,hs,.inl rfl⟩
  ·exact (hs.2 b (Nat.ne_of_lt (Nat.lt_of_lt_of_le (Heap.lt_size e) I.ok.above))).trans (I.base.keep b o e n hb hx)
  ·obtain ⟨sl,e1⟩:=I.base.slot b o e n hb hx
   exact ⟨sl,(hs.2 b (Nat.ne_of_lt (Nat.lt_of_lt_of_le (Heap.lt_size e) I.ok.above))).trans e1⟩
  ·obtain ⟨o',e1⟩:=I.base.there b o e hx
   exact ⟨o',(hs.2 b (Nat.ne_of_lt (Nat.lt_of_lt_of_le (Heap.lt_size e) I.ok.above))).trans e1⟩
  ·by_cases hj:j=i
   ·subst hj
    rw [hi] at e1;cases e1
    rw [List.getElem?_set_self hiσ] at e2
    cases e2
    exact ⟨u,r,.inl ⟨hk,by simp⟩⟩
   ·rw [List.getElem?_set_ne (Ne.symm hj)] at e2
    obtain ⟨u',r',q⟩:=hl j y v' e1 e2 e3
    refine ⟨u',r',?_⟩
    rcases q with ⟨k,e⟩ | ⟨k,c,e,z⟩
    ·refine .inl ⟨k,?_⟩
     have:y≠x:=fun e=>hj (yC hN e1 (e▸hi))
     simp [this,e]
    ·exact .inr ⟨k,c,e,z.sameBut hs (cne y c e)⟩
  ·obtain ⟨w',z⟩:=I.cell y c e
   exact ⟨w',z.sameBut hs (cne y c e)⟩
  ·obtain ⟨e,n,ne,nf,d⟩:=I.pin p hp
   exact ⟨(hs.2 p.1 ne).trans e,n,ne,nf,d⟩
 ·have hfn:X.fn x=true:=by
   rcases hf with z | z
   ·exact z
   ·rw [z] at hk;cases hk
  obtain ⟨c,hc⟩:=I.ok.has x (.inl hk)
  obtain ⟨w',z⟩:=I.cell x c hc
  refine wpAny_storeName_cell I.ok.kind hk hc z (fun h' hc' hs=>?_)
  obtain ⟨oc,hoc,hocd⟩:=id z
  refine h {s with heap:=h'} ⟨I.ok,I.os,I.bare,⟨fun b o e n hb hx=>?_,fun b o e n hb hx=>?_,I.base.free,fun b o e hx=>?_,I.base.tups,I.base.frzs,I.base.tbls⟩,⟨m,hn.sameBut hs (Ne.symm (cne x c hc)),fun j y v' e1 e2 e3=>?_⟩,fun y c' e=>?_,I.free,I.freeC,fun p hp=>?_,tracked ⟨oc,hoc,I.freeC x c hc⟩ hs,by simpa using I.len⟩ ⟨c,hs,.inr hc⟩
  ·exact (hs.2 b (Nat.ne_of_lt (Nat.lt_of_lt_of_le (Heap.lt_size e) (I.ok.cab x c hfn hc)))).trans (I.base.keep b o e n hb hx)
  ·obtain ⟨sl,e1⟩:=I.base.slot b o e n hb hx
   exact ⟨sl,(hs.2 b (Nat.ne_of_lt (Nat.lt_of_lt_of_le (Heap.lt_size e) (I.ok.cab x c hfn hc)))).trans e1⟩
  ·obtain ⟨o',e1⟩:=I.base.there b o e hx
   exact ⟨o',(hs.2 b (Nat.ne_of_lt (Nat.lt_of_lt_of_le (Heap.lt_size e) (I.ok.cab x c hfn hc)))).trans e1⟩
  ·by_cases hj:j=i
   ·subst hj
    rw [hi] at e1;cases e1
    rw [List.getElem?_set_self hiσ] at e2
    cases e2
    exact ⟨u,r,.inr ⟨.inl hk,c,hc,hc'⟩⟩
   ·rw [List.getElem?_set_ne (Ne.symm hj)] at e2
    obtain ⟨u',r',q⟩:=hl j y v' e1 e2 e3
    refine ⟨u',r',?_⟩
    rcases q with q | ⟨k,c',e,z'⟩
    ·exact .inl q
    ·refine .inr ⟨k,c',e,z'.sameBut hs ?_⟩
     rintro rfl
     exact hj (yC hN e1 (I.ok.inj _ _ _ e hc▸hi))
  ·by_cases hcc:c'=c
   ·subst hcc;exact ⟨_,hc'⟩
   ·obtain ⟨w2,z2⟩:=I.cell y c' e
    exact ⟨w2,z2.sameBut hs hcc⟩
  ·obtain ⟨e,n,ne,nf,d⟩:=I.pin p hp
   refine ⟨(hs.2 p.1 ?_).trans e,n,ne,nf,d⟩
   intro q
   rw [q,hoc] at e
   have q':oc=p.2:=Option.some.inj e
   exact d w' (by rw [←q'];exact hocd)
theorem ph {M:Model}{A:Around}{E:Value->Shared->Prop}{i:Nat}{x:Str}{v:V}{u:Value}{Q:Unit->Shared->Prop}(I:Inv X pins σ H s)(hN:X.N.Nodup)(hi:X.N[i]?=some x)(hx:Loc X.env.scope x)(r:bI v u)
  (h:∀s',Inv X pins (σ.set i (some v)) H s'->Q () s') (hf:X.fn x=true\/X.env.scope.names.lookup x=some .local:=by first | exact .inl rfl | exact .inr rfl | assumption):wpAny M A (storeName X.env x u) Q E s:=
 qQ I hN hi hx r (fun s' I' _=>h s' I') hf
theorem Inv.call' {s':Shared}{ch:List Addr}(I:Inv X pins σ H s)(ho:s'.os=s.os)(u:Un (frs X.stack) ch H H' s.heap s'.heap)(hok:HOk X.prog X.w H' s'.heap)(hg:AllBare s'.gens)
  (hch:∀b∈ch,(b∈X.ex\/X.s₀.heap.objs.size<=b)/\b≠X.env.locals/\(∀x c,X.env.cells.lookup x=some c->c≠b)/\∀p∈X.pn++pins,p.1≠b):Inv X pins σ H' s':=by
 obtain ⟨h',g',d',t',o'⟩:=s'
 have e:o'=s.os:=ho
 subst e
 exact I.call (g':=g') (t':=t') (d':=d') u hok hg hch
end
noncomputable abbrev XK:=Value->Option Addr->Hp->Prop
noncomputable abbrev St:=List (Option V)
noncomputable abbrev VK:=V->Hp->Prop
noncomputable abbrev TE:=St->Hp->VK->Prop
noncomputable abbrev TT:=St->Hp->(Bool->Hp->Prop)->Prop
noncomputable abbrev TA:=St->Hp->(List V->Hp->Prop)->Prop
structure gQ where
 nx:St->Hp->Prop
 rt:VK
 bk:St->Hp->Prop:=fun _ _=>False
 ct:St->Hp->Prop:=fun _ _=>False
noncomputable abbrev TS:=gQ->St->Hp->Prop
def EP (X:Cx)(pins:List (Addr×Obj))(σ:St)(Q:VK)(u:Value)(s':Shared):Prop:=∃v H',Inv X pins σ H' s'/\bI v u/\Q v H'
def TP (X:Cx)(pins:List (Addr×Obj))(σ:St)(Q:Bool->Hp->Prop)(b:Bool)(s':Shared):Prop:=∃H',Inv X pins σ H' s'/\Q b H'
def AP (X:Cx)(pins:List (Addr×Obj))(σ:St)(Q:List V->Hp->Prop)(us:List Value)(s':Shared):Prop:=∃vs H',Inv X pins σ H' s'/\bz vs us/\Q vs H'
def SP (X:Cx)(pins:List (Addr×Obj))(D:gQ)(f:Flow)(s':Shared):Prop:=
 match f with
 | .next=>∃σ' H',Inv X pins σ' H' s'/\D.nx σ' H'
 | .brk=>∃σ' H',Inv X pins σ' H' s'/\D.bk σ' H'
 | .cont=>∃σ' H',Inv X pins σ' H' s'/\D.ct σ' H'
 | .ret u=>∃v σ' H',Inv X pins σ' H' s'/\bI v u/\D.rt v H'
def PE (X:Cx)(e:Expr)(t:TE):Prop:=
 ∀(pins:List (Addr×Obj)) (s:Shared) (σ:St) (H:Hp) (Q:VK),Inv X pins σ H s->t σ H Q->wpAny (model X.prog X.w) X.A (eval e X.env) (EP X pins σ Q) X.xe s
def PT (X:Cx)(e:Expr)(t:TT):Prop:=
 ∀(pins:List (Addr×Obj)) (s:Shared) (σ:St) (H:Hp) (Q:Bool->Hp->Prop),Inv X pins σ H s->t σ H Q->wpAny (model X.prog X.w) X.A (isTrue e X.env (eval e X.env)) (TP X pins σ Q) X.xe s
def PW (X:Cx)(e:Expr)(t:TT):Prop:=
 ∀(bY:Sem Value) (pins:List (Addr×Obj)) (s:Shared) (σ:St) (H:Hp) (Q:Bool->Hp->Prop),Inv X pins σ H s->t σ H Q->wpAny (model X.prog X.w) X.A (isTrue e X.env bY) (TP X pins σ Q) X.xe s
theorem PW.pt {X:Cx}{e:Expr}{t:TT}(h:PW X e t):PT X e t:=h _
def PA (X:Cx)(es:List Expr)(t:TA):Prop:=
 ∀(pos:Pos) (pins:List (Addr×Obj)) (s:Shared) (σ:St) (H:Hp) (Q:List V->Hp->Prop),Inv X pins σ H s->t σ H Q->wpAny (model X.prog X.w) X.A (spliced (backTo pos (starEach es X.env))) (AP X pins σ Q) X.xe s
def PS (X:Cx)(st:Stmt)(t:TS):Prop:=
 ∀(pins:List (Addr×Obj)) (s:Shared) (σ:St) (H:Hp) (D:gQ),Inv X pins σ H s->t D σ H->wpAny (model X.prog X.w) X.A (exec st X.env) (SP X pins D) X.xe s
def PSs (X:Cx)(st:List Stmt)(t:TS):Prop:=
 ∀(pins:List (Addr×Obj)) (s:Shared) (σ:St) (H:Hp) (D:gQ),Inv X pins σ H s->t D σ H->wpAny (model X.prog X.w) X.A (execs st X.env) (SP X pins D) X.xe s
theorem thn {α:Type}{t:Sem α}{Q Q':α->Shared->Prop}{M:Model}{A:Around}{E:Value->Shared->Prop}{s:Shared}(h:wpAny M A t Q E s)(hQ:∀a s,Q a s->Q' a s):wpAny M A t Q' E s:=wpAny_mono h hQ fun _ _ x=>x
section
variable {X:Cx}
theorem bin {a b:Expr}{ta tb:TE}(ha:PE X a ta)(hb:PE X b tb){pins:List (Addr×Obj)}{s:Shared}{σ:St}{H:Hp}{R:V->V->Hp->Prop}(I:Inv X pins σ H s)(h:ta σ H fun x H1=>tb σ H1 fun y H2=>R x y H2)
  {α:Type} {Q:α->Shared->Prop} {f:Value->Value->Sem α}
  (hf:∀v u s2 x y H2,Inv X pins σ H2 s2->bI x v->bI y u->R x y H2->wpAny (model X.prog X.w) X.A (f v u) Q X.xe s2) :
  wpAny (model X.prog X.w) X.A (eval a X.env) (fun v s₁=>wpAny (model X.prog X.w) X.A (eval b X.env) (fun u s₂=>wpAny (model X.prog X.w) X.A (f v u) Q X.xe s₂) X.xe s₁) X.xe s:=by
 refine thn (ha pins s σ H _ I h) fun v s1 ⟨x,H1,I1,r1,q1⟩=>?_
 refine thn (hb pins s1 σ H1 _ I1 q1) fun u s2 ⟨y,H2,I2,r2,q2⟩=>?_
 exact hf v u s2 x y H2 I2 r1 r2 q2
noncomputable def Ii (i:Nat):TE:=fun σ H Q=>∃v,σ[i]?=some (some v)/\Q v H
noncomputable def tC (v:V):TE:=fun _ H Q=>Q v H
theorem Ij {i:Nat}{x:Str}{pos:Pos}(hN:X.N[i]?=some x)(hv:Vis X.env.scope x)(hd:(x == ("__debug__":Str))=false:=by decide)(hcd:(x == ("__classdict__":Str))=false:=by decide):PE X (.Name x pos) (Ii i):=by
 intro pins s σ H Q I h
 obtain ⟨v,e,h⟩:=h
 obtain ⟨m,hn,hl⟩:=I.loc
 obtain ⟨u,r,l⟩:=hl i x v hN e hv
 have fin:EP X pins σ Q u s:=⟨v,H,I,r,h⟩
 rcases l with ⟨hk,hm⟩ | ⟨hk,c,hc,hcell⟩
 ·exact wpAny_Name (wpAny_loadName_local I.ok.kind hk hn hm fin) hd
 ·rcases hk with hk | hk
  ·exact wpAny_Name (wpAny_loadName_cell I.ok.kind hk hc hcell fin) hd
  ·exact wpAny_Name (wpAny_loadName_free I.ok.kind hk hc hcell fin hcd) hd
theorem af {i j pos}:PE X (.Constant (.int i) j pos) (tC (.int i)):=fun _ _ _ H _ I h=>wpAny_Constant_int ⟨.int i,H,I.tok _,⟨_,rfl⟩,h⟩
theorem fJ {b j pos}:PE X (.Constant (.bool b) j pos) (tC (.bl b)):=fun _ _ _ H _ I h=>Constant_bool ⟨.bl b,H,I,rfl,h⟩
theorem dI {j pos}:PE X (.Constant .none j pos) (tC .non):=fun _ _ _ H _ I h=>Constant_none ⟨.non,H,I,rfl,h⟩
theorem aE {x j pos}:PE X (.Constant (.str x) j pos) (tC (.str x)):=fun _ _ _ H _ I h=>Calls.Constant_str ⟨.str x,H,I.tok _,⟨_,rfl⟩,h⟩
def Gl (X:Cx)(x:Str):Prop:=X.env.kindOf x=some .globalImplicit
theorem tT {E:Value->Shared->Prop}{pins:List (Addr×Obj)}{s:Shared}{σ:St}{H:Hp}{x:Str}{u:Value}{pos:Pos}{Q:Value->Shared->Prop}(I:Inv X pins σ H s)(hg:Gl X x)(hm:X.mg x=some u)(h:Q u s)
  (hd:(x == ("__debug__":Str))=false:=by decide):wpAny (model X.prog X.w) X.A (eval (.Name x pos) X.env) Q E s:=
 Calls.Name_function_global I.ok.kind hg (Calls.loadGlobal_global (by rw [I.ok.glob];exact I.mod.glob.keeps I.bk) hm h) hd
theorem om {E:Value->Shared->Prop}{pins:List (Addr×Obj)}{s:Shared}{σ:St}{H:Hp}{x:Str}{u:Value}{pos:Pos}{Q:Value->Shared->Prop}(I:Inv X pins σ H s)(hg:Gl X x)(hm:X.mg x=none)(hv:bootBuiltins x=some u)(h:Q u s)
  (hn:x≠"__name__":=by decide) (hd:(x == ("__debug__":Str))=false:=by decide):wpAny (model X.prog X.w) X.A (eval (.Name x pos) X.env) Q E s:=by
 obtain ⟨mb,h1,h2⟩:=I.mod.blt
 exact Calls.Name_function_global I.ok.kind hg (Calls.loadGlobal_builtin (by rw [I.ok.glob];exact I.mod.glob.keeps I.bk) hm (by rw [I.ok.blt];exact h1.keeps I.bk) ((h2 x hn).trans hv) h) hd
theorem Fo {x:Str}{v:V}{u:Value}{pos:Pos}(hg:Gl X x)(hm:X.mg x=some u)(r:bI v u)(hd:(x == ("__debug__":Str))=false:=by decide):PE X (.Name x pos) (tC v):=
 fun _ _ _ H _ I h=>tT I hg hm ⟨v,H,I,r,h⟩ hd
theorem eN {x:Str}{v:V}{u:Value}{pos:Pos}(hg:Gl X x)(hm:X.mg x=none)(hv:bootBuiltins x=some u)(r:bI v u)(hn:x≠"__name__":=by decide)(hd:(x == ("__debug__":Str))=false:=by decide):PE X (.Name x pos) (tC v):=
 fun _ _ _ H _ I h=>om I hg hm hv ⟨v,H,I,r,h⟩ hn hd
variable {a b:Expr}{ta tb:TE}{pos:Pos}
def PC (X:Cx)(op:CmpOp)(a b:Expr)(t:TE):Prop:=
 ∀(pins:List (Addr×Obj)) (s:Shared) (σ:St) (H:Hp) (Q:VK),Inv X pins σ H s->t σ H Q->
  wpAny (model X.prog X.w) X.A (eval a X.env) (fun v s₁=>wpAny (model X.prog X.w) X.A (eval b X.env) (fun u s₂=>wpAny (model X.prog X.w) X.A (compareOp op v u) (EP X pins σ Q) X.xe s₂) X.xe s₁) X.xe s
theorem Dl (b:Expr){op:CmpOp}(h:op≠.In)(h2:op≠.NotIn):behindInMarks op b=false:=by
 have e1:(op == CmpOp.In)=false:=by cases op<;>first | rfl | exact absurd rfl h
 have e2:(op == CmpOp.NotIn)=false:=by cases op<;>first | rfl | exact absurd rfl h2
 cases b<;>simp [behindInMarks,e1,e2]
noncomputable def tB (t:TE):TT:=fun σ H Q=>t σ H fun x H1=>∃c,x=.bl c/\Q c H1
theorem K2 {op:CmpOp}{t:TE}(h:PC X op a b t)(h1:behindInMarks op b=false:=by first | exact Dl _ (by decide) (by decide) | rfl):PT X (.Compare a [op] [b] pos) (tB t):=by
 intro pins s σ H Q I hw
 refine wpAny_isTrue_Compare1 (thn (h pins s σ H _ I hw) fun v s1 h1=>thn h1 fun u s2 h2=>thn h2 fun c s3 ⟨x,H1,I1,r1,q1⟩=>?_) h1
 obtain ⟨d,rfl,q⟩:=q1
 cases r1
 exact wpAny_truthy_bool ⟨H1,I1,q⟩
theorem Ik {e:Expr}{t:TE}(h:PE X e t)(he:∀bY,isTrue e X.env bY=(do let v ←bY;standAt e.pos;holding [v] (truthy v)):=by intro _;rfl):PT X e (tB t):=by
 intro pins s σ H Q I hw
 refine isTrue_plain (thn (h pins s σ H _ I hw) fun v s1 ⟨x,H1,I1,r1,q1⟩=>?_) (he _)
 obtain ⟨d,rfl,q⟩:=q1
 cases r1
 exact wpAny_truthy_bool ⟨H1,I1,q⟩
variable {tA tB':TT}{qP:List Expr}
noncomputable def JQ (t u:TT):TT:=fun σ H Q=>t σ H fun c H1=>if c=true then u σ H1 Q else Q false H1
noncomputable def tOr (t u:TT):TT:=fun σ H Q=>t σ H fun c H1=>if c=true then Q true H1 else u σ H1 Q
noncomputable def JR (t:TT):TT:=fun σ H Q=>t σ H fun c H1=>Q (!c) H1
theorem fW (ha:PT X a tA):PW X (.BoolOp .And [a] pos) tA:=by
 intro wh pins s σ H Q I h
 refine isTrue_and (thn (ha pins s σ H Q I h) fun c s1 e=>?_)
 cases c with
 | true=>exact isTrue_and_nil e
 | false=>exact e
theorem lQ (ha:PT X a tA):PW X (.BoolOp .Or [a] pos) tA:=by
 intro wh pins s σ H Q I h
 refine isTrue_or (thn (ha pins s σ H Q I h) fun c s1 e=>?_)
 cases c with
 | false=>exact isTrue_or_nil e
 | true=>exact e
theorem ie (ha:PT X a tA)(hb:PW X (.BoolOp .And (b::qP) pos) tB'):PW X (.BoolOp .And (a::b::qP) pos) (JQ tA tB'):=by
 intro wh pins s σ H Q I h
 refine isTrue_and (thn (ha pins s σ H _ I h) fun c s1 ⟨H1,I1,q1⟩=>?_)
 cases c with
 | true=>exact hb wh pins s1 σ H1 Q I1 q1
 | false=>exact ⟨H1,I1,q1⟩
theorem pj (ha:PT X a tA)(hb:PW X (.BoolOp .Or (b::qP) pos) tB'):PW X (.BoolOp .Or (a::b::qP) pos) (tOr tA tB'):=by
 intro wh pins s σ H Q I h
 refine isTrue_or (thn (ha pins s σ H _ I h) fun c s1 ⟨H1,I1,q1⟩=>?_)
 cases c with
 | true=>exact ⟨H1,I1,q1⟩
 | false=>exact hb wh pins s1 σ H1 Q I1 q1
theorem dw (ha:PT X a tA):PT X (.UnaryOp .Not a pos) (JR tA):=by
 intro pins s σ H Q I h
 exact isTrue_not (ha pins s σ H (fun c H1=>Q (!c) H1) I h)
noncomputable def Hb (ta tb:TE):TE:=fun σ H Q=>ta σ H fun x H1=>∃c,x=.bl c/\if c=true then tb σ H1 Q else Q (.bl false) H1
theorem zT {op}{t:TE}(h:PE X a t):PE X (.BoolOp op [a] pos) t:=fun pins s σ H Q I hw=>BoolOp_one (h pins s σ H Q I hw)
theorem Il (ha:PE X a ta)(hb:PE X (.BoolOp .And (b::qP) pos) tb):PE X (.BoolOp .And (a::b::qP) pos) (Hb ta tb):=by
 intro pins s σ H Q I h
 refine BoolOp_and (thn (ha pins s σ H _ I h) fun v s1 ⟨x,H1,I1,r1,q1⟩=>?_)
 obtain ⟨c,rfl,q1⟩:=q1
 cases r1
 refine wpAny_truthy_bool ?_
 cases c with
 | true=>exact hb pins s1 σ H1 Q I1 q1
 | false=>exact ⟨.bl false,H1,I1,rfl,q1⟩
noncomputable def tIf (t:TT)(ta tb:TE):TE:=fun σ H Q=>t σ H fun c H1=>if c=true then ta σ H1 Q else tb σ H1 Q
theorem yD {c:Expr}(hc:PT X c tA)(ha:PE X a ta)(hb:PE X b tb):PE X (.IfExp c a b pos) (tIf tA ta tb):=by
 intro pins s σ H Q I h
 refine wpAny_IfExp (thn (hc pins s σ H _ I h) fun d s1 ⟨H1,I1,q1⟩=>?_)
 cases d with
 | true=>exact ha pins s1 σ H1 Q I1 q1
 | false=>exact hb pins s1 σ H1 Q I1 q1
end
def SqL (K:WA)(H:Hp)(a:Addr)(xs:List V):Prop:=
 Rd H a (.lst xs)\/
  ∃(o:Obj) (its:Array Value) (n:Nat),K.lookup a=some o/\o.cls=.type "list"/\o.dict=none/\o.data=.seq its n/\its.size<=sizeLine/\bz xs its.toList
def SqT (K:WA)(H:Hp)(a:Addr)(xs:List V):Prop:=
 Rd H a (.tup xs)\/
  ∃(o:Obj) (its:Array Value) (n:Nat),K.lookup a=some o/\o.cls=.type "tuple"/\o.data=.seq its n/\its.size<=sizeLine/\bz xs its.toList
noncomputable def K3:Value->Option V
 | .none=>some .non
 | .bool b=>some (.bl b)
 | .int i _=>some (.int i)
 | .str x _=>some (.str x)
 | .bytes b _=>some (.byt b)
 | .float b _=>some (.flt b)
 | .ref a=>some (.ref a)
 | .type n=>some (.ty n)
 | _=>none
theorem bI.abs {x:V}{u:Value}(r:bI x u):K3 u=some x:=by
 cases x with
 | non=>cases r;rfl
 | bl _=>cases r;rfl
 | int _=>obtain ⟨t,rfl⟩:=r;rfl
 | str _=>obtain ⟨t,rfl⟩:=r;rfl
 | byt _=>obtain ⟨t,rfl⟩:=r;rfl
 | flt _=>obtain ⟨t,rfl⟩:=r;rfl
 | ref _=>cases r;rfl
 | ty _=>cases r;rfl
theorem bI.inj {x y:V}{u:Value}(r:bI x u)(q:bI y u):x=y:=Option.some.inj (r.abs.symm.trans q.abs)
theorem bz.inj:∀{xs ys:List V} {us:List Value},bz xs us->bz ys us->xs=ys
 | _,_,_,.nil,.nil=>rfl
 | _,_,_,.cons r t,.cons r' t'=>by rw [r.inj r',bz.inj t t']
section
variable {X:Cx}{pins:List (Addr×Obj)}{σ:St}{H:Hp}{s:Shared}{a:Addr}{xs ys:List V}
theorem SqL.of {K:WA}(h:H a=some (.lst xs)):SqL K H a xs:=.inl (.inl h)
theorem SqT.of {K:WA}(h:H a=some (.tup xs)):SqT K H a xs:=.inl (.inl h)
theorem Inv.list (I:Inv X pins σ H s)(h:SqL X.K H a xs):∃its:List Value,bz xs its/\PlainL s.heap a its.toArray/\xs.length<=sizeLine:=by
 rcases h with h | ⟨o,its,n,hk,hc,hd,hs,hz,r⟩
 ·obtain ⟨z,its,n,r,e⟩:=h.ok I.hok
  exact ⟨its,r,⟨_,n,e,rfl,rfl,rfl⟩,z⟩
 ·refine ⟨its.toList,r,⟨o,n,I.kIn a o hk,hc,hd,by simpa using hs⟩,?_⟩
  have e:=r.length
  simp only [Array.length_toList] at e
  omega
theorem Inv.tuple (I:Inv X pins σ H s)(h:SqT X.K H a xs):∃its:List Value,bz xs its/\IsTup s.heap a its.toArray/\xs.length<=sizeLine:=by
 rcases h with h | ⟨o,its,n,hk,hc,hs,hz,r⟩
 ·obtain ⟨z,its,r,p⟩:=h.ok I.hok
  exact ⟨its,r,p.tup,z⟩
 ·refine ⟨its.toList,r,⟨o,I.kIn a o hk,hc,n,by simpa using hs⟩,?_⟩
  have e:=r.length
  simp only [Array.length_toList] at e
  omega
theorem Inv.list_inj (I:Inv X pins σ H s)(h:SqL X.K H a xs)(h':SqL X.K H a ys):xs=ys:=by
 obtain ⟨its,r,⟨o,n,e,_,_,d⟩,_⟩:=I.list h
 obtain ⟨its',r',⟨o',n',e',_,_,d'⟩,_⟩:=I.list h'
 rw [e] at e';cases e'
 rw [d] at d'
 injection d' with d1 _
 have:its=its':=by simpa using congrArg Array.toList d1
 subst this
 exact r.inj r'
theorem Inv.tuple_inj (I:Inv X pins σ H s)(h:SqT X.K H a xs)(h':SqT X.K H a ys):xs=ys:=by
 obtain ⟨its,r,⟨o,e,_,n,d⟩,_⟩:=I.tuple h
 obtain ⟨its',r',⟨o',e',_,n',d'⟩,_⟩:=I.tuple h'
 rw [e] at e';cases e'
 rw [d] at d'
 injection d' with d1 _
 have:its=its':=by simpa using congrArg Array.toList d1
 subst this
 exact r.inj r'
end
noncomputable abbrev Cx.wish (X:Cx)(E:Value->Shared->Prop):Cx:={X with xe:=E}
noncomputable abbrev Cx.nox (X:Cx):Cx:=X.wish fun _ _=>False
theorem Cx.Ok.wish {X:Cx}(ok:X.Ok)(E:Value->Shared->Prop):(X.wish E).Ok:=
 ⟨ok.mod,ok.kind,ok.glob,ok.blt,ok.above,ok.inj,ok.has,ok.cab,ok.hd,ok.frames,ok.stk,ok.exf,ok.bs,ok.bsz,ok.noex,ok.exfs,ok.funs,ok.frf⟩
theorem Cx.Ok.unwish {X:Cx}{E:Value->Shared->Prop}(ok:(X.wish E).Ok):X.Ok:=
 ⟨ok.mod,ok.kind,ok.glob,ok.blt,ok.above,ok.inj,ok.has,ok.cab,ok.hd,ok.frames,ok.stk,ok.exf,ok.bs,ok.bsz,ok.noex,ok.exfs,ok.funs,ok.frf⟩
section
variable {X:Cx}{pins:List (Addr×Obj)}{σ:St}{H:Hp}{s:Shared}{E:Value->Shared->Prop}
theorem Inv.wish (I:Inv X pins σ H s)(E:Value->Shared->Prop):Inv (X.wish E) pins σ H s:=⟨I.ok.wish E,I.os,I.bare,I.base,I.loc,I.cell,I.free,I.freeC,I.pin,I.hok,I.len⟩
theorem Inv.unwish (I:Inv (X.wish E) pins σ H s):Inv X pins σ H s:=⟨I.ok.unwish,I.os,I.bare,I.base,I.loc,I.cell,I.free,I.freeC,I.pin,I.hok,I.len⟩
theorem SP.unwish {D:gQ}{f:Flow}{s':Shared}(h:SP (X.wish E) pins D f s'):SP X pins D f s':=by
 cases f with
 | next=>obtain ⟨σ',H',I,q⟩:=h;exact ⟨σ',H',I.unwish,q⟩
 | brk=>obtain ⟨σ',H',I,q⟩:=h;exact ⟨σ',H',I.unwish,q⟩
 | cont=>obtain ⟨σ',H',I,q⟩:=h;exact ⟨σ',H',I.unwish,q⟩
 | ret u=>obtain ⟨v,σ',H',I,r,q⟩:=h;exact ⟨v,σ',H',I.unwish,r,q⟩
theorem PSs.nox {st:List Stmt}{t:TS}(h:PSs X.nox st t):PSs X st t:=fun pins s σ H D I hw=>
 wpAny_mono (h pins s σ H D (I.wish _) hw) (fun _ _ q=>q.unwish) fun _ _ z=>False.elim z
end
section
variable {X:Cx}{st:Stmt}{qP:List Stmt}{t u:TS}{e:Expr}{te:TE}{pos:Pos}
noncomputable def Hc:TS:=fun D σ H=>D.nx σ H
noncomputable def JS (t u:TS):TS:=fun D σ H=>t {D with nx:=u D} σ H
theorem aC:PSs X [] Hc:=fun _ _ σ H _ I h=>wpAny_execs_nil ⟨σ,H,I,h⟩
theorem ae (h1:PS X st t)(h2:PSs X qP u):PSs X (st::qP) (JS t u):=by
 intro pins s σ H D I h
 refine wpAny_execs_cons (thn (h1 pins s σ H {D with nx:=u D} I h) fun f s1 q=>?_)
 cases f with
 | next=>
  obtain ⟨σ',H',I',q⟩:=q
  exact h2 pins s1 σ' H' D I' q
 | ret v=>exact q
 | brk=>exact q
 | cont=>exact q
theorem ah (h1:PS X st t):PSs X [st] t:=by
 intro pins s σ H D I h
 refine wpAny_execs_cons (thn (h1 pins s σ H D I h) fun f s1 q=>?_)
 cases f with
 | next=>exact wpAny_execs_nil q
 | ret v=>exact q
 | brk=>exact q
 | cont=>exact q
theorem Inv.quiet {pins:List (Addr×Obj)}{σ:St}{H:Hp}{s:Shared}(I:Inv X pins σ H s):interactive X.env=false:=by simp [interactive,I.ok.kind]
noncomputable def Hd (te:TE):TS:=fun D σ H=>te σ H fun _ H1=>D.nx σ H1
theorem aZ (he:PE X e te)(hs:swapsWith e none pos.line X.env=pure false:=by rfl):PS X (.Expr e pos) (Hd te):=by
 intro pins s σ H D I h
 exact wpAny_Expr_any (thn (he pins s σ H _ I h) fun v s1 ⟨x,H1,I1,r1,q1⟩=>⟨σ,H1,I1,q1⟩) I.quiet hs
noncomputable def JT (te:TE):TS:=fun D σ H=>te σ H D.rt
theorem aB (he:PE X e te):PS X (.Return (some e) pos) (JT te):=by
 intro pins s σ H D I h
 exact wpAny_Return_some (thn (he pins s σ H _ I h) fun v s1 ⟨x,H1,I1,r1,q1⟩=>⟨x,σ,H1,I1,r1,q1⟩)
noncomputable def JU (c:TT)(t u:TS):TS:=fun D σ H=>c σ H fun b H1=>if b=true then t D σ H1 else u D σ H1
theorem aM {c:Expr}{a b:List Stmt}{tc:TT}(hc:PT X c tc)(ha:PSs X a t)(hb:PSs X b u):PS X (.If c a b pos) (JU tc t u):=by
 intro pins s σ H D I h
 refine wpAny_If (thn (hc pins s σ H _ I h) fun d s1 ⟨H1,I1,q1⟩=>?_)
 cases d with
 | true=>exact ha pins s1 σ H1 D I1 q1
 | false=>exact hb pins s1 σ H1 D I1 q1
end
noncomputable abbrev TG:=V->St->Hp->(St->Hp->Prop)->Prop
noncomputable abbrev TGs:=List V->St->Hp->(St->Hp->Prop)->Prop
def PG (X:Cx)(target:Expr)(t:TG):Prop:=
 ∀(pins:List (Addr×Obj)) (s:Shared) (σ:St) (H:Hp) (v:V) (u:Value) (Q:St->Hp->Prop),Inv X pins σ H s->bI v u->t v σ H Q->
  wpAny (model X.prog X.w) X.A (assign target X.env u) (fun _ s'=>∃σ' H',Inv X pins σ' H' s'/\Q σ' H') X.xe s
def PGs (X:Cx)(ts:List Expr)(t:TGs):Prop:=
 ∀(pins:List (Addr×Obj)) (s:Shared) (σ:St) (H:Hp) (vs:List V) (us:List Value) (Q:St->Hp->Prop),Inv X pins σ H s->bz vs us->t vs σ H Q->
  wpAny (model X.prog X.w) X.A (assignInOrder ((assignEach ts X.env).map (·.2)) us) (fun _ s'=>∃σ' H',Inv X pins σ' H' s'/\Q σ' H') X.xe s
noncomputable abbrev Im:=V->V->V->Hp->(Hp->Prop)->Prop
def Io (X:Cx)(t:Im):Prop:=
 ∀(pins:List (Addr×Obj)) (s:Shared) (σ:St) (H:Hp) (o i v:V) (ov iv u:Value) (Q:Hp->Prop),Inv X pins σ H s->bI o ov->bI i iv->bI v u->t o i v H Q->
  wpAny (model X.prog X.w) X.A (setItem ov iv u) (fun _ s'=>∃H',Inv X pins σ H' s'/\Q H') X.xe s
section
variable {X:Cx}{pos:Pos}
noncomputable def dP (i:Nat):TG:=fun v σ H Q=>Q (σ.set i (some v)) H
theorem aD {i:Nat}{x:Str}(hN:X.N.Nodup)(hi:X.N[i]?=some x)(hx:Loc X.env.scope x)(hf:X.fn x=true\/X.env.scope.names.lookup x=some .local:=by first | exact .inl rfl | exact .inr rfl | assumption):PG X (.Name x pos) (dP i):=by
 intro pins s σ H v u Q I r h
 exact wpAny_assign_Name (ph I hN hi hx r (fun s' I'=>⟨_,H,I',h⟩) hf)
noncomputable def Ip:TGs:=fun vs σ H Q=>vs=[]/\Q σ H
noncomputable def yE (t:TG)(u:TGs):TGs:=fun vs σ H Q=>∃v r,vs=v::r/\t v σ H fun σ' H'=>u r σ' H' Q
theorem Fp:PGs X [] Ip:=by
 intro pins s σ H vs us Q I r h
 obtain ⟨e,h⟩:=h
 subst e
 cases r
 exact assignInOrder_nil ⟨σ,H,I,h⟩
theorem Dm {e:Expr}{es:List Expr}{t:TG}{u:TGs}(h1:PG X e t)(h2:PGs X es u)
  (hs:(assignEach (e::es) X.env).map (·.2)=assign e X.env::(assignEach es X.env).map (·.2):=by rfl):PGs X (e::es) (yE t u):=by
 intro pins s σ H vs us Q I r h
 obtain ⟨v,vr,e1,h⟩:=h
 subst e1
 cases r with
 | cons r rr=>
  rw [hs]
  refine assignInOrder_cons (thn (h1 pins s σ H _ _ _ I r h) fun _ s1 ⟨σ1,H1,I1,q1⟩=>?_)
  exact h2 pins s1 σ1 H1 _ _ Q I1 rr q1
noncomputable def Iq (K:WA)(n:Nat)(t:TGs):TG:=fun v σ H Q=>∃a xs,v=.ref a/\SqT K H a xs/\xs.length=n/\t xs σ H Q
theorem Ir {es:List Expr}{k:Nat}{t:TGs}{n:Nat}(hc:X.calm=true)(h:PGs X es t)
  (hn:(assignEach es X.env).length=n:=by rfl) (hst:(assignEach es X.env).findIdx? (·.1)=none:=by rfl):PG X (.Tuple es k pos) (Iq X.K n t):=by
 intro pins s σ H v u Q I r hw
 obtain ⟨a,xs,e1,hq,hl,hw⟩:=hw
 subst e1
 cases r
 obtain ⟨its,rv,ht,hz⟩:=I.tuple hq
 refine assign_Tuple_tuple (I.ok.hd hc) ht (by simp [hn,←hl,rv.length]) hst fun h' hx=>?_
 have I1:Inv X pins σ H {s with heap:=h'}:=I.kept (t':=s.toks) fun b o e=>hx b o (Nat.ne_of_lt (Heap.lt_size e)) e
 exact h pins _ σ H xs _ Q I1 (by simpa using rv) hw
noncomputable def JV (to ti:TE)(t:Im):TG:=fun v σ H Q=>to σ H fun o H1=>ti σ H1 fun i H2=>t o i v H2 fun H3=>Q σ H3
theorem qR {o i:Expr}{to ti:TE}{t:Im}(ho:PE X o to)(hi:PE X i ti)(hs:Io X t)
  (ha:∀v,assign (.Subscript o i pos) X.env v=(do
   let ov ←holding [v] (eval o X.env)
   let iv ←holding [v,ov] (eval i X.env)
   standAt pos
   holding [v,ov,iv] (setItem ov iv v)
   release [v,ov,iv] []):=by intro _;rfl):PG X (.Subscript o i pos) (JV to ti t):=by
 intro pins s σ H v u Q I r h
 rw [ha]
 refine wpAny_bind (wpAny_holding (thn (ho pins s σ H _ I h) fun ov s1 ⟨x,H1,I1,r1,q1⟩=>?_))
 refine wpAny_bind (wpAny_holding (thn (hi pins s1 σ H1 _ I1 q1) fun iv s2 ⟨y,H2,I2,r2,q2⟩=>?_))
 refine wpAny_bind (wpAny_standAt (wpAny_bind (wpAny_holding (thn (hs pins s2 σ H2 x y v ov iv u _ I2 r1 r2 r q2) fun _ s3 ⟨H3,I3,q3⟩=>?_))))
 exact wpAny_release ⟨σ,H3,I3,q3⟩
noncomputable def zU (te:TE)(g:TG):TS:=fun D σ H=>te σ H fun x H1=>g x σ H1 D.nx
theorem kB {tg e:Expr}{te:TE}{g:TG}(he:PE X e te)(hg:PG X tg g)(hs:swapsWithSole [tg] e pos.line X.env=pure false:=by rfl)(hw:swappedStores [tg] e X.env=pure none:=by rfl)
  (h1:(assignEach [tg] X.env).map (·.2)=[assign tg X.env]:=by rfl):PS X (.Assign [tg] e pos) (zU te g):=by
 intro pins s σ H D I h
 refine wpAny_Assign_stores (thn (he pins s σ H _ I h) fun v s1 ⟨x,H1,I1,r1,q1⟩=>?_) hs hw
 rw [h1]
 exact thn (hg pins s1 σ H1 x v _ I1 r1 q1) fun _ s2 q=>q
theorem aF {i:Nat}{x:Str}{e:Expr}{te:TE}{pos':Pos}(hN:X.N.Nodup)(hi:X.N[i]?=some x)(hx:Loc X.env.scope x)(he:PE X e te)(hs:swapsWith e (some (.Name x pos')) pos.line X.env=pure false:=by rfl)(hf:X.fn x=true\/X.env.scope.names.lookup x=some .local:=by first | exact .inl rfl | exact .inr rfl | assumption) :
  PS X (.Assign [.Name x pos'] e pos) (zU te (dP i)):=by
 intro pins s σ H D I h
 refine wpAny_Assign_Name (thn (he pins s σ H _ I h) fun v s1 ⟨y,H1,I1,r1,q1⟩=>?_) hs
 exact ph I1 hN hi hx r1 (fun s2 I2=>⟨_,H1,I2,q1⟩) hf
noncomputable def JW (i j:Nat)(ta:TA):TS:=fun D σ H=>ta σ H fun vs H1=>∃v w,vs=[v,w]/\D.nx ((σ.set i (some v)).set j (some w)) H1
theorem Iu {i j:Nat}{x y:Str}{a b:Expr}{ta:TA}{px py pt:Pos}{kt k2 pt2}(hc:X.calm=true)(hN:X.N.Nodup)(hi:X.N[i]?=some x)(hj:X.N[j]?=some y)(hij:i≠j)
  (hx:X.env.scope.names.lookup x=some .local) (hy:X.env.scope.names.lookup y=some .local) (ha:PA X [a,b] ta)
  (hw:swappedStores [.Tuple [.Name x px,.Name y py] kt pt] (.Tuple [a,b] k2 pt2) X.env=pure (some [x,y]))
  (hs:swapsWithSole [.Tuple [.Name x px,.Name y py] kt pt] (.Tuple [a,b] k2 pt2) pos.line X.env=pure false:=by rfl) :
  PS X (.Assign [.Tuple [.Name x px,.Name y py] kt pt] (.Tuple [a,b] k2 pt2) pos) (JW i j ta):=by
 intro pins s σ H D I h
 rw [exec_Assign_arm]
 refine wpAny_bind (wpAny_standAt ?_)
 rw [hs]
 refine wpAny_bind (wpAny_pure ?_)
 rw [if_neg (by decide)]
 refine wpAny_bind (Tuple_ (thn (ha _ pins s σ H _ I h) fun us s1 ⟨vs,H1,I1,r1,q1⟩=>?_))
 obtain ⟨v,w,e1,q1⟩:=q1
 subst e1
 obtain ⟨u1,u2,rfl,rv,rw'⟩:∃u1 u2,us=[u1,u2]/\bI v u1/\bI w u2:=by
  cases r1 with
  | cons p q=>
   cases q with
   | cons p' q'=>
    cases q'
    exact ⟨_,_,rfl,p,p'⟩
 refine wpAny_newObj_type ?_ (by show 2<=sizeLine;decide)
 have I2:Inv X pins σ H1 {s1 with heap:=s1.heap.push {cls:=.type "tuple",data:=.seq [u1,u2].toArray}}:=I1.kept (t':=s1.toks) fun b o e=>Heap.get?_push_of_some _ e
 rw [hw]
 refine wpAny_bind (wpAny_pure ?_)
 show wpAny (model X.prog X.w) X.A (do rule "assign.swapped-stores";let items ←unpackItems (.ref s1.heap.objs.size) 2 none;assignInOrder [fun v=>bindName X.env y v,fun v=>bindName X.env x v] items.reverse;pure Flow.next) _ _ _
 refine wpAny_bind (wpAny_rule (wpAny_bind (unpackItems_tuple (items:=#[u1,u2]) (I.ok.hd hc) (IsTup.new s1.heap _) fun h' hx'=>?_)))
 have I3:=I2.kept (h':=h') (t':=s1.toks) fun b o e=>hx' b o (Nat.ne_of_lt (Heap.lt_size e)) e
 show wpAny _ _ (assignInOrder [fun v=>bindName X.env y v,fun v=>bindName X.env x v] [u2,u1] >>= fun _=>pure Flow.next) _ _ _
 refine wpAny_bind (assignInOrder_cons (wpAny_bindName (ph I3 hN hj (.inl hy) rw' (fun s2 I4=>?_) (.inr hy))))
 refine assignInOrder_cons (wpAny_bindName (ph I4 hN hi (.inl hx) rv (fun s3 I5=>assignInOrder_nil (wpAny_pure ?_)) (.inr hx)))
 rw [List.set_comm _ _ (Ne.symm hij)] at I5
 exact ⟨_,H1,I5,q1⟩
end
section
variable {X:Cx}{pos:Pos}
noncomputable def Dn (c:TT)(tb:TS):TS:=fun D σ H=>∃W:Nat->St->Hp->Prop,(∃m,W m σ H)/\∀m σ H,W m σ H->
 c σ H fun b H1=>if b=true then ∃N:St->Hp->Prop,(∀σ' H',N σ' H'->∃m',m' < m/\W m' σ' H')/\tb {D with nx:=N,ct:=N,bk:=D.nx} σ H1 else D.nx σ H1
theorem Dp {c:Expr}{body:List Stmt}{tc:TT}{tb:TS}(hp:PassesOwn (model X.prog X.w) X.A X.env X.xe)(hc:PT X c tc)(hb:PSs X body tb):PS X (.While c body [] pos) (Dn tc tb):=by
 intro pins s σ H D I h
 obtain ⟨W,⟨m0,w0⟩,turn⟩:=h
 refine wpAny_While (codeAny_whileLoop (fun n s'=>∃σ' H',Inv X pins σ' H' s'/\W n σ' H') ?_ m0 ⟨σ,H,I,w0⟩)
 rintro n s1 ⟨σ1,H1,I1,w1⟩
 refine wpAny_passesOwn hp (thn (hc pins s1 σ1 H1 _ I1 (turn n σ1 H1 w1)) fun b s2 ⟨H2,I2,q2⟩=>?_)
 cases b with
 | true=>
  obtain ⟨N,hN,q2⟩:=q2
  rw [if_pos rfl]
  refine wpAny_passesOwn hp (thn (hb pins s2 σ1 H2 _ I2 q2) fun f s3 q3=>?_)
  cases f with
  | next=>
   obtain ⟨σ3,H3,I3,n3⟩:=q3
   obtain ⟨m',hm,w3⟩:=hN σ3 H3 n3
   exact ⟨m',hm,σ3,H3,I3,w3⟩
  | cont=>
   obtain ⟨σ3,H3,I3,n3⟩:=q3
   obtain ⟨m',hm,w3⟩:=hN σ3 H3 n3
   exact ⟨m',hm,σ3,H3,I3,w3⟩
  | brk=>exact q3
  | ret v=>exact q3
 | false=>
  rw [if_neg Bool.false_ne_true]
  exact wpAny_execs_nil ⟨σ1,H2,I2,q2⟩
end
structure It where
 go:Nat->Hp->Prop
 yld:Nat->Hp->V->Hp->Prop
 stop:Nat->Hp->Prop
def qS (X:Cx)(pins:List (Addr×Obj))(H:Hp)(b:Addr):Prop:=
 H b=none/\b≠X.env.locals/\b∉X.fs/\(b∈X.ex\/X.s₀.heap.objs.size<=b)/\(∀x c,X.env.cells.lookup x=some c->c≠b)/\∀p∈X.pn++pins,p.1≠b
theorem Inv.fpOk {X:Cx}{pins:List (Addr×Obj)}{σ:St}{H H':Hp}{s:Shared}{b:Addr}(I:Inv X pins σ H s)(hb:s.heap.objs.size<=b)(hn:H' b=none):qS X pins H' b:=by
 refine ⟨hn,Nat.ne_of_gt (Nat.lt_of_lt_of_le I.lt hb),I.nofs hb,.inr (Nat.le_trans I.sz hb),fun x c e z=>?_,fun p hp z=>?_⟩
 ·obtain ⟨v,q⟩:=I.cell x c e
  exact absurd (Nat.lt_of_lt_of_le q.lt (by rw [z];exact hb)) (Nat.lt_irrefl _)
 ·exact absurd (Nat.lt_of_lt_of_le (Heap.lt_size (I.pin p hp).1) (by rw [z];exact hb)) (Nat.lt_irrefl _)
structure zV (P:Program)(w:World)(K:WA)(tg:Expr)(J:It)(fp:List Addr)(it:Addr)(tn:Nat->Heap->Prop):Prop where
 mem:it∈fp
 obj:∀i h,tn i h->∀b∈fp,∃o,h.get? b=some o/\∀v,o.data≠.cell v
 keep:∀i h h',tn i h->(∀b∈fp,∀o,h.get? b=some o->h'.get? b=some o)->tn i h'
 item:∀(X:Cx),X.prog=P->X.w=w->X.K=K->X.calm=true->∀(i:Nat) (pins:List (Addr×Obj)) (s:Shared) (σ:St) (H:Hp) (E:Value->Shared->Prop),Inv X pins σ H s->(∀b∈fp,qS X pins H b)->tn i s.heap->J.go i H->
  wpAny (model P w) X.A (pyNext (.ref it)) (fun r s1=>∃u,r=some u/\
   wpAny (model P w) X.A (letOwnedTupleGo tg (.ref it) u) (fun _ s2=>∃x H',Inv X pins σ H' s2/\bI x u/\J.yld i H x H'/\tn (i+1) s2.heap/\∀b∈fp,H' b=none) E s1) E s
 done:∀(X:Cx),X.prog=P->X.w=w->X.K=K->X.calm=true->∀(i:Nat) (pins:List (Addr×Obj)) (s:Shared) (σ:St) (H:Hp) (E:Value->Shared->Prop),Inv X pins σ H s->(∀b∈fp,qS X pins H b)->tn i s.heap->J.stop i H->
  wpAny (model P w) X.A (pyNext (.ref it)) (fun r s1=>r=none/\Inv X pins σ H s1) E s
 self:∀(A:Around) (i:Nat) (s:Shared) (Q:Value->Shared->Prop) (E:Value->Shared->Prop),tn i s.heap->Q (.ref it) s->wpAny (model P w) A (pyIter (.ref it)) Q E s
noncomputable abbrev TI:=St->Hp->(It->Hp->Prop)->Prop
def PIE (X:Cx)(pins:List (Addr×Obj))(σ:St)(tg:Expr)(R:It->Hp->Prop)(itv:Value)(s2:Shared):Prop:=
 ∃(it:Addr) (fp:List Addr) (tn:Nat->Heap->Prop) (J:It) (H':Hp),itv=.ref it/\Inv X pins σ H' s2/\zV X.prog X.w X.K tg J fp it tn/\tn 0 s2.heap/\(∀b∈fp,qS X pins H' b)/\R J H'
def PI (X:Cx)(tg iter:Expr)(wi:TI):Prop:=
 ∀(pins:List (Addr×Obj)) (s:Shared) (σ:St) (H:Hp) (R:It->Hp->Prop),Inv X pins σ H s->wi σ H R->
  wpAny (model X.prog X.w) X.A (eval iter X.env) (fun v s1=>wpAny (model X.prog X.w) X.A (pyIter v) (PIE X pins σ tg R) X.xe s1) X.xe s
theorem Dq {M:Model}{A:Around}{E:Value->Shared->Prop}{s:Shared}{tg:Expr}{it:Addr}{u:Value}{o:Obj}{n:String}{vs:Array Value}{Q:Unit->Shared->Prop}(ho:s.heap.get? it=some o)(hc:o.cls=.type n)(hd:o.data=.fields vs)
  (hn:["enumerate","zip","dict_itemiterator","dict_reverseitemiterator","odict_iterator","itertools.zip_longest","itertools.pairwise"].contains n=false) (hQ:Q () s):wpAny M A (letOwnedTupleGo tg (.ref it) u) Q E s:=by
 unfold letOwnedTupleGo
 cases tg<;>first
  | exact wpAny_pure hQ
  | (cases u<;>first
    | exact wpAny_pure hQ
    | (refine wpAny_bind (wpAny_load ho ?_)
       rw [hc,hd]
       show wpAny M A (if (["enumerate","zip","dict_itemiterator","dict_reverseitemiterator","odict_iterator","itertools.zip_longest","itertools.pairwise"].contains n && vs[0]? == some (rawInt _))=true then _ else _) Q E s
       rw [if_neg (by intro h;rw [hn,Bool.false_and] at h;cases h)]
       exact wpAny_pure hQ))
noncomputable def Itl (K:WA)(a:Addr):It:=
 ⟨fun i H=>∃xs x,SqL K H a xs/\xs[i]?=some x,fun i H x H'=>H'=H/\∀xs,SqL K H a xs->xs[i]?=some x,fun i H=>∃xs,SqL K H a xs/\xs.length<=i⟩
noncomputable def Itt (K:WA)(a:Addr):It:=
 ⟨fun i H=>∃xs x,SqT K H a xs/\xs[i]?=some x,fun i H x H'=>H'=H/\∀xs,SqT K H a xs->xs[i]?=some x,fun i H=>∃xs,SqT K H a xs/\xs.length<=i⟩
noncomputable def Itr (lo:Int)(n:Nat):It:=⟨fun i _=>i < n,fun i H x H'=>H'=H/\x=.int (lo+i),fun i _=>n<=i⟩
theorem B9 {P:Program}{w:World}{K:WA}{tg:Expr}(a it:Addr):zV P w K tg (Itl K a) [it] it (fun i h=>h.IsListIter it a i) where
 mem:=by simp
 obj:=fun i h st b hb=>by
  have e:b=it:=by simpa using hb
  subst e
  obtain ⟨o,e,c,d⟩:=st
  exact ⟨o,e,fun v z=>by rw [d] at z;cases z⟩
 keep:=fun i h h' st k=>st.at fun o e=>k it (by simp) o e
 item:=by
  intro X hP hw hK hc i pins s σ H E I hf st hg
  subst hP hw hK
  obtain ⟨xs,x,hq,hx⟩:=hg
  obtain ⟨its,rv,p,hz⟩:=I.list hq
  obtain ⟨u,hu,ru⟩:=rv.get hx
  obtain ⟨f0,f1,f2,f3,f4,f5⟩:=hf it (by simp)
  refine wpAny_pyNext_list_item st p.isList (x:=u) (by simpa using hu) fun h' st' sb=>?_
  have I1:Inv X pins σ H {s with heap:=h'}:=I.turned (t':=s.toks) (fun b o hb e=>(sb.2 b hb).trans e) f0 f1 f3 f4 f5
  obtain ⟨o,e,c,d⟩:=id st'
  exact ⟨u,rfl,Dq (s:={s with heap:=h'}) e c d (by decide) ⟨x,H,I1,ru,⟨rfl,fun ys hy=>by rw [I.list_inj hy hq];exact hx⟩,st',fun b hb=>(hf b hb).1⟩⟩
 done:=by
  intro X hP hw hK hc i pins s σ H E I hf st hg
  subst hP hw hK
  obtain ⟨xs,hq,hx⟩:=hg
  obtain ⟨its,rv,p,hz⟩:=I.list hq
  obtain ⟨f0,f1,f2,f3,f4,f5⟩:=hf it (by simp)
  have hl:=rv.length
  exact wpAny_pyNext_list_end (I.ok.hd hc) st p.isList (by simp;omega) fun h' eb=>⟨rfl,I.turned (t':=s.toks) (fun b o hb e=>eb b o hb e) f0 f1 f3 f4 f5⟩
 self:=fun _ _ _ _ _ st h=>wpAny_pyIter_listiter st h
theorem zW {P:Program}{w:World}{K:WA}{tg:Expr}(a it:Addr):zV P w K tg (Itt K a) [it] it (fun i h=>h.IsTupleIter it a i) where
 mem:=by simp
 obj:=fun i h st b hb=>by
  have e:b=it:=by simpa using hb
  subst e
  obtain ⟨o,e,c,d⟩:=st
  exact ⟨o,e,fun v z=>by rw [d] at z;cases z⟩
 keep:=fun i h h' st k=>st.at fun o e=>k it (by simp) o e
 item:=by
  intro X hP hw hK hc i pins s σ H E I hf st hg
  subst hP hw hK
  obtain ⟨xs,x,hq,hx⟩:=hg
  obtain ⟨its,rv,p,hz⟩:=I.tuple hq
  obtain ⟨u,hu,ru⟩:=rv.get hx
  obtain ⟨f0,f1,f2,f3,f4,f5⟩:=hf it (by simp)
  refine wpAny_pyNext_tuple_item st (show s.heap.IsTuple a its.toArray from p) (x:=u) (by simpa using hu) fun h' st' sb=>?_
  have I1:Inv X pins σ H {s with heap:=h'}:=I.turned (t':=s.toks) (fun b o hb e=>(sb.2 b hb).trans e) f0 f1 f3 f4 f5
  obtain ⟨o,e,c,d⟩:=id st'
  exact ⟨u,rfl,Dq (s:={s with heap:=h'}) e c d (by decide) ⟨x,H,I1,ru,⟨rfl,fun ys hy=>by rw [I.tuple_inj hy hq];exact hx⟩,st',fun b hb=>(hf b hb).1⟩⟩
 done:=by
  intro X hP hw hK hc i pins s σ H E I hf st hg
  subst hP hw hK
  obtain ⟨xs,hq,hx⟩:=hg
  obtain ⟨its,rv,p,hz⟩:=I.tuple hq
  obtain ⟨f0,f1,f2,f3,f4,f5⟩:=hf it (by simp)
  have hl:=rv.length
  exact wpAny_pyNext_tuple_end (I.ok.hd hc) st (show s.heap.IsTuple a its.toArray from p) (by simp;omega) fun h' eb=>⟨rfl,I.turned (t':=s.toks) (fun b o hb e=>eb b o hb e) f0 f1 f3 f4 f5⟩
 self:=fun _ _ _ _ _ st h=>wpAny_pyIter_tupleiter st h
theorem zX {P:Program}{w:World}{K:WA}{tg:Expr}(it:Addr)(lo:Int)(n:Nat):zV P w K tg (Itr lo n) [it] it (fun i h=>IsRangeIter h it (lo+(i:Nat) * 1) ((n:Int) - (i:Nat)) 1) where
 mem:=by simp
 obj:=fun i h st b hb=>by
  have e:b=it:=by simpa using hb
  subst e
  exact ⟨_,st,fun v z=>by
   have z':Data.fields _=Data.cell v:=z
   cases z'⟩
 keep:=fun i h h' st k=>k it (by simp) _ st
 item:=by
  intro X hP hw hK hc i pins s σ H E I hf st hg
  subst hP hw hK
  obtain ⟨f0,f1,f2,f3,f4,f5⟩:=hf it (by simp)
  have W:=Walks.range (prog:=X.prog) (w:=X.w) (I.ok.hd hc) it lo 1 n
  refine W.item i s _ _ hg st fun v h' tk hv st' kk=>?_
  obtain ⟨t,rfl⟩:=hv
  have I1:Inv X pins σ H {s with heap:=h',toks:=tk}:=I.turned (fun b o hb e=>kk b o (by simpa using hb) e) f0 f1 f3 f4 f5
  refine ⟨_,rfl,Dq (s:={s with heap:=h',toks:=tk}) (n:="range_iterator") st' rfl rfl (by decide) ⟨.int (lo+i),H,I1,⟨t,?_⟩,⟨rfl,rfl⟩,st',fun b hb=>(hf b hb).1⟩⟩
  rw [Int.mul_one]
 done:=by
  intro X hP hw hK hc i pins s σ H E I hf st hg
  subst hP hw hK
  obtain ⟨f0,f1,f2,f3,f4,f5⟩:=hf it (by simp)
  exact wpAny_pyNext_range_end (I.ok.hd hc) st (by have:n<=i:=hg;omega) fun h' eb=>⟨rfl,I.turned (t':=s.toks) (fun b o hb e=>eb b o hb e) f0 f1 f3 f4 f5⟩
 self:=fun _ _ _ _ _ st h=>wpAny_pyIter_rangeiter st h
section
variable {X:Cx}{tg:Expr}
noncomputable def He (K:WA)(tl:TE):TI:=fun σ H R=>tl σ H fun x H1=>∃a,x=.ref a/\(∃xs,SqL K H1 a xs)/\R (Itl K a) H1
noncomputable def JX (K:WA)(tl:TE):TI:=fun σ H R=>tl σ H fun x H1=>∃a,x=.ref a/\(∃xs,SqT K H1 a xs)/\R (Itt K a) H1
theorem Fq {l:Expr}{tl:TE}(hl:PE X l tl):PI X tg l (He X.K tl):=by
 intro pins s σ H R I h
 refine thn (hl pins s σ H _ I h) fun v s1 ⟨x,H1,I1,r1,q1⟩=>?_
 obtain ⟨a,e,⟨xs,hq⟩,q⟩:=q1
 subst e
 cases r1
 obtain ⟨its,rv,p,hz⟩:=I1.list hq
 refine wpAny_pyIter_list p.isList ?_
 refine ⟨s1.heap.objs.size,[s1.heap.objs.size],_,_,H1,rfl,I1.kept (t':=s1.toks) fun b o e=>Heap.get?_push_of_some _ e,B9 a _,⟨_,Heap.get?_push_size _ rfl,rfl,rfl⟩,fun b hb=>?_,q⟩
 have e:b=s1.heap.objs.size:=by simpa using hb
 subst e
 exact I1.fpOk (Nat.le_refl _) (I1.hok.fresh (Nat.le_refl _))
theorem Iv {l:Expr}{tl:TE}(hl:PE X l tl):PI X tg l (JX X.K tl):=by
 intro pins s σ H R I h
 refine thn (hl pins s σ H _ I h) fun v s1 ⟨x,H1,I1,r1,q1⟩=>?_
 obtain ⟨a,e,⟨xs,hq⟩,q⟩:=q1
 subst e
 cases r1
 obtain ⟨its,rv,p,hz⟩:=I1.tuple hq
 refine wpAny_pyIter_tuple (show s1.heap.IsTuple a its.toArray from p) ?_
 refine ⟨s1.heap.objs.size,[s1.heap.objs.size],_,_,H1,rfl,I1.kept (t':=s1.toks) fun b o e=>Heap.get?_push_of_some _ e,zW a _,⟨_,Heap.get?_push_size _ rfl,rfl,rfl⟩,fun b hb=>?_,q⟩
 have e:b=s1.heap.objs.size:=by simpa using hb
 subst e
 exact I1.fpOk (Nat.le_refl _) (I1.hok.fresh (Nat.le_refl _))
theorem yF {pins:List (Addr×Obj)}{σ:St}{H:Hp}{s:Shared}{R:It->Hp->Prop}{E:Value->Shared->Prop}{lo hi:Int}{t u v:Tok}{tk:Nat}(I:Inv X pins σ H s)(h1:-(2 ^ 62)<=lo)(h2:lo < 2 ^ 62)(h3:-(2 ^ 62)<=hi)(h4:hi < 2 ^ 62)
  (q:R (Itr lo (hi - lo).toNat) H):wpAny (model X.prog X.w) X.A (pyIter (.ref s.heap.objs.size)) (PIE X pins σ tg R) E {s with heap:=s.heap.push {cls:=.type "range",data:=.fields #[.int lo t,.int hi u,.int 1 v]},toks:=tk}:=by
 refine wpAny_pyIter_range (IsRange.new ..) (small_one h1 h2 h3 h4) ?_
 have I1:Inv X pins σ H {s with heap:=s.heap.push {cls:=.type "range",data:=.fields #[.int lo t,.int hi u,.int 1 v]},toks:=tk}:=I.kept fun b o e=>Heap.get?_push_of_some _ e
 refine ⟨(s.heap.push {cls:=.type "range",data:=.fields #[.int lo t,.int hi u,.int 1 v]}).objs.size,[(s.heap.push {cls:=.type "range",data:=.fields #[.int lo t,.int hi u,.int 1 v]}).objs.size],_,_,H,rfl,
  I1.kept (t':=tk) fun b o e=>Heap.get?_push_of_some _ e,zX _ lo (hi - lo).toNat,?_,fun b hb=>?_,q⟩
 ·have e1:lo+((0:Nat):Int) * 1=lo:=by simp
  have e2:(((hi - lo).toNat:Nat):Int) - ((0:Nat):Int)=Builtin.Range.rangeSize lo hi 1:=by rw [rangeSize_one];split<;>omega
  show IsRangeIter _ _ (lo+((0:Nat):Int) * 1) ((((hi - lo).toNat:Nat):Int) - ((0:Nat):Int)) 1
  rw [e1,e2]
  exact Heap.get?_push_size _ rfl
 ·have e:b=(s.heap.push {cls:=.type "range",data:=.fields #[.int lo t,.int hi u,.int 1 v]}).objs.size:=by simpa using hb
  subst e
  exact I1.fpOk (Nat.le_refl _) (I1.hok.fresh (Nat.le_refl _))
noncomputable def Hf (ta:TA):TI:=fun σ H R=>ta σ H fun vs H1=>∃j:Int,vs=[.int j]/\-(2 ^ 62)<=j/\j < 2 ^ 62/\R (Itr 0 j.toNat) H1
noncomputable def Hg (ta:TA):TI:=fun σ H R=>ta σ H fun vs H1=>∃i j:Int,vs=[.int i,.int j]/\(-(2 ^ 62)<=i/\i < 2 ^ 62/\-(2 ^ 62)<=j/\j < 2 ^ 62)/\R (Itr i (j - i).toNat) H1
theorem Ca {a:Expr}{ta:TA}{p pos:Pos}(hg:Gl X "range")(hm:X.mg "range"=none)(ha:PA X [a] ta)(hs:starEach [a] X.env=[(false,eval a X.env)]:=by rfl):PI X tg (.Call (.Name "range" p) [a] [] pos) (Hf ta):=by
 intro pins s σ H R I h
 refine Call_ (om I hg hm boot_range (PyProof.Rows.callWith_type1 (thn (ha pos pins s σ H _ I h) fun us s1 ⟨vs,H1,I1,r1,q1⟩=>?_) hs rfl))
 obtain ⟨j,e,q1,q2,q⟩:=q1
 subst e
 cases r1 with
 | cons r rr=>
  cases rr
  obtain ⟨t,rfl⟩:=r
  exact call_range_1 (yF I1 (by omega) (by omega) q1 q2 (by simpa using q))
theorem Cb {a b:Expr}{ta:TA}{p pos:Pos}(hg:Gl X "range")(hm:X.mg "range"=none)(ha:PA X [a,b] ta)(hs:starEach [a,b] X.env=[(false,eval a X.env),(false,eval b X.env)]:=by rfl)(hs2:starEach [b] X.env=[(false,eval b X.env)]:=by rfl) :
  PI X tg (.Call (.Name "range" p) [a,b] [] pos) (Hg ta):=by
 intro pins s σ H R I h
 refine Call_ (om I hg hm boot_range (PyProof.Rows.callWith_type1 (thn (ha pos pins s σ H _ I h) fun us s1 ⟨vs,H1,I1,r1,q1⟩=>?_) (by rw [hs,hs2]) (by rw [hs2];rfl)))
 obtain ⟨i,j,e,⟨q1,q2,q3,q4⟩,q⟩:=q1
 subst e
 cases r1 with
 | cons r rr=>
  cases rr with
  | cons r' rr=>
   cases rr
   obtain ⟨t,rfl⟩:=r
   obtain ⟨t',rfl⟩:=r'
   exact call_range_2 (yF I1 q1 q2 q3 q4 q)
noncomputable def JY (wi:TI)(g:TG)(tb:TS):TS:=fun D σ H=>wi σ H fun J H1=>∃W:Nat->Nat->St->Hp->Prop,(∃m,W 0 m σ H1)/\∀i m σ H,W i m σ H->
 (J.stop i H/\D.nx σ H)\/(J.go i H/\∃N:St->Hp->Prop,(∀σ' H',N σ' H'->∃m',m' < m/\W (i+1) m' σ' H')/\∀x H',J.yld i H x H'->g x σ H' fun σ2 H2=>tb {D with nx:=N,ct:=N,bk:=D.nx} σ2 H2)
noncomputable def ue (fp:List Addr)(h:Heap):List (Addr×Obj):=fp.filterMap fun b=>(h.get? b).map fun o=>(b,o)
theorem kC {fp:List Addr}{h:Heap}{b:Addr}{o:Obj}(hb:b∈fp)(e:h.get? b=some o):(b,o)∈ue fp h:=List.mem_filterMap.mpr ⟨b,hb,by rw [e];rfl⟩
theorem Cc {fp:List Addr}{h:Heap}{p:Addr×Obj}(hp:p∈ue fp h):p.1∈fp/\h.get? p.1=some p.2:=by
 obtain ⟨b,hb,e⟩:=List.mem_filterMap.mp hp
 cases q:h.get? b with
 | none=>rw [q] at e;cases e
 | some o=>
  rw [q] at e
  have e':(b,o)=p:=Option.some.inj e
  subst e'
  exact ⟨hb,q⟩
theorem Inv.pinned {pins:List (Addr×Obj)}{σ:St}{H:Hp}{s:Shared}{fp:List Addr}(I:Inv X pins σ H s)(hf:∀b∈fp,qS X pins H b)(ho:∀b∈fp,∃o,s.heap.get? b=some o/\∀v,o.data≠.cell v):Inv X (pins++ue fp s.heap) σ H s:=
 I.pins_of fun p hp=>(List.mem_append.mp hp).elim (fun z=>I.pin p (List.mem_append_right _ z)) fun z=>by
  obtain ⟨hb,e⟩:=Cc z
  obtain ⟨f0,f1,f2,_⟩:=hf p.1 hb
  obtain ⟨o,e',d⟩:=ho p.1 hb
  rw [e] at e';cases e'
  exact ⟨e,f0,f1,f2,d⟩
theorem Inv.unpinned {pins pl:List (Addr×Obj)}{σ:St}{H:Hp}{s:Shared}(I:Inv X (pins++pl) σ H s):Inv X pins σ H s:=I.pins_of fun p hp=>I.pin p (List.mem_append_right _ (List.mem_append_left _ hp))
theorem cR {iter:Expr}{body:List Stmt}{wi:TI}{g:TG}{tb:TS}{pos:Pos}(hp:PassesOwn (model X.prog X.w) X.A X.env X.xe)(hc:X.calm=true)(hi:PI X tg iter wi)(hg:PG X tg g)(hb:PSs X body tb)
  (hs:∀x,foldedSetIterable iter X.env x=pure x:=by intro _;rfl):PS X (.For tg iter body [] pos) (JY wi g tb):=by
 intro pins s σ H D I h
 refine wpAny_For (thn (hi pins s σ H _ I h) fun v s1 h1=>thn h1 fun itv s2 h2=>?_) hs
 obtain ⟨it,fp,tn,J,H2,e,I2,T,st2,f2,W,⟨m0,w0⟩,turn⟩:=h2
 subst e
 have stat:∀{H':Hp},(∀b∈fp,H' b=none)->∀b∈fp,qS X pins H' b:=fun hn b hb=>⟨hn b hb,(f2 b hb).2⟩
 refine codeAny_forLoop_any (fun n s'=>∃i σ' H',Inv X pins σ' H' s'/\tn i s'.heap/\(∀b∈fp,H' b=none)/\W i n σ' H') ?_ m0 ⟨0,σ,H2,I2,st2,fun b hb=>(f2 b hb).1,w0⟩
 rintro n s3 ⟨i,σ3,H3,I3,st3,fr3,w3⟩
 rcases turn i n σ3 H3 w3 with ⟨stop,qn⟩ | ⟨go,N,hN,step⟩
 ·refine wpAny_passesOwn hp (thn (T.done X rfl rfl rfl hc i pins s3 σ3 H3 X.xe I3 (stat fr3) st3 stop) fun r s4 ⟨hr,I4⟩=>?_)
  subst hr
  exact wpAny_execs_nil ⟨σ3,H3,I4,qn⟩
 ·refine wpAny_passesOwn hp (thn (T.item X rfl rfl rfl hc i pins s3 σ3 H3 X.xe I3 (stat fr3) st3 go) fun r s4 ⟨u,hr,h4⟩=>?_)
  subst hr
  refine wpAny_passesOwn hp (thn h4 fun _ s5 ⟨x,H5,I5,r5,y5,st5,fr5⟩=>?_)
  have I5':=I5.pinned (stat fr5) (T.obj _ _ st5)
  refine wpAny_passesOwn hp (thn (hg _ s5 σ3 H5 x u _ I5' r5 (step x H5 y5)) fun _ s6 ⟨σ6,H6,I6,q6⟩=>?_)
  refine wpAny_passesOwn hp (thn (hb _ s6 σ6 H6 _ I6 q6) fun f s7 q7=>?_)
  have again:∀{σ7:St} {H7:Hp},Inv X (pins++ue fp s5.heap) σ7 H7 s7->N σ7 H7->∃m,m < n/\∃i σ' H',Inv X pins σ' H' s7/\tn i s7.heap/\(∀b∈fp,H' b=none)/\W i m σ' H':=fun {σ7 H7} I7 n7=>by
   obtain ⟨m',hm,w7⟩:=hN σ7 H7 n7
   refine ⟨m',hm,i+1,σ7,H7,I7.unpinned,T.keep _ _ _ st5 fun b hb o e=>(I7.pin (b,o) (List.mem_append_right _ (List.mem_append_right _ (kC hb e)))).1,fun b hb=>?_,w7⟩
   obtain ⟨o,e,d⟩:=T.obj _ _ st5 b hb
   exact (I7.pin (b,o) (List.mem_append_right _ (List.mem_append_right _ (kC hb e)))).2.1
  cases f with
  | next=>obtain ⟨σ7,H7,I7,n7⟩:=q7;exact again I7 n7
  | cont=>obtain ⟨σ7,H7,I7,n7⟩:=q7;exact again I7 n7
  | brk=>obtain ⟨σ7,H7,I7,q7⟩:=q7;exact ⟨σ7,H7,I7.unpinned,q7⟩
  | ret v=>obtain ⟨x7,σ7,H7,I7,r7,q7⟩:=q7;exact ⟨x7,σ7,H7,I7.unpinned,r7,q7⟩
end
theorem Dr {K:WA}{a:Addr}{xs:List V}{g:TG}{tb:TS}{D:gQ}{σ:St}{H:Hp}(Pv:Nat->St->Hp->Prop)(h0:Pv 0 σ H)(hl:∀i σ H,i<=xs.length->Pv i σ H->SqL K H a xs)
  (hs:∀i x σ H,xs[i]?=some x->Pv i σ H->g x σ H fun σ2 H2=>tb {D with nx:=Pv (i+1),ct:=Pv (i+1),bk:=D.nx} σ2 H2) (hd:∀σ H,Pv xs.length σ H->D.nx σ H) :
  ∃W:Nat->Nat->St->Hp->Prop,(∃m,W 0 m σ H)/\∀i m σ H,W i m σ H->
   ((Itl K a).stop i H/\D.nx σ H)\/((Itl K a).go i H/\∃N:St->Hp->Prop,(∀σ' H',N σ' H'->∃m',m' < m/\W (i+1) m' σ' H')/\∀x H',(Itl K a).yld i H x H'->g x σ H' fun σ2 H2=>tb {D with nx:=N,ct:=N,bk:=D.nx} σ2 H2):=by
 refine ⟨fun i m σ H=>m=xs.length - i/\i<=xs.length/\Pv i σ H,⟨xs.length,by simp,Nat.zero_le _,h0⟩,?_⟩
 rintro i m σ H ⟨rfl,hi,p⟩
 have q:=hl i σ H hi p
 by_cases hlt:i < xs.length
 ·refine .inr ⟨⟨xs,xs[i],q,by simp [hlt]⟩,Pv (i+1),fun σ' H' p'=>⟨xs.length - (i+1),by omega,rfl,hlt,p'⟩,fun x H' y=>?_⟩
  obtain ⟨e,y⟩:=y
  subst e
  exact hs i x σ _ (y xs q) p
 ·have e:i=xs.length:=by omega
  subst e
  exact .inl ⟨⟨xs,q,Nat.le_refl _⟩,hd σ H p⟩
theorem Ce {lo:Int}{n:Nat}{g:TG}{tb:TS}{D:gQ}{σ:St}{H:Hp}(Pv:Nat->St->Hp->Prop)(h0:Pv 0 σ H)
  (hs:∀i σ H,i < n->Pv i σ H->g (.int (lo+i)) σ H fun σ2 H2=>tb {D with nx:=Pv (i+1),ct:=Pv (i+1),bk:=D.nx} σ2 H2) (hd:∀σ H,Pv n σ H->D.nx σ H) :
  ∃W:Nat->Nat->St->Hp->Prop,(∃m,W 0 m σ H)/\∀i m σ H,W i m σ H->
   ((Itr lo n).stop i H/\D.nx σ H)\/((Itr lo n).go i H/\∃N:St->Hp->Prop,(∀σ' H',N σ' H'->∃m',m' < m/\W (i+1) m' σ' H')/\∀x H',(Itr lo n).yld i H x H'->g x σ H' fun σ2 H2=>tb {D with nx:=N,ct:=N,bk:=D.nx} σ2 H2):=by
 refine ⟨fun i m σ H=>m=n - i/\i<=n/\Pv i σ H,⟨n,by simp,Nat.zero_le _,h0⟩,?_⟩
 rintro i m σ H ⟨rfl,hi,p⟩
 by_cases hlt:i < n
 ·refine .inr ⟨hlt,Pv (i+1),fun σ' H' p'=>⟨n - (i+1),by omega,rfl,hlt,p'⟩,fun x H' y=>?_⟩
  obtain ⟨e,y⟩:=y
  subst e y
  exact hs i σ _ hlt p
 ·have e:i=n:=by omega
  subst e
  exact .inl ⟨Nat.le_refl _,hd σ H p⟩
theorem Ds {c:TT}{tb:TS}{D:gQ}{σ:St}{H:Hp}(Pv:St->Hp->Prop)(μ:St->Hp->Nat)(h0:Pv σ H)
  (hs:∀σ H,Pv σ H->c σ H fun b H1=>if b=true then tb {D with nx:=fun σ' H'=>Pv σ' H'/\μ σ' H' < μ σ H,ct:=fun σ' H'=>Pv σ' H'/\μ σ' H' < μ σ H,bk:=D.nx} σ H1 else D.nx σ H1)
  (mono:∀σ H Q Q',(∀b H1,Q b H1->Q' b H1)->c σ H Q->c σ H Q'):Dn c tb D σ H:=by
 refine ⟨fun m σ H=>m=μ σ H/\Pv σ H,⟨_,rfl,h0⟩,?_⟩
 rintro m σ H ⟨rfl,p⟩
 refine mono σ H _ _ (fun b H1 q=>?_) (hs σ H p)
 cases b with
 | true=>exact ⟨_,fun σ' H' ⟨p',l⟩=>⟨_,l,rfl,p'⟩,q⟩
 | false=>exact q
noncomputable abbrev R2:=V->V->Hp->VK->Prop
def OpR (X:Cx)(f:Value->Value->Sem Value)(r:R2):Prop:=
 ∀(pins:List (Addr×Obj)) (s:Shared) (σ:St) (H:Hp) (x y:V) (v u:Value) (Q:VK),Inv X pins σ H s->bI x v->bI y u->r x y H Q->
  wpAny (model X.prog X.w) X.A (f v u) (EP X pins σ Q) X.xe s
def UnR (X:Cx)(f:Value->Sem Value)(r:V->Hp->VK->Prop):Prop:=
 ∀(pins:List (Addr×Obj)) (s:Shared) (σ:St) (H:Hp) (x:V) (v:Value) (Q:VK),Inv X pins σ H s->bI x v->r x H Q->
  wpAny (model X.prog X.w) X.A (f v) (EP X pins σ Q) X.xe s
def fK (X:Cx)(f:Value)(r:List V->Hp->VK->Prop):Prop:=
 ∀(pins:List (Addr×Obj)) (s:Shared) (σ:St) (H:Hp) (xs:List V) (us:List Value) (Q:VK),Inv X pins σ H s->bz xs us->r xs H Q->
  wpAny (model X.prog X.w) X.A (call f us) (EP X pins σ Q) X.xe s
def K4 (X:Cx)(r:V->Hp->(Bool->Hp->Prop)->Prop):Prop:=
 ∀(pins:List (Addr×Obj)) (s:Shared) (σ:St) (H:Hp) (x:V) (v:Value) (Q:Bool->Hp->Prop),Inv X pins σ H s->bI x v->r x H Q->
  wpAny (model X.prog X.w) X.A (truthy v) (TP X pins σ Q) X.xe s
noncomputable def tOp (r:R2)(ta tb:TE):TE:=fun σ H Q=>ta σ H fun x H1=>tb σ H1 fun y H2=>r x y H2 Q
noncomputable def tUn (r:V->Hp->VK->Prop)(ta:TE):TE:=fun σ H Q=>ta σ H fun x H1=>r x H1 Q
noncomputable def rI (C:Int->Int->Prop)(g:Int->Int->V):R2:=fun x y H Q=>∃i j,x=.int i/\y=.int j/\C i j/\Q (g i j) H
noncomputable def rI0 (g:Int->Int->V):R2:=fun x y H Q=>∃i j,x=.int i/\y=.int j/\Q (g i j) H
noncomputable def rU (g:Int->V):V->Hp->VK->Prop:=fun x H Q=>∃i,x=.int i/\Q (g i) H
section
variable {X:Cx}{a b c:Expr}{ta tb tc:TE}{pos:Pos}
theorem Iw (ha:PE X a ta)(hb:PE X b tb){pins:List (Addr×Obj)}{s:Shared}{σ:St}{H:Hp}{R:V->V->Hp->Prop}(I:Inv X pins σ H s)
  (h:ta σ H fun x H1=>tb σ H1 fun y H2=>R x y H2) {Q:Value->Shared->Prop} {f:Value->Value->Sem Value}
  (hf:∀v u s2 x y H2,Inv X pins σ H2 s2->bI x v->bI y u->R x y H2->wpAny (model X.prog X.w) X.A (f v u) Q X.xe s2) :
  wpAny (model X.prog X.w) X.A (eval a X.env) (fun v s₁=>wpAny (model X.prog X.w) X.A (eval b X.env) (fun u s₂=>wpAny (model X.prog X.w) X.A (f v u) Q X.xe s₂) X.xe s₁) X.xe s:=by
 refine thn (ha pins s σ H _ I h) fun v s1 ⟨x,H1,I1,r1,q1⟩=>?_
 refine thn (hb pins s1 σ H1 _ I1 q1) fun u s2 ⟨y,H2,I2,r2,q2⟩=>?_
 exact hf v u s2 x y H2 I2 r1 r2 q2
theorem aQ {op:Operator}{r:R2}(ho:OpR X (binaryOp op) r)(ha:PE X a ta)(hb:PE X b tb):PE X (.BinOp a op b pos) (tOp r ta tb):=by
 intro pins s σ H Q I h
 exact wpAny_BinOp (Iw ha hb I h fun v u s2 x y H2 I2 rx ry q=>ho pins s2 σ H2 x y v u Q I2 rx ry q)
theorem j8 {op:UnaryOp}{r:V->Hp->VK->Prop}(ho:UnR X (unaryOp op) r)(ha:PE X a ta):PE X (.UnaryOp op a pos) (tUn r ta):=by
 intro pins s σ H Q I h
 exact UnaryOp_ (thn (ha pins s σ H _ I h) fun v s1 ⟨x,H1,I1,r1,q1⟩=>ho pins s1 σ H1 x v Q I1 r1 q1)
theorem opI {f:Value->Value->Sem Value}{C:Int->Int->Prop}{g:Int->Int->Int}
  (rule:∀(i j:Int) (t u:Tok) (s:Shared) (Q:Value->Shared->Prop) (E:Value->Shared->Prop),C i j->Q (.int (g i j) s.toks) {s with toks:=s.toks+1}->wpAny (model X.prog X.w) X.A (f (.int i t) (.int j u)) Q E s) :
  OpR X f (rI C fun i j=>.int (g i j)):=by
 intro pins s σ H x y v u Q I rx ry h
 obtain ⟨i,j,rfl,rfl,hc,q⟩:=h
 obtain ⟨t,rfl⟩:=rx
 obtain ⟨t',rfl⟩:=ry
 exact rule i j t t' s _ _ hc ⟨.int (g i j),H,I.tok _,⟨_,rfl⟩,q⟩
theorem JZ {f:Value->Value->Sem Value}{g:Int->Int->Int}
  (rule:∀(i j:Int) (t u:Tok) (s:Shared) (Q:Value->Shared->Prop) (E:Value->Shared->Prop),Q (.int (g i j) s.toks) {s with toks:=s.toks+1}->wpAny (model X.prog X.w) X.A (f (.int i t) (.int j u)) Q E s) :
  OpR X f (rI0 fun i j=>.int (g i j)):=by
 intro pins s σ H x y v u Q I rx ry h
 obtain ⟨i,j,rfl,rfl,q⟩:=h
 obtain ⟨t,rfl⟩:=rx
 obtain ⟨t',rfl⟩:=ry
 exact rule i j t t' s _ _ ⟨.int (g i j),H,I.tok _,⟨_,rfl⟩,q⟩
theorem Fs {f:Value->Value->Sem Value}{g:Int->Int->Bool}
  (rule:∀(i j:Int) (t u:Tok) (s:Shared) (Q:Value->Shared->Prop) (E:Value->Shared->Prop),Q (.bool (g i j)) s->wpAny (model X.prog X.w) X.A (f (.int i t) (.int j u)) Q E s) :
  OpR X f (rI0 fun i j=>.bl (g i j)):=by
 intro pins s σ H x y v u Q I rx ry h
 obtain ⟨i,j,rfl,rfl,q⟩:=h
 obtain ⟨t,rfl⟩:=rx
 obtain ⟨t',rfl⟩:=ry
 exact rule i j t t' s _ _ ⟨.bl (g i j),H,I,rfl,q⟩
def Du (i j:Int):Prop:=0 < j/\j < 1073741824
def K5 (i j:Int):Prop:=0<=j/\j<=1000000/\i.natAbs < 2 ^ 64
def uf (i j:Int):Prop:=(-(2 ^ 64) < i/\i < 2 ^ 64)\/(-(2 ^ 64) < j/\j < 2 ^ 64)
theorem uf.ok {i j:Int}(h:uf i j):IntMulOk i j:=by
 rcases h with ⟨h1,h2⟩ | ⟨h1,h2⟩
 ·exact .of_left (intBits_le_64 h1 h2)
 ·exact .of_right (intBits_le_64 h1 h2)
theorem Iy:OpR X (binaryOp .Add) (rI0 fun i j=>.int (i+j)):=JZ fun _ _ _ _ _ _ _ q=>add_int q
theorem Iz:OpR X (binaryOp .Sub) (rI0 fun i j=>.int (i - j)):=JZ fun _ _ _ _ _ _ _ q=>sub_int q
theorem zY:OpR X (binaryOp .Mult) (rI uf fun i j=>.int (i * j)):=opI fun _ _ _ _ _ _ _ hc q=>mul_int q hc.ok
theorem Ft:OpR X (binaryOp .FloorDiv) (rI Du fun i j=>.int (i / j)):=opI fun i j _ _ _ _ _ hc q=>by
 have h1:(0:Int) < j:=hc.1
 have h2:j < 1073741824:=hc.2
 exact floordiv_int (by omega) (by rw [Int.fdiv_eq_ediv_of_nonneg i (by omega)];exact q) (.inl (PyProof.noPylong_small (by omega)))
theorem Dv:OpR X (binaryOp .Mod) (rI (fun _ j=>0 < j) fun i j=>.int (i % j)):=opI fun i j _ _ _ _ _ hc q=>by
 have h1:(0:Int) < j:=hc
 exact mod_int' (by omega) (by rw [Int.fmod_eq_emod_of_nonneg i (by omega)];exact q)
theorem unI {f:Value->Sem Value}{g:Int->Int}
  (rule:∀(i:Int) (t:Tok) (s:Shared) (Q:Value->Shared->Prop) (E:Value->Shared->Prop),Q (.int (g i) s.toks) {s with toks:=s.toks+1}->wpAny (model X.prog X.w) X.A (f (.int i t)) Q E s) :
  UnR X f (rU fun i=>.int (g i)):=by
 intro pins s σ H x v Q I rx h
 obtain ⟨i,rfl,q⟩:=h
 obtain ⟨t,rfl⟩:=rx
 exact rule i t s _ _ ⟨.int (g i),H,I.tok _,⟨_,rfl⟩,q⟩
theorem IA:UnR X (unaryOp .USub) (rU fun i=>.int (-i)):=unI fun _ _ _ _ _ q=>neg_int q
end
noncomputable def vM:V->V->Bool
 | .non,.non=>true | .non,.int _=>true | .int _,.non=>true | .non,.bl _=>true | .bl _,.non=>true | .non,.str _=>true | .str _,.non=>true
 | .int _,.int _=>true | .bl _,.bl _=>true | .str _,.str _=>true | .byt _,.byt _=>true
 | .int _,.str _=>true | .str _,.int _=>true | .bl _,.str _=>true | .str _,.bl _=>true
 | _,_=>false
noncomputable def rEq:R2:=fun x y H Q=>vM x y=true/\Q (.bl (decide (x=y))) H
noncomputable def rNe:R2:=fun x y H Q=>vM x y=true/\Q (.bl (!decide (x=y))) H
theorem Bn {i j:Int}:decide (V.int i=V.int j)=(i == j):=by
 rw [Bool.eq_iff_iff]
 simp
theorem Dw {i j:Bool}:decide (V.bl i=V.bl j)=(i == j):=by
 rw [Bool.eq_iff_iff]
 simp
theorem Bo {i j:Str}:decide (V.str i=V.str j)=(i == j):=by
 rw [Bool.eq_iff_iff]
 simp
theorem Bp {i j:Array UInt8}:decide (V.byt i=V.byt j)=(i.toList == j.toList):=by
 rw [Bool.eq_iff_iff]
 cases i
 cases j
 simp
section
variable {X:Cx}{a b c:Expr}{ta tb tc:TE}{pos:Pos}
theorem bP {pins:List (Addr×Obj)}{σ:St}{H:Hp}{s:Shared}{Q:VK}{k k':Bool}(I:Inv X pins σ H s)(q:Q (.bl k) H)(e:k=k'):EP X pins σ Q (.bool k') s:=by
 subst e
 exact ⟨.bl k,H,I,rfl,q⟩
theorem Hh:OpR X (compareOp .Eq) rEq:=by
 intro pins s σ H x y v u Q I rx ry h
 obtain ⟨hs,q⟩:=h
 cases x with
 | non=>
  cases rx
  cases y with
  | non=>cases ry;exact PySem.EqNone.eq_none_none (bP I q (by simp))
  | bl j=>cases ry;exact PySem.EqNone.eq_none_bool (bP I q (by simp))
  | int j=>obtain ⟨t',rfl⟩:=ry;exact PySem.EqNone.eq_none_int (bP I q (by simp))
  | str j=>obtain ⟨t',rfl⟩:=ry;exact PySem.EqNone.eq_none_str (bP I q (by simp))
  | _=>exact absurd (show false=true from hs) Bool.false_ne_true
 | bl i=>
  cases rx
  cases y with
  | non=>cases ry;exact PySem.EqNone.eq_bool_none (bP I q (by simp))
  | bl j=>cases ry;exact eq_bool (bP I q Dw)
  | str j=>obtain ⟨t',rfl⟩:=ry;exact PySem.EqMixed.eq_bool_str (bP I q (by simp))
  | _=>exact absurd (show false=true from hs) Bool.false_ne_true
 | int i=>
  obtain ⟨t,rfl⟩:=rx
  cases y with
  | non=>cases ry;exact PySem.EqNone.eq_int_none (bP I q (by simp))
  | int j=>obtain ⟨t',rfl⟩:=ry;exact eq_int (bP I q Bn)
  | str j=>obtain ⟨t',rfl⟩:=ry;exact PySem.EqMixed.eq_int_str (bP I q (by simp))
  | _=>exact absurd (show false=true from hs) Bool.false_ne_true
 | str i=>
  obtain ⟨t,rfl⟩:=rx
  cases y with
  | non=>cases ry;exact PySem.EqNone.eq_str_none (bP I q (by simp))
  | bl j=>cases ry;exact PySem.EqMixed.eq_str_bool (bP I q (by simp))
  | int j=>obtain ⟨t',rfl⟩:=ry;exact PySem.EqMixed.eq_str_int (bP I q (by simp))
  | str j=>obtain ⟨t',rfl⟩:=ry;exact eq_str (bP I q Bo)
  | _=>exact absurd (show false=true from hs) Bool.false_ne_true
 | byt i=>
  obtain ⟨t,rfl⟩:=rx
  cases y with
  | byt j=>obtain ⟨t',rfl⟩:=ry;exact W.eq_bytes (bP I q Bp)
  | _=>exact absurd (show false=true from hs) Bool.false_ne_true
 | _=>cases y<;>exact absurd (show false=true from hs) Bool.false_ne_true
theorem J0:OpR X (compareOp .NotEq) rNe:=by
 intro pins s σ H x y v u Q I rx ry h
 obtain ⟨hs,q⟩:=h
 cases x with
 | non=>
  cases rx
  cases y with
  | non=>cases ry;exact PySem.EqNone.ne_none_none (bP I q (by simp))
  | bl j=>cases ry;exact PySem.EqNone.ne_none_bool (bP I q (by simp))
  | int j=>obtain ⟨t',rfl⟩:=ry;exact PySem.EqNone.ne_none_int (bP I q (by simp))
  | str j=>obtain ⟨t',rfl⟩:=ry;exact PySem.EqNone.ne_none_str (bP I q (by simp))
  | _=>exact absurd (show false=true from hs) Bool.false_ne_true
 | bl i=>
  cases rx
  cases y with
  | non=>cases ry;exact PySem.EqNone.ne_bool_none (bP I q (by simp))
  | bl j=>cases ry;exact ne_bool (bP I q (congrArg not Dw))
  | str j=>obtain ⟨t',rfl⟩:=ry;exact PySem.EqMixed.ne_bool_str (bP I q (by simp))
  | _=>exact absurd (show false=true from hs) Bool.false_ne_true
 | int i=>
  obtain ⟨t,rfl⟩:=rx
  cases y with
  | non=>cases ry;exact PySem.EqNone.ne_int_none (bP I q (by simp))
  | int j=>obtain ⟨t',rfl⟩:=ry;exact ne_int (bP I q (congrArg not Bn))
  | str j=>obtain ⟨t',rfl⟩:=ry;exact PySem.EqMixed.ne_int_str (bP I q (by simp))
  | _=>exact absurd (show false=true from hs) Bool.false_ne_true
 | str i=>
  obtain ⟨t,rfl⟩:=rx
  cases y with
  | non=>cases ry;exact PySem.EqNone.ne_str_none (bP I q (by simp))
  | bl j=>cases ry;exact PySem.EqMixed.ne_str_bool (bP I q (by simp))
  | int j=>obtain ⟨t',rfl⟩:=ry;exact PySem.EqMixed.ne_str_int (bP I q (by simp))
  | str j=>obtain ⟨t',rfl⟩:=ry;exact ne_str (bP I q (congrArg not Bo))
  | _=>exact absurd (show false=true from hs) Bool.false_ne_true
 | byt i=>
  obtain ⟨t,rfl⟩:=rx
  cases y with
  | byt j=>obtain ⟨t',rfl⟩:=ry;exact W.ne_bytes (bP I q (congrArg not Bp))
  | _=>exact absurd (show false=true from hs) Bool.false_ne_true
 | _=>cases y<;>exact absurd (show false=true from hs) Bool.false_ne_true
theorem Hi:OpR X (compareOp .Lt) (rI0 fun i j=>.bl (decide (i < j))):=Fs fun _ _ _ _ _ _ _ q=>lt_int q
theorem Hj:OpR X (compareOp .LtE) (rI0 fun i j=>.bl (decide (i<=j))):=Fs fun _ _ _ _ _ _ _ q=>le_int q
theorem J1:OpR X (compareOp .Gt) (rI0 fun i j=>.bl (decide (j < i))):=Fs fun _ _ _ _ _ _ _ q=>gt_int q
theorem Hk:OpR X (compareOp .GtE) (rI0 fun i j=>.bl (decide (j<=i))):=Fs fun _ _ _ _ _ _ _ q=>ge_int q
theorem IB:OpR X (compareOp .Is) (fun x y H Q=>y=.non/\Q (.bl (decide (x=.non))) H):=by
 intro pins s σ H x y v u Q I rx ry h
 obtain ⟨rfl,q⟩:=h
 cases ry
 refine is_none_gen (bP I q ?_)
 cases x<;>first
  | (cases rx;rfl)
  | (obtain ⟨t,rfl⟩:=rx;rfl)
theorem Fu:OpR X (compareOp .IsNot) (fun x y H Q=>y=.non/\Q (.bl (!decide (x=.non))) H):=by
 intro pins s σ H x y v u Q I rx ry h
 obtain ⟨rfl,q⟩:=h
 cases ry
 refine isnot_none_gen (bP I q ?_)
 cases x<;>first
  | (cases rx;rfl)
  | (obtain ⟨t,rfl⟩:=rx;rfl)
theorem cu (b:Expr){op:CmpOp}(h:op≠.In:=by decide)(h2:op≠.NotIn:=by decide):behindInMarks op b=false:=by
 have e1:(op == CmpOp.In)=false:=by cases op<;>first | rfl | exact absurd rfl h
 have e2:(op == CmpOp.NotIn)=false:=by cases op<;>first | rfl | exact absurd rfl h2
 cases b<;>simp [behindInMarks,e1,e2]
theorem dJ {op:CmpOp}{r:R2}(ho:OpR X (compareOp op) r)(ha:PE X a ta)(hb:PE X b tb)(hm:behindInMarks op b=false):PE X (.Compare a [op] [b] pos) (tOp r ta tb):=by
 intro pins s σ H Q I h
 exact wpAny_Compare1 (Iw ha hb I h fun v u s2 x y H2 I2 rx ry q=>ho pins s2 σ H2 x y v u Q I2 rx ry q) hm
noncomputable def lR (t:TE):TT:=fun σ H Q=>t σ H fun x H'=>∃k,x=.bl k/\Q k H'
theorem gR {op:CmpOp}{r:R2}(ho:OpR X (compareOp op) r)(ha:PE X a ta)(hb:PE X b tb)(hm:behindInMarks op b=false):PT X (.Compare a [op] [b] pos) (lR (tOp r ta tb)):=by
 intro pins s σ H Q I h
 refine wpAny_isTrue_Compare1 (thn (ha pins s σ H _ I h) fun v s1 ⟨x,H1,I1,r1,q1⟩=>thn (hb pins s1 σ H1 _ I1 q1) fun u s2 ⟨y,H2,I2,r2,q2⟩=>
  thn (ho pins s2 σ H2 x y v u _ I2 r1 r2 q2) fun c s3 ⟨z,H3,I3,r3,k,e,q3⟩=>?_) hm
 subst e
 cases r3
 exact wpAny_truthy_bool ⟨H3,I3,q3⟩
def J2 (K:WA)(x:V)(H:Hp)(k:Bool):Prop:=
 match x with
 | .non=>k=false
 | .bl b=>k=b
 | .int i=>k=(i != 0)
 | .str y=>y.length<=sizeLine/\k=((y.length:Int) != 0)
 | .byt y=>y.size<=sizeLine/\k=((y.size:Int) != 0)
 | .ref p=>(∃xs,SqL K H p xs/\k=!xs.isEmpty)\/(∃xs,SqT K H p xs/\k=!xs.isEmpty)\/∃kvs,H p=some (.dK kvs)/\k=!kvs.isEmpty
 | _=>False
theorem zZ {κ:Type}{kvs:List (κ×V)}{vs:List (κ×Value)}(r:KV kvs vs):(!vs.isEmpty)=!kvs.isEmpty:=by
 cases r<;>rfl
theorem ug {xs:List V}{its:List Value}(r:bz xs its):(!its.toArray.isEmpty)=!xs.isEmpty:=by
 cases r<;>simp
theorem qT:(sizeLine:Nat) < 2 ^ 63:=by rw [sizeLine_eq];decide
theorem IC:K4 X (fun x H Q=>∃k,J2 X.K x H k/\Q k H):=by
 intro pins s σ H x v Q I rx h
 obtain ⟨k,e,q⟩:=h
 have hl:=qT
 have hs:sizeLine=16777216:=sizeLine_eq
 cases x with
 | non=>
  cases rx
  have e':k=false:=e
  subst e'
  exact truthy_none ⟨H,I,q⟩
 | bl b=>
  cases rx
  have e':k=b:=e
  subst e'
  exact wpAny_truthy_bool ⟨H,I,q⟩
 | int i=>
  obtain ⟨t,rfl⟩:=rx
  have e':k=(i != 0):=e
  subst e'
  exact PySem.P.truthy_int ⟨H,I,q⟩
 | str y=>
  obtain ⟨t,rfl⟩:=rx
  obtain ⟨hy,e'⟩:y.length<=sizeLine/\k=((y.length:Int) != 0):=e
  subst e'
  exact PySem.P.truthy_str (by omega) ⟨H,I.tok _,q⟩
 | byt y=>
  obtain ⟨t,rfl⟩:=rx
  obtain ⟨hy,e'⟩:y.size<=sizeLine/\k=((y.size:Int) != 0):=e
  subst e'
  exact W.truthy_bytes (by omega) ⟨H,I.tok _,q⟩
 | ref p=>
  cases rx
  have e':(∃xs,SqL X.K H p xs/\k=!xs.isEmpty)\/(∃xs,SqT X.K H p xs/\k=!xs.isEmpty)\/∃kvs,H p=some (.dK kvs)/\k=!kvs.isEmpty:=e
  rcases e' with ⟨xs,hx,e'⟩ | ⟨xs,hx,e'⟩ | ⟨kvs,hx,e'⟩
  ·subst e'
   obtain ⟨its,r,pl,hz⟩:=I.list hx
   have hlen:=r.length
   exact wpAny_truthy_list pl.isList (by simp only [List.size_toArray];omega) ⟨H,I.tok _,by rw [ug r];exact q⟩
  ·subst e'
   obtain ⟨its,r,pl,hz⟩:=I.tuple hx
   have hlen:=r.length
   exact truthy_tuple pl (by simp only [List.size_toArray];omega) ⟨H,I.tok _,by rw [ug r];exact q⟩
  ·subst e'
   obtain ⟨hz,hS,vs,r,m⟩:kvs.length<=sizeLine/\(p == sysModules)=false/\∃vs,KV kvs vs/\s.heap.DictOf (xH X.prog X.w) p vs:=I.hok p _ hx
   have hlen:kvs.length=vs.length:=Paired.length r
   exact wpAny_truthy_dict hS m (by omega) ⟨H,I.tok _,by rw [zZ r];exact q⟩
 | _=>exact (show False from e).elim
theorem uh (ha:PE X a ta)(he:∀bY,isTrue a X.env bY=(do let v ←bY;standAt a.pos;holding [v] (truthy v))) :
  PT X a (fun σ H Q=>ta σ H fun x H'=>∃k,J2 X.K x H' k/\Q k H'):=by
 intro pins s σ H Q I h
 exact isTrue_plain (thn (ha pins s σ H _ I h) fun v s1 ⟨x,H1,I1,r1,q1⟩=>IC pins s1 σ H1 x v Q I1 r1 q1) (he _)
theorem ui {x:V}{us:List Value}(r:bz [x] us):∃u,us=[u]/\bI x u:=by
 cases r with
 | cons r1 r2=>cases r2;exact ⟨_,rfl,r1⟩
theorem Dx {x y:V}{us:List Value}(r:bz [x,y] us):∃u w',us=[u,w']/\bI x u/\bI y w':=by
 cases r with
 | cons r1 r2=>
  cases r2 with
  | cons r3 r4=>cases r4;exact ⟨_,_,rfl,r1,r3⟩
theorem Dy:fK X (.builtin "abs") (fun xs H Q=>∃i,xs=[.int i]/\Q (.int (if i < 0 then -i else i)) H):=by
 intro pins s σ H xs us Q I r h
 obtain ⟨i,rfl,q⟩:=h
 obtain ⟨u,rfl,t,rfl⟩:=ui r
 exact call_abs_int fun u tk=>⟨.int (if i < 0 then -i else i),H,I.tok _,⟨_,rfl⟩,q⟩
theorem Cf (hc:X.calm=true):fK X (.builtin "min") (fun xs H Q=>∃i j,xs=[.int i,.int j]/\Q (.int (if j < i then j else i)) H):=by
 intro pins s σ H xs us Q I r h
 obtain ⟨i,j,rfl,q⟩:=h
 obtain ⟨u,w',rfl,⟨t,rfl⟩,⟨t',rfl⟩⟩:=Dx r
 refine min_two_ints (I.ok.hd hc) fun h' tk k=>⟨_,H,I.kept k,?_,q⟩
 by_cases hj:j < i
 ·rw [if_pos hj,if_pos hj];exact ⟨_,rfl⟩
 ·rw [if_neg hj,if_neg hj];exact ⟨_,rfl⟩
theorem Cg:fK X (.type "int") (fun xs H Q=>(∃i,xs=[.int i]/\Q (.int i) H)\/∃k,xs=[.bl k]/\Q (.int (if k then 1 else 0)) H):=by
 intro pins s σ H xs us Q I r h
 rcases h with ⟨i,rfl,q⟩ | ⟨k,rfl,q⟩
 ·obtain ⟨u,rfl,t,rfl⟩:=ui r
  exact call_int_int ⟨.int i,H,I,⟨_,rfl⟩,q⟩
 ·obtain ⟨u,rfl,r1⟩:=ui r
  cases r1
  exact call_int_bool ⟨.int (if k then 1 else 0),H,I.tok _,⟨_,rfl⟩,q⟩
end
structure z8 (h:Heap)(x dx C:Addr)(mA:Str->Option Value):Prop where
 obj:h.get? x=some (W.instObj C dx)
 ns:h.Ns1 dx mA
 ne:dx≠x
theorem Ci {h:Heap}{dx:Addr}{mA:Str->Option Value}(n:h.Ns1 dx mA):∃od,h.get? dx=some od/\∀name,W.lookIn name od=some (mA name):=by
 obtain ⟨o,es,ep,ho,hd,hk,_,hm⟩:=n
 refine ⟨o,ho,fun name=>?_⟩
 have e:=hm name
 unfold nsFind findBy at e
 rw [←Array.find?_toList] at e
 unfold W.lookIn
 rw [hd]
 dsimp only
 split
 ·rename_i y q
  rw [q] at e
  exact congrArg some e
 ·rename_i q
  rw [q] at e
  have a:es.toList.any (·.refKey)=false:=by
   rw [List.any_eq_false]
   intro y hy
   obtain ⟨z,t,hkey⟩:=hk y (Array.mem_toList_iff.mp hy)
   simp [DictEntry.refKey,hkey]
  have a':¬es.toList.any (·.refKey)=true:=by rw [a];exact Bool.false_ne_true
  rw [if_neg a']
  exact congrArg some e
theorem z8.look {h:Heap}{x dx C:Addr}{mA:Str->Option Value}(I:z8 h x dx C mA):∃od,W.InstAt h x (W.instObj C dx) C (some od)/\∀name,W.lookIn name od=some (mA name):=
 let ⟨od,ho,hl⟩:=Ci I.ns
 ⟨od,⟨I.obj,rfl,rfl,ho⟩,hl⟩
section
variable {prog:Program}{w:World}{A:Around}{E:Value->Shared->Prop}{s:Shared}{K:WA}{x dx C f:Addr}{mA:Str->Option Value}{name:Str}{v:Value}
theorem Fv {expr:Bool}{Q:Value->Shared->Prop}(X:K.In s.heap)(I:z8 s.heap x dx C mA)(hg:W.plainGet K C name=true)(hh:W.hasDictIn K C=true)
  (ha:W.findIn K (.ref C) name=some none) (hv:mA name=some v) (hv':W.handedIn v=true) (h:Q v {s with toks:=s.toks+1}) :
  wpAny (model prog w) A (getAttr (.ref x) name expr) Q E s:=by
 obtain ⟨od,J,hl⟩:=I.look
 exact W.get_value X J (W.plainGet_of hg).1 (W.findObj_own hh ha rfl (by rw [hl,hv])) hv' h
theorem Dz {pl:Sem Bool}{Q:Value×List Value->Shared->Prop}(X:K.In s.heap)(I:z8 s.heap x dx C mA)(hg:W.plainGet K C name=true)
  (hf:W.findIn K (.ref C) name=some (some (.ref f))) (ht:W.isFn K (.ref f)=true) (hv:mA name=none) (h:Q (.ref f,[.ref x]) s) :
  wpAny (model prog w) A (getMethod (.ref x) name pl) Q E s:=by
 obtain ⟨od,J,hl⟩:=I.look
 exact W.method_fn X J (W.plainGet_of hg).1 (W.plainGet_of hg).2 hf (beq_iff_eq.mp ht) (by show (W.lookIn name od).map (·.isSome)=some false;rw [hl,hv];rfl) h
theorem Fw {ns:List Str}{Q:Unit->Shared->Prop}(X:K.In s.heap)(I:z8 s.heap x dx C mA)
  (hs:W.findIn K (.ref C) "__setattr__"=some (some (.builtin "object.__setattr__"))) (hp:W.plainOver K C=true) (ht:W.takerIn K C name=some none) (hh:W.hasDictIn K C=true)
  (hw:PySem.Within mA ns) (hsz:ns.length<=sizeLine)
  (h:∀h',z8 h' x dx C (fun y=>if y=name then some v else mA y)->Heap.SameBut dx s.heap h'->Q () {s with heap:=h',toks:=s.toks+2}) :
  wpAny (model prog w) A (setAttr (.ref x) name v) Q E s:=by
 obtain ⟨od,J,hl⟩:=I.look
 refine W.set_plain X J hs (W.osa_open (s:={s with toks:=s.toks+1}) (r:=none) X J hp ht fun b=>?_)
 obtain ⟨cd,hc,hd'⟩:=W.any_some hh
 have hx:s.heap.get? x=some ⟨.ref C,some dx,.plain,#[]⟩:=I.obj
 refine wpAny_bind (wpAny_pure (wpAny_bind (wpAny_bind (wpAny_loadPart hx (wpAny_bind (W.Looks.here (s:={s with toks:=s.toks+1}) (W.looks_clsIn X hc) ?_))))))
 rw [hd']
 refine wpAny_pure (a:=some dx) (wpAny_bind (wpAny_pure (wpAny_bind ?_)))
 refine wpAny_nsSet1 (s:={s with toks:=s.toks+1}) I.ns fun h' hn2 hs2=>?_
 obtain ⟨oD,esD,epD,hoD,hdD,hcD⟩:=hn2.count (PySem.Within.cons name v hw)
 refine wpAny_bind (wpAny_lookBehind hoD (by rw [hdD];exact pastItsLine_dict (Nat.le_trans hcD (by rw [List.length_cons];omega))) ?_)
 exact wpAny_pure (h _ ⟨(hs2.2 _ (Ne.symm I.ne)).trans I.obj,hn2,I.ne⟩ hs2)
theorem DA {R:Result->Shared->Prop}{vs:List Value}{kw:List (Str×Value)}(X:K.In s.heap)(hm:W.makesIn K C=true)
  (hi:W.findIn K (.ref C) "__init__"=some (some (.ref f))) (hf:W.typeIn K (.ref f)=some (.type "function"))
  (h:codeAny (model prog w) (A.under (.builtin "type.__call__" ⟨.ref C::vs,kw⟩)) (.call (.ref f) ⟨.ref (s.heap.objs.size+1)::vs,kw⟩) (W.InitBack (s.heap.objs.size+1) R)
   {s with heap:=(s.heap.push W.emptyDict).push (W.instObj C s.heap.objs.size)}) :
  codeAny (model prog w) A (.call (.ref C) ⟨vs,kw⟩) R s:=by
 obtain ⟨hh,g,d,t,os⟩:=s
 exact W.make_core (W.makes_of X hm) (W.looks_findIn X hi) (fun self=>W.bind_fn X self hf) (.inl rfl) h
end
noncomputable def br (f:Str)(v:V):List (Str×V)->List (Str×V)
 | []=>[(f,v)]
 | (g,x)::r=>if g=f then (g,v)::r else (g,x)::br f v r
theorem si (f g:Str)(v:V):∀fs:List (Str×V),(br f v fs).lookup g=if g=f then some v else fs.lookup g
 | []=>by
  show List.lookup g [(f,v)]=_
  by_cases h:g=f
  ·have hb:(g == f)=true:=beq_iff_eq.mpr h
   simp only [List.lookup,hb,if_pos h]
  ·have hb:(g == f)=false:=beq_eq_false_iff_ne.mpr h
   simp only [List.lookup,hb,if_neg h]
 | (k,x)::r=>by
  have ih:=si f g v r
  rw [show br f v ((k,x)::r)=(if k=f then (k,v)::r else (k,x)::br f v r) from rfl]
  by_cases hk:k=f
  ·rw [if_pos hk]
   by_cases h:g=k
   ·have hb:(g == k)=true:=beq_iff_eq.mpr h
    simp only [List.lookup,hb,if_pos (h.trans hk)]
   ·have hb:(g == k)=false:=beq_eq_false_iff_ne.mpr h
    simp only [List.lookup,hb,if_neg (fun e:g=f=>h (e.trans hk.symm))]
  ·rw [if_neg hk]
   by_cases h:g=k
   ·have hb:(g == k)=true:=beq_iff_eq.mpr h
    simp only [List.lookup,hb,if_neg (fun e:g=f=>hk (h.symm.trans e))]
   ·have hb:(g == k)=false:=beq_eq_false_iff_ne.mpr h
    simp only [List.lookup,hb]
    exact ih
theorem qU (f:Str)(v:V):∀fs:List (Str×V),f∈(br f v fs).map (·.1)/\∀g,g∈fs.map (·.1)->g∈(br f v fs).map (·.1)
 | []=>⟨by simp [br],fun g h=>by simp at h⟩
 | (k,x)::r=>by
  obtain ⟨i1,i2⟩:=qU f v r
  rw [show br f v ((k,x)::r)=(if k=f then (k,v)::r else (k,x)::br f v r) from rfl]
  by_cases hk:k=f
  ·rw [if_pos hk]
   subst hk
   exact ⟨by simp,fun g h=>by simpa using h⟩
  ·rw [if_neg hk]
   refine ⟨?_,fun g h=>?_⟩
   ·rw [List.map_cons]
    exact List.mem_cons_of_mem _ i1
   ·rw [List.map_cons] at h ⊢
    rcases List.mem_cons.mp h with e | e
    ·exact List.mem_cons.mpr (.inl e)
    ·exact List.mem_cons_of_mem _ (i2 g e)
theorem lS (f:Str)(v:V):∀fs:List (Str×V),(br f v fs).length<=fs.length+1
 | []=>by simp [br]
 | (k,x)::r=>by
  have ih:=lS f v r
  rw [show br f v ((k,x)::r)=(if k=f then (k,v)::r else (k,x)::br f v r) from rfl]
  by_cases hk:k=f
  ·rw [if_pos hk,List.length_cons,List.length_cons];omega
  ·rw [if_neg hk,List.length_cons,List.length_cons];omega
theorem vL.some_of {v:V}{o:Option Value}(r:vL (some v) o):∃u,o=some u/\bI v u:=by
 cases o with
 | none=>exact (show False from r).elim
 | some u=>exact ⟨u,rfl,r⟩
theorem vL.none_of {o:Option Value}(r:vL none o):o=none:=by
 cases o with
 | none=>rfl
 | some u=>exact (show False from r).elim
theorem Cj {v:V}{u:Value}(r:bI v u):W.handedIn u=true:=by
 cases v with
 | non=>cases (show u=Value.none from r);rfl
 | bl b=>cases (show u=Value.bool b from r);rfl
 | int i=>obtain ⟨t,e⟩:=(show ∃t,u=Value.int i t from r);cases e;rfl
 | str x=>obtain ⟨t,e⟩:=(show ∃t,u=Value.str x t from r);cases e;rfl
 | byt b=>obtain ⟨t,e⟩:=(show ∃t,u=Value.bytes b t from r);cases e;rfl
 | flt b=>obtain ⟨t,e⟩:=(show ∃t,u=Value.float b t from r);cases e;rfl
 | ref a=>cases (show u=Value.ref a from r);rfl
 | ty n=>cases (show u=Value.type n from r);rfl
section
variable {P:Program}{w:World}{H H':Hp}{h h':Heap}{a C dx:Addr}{fs fs':List (Str×V)}
theorem xJ (hok:HOk P w H h)(e:H a=some (.ins C dx fs)):∃mA,z8 h a dx C mA/\(∀f,vL (fs.lookup f) (mA f))/\PySem.Within mA (fs.map (·.1))/\fs.length<=1000/\H dx=some (.own a):=by
 obtain ⟨d,z,ne,ob,mA,n,r,q⟩:=(show fh P w H h a (.ins C dx fs) from hok a _ e)
 exact ⟨mA,⟨ob,n,ne⟩,r,q,z,d⟩
end
structure Cls (K:WA)(C:Addr):Prop where
 pg:W.plainGet K C Str.empty=true
 hd:W.hasDictIn K C=true
 po:W.plainOver K C=true
 sa:W.findIn K (.ref C) "__setattr__"=some (some (.builtin "object.__setattr__"))
theorem Cls.get {K:WA}{C:Addr}(c:Cls K C)(f:Str):W.plainGet K C f=true:=c.pg
def aW (K:WA)(C:Addr)(f:Str):Prop:=W.findIn K (.ref C) f=some none
theorem aW.taker {K:WA}{C:Addr}{f:Str}(n:aW K C f):W.takerIn K C f=some none:=by
 unfold W.takerIn
 rw [show W.findIn K (.ref C) f=some none from n]
 rfl
structure Aa (K:WA)(C:Addr)(m:Str)(f:Addr):Prop where
 at_:W.findIn K (.ref C) m=some (some (.ref f))
 fn:W.isFn K (.ref f)=true
 kp:W.keepIn K (.ref f)=true
section
variable {X:Cx}{pins:List (Addr×Obj)}{σ:St}{H:Hp}{s:Shared}{a C dx:Addr}{fs:List (Str×V)}{f:Str}{v:V}{A:Around}{E:Value->Shared->Prop}
theorem Ab {b:Bool}{Q:Value->Shared->Prop}(I:Inv X pins σ H s)(e:H a=some (.ins C dx fs))(c:Cls X.K C)(n:aW X.K C f)(l:fs.lookup f=some v)
  (h:∀u s',Inv X pins σ H s'->bI v u->Q u s'):wpAny (model X.prog X.w) A (getAttr (.ref a) f b) Q E s:=by
 obtain ⟨mA,O,r,_,_,_⟩:=xJ I.hok e
 obtain ⟨u,hu,ru⟩:=vL.some_of (v:=v) (o:=mA f) (by rw [←l];exact r f)
 exact Fv I.kIn O (c.get f) c.hd n hu (Cj ru) (h u _ (I.tok _) ru)
theorem oo {m:Str}{g:Addr}{pl:Sem Bool}{Q:Value×List Value->Shared->Prop}(I:Inv X pins σ H s)(e:H a=some (.ins C dx fs))(c:Cls X.K C)(k:Aa X.K C m g)(l:fs.lookup m=none)
  (h:Q (.ref g,[.ref a]) s):wpAny (model X.prog X.w) A (getMethod (.ref a) m pl) Q E s:=by
 obtain ⟨mA,O,r,_,_,_⟩:=xJ I.hok e
 have hn:mA m=none:=vL.none_of (by rw [←l];exact r m)
 exact Dz I.kIn O (c.get m) k.at_ k.fn hn h
theorem Ac {y:V}{u:Value}{Q:Unit->Shared->Prop}(I:Inv X pins σ H s)(e:H a=some (.ins C dx fs))(c:Cls X.K C)(n:aW X.K C f)(hl:fs.length < 1000)(ry:bI y u)
  (h:∀s',Inv X pins σ (upd H a (.ins C dx (br f y fs))) s'->Q () s'):wpAny (model X.prog X.w) A (setAttr (.ref a) f u) Q E s:=by
 obtain ⟨mA,O,r,wi,_,ho⟩:=xJ I.hok e
 have hz:(fs.map (·.1)).length<=sizeLine:=by rw [WB,sizeLine_eq];omega
 refine Fw I.kIn O c.sa c.po n.taker c.hd wi hz fun h' O' sb=>h _ ?_
 have hd:∃o,h'.get? dx=some o:=let ⟨o,_,_,e',_⟩:=O'.ns;⟨o,e'⟩
 refine I.write (x:=a) (e:=dx) (by rw [e];exact True.intro) (.inr ho) (fun b q hb z=>(sb.2 b hb).trans z) hd ?_
 refine ⟨by rw [aK O.ne];exact ho,?_,O.ne,O'.obj,_,O'.ns,fun g=>?_,fun g hg=>?_⟩
 ·have:=lS f y fs;omega
 ·show vL ((br f y fs).lookup g) (if g=f then some u else mA g)
  rw [si]
  by_cases q:g=f
  ·rw [if_pos q,if_pos q];exact ry
  ·rw [if_neg q,if_neg q];exact r g
 ·by_cases q:g=f
  ·rw [q];exact (qU f y fs).1
  ·refine (qU f y fs).2 g (wi g fun z=>hg ?_)
   show (if g=f then some u else mA g)=none
   rw [if_neg q];exact z
theorem Inv.made (I:Inv X pins σ H s):Inv X pins σ (upd (upd H s.heap.objs.size (.own (s.heap.objs.size+1))) (s.heap.objs.size+1) (.ins C s.heap.objs.size []))
  {s with heap:=(s.heap.push W.emptyDict).push (W.instObj C s.heap.objs.size)}:=by
 have e1:(s.heap.push W.emptyDict).get? s.heap.objs.size=some W.emptyDict:=Heap.get?_push_size s.heap rfl
 have e2:((s.heap.push W.emptyDict).push (W.instObj C s.heap.objs.size)).get? (s.heap.objs.size+1)=some (W.instObj C s.heap.objs.size):=by
  have:=Heap.get?_push_size (s.heap.push W.emptyDict) (o:=W.instObj C s.heap.objs.size) rfl
  rwa [Heap.size_push] at this
 have e3:(s.heap.push W.emptyDict).Ns s.heap.objs.size (fun _=>none):=⟨W.emptyDict,#[],_,e1,rfl,(fun e he=>absurd he (by simp)),fun _=>rfl⟩
 have I1:=I.laid (a:=s.heap.objs.size) (o:=.own (s.heap.objs.size+1)) (h':=s.heap.push W.emptyDict) (t':=s.toks) (fun b u q=>Heap.get?_push_of_some _ q) (Nat.le_refl _) ⟨_,e1⟩
 refine I1.laid (a:=s.heap.objs.size+1) (o:=.ins C s.heap.objs.size []) (t':=s.toks) (fun b u q=>Heap.get?_push_of_some _ q) (Nat.le_of_eq (Heap.size_push _ _)) ?_
 have ne:s.heap.objs.size≠s.heap.objs.size+1:=Nat.ne_of_lt (Nat.lt_succ_self _)
 refine ⟨by rw [aK ne,ag],Nat.zero_le _,ne,e2,fun _=>none,(Heap.Ns1.of_empty e3).at fun o q=>Heap.get?_push_of_some _ q,fun _=>True.intro,fun y hy=>absurd rfl hy⟩
theorem Fx {prog:Program}{w:World}{env:Env}{e:Expr}{f:Str}{pos:Pos}{s:Shared}{Q:Value->Shared->Prop}(hb:attributeBase e f env (eval e env)=eval e env)
  (h:wpAny (model prog w) A (eval e env) (fun o s₁=>wpAny (model prog w) A (getAttr o f true) Q E s₁) E s):wpAny (model prog w) A (eval (.Attribute e f pos) env) Q E s:=
 Attribute_any_ h (by rw [arm_eval_Attribute,hb])
end
noncomputable def J3 (K:WA)(ta:TE)(f:Str):TE:=fun σ H Q=>ta σ H fun x H1=>∃a C dx fs v,x=.ref a/\H1 a=some (.ins C dx fs)/\Cls K C/\aW K C f/\fs.lookup f=some v/\Q v H1
noncomputable def J4 (K:WA)(ta tv:TE)(f:Str):TS:=fun D σ H=>tv σ H fun y H1=>ta σ H1 fun x H2=>∃a C dx fs,x=.ref a/\H2 a=some (.ins C dx fs)/\Cls K C/\aW K C f/\fs.length < 1000/\
 D.nx σ (upd H2 a (.ins C dx (br f y fs)))
section
variable {X:Cx}{o e value:Expr}{f:Str}{pos pos' tpos:Pos}{ta tv:TE}
theorem ID (he:PE X e ta)(hb:attributeBase e f X.env (eval e X.env)=eval e X.env):PE X (.Attribute e f pos) (J3 X.K ta f):=by
 intro pins s σ H Q I h
 refine Fx hb (thn (he pins s σ H _ I h) fun u s1 ⟨x,H1,I1,rx,a,C,dx,fs,v,ex,ea,c,n,l,q⟩=>?_)
 subst ex
 obtain rfl:u=Value.ref a:=rx
 exact Ab I1 ea c n l fun u' s2 I2 ru=>⟨v,H1,I2,ru,q⟩
theorem IE (ha:PE X o ta)(hv:PE X value tv)(hs:swapsWith value (some (.Attribute o f pos')) pos.line X.env=pure false):PS X (.Assign [.Attribute o f pos'] value pos) (J4 X.K ta tv f):=by
 intro pins s σ H D I h
 refine plainObj_wpAny_Assign_Attribute (thn (hv pins s σ H _ I h) fun u s1 ⟨y,H1,I1,ry,q⟩=>thn (ha pins s1 σ H1 _ I1 q) fun ov s2 ⟨x,H2,I2,rx,a,C,dx,fs,ex,ea,c,n,l,q2⟩=>?_) hs
 subst ex
 obtain rfl:ov=Value.ref a:=rx
 exact Ac I2 ea c n l ry fun s3 I3=>⟨σ,_,I3,q2⟩
theorem Hl {pl:Sem Bool}{m:Str}{apos:Pos}{args:List Expr}{pins:List (Addr×Obj)}{s:Shared}{σ:St}{H:Hp}{Q:Value->Shared->Prop}{te:TE}(he:PE X e te)(I:Inv X pins σ H s)
  (h:te σ H fun x H1=>∃a C dx fs g,x=.ref a/\H1 a=some (.ins C dx fs)/\Cls X.K C/\Aa X.K C m g/\fs.lookup m=none/\
   ∀s1,Inv X pins σ H1 s1->wpAny (model X.prog X.w) X.A (callWith pos (.ref g) [.ref a] (backTo pos (starEach args X.env)) (backToKw pos (keywordEach [] X.env))) Q X.xe s1)
  (ht:eval (.Call (.Attribute e m apos) args [] pos) X.env=(do
   let ov ←eval e X.env
   standAt apos.atName
   let (f,first) ←holding [ov] (getMethod ov m pl)
   callWith pos f first (backTo pos (starEach args X.env)) (backToKw pos (keywordEach [] X.env)))) :
  wpAny (model X.prog X.w) X.A (eval (.Call (.Attribute e m apos) args [] pos) X.env) Q X.xe s:=by
 refine W.methodCall_KW (pl:=pl) (thn (he pins s σ H _ I h) fun u s1 ⟨x,H1,I1,rx,a,C,dx,fs,g,ex,ea,c,k,l,q⟩=>?_) ht
 subst ex
 obtain rfl:u=Value.ref a:=rx
 exact oo I1 ea c k l (q s1 I1)
end
structure dz (k:Nat)(A:Around):Prop where
 hd:A.handled=none
 dp:A.depth+3 * k+5 < recursionLimit
 un:A.units+16 * k+200 < cLine
theorem dz.mono {j k:Nat}{A:Around}(r:dz k A)(h:j<=k):dz j A:=⟨r.hd,by have:=r.dp;omega,by have:=r.un;omega⟩
theorem dz.deeper {k:Nat}{A:Around}(r:dz (k+1) A)(env:Env):dz k (A.deeper env):=
 ⟨r.hd,by have:=r.dp;show A.depth+1+3 * k+5 < _;omega,by have:=r.un;show A.units+3+16 * k+200 < _;omega⟩
theorem Ad {A:Around}{C:Addr}{us:List Value}{kw:List (Str×Value)}:(A.under (.builtin "type.__call__" ⟨.ref C::us,kw⟩)).depth=A.depth+1:=by
 first | rfl | simp [Around.under,Code.weight,Code.isCreation,Code.isGuard,Code.isCaller,Code.frames,Code.isFrame,guardIds]
theorem Ae {A:Around}{C:Addr}{us:List Value}{kw:List (Str×Value)}:(A.under (.builtin "type.__call__" ⟨.ref C::us,kw⟩)).units=A.units+1:=by
 first | rfl | simp [Around.under,Code.cUnits,Code.frames,Code.isFrame]
theorem dz.make {k:Nat}{A:Around}(r:dz (k+1) A)(C:Addr)(us:List Value)(kw:List (Str×Value)):dz k (A.under (.builtin "type.__call__" ⟨.ref C::us,kw⟩)):=
 ⟨r.hd,by have:=r.dp;rw [Ad];omega,by have:=r.un;rw [Ae];omega⟩
theorem dz.depth {k:Nat}{A:Around}(r:dz k A):A.depth < recursionLimit:=by have:=r.dp;omega
theorem dz.units0 {k:Nat}{A:Around}(r:dz k A):A.units < cLine:=by have:=r.un;omega
noncomputable def vN:TA:=fun _ H Q=>Q [] H
noncomputable def lI (ta:TE)(tr:TA):TA:=fun σ H Q=>ta σ H fun x H1=>tr σ H1 fun xs H2=>Q (x::xs) H2
section
variable {X:Cx}{e:Expr}{es:List Expr}{te:TE}{t:TA}{pos:Pos}
theorem fL:PA X [] vN:=fun _ _ _ _ H Q I h=>Calls.spliced_nil ⟨[],H,I,.nil,h⟩
theorem cQ (ha:PE X e te)(hr:PA X es t)(hs:starEach (e::es) X.env=(false,eval e X.env)::starEach es X.env:=by rfl):PA X (e::es) (lI te t):=by
 intro pos pins s σ H Q I h
 rw [hs]
 show wpAny _ _ (spliced ((false,eval e X.env)::backTo pos (starEach es X.env))) _ _ s
 refine Calls.spliced_cons (thn (ha pins s σ H _ I h) fun u s1 ⟨x,H1,I1,r1,q1⟩=>?_)
 exact thn (hr pos pins s1 σ H1 _ I1 q1) fun us s2 ⟨xs,H2,I2,r2,q2⟩=>⟨x::xs,H2,I2,.cons r1 r2,q2⟩
noncomputable def Ka (t:TA):TE:=fun σ H Q=>t σ H fun xs H1=>xs.length<=sizeLine/\∀p,H1 p=none->Q (.ref p) (upd H1 p (.tup xs))
noncomputable def Kb (t:TA):TE:=fun σ H Q=>t σ H fun xs H1=>xs.length<=sizeLine/\∀p,H1 p=none->Q (.ref p) (upd H1 p (.lst xs))
theorem aR {x1}(h:PA X es t):PE X (.Tuple es x1 pos) (Ka t):=by
 intro pins s σ H Q I hq
 refine wpAny_Tuple_spliced (thn (h pos pins s σ H _ I hq) fun us s1 ⟨xs,H1,I1,r,z,q⟩=>⟨by rw [←r.length];exact z,?_⟩)
 have hf:H1 s1.heap.objs.size=none:=I1.hok.fresh (Nat.le_refl _)
 refine ⟨.ref s1.heap.objs.size,upd H1 s1.heap.objs.size (.tup xs),I1.laid (t':=s1.toks) (fun b u e=>Heap.get?_push_of_some _ e) (Nat.le_refl _) ?_,rfl,q _ hf⟩
 exact ⟨z,us,r,⟨_,Heap.get?_push_size _ rfl,⟨rfl,_,rfl⟩,rfl⟩⟩
theorem bw (h:PA X es t):PE X (.List es pos) (Kb t):=by
 intro pins s σ H Q I hq
 refine wpAny_List_spliced (thn (h pos pins s σ H _ I hq) fun us s1 ⟨xs,H1,I1,r,z,q⟩=>⟨by rw [←r.length];exact z,?_⟩)
 have hf:H1 s1.heap.objs.size=none:=I1.hok.fresh (Nat.le_refl _)
 refine ⟨.ref s1.heap.objs.size,upd H1 s1.heap.objs.size (.lst xs),I1.laid (t':=s1.toks) (fun b u e=>Heap.get?_push_of_some _ e) (Nat.le_refl _) ?_,rfl,q _ hf⟩
 exact ⟨z,us,0,r,Heap.get?_push_size _ rfl⟩
end
noncomputable abbrev Sp:=List V->Hp->VK->XK->Prop
noncomputable abbrev CXT:=List Env->Hp->Shared->XK->Value->Shared->Prop
structure Af (P:Program)(w:World)(K:WA)(mg:Str->Option Value)(base:Heap)(A:Around)(outer:List Env)(s:Shared)(H:Hp):Prop where
 frames:A.frames=some outer
 mod:Mod K mg base
 bs:∀b o,base.get? b=some o->s.heap.get? b=some o/\H b=none
 bsz:base.objs.size<=s.heap.objs.size
 funs:s.heap.FunFrames base outer
 frf:∀b∈frs outer,H b=none
 hok:HOk P w H s.heap
 bare:AllBare s.gens
def CE (outer:List Env)(P:Program)(w:World)(H:Hp)(s:Shared)(Q:VK)(u:Value)(s':Shared):Prop:=
 ∃v H',s'.os=s.os/\AllBare s'.gens/\Un (frs outer) [] H H' s.heap s'.heap/\HOk P w H' s'.heap/\bI v u/\Q v H'
def CR (CX:CXT)(outer:List Env)(P:Program)(w:World)(H:Hp)(s:Shared)(Q:VK)(E:XK)(r:Result)(s':Shared):Prop:=
 match r with
 | .ok (.ret u)=>CE outer P w H s Q u s'
 | .ok _=>False
 | .error e=>CX outer H s E e s'
structure fM (P:Program)(w:World)(K:WA)(mg:Str->Option Value)(base:Heap)(CX:CXT)(k:Nat)(f:Addr)(fd:FuncData)(ps:List Str)(sp:Sp):Prop where
 len:∀vs H Q E,sp vs H Q E->vs.length=ps.length
 run:∀(A:Around) (outer:List Env) (s:Shared) (H:Hp) (args:Args) (us:List Value) (vs:List V) (Q:VK) (E:XK),dz k A->Af P w K mg base A outer s H->BindsTo s fd args (ps.zip us)->bz vs us->sp vs H Q E->
  codeAny (model P w) A (.call (.ref f) args) (CR CX outer P w H s Q E) s
theorem fM.imp {P:Program}{w:World}{K:WA}{mg:Str->Option Value}{base:Heap}{CX:CXT}{k:Nat}{f:Addr}{fd:FuncData}{ps:List Str}{sp sp':Sp}(F:fM P w K mg base CX k f fd ps sp)
  (h:∀vs H Q E,sp' vs H Q E->sp vs H Q E):fM P w K mg base CX k f fd ps sp':=
 ⟨fun vs H Q E q=>F.len vs H Q E (h _ _ _ _ q),fun A outer s H args us vs Q E hr he hb hv hs=>F.run A outer s H args us vs Q E hr he hb hv (h _ _ _ _ hs)⟩
theorem Af.make {P:Program}{w:World}{K:WA}{mg:Str->Option Value}{base:Heap}{A:Around}{outer:List Env}{s:Shared}{H:Hp}(e:Af P w K mg base A outer s H)(C:Addr)(us:List Value)(kw:List (Str×Value)) :
  Af P w K mg base (A.under (.builtin "type.__call__" ⟨.ref C::us,kw⟩)) outer s H:=⟨by first | exact e.frames | (simpa [Around.under,Code.envs,Code.isFrame,pushEnvs] using e.frames),e.mod,e.bs,e.bsz,e.funs,e.frf,e.hok,e.bare⟩
section
variable {X:Cx}{pins:List (Addr×Obj)}{σ:St}{H:Hp}{s s':Shared}
theorem Inv.env0 (I:Inv X pins σ H s):Af X.prog X.w X.K X.mg X.base X.A X.stack s H:=
 ⟨I.ok.frames,I.ok.mod,I.bs,Nat.le_trans I.ok.bsz I.sz,I.stack,I.stkFree,I.hok,I.bare⟩
theorem Inv.after {Q:VK}{u:Value}(I:Inv X pins σ H s)(h:CE X.stack X.prog X.w H s Q u s'):EP X pins σ Q u s':=by
 obtain ⟨v,H',os,bare,un,hok,r,q⟩:=h
 obtain ⟨hh,g,d,t,os'⟩:=s'
 obtain rfl:os'=s.os:=os
 exact ⟨v,H',I.call (h':=hh) (g':=g) (d':=d) (t':=t) (ch:=[]) un hok bare (fun b z=>absurd z (by simp)),r,q⟩
end
noncomputable def Bq (sp:Sp)(dvs:List V)(E:XK)(t:TA):TE:=fun σ H Q=>t σ H fun vs H1=>sp (vs++dvs) H1 Q E
noncomputable def yG (C:Addr)(m:Str)(sp:Sp)(dvs:List V)(E:XK)(ta:TE)(t:TA):TE:=fun σ H Q=>ta σ H fun x H1=>∃a dx fs,x=.ref a/\H1 a=some (.ins C dx fs)/\fs.lookup m=none/\
 t σ H1 fun vs H2=>sp (x::(vs++dvs)) H2 Q E
noncomputable def DB (C:Addr)(sp:Sp)(dvs:List V)(E:XK)(t:TA):TE:=fun σ H Q=>t σ H fun vs H1=>∀x dx,H1 x=none->H1 dx=none->dx≠x->
 sp (.ref x::(vs++dvs)) (upd (upd H1 dx (.own x)) x (.ins C dx [])) (fun v H2=>v=.non/\Q (.ref x) H2) E
def dQ (K:WA)(fd:FuncData)(ps:List Str)(ds:List Value):Prop:=
 ∀(s:Shared) (us:List Value),K.In s.heap->(us++ds).length=ps.length->BindsTo s fd ⟨us,[]⟩ (ps.zip (us++ds))
theorem dQ.all {K:WA}{fd:FuncData}{ps:List Str}(h:∀us:List Value,us.length=ps.length->bindArgs fd ⟨us,[]⟩=pure (ps.zip us)):dQ K fd ps []:=fun s us _ hl=>by
 rw [List.append_nil] at hl ⊢
 exact .of_eq (h us hl)
def fi (CX:CXT)(X:Cx)(E:XK):Prop:=∀(pins:List (Addr×Obj)) (σ:St) (H:Hp) (s:Shared) (e:Value) (s':Shared),Inv X pins σ H s->CX X.stack H s E e s'->X.xe e s'
section
variable {X:Cx}{CX:CXT}{k:Nat}{f C:Addr}{fd:FuncData}{ps:List Str}{sp:Sp}{dvs:List V}{ds:List Value}{E:XK}{x m:Str}{p pos apos:Pos}{e o:Expr}{es:List Expr}{ta:TE}{t:TA}
theorem Ag {pins:List (Addr×Obj)}{σ:St}{H:Hp}{s:Shared}{Q:VK}{us:List Value}{vs:List V}(F:fM X.prog X.w X.K X.mg X.base CX k f fd ps sp)(hr:dz k X.A)(hb:dQ X.K fd ps ds)(hd:bz dvs ds)(hx:fi CX X E)
  (I:Inv X pins σ H s) (r:bz vs us) (h:sp (vs++dvs) H Q E):wpAny (model X.prog X.w) X.A (call (.ref f) us) (EP X pins σ Q) X.xe s:=by
 have r2:bz (vs++dvs) (us++ds):=r.append hd
 have hl:(us++ds).length=ps.length:=by rw [←r2.length];exact F.len _ _ _ _ h
 refine wpAny_call (codeAny_mono (F.run X.A X.stack s H ⟨us,[]⟩ (us++ds) (vs++dvs) Q E hr I.env0 (hb s us I.kIn hl) r2 h) fun r s' hq=>?_)
 cases r with
 | error e=>exact hx pins σ H s e s' I hq
 | ok fl=>
  cases fl with
  | ret u=>exact I.after hq
  | next=>exact False.elim hq
  | brk=>exact False.elim hq
  | cont=>exact False.elim hq
theorem Fy (F:fM X.prog X.w X.K X.mg X.base CX k f fd ps sp)(hr:dz k X.A)(hg:Gl X x)(hm:X.mg x=some (.ref f))(hk:W.keepIn X.K (.ref f)=true)(hb:dQ X.K fd ps ds)(hd:bz dvs ds)(hx:fi CX X E)
  (ha:PA X (e::es) t) (hdb:(x == ("__debug__":Str))=false:=by decide) (he:starEach (e::es) X.env=(false,eval e X.env)::starEach es X.env:=by rfl) (hpl:(backTo pos (starEach es X.env)).any (·.1)=false:=by rfl) :
  PE X (.Call (.Name x p) (e::es) [] pos) (Bq sp dvs E t):=by
 intro pins s σ H Q I h
 refine wpAny_Call_Name_kw (tT I hg hm ?_ hdb)
 refine W.callWith_K (h₀:=X.base) I.ok.mod.kin hk (thn (ha pos pins s σ H _ I h) fun us s1 ⟨vs,H1,I1,r,q⟩=>⟨I1.kIn,?_⟩) he hpl
 exact Ag F hr hb hd hx I1 r q
theorem Fz {pl:Sem Bool}(he:PE X o ta)(c:Cls X.K C)(hm:Aa X.K C m f)(F:fM X.prog X.w X.K X.mg X.base CX k f fd ps sp)(hr:dz k X.A)(hb:dQ X.K fd ps ds)(hd:bz dvs ds)(hx:fi CX X E)(ha:PA X (e::es) t)
  (hst:starEach (e::es) X.env=(false,eval e X.env)::starEach es X.env:=by rfl) (hpl:(backTo pos (starEach es X.env)).any (·.1)=false:=by rfl)
  (ht:eval (.Call (.Attribute o m apos) (e::es) [] pos) X.env=(do
   let ov ←eval o X.env
   standAt apos.atName
   let (f,first) ←holding [ov] (getMethod ov m pl)
   callWith pos f first (backTo pos (starEach (e::es) X.env)) (backToKw pos (keywordEach [] X.env))):=by rfl) :
  PE X (.Call (.Attribute o m apos) (e::es) [] pos) (yG C m sp dvs E ta t):=by
 intro pins s σ H Q I h
 refine W.methodCall_KW (pl:=pl) (thn (he pins s σ H _ I h) fun u s1 ⟨x,H1,I1,rx,a,dx,fs,ex,ea,l,q⟩=>?_) ht
 subst ex
 obtain rfl:u=Value.ref a:=rx
 refine oo I1 ea c hm l ?_
 refine W.callWith_K (first:=[.ref a]) (h₀:=X.base) I.ok.mod.kin hm.kp (thn (ha pos pins s1 σ H1 _ I1 q) fun us s2 ⟨vs,H2,I2,r,q2⟩=>⟨I2.kIn,?_⟩) hst hpl
 exact Ag (us:=.ref a::us) (vs:=.ref a::vs) F hr hb hd hx I2 (.cons rfl r) q2
theorem DC {pl:Sem Bool}(he:PE X o ta)(c:Cls X.K C)(hm:Aa X.K C m f)(F:fM X.prog X.w X.K X.mg X.base CX k f fd ps sp)(hr:dz k X.A)(hb:dQ X.K fd ps ds)(hd:bz dvs ds)(hx:fi CX X E)
  (ht:eval (.Call (.Attribute o m apos) [] [] pos) X.env=(do
   let ov ←eval o X.env
   standAt apos.atName
   let (f,first) ←holding [ov] (getMethod ov m pl)
   callWith pos f first (backTo pos (starEach [] X.env)) (backToKw pos (keywordEach [] X.env))):=by rfl) :
  PE X (.Call (.Attribute o m apos) [] [] pos) (yG C m sp dvs E ta vN):=by
 intro pins s σ H Q I h
 refine W.methodCall_KW (pl:=pl) (thn (he pins s σ H _ I h) fun u s1 ⟨x,H1,I1,rx,a,dx,fs,ex,ea,l,q⟩=>?_) ht
 subst ex
 obtain rfl:u=Value.ref a:=rx
 refine oo I1 ea c hm l ?_
 exact W.callWith_K0 (first:=[.ref a]) I1.kIn hm.kp (Ag (us:=[.ref a]) (vs:=[.ref a]) F hr hb hd hx I1 (.cons rfl .nil) q)
structure Mk (K:WA)(C f:Addr):Prop where
 makes:W.makesIn K C=true
 init:W.findIn K (.ref C) "__init__"=some (some (.ref f))
 fn:W.isFn K (.ref f)=true
 kp:W.keepIn K (.ref C)=true
theorem DD {pins:List (Addr×Obj)}{σ:St}{H:Hp}{s:Shared}{Q:VK}{us:List Value}{vs:List V}(M:Mk X.K C f)(F:fM X.prog X.w X.K X.mg X.base CX k f fd ps sp)(hr:dz (k+1) X.A)(hb:dQ X.K fd ps ds)(hd:bz dvs ds)
  (hx:fi CX X E) (I:Inv X pins σ H s) (r:bz vs us)
  (h:∀x dx,H x=none->H dx=none->dx≠x->sp (.ref x::(vs++dvs)) (upd (upd H dx (.own x)) x (.ins C dx [])) (fun v H2=>v=.non/\Q (.ref x) H2) E) :
  wpAny (model X.prog X.w) X.A (call (.ref C) us) (EP X pins σ Q) X.xe s:=by
 have hq:=h (s.heap.objs.size+1) s.heap.objs.size (I.hok.fresh (Nat.le_succ _)) (I.hok.fresh (Nat.le_refl _)) (Nat.ne_of_lt (Nat.lt_succ_self _))
 have I2:=Inv.made (C:=C) I
 have r2:bz (V.ref (s.heap.objs.size+1)::(vs++dvs)) (Value.ref (s.heap.objs.size+1)::(us++ds)):=.cons rfl (r.append hd)
 have hl:(Value.ref (s.heap.objs.size+1)::us++ds).length=ps.length:=by
  have e:=r2.length
  rw [F.len _ _ _ _ hq] at e
  exact e.symm
 refine wpAny_call (DA (f:=f) I.kIn M.makes M.init (beq_iff_eq.mp M.fn) (codeAny_mono (F.run _ X.stack _ _ ⟨Value.ref (s.heap.objs.size+1)::us,[]⟩ (Value.ref (s.heap.objs.size+1)::(us++ds)) _ _ E (hr.make C us [])
  (I2.env0.make C us []) (hb _ (Value.ref (s.heap.objs.size+1)::us) I2.kIn hl) r2 hq) fun r s' hq'=>?_))
 cases r with
 | error e=>exact hx pins σ _ _ e s' I2 hq'
 | ok fl=>
  cases fl with
  | ret u=>
   obtain ⟨v,H',I3,rv,ev,q3⟩:=I2.after hq'
   subst ev
   exact ⟨rv,⟨V.ref (s.heap.objs.size+1),H',I3,rfl,q3⟩⟩
  | next=>exact False.elim hq'
  | brk=>exact False.elim hq'
  | cont=>exact False.elim hq'
theorem FA (M:Mk X.K C f)(F:fM X.prog X.w X.K X.mg X.base CX k f fd ps sp)(hr:dz (k+1) X.A)(hg:Gl X x)(hm:X.mg x=some (.ref C))(hb:dQ X.K fd ps ds)(hd:bz dvs ds)(hx:fi CX X E)
  (ha:PA X (e::es) t) (hdb:(x == ("__debug__":Str))=false:=by decide) (he:starEach (e::es) X.env=(false,eval e X.env)::starEach es X.env:=by rfl) (hpl:(backTo pos (starEach es X.env)).any (·.1)=false:=by rfl) :
  PE X (.Call (.Name x p) (e::es) [] pos) (DB C sp dvs E t):=by
 intro pins s σ H Q I h
 refine wpAny_Call_Name_kw (tT I hg hm ?_ hdb)
 refine W.callWith_K (h₀:=X.base) I.ok.mod.kin M.kp (thn (ha pos pins s σ H _ I h) fun us s1 ⟨vs,H1,I1,r,q⟩=>⟨I1.kIn,?_⟩) he hpl
 exact DD M F hr hb hd hx I1 r q
end
structure ay (N P:List Str)(sc:Scope):Prop where
 kind:sc.kind=.function
 co:sc.isCoroutine=false
 gen:sc.isGenerator=false
 nd:N.Nodup
 pre:N.take P.length=P
 par:∀x∈P,sc.names.lookup x=some .local\/sc.names.lookup x=some .cell
 nofree:∀y∈sc.names,y.2≠.free
theorem wU {kindOf:Str->Option NameKind}{x:Str}:∀{binds:List (Str×Value)} {m:Str->Option Value},(∀v,(x,v)∉binds)->bindL kindOf binds m x=m x
 | [],_,_=>rfl
 | (n,v)::r,m,h=>by
  unfold bindL
  rw [wU fun w hw=>h w (List.mem_cons_of_mem _ hw)]
  split
  ·have:x≠n:=by rintro rfl;exact h v List.mem_cons_self
   simp [this]
  ·rfl
theorem wV {kindOf:Str->Option NameKind}{x:Str}:∀{binds:List (Str×Value)} {m:Str->Option Value},(∀v,(x,v)∉binds)->bindC kindOf binds m x=m x
 | [],_,_=>rfl
 | (n,v)::r,m,h=>by
  unfold bindC
  rw [wV fun w hw=>h w (List.mem_cons_of_mem _ hw)]
  split
  ·rfl
  ·have:x≠n:=by rintro rfl;exact h v List.mem_cons_self
   simp [this]
theorem wW {kindOf:Str->Option NameKind}{x:Str}{v:Value}:∀{P:List Str} {vs:List Value} {i:Nat} {m:Str->Option Value},P.Nodup->P[i]?=some x->vs[i]?=some v->kindOf x=some .local->
  bindL kindOf (P.zip vs) m x=some v
 | [],_,_,_,_,h,_,_=>by simp at h
 | _::_,[],_,_,_,_,h,_=>by simp at h
 | p::P,w::vs,0,m,nd,h1,h2,hk=>by
  simp at h1 h2;subst h1;subst h2
  show bindL kindOf ((p,w)::P.zip vs) m p=_
  unfold bindL
  rw [wU fun v hv=>(List.nodup_cons.mp nd).1 (List.of_mem_zip hv).1,if_pos hk]
  simp
 | p::P,w::vs,i+1,m,nd,h1,h2,hk=>by
  show bindL kindOf ((p,w)::P.zip vs) m x=_
  unfold bindL
  exact wW (i:=i) (List.nodup_cons.mp nd).2 (by simpa using h1) (by simpa using h2) hk
theorem wX {kindOf:Str->Option NameKind}{x:Str}{v:Value}:∀{P:List Str} {vs:List Value} {i:Nat} {m:Str->Option Value},P.Nodup->P[i]?=some x->vs[i]?=some v->kindOf x≠some .local->
  bindC kindOf (P.zip vs) m x=some v
 | [],_,_,_,_,h,_,_=>by simp at h
 | _::_,[],_,_,_,_,h,_=>by simp at h
 | p::P,w::vs,0,m,nd,h1,h2,hk=>by
  simp at h1 h2;subst h1;subst h2
  show bindC kindOf ((p,w)::P.zip vs) m p=_
  unfold bindC
  rw [wV fun v hv=>(List.nodup_cons.mp nd).1 (List.of_mem_zip hv).1,if_neg hk]
  simp
 | p::P,w::vs,i+1,m,nd,h1,h2,hk=>by
  show bindC kindOf ((p,w)::P.zip vs) m x=_
  unfold bindC
  exact wX (i:=i) (List.nodup_cons.mp nd).2 (by simpa using h1) (by simpa using h2) hk
noncomputable def lJ (N:List Str)(vs:List V):St:=vs.map some++List.replicate (N.length - vs.length) none
noncomputable def oq (CX:CXT)(P:Program)(w:World)(K:WA)(mg:Str->Option Value)(base:Heap)(N:List Str)(qual:Str)(scope:Scope)(f:Addr)(cd:Value)(A:Around)(outer:List Env)(s:Shared)(H:Hp)(E:XK):Cx where
 prog:=P
 w:=w
 K:=K
 mg:=mg
 base:=base
 A:=A.deeper (envOfC qual scope s.heap.objs.size f cd)
 N:=N
 s₀:=s
 H₀:=H
 env:=envOfC qual scope s.heap.objs.size f cd
 outer:=outer
 stack:=envOfC qual scope s.heap.objs.size f cd::outer
 ex:=[]
 calm:=true
 fn:=fun _=>true
 pn:=[]
 xe:=fun e s'=>wpAny (model P w) (A.deeper (envOfC qual scope s.heap.objs.size f cd)) (leaving (envOfC qual scope s.heap.objs.size f cd) e) (fun _ s''=>CX outer H s E e s'') (fun e' s''=>CX outer H s E e' s'') s'
theorem yH {sc:Scope}{n:Nat}{x:Str}(h:sc.names.lookup x=some .cell):∃c,(cellsFrom n sc.names []).lookup x=some c:=by
 have q:=W.cellsFrom_some sc.names n [] (.inl h)
 exact Option.isSome_iff_exists.mp q
theorem Ck {CX:CXT}{P:Program}{w:World}{K:WA}{mg:Str->Option Value}{base:Heap}{N ps:List Str}{qual:Str}{scope:Scope}{f:Addr}{cd:Value}{A:Around}{outer:List Env}{s s1:Shared}{H:Hp}{E:XK}{us:List Value}{vs:List V}
  (S:ay N ps scope) (hd:A.handled=none) (e0:Af P w K mg base A outer s H) (hl:vs.length=ps.length) (r:bz vs us)
  (x:InCallC s s.heap.objs.size (bindL (envOfC qual scope s.heap.objs.size f cd).kindOf (ps.zip us) fun _=>none) (cellsFrom (s.heap.objs.size+1) scope.names []) (bindC (envOfC qual scope s.heap.objs.size f cd).kindOf (ps.zip us) fun _=>none) s1) :
  Inv (oq CX P w K mg base N qual scope f cd A outer s H E) [] (lJ N vs) H s1:=by
 have hpl:ps.length<=N.length:=by have:=congrArg List.length S.pre;rw [List.length_take] at this;omega
 obtain ⟨h1,tk,rfl,hk⟩:=x.done
 have noA:∀b:Addr,b∉(oq CX P w K mg base N qual scope f cd A outer s H E).ex:=fun b z=>absurd (show b∈([]:List Addr) from z) (by simp)
 refine ⟨⟨e0.mod,S.kind,rfl,rfl,Nat.le_refl _,fun y z c h1 h2=>?_,fun y hy=>?_,fun y c _ h=>?_,fun _=>hd,Around.frames_deeper e0.frames,.inr ⟨rfl,rfl⟩,fun b z=>absurd z (noA b),e0.bs,e0.bsz,fun b _ _=>noA b,fun b z=>absurd z (noA b),e0.funs,e0.frf⟩,
  rfl,e0.bare,Un.kept hk,⟨_,x.toInCall.ns,fun i y v h1 h2 h3=>?_⟩,fun y c h=>⟨_,x.cell y c h⟩,e0.hok.fresh (Nat.le_refl _),fun y c h=>?_,fun p hp=>absurd (show p∈([]:List (Addr×Obj)) from hp) (by simp),e0.hok.kept hk,?_⟩
 ·exact name_of_addr x.apart (PySem.mem_of_lookup h1) (PySem.mem_of_lookup h2)
 ·have hy:scope.names.lookup y=some .cell\/scope.names.lookup y=some .free:=hy
  rcases hy with hy | hy
  ·exact yH hy
  ·exact absurd rfl (S.nofree _ (PySem.mem_of_lookup hy))
 ·exact Nat.le_of_lt (x.above y c (PySem.mem_of_lookup h))
 ·have hi:i < vs.length:=by
   unfold lJ at h2
   by_cases hi:i < vs.length
   ·exact hi
   ·rw [List.getElem?_append_right (by simpa using hi)] at h2
    rw [List.getElem?_replicate] at h2
    split at h2<;>cases h2
  have ha:vs[i]?=some v:=by
   unfold lJ at h2
   rw [List.getElem?_append_left (by simpa using hi),List.getElem?_map] at h2
   cases e:vs[i]? with
   | none=>rw [e] at h2;cases h2
   | some a=>rw [e] at h2;cases h2;rfl
  obtain ⟨u,hu,rv⟩:=r.get ha
  have hp:ps[i]?=some y:=by
   rw [←S.pre,List.getElem?_take_of_lt (by omega)];exact h1
  have ndP:ps.Nodup:=by rw [←S.pre];exact S.nd.sublist (List.take_sublist _ _)
  refine ⟨u,rv,?_⟩
  rcases S.par y (List.mem_of_getElem? hp) with k | k
  ·exact .inl ⟨k,wW ndP hp hu k⟩
  ·obtain ⟨c,e⟩:=yH (n:=s.heap.objs.size+1) k
   refine .inr ⟨.inl k,c,e,?_⟩
   have q:=x.cell y c e
   rw [wX ndP hp hu (by show scope.names.lookup y≠_;rw [k];decide)] at q
   exact q
 ·exact e0.hok.fresh (Nat.le_of_lt (x.above y c (PySem.mem_of_lookup h)))
 ·unfold lJ
  show _=N.length
  rw [List.length_append,WB,List.length_replicate]
  omega
theorem Hm {CX:CXT}{P:Program}{w:World}{K:WA}{mg:Str->Option Value}{base:Heap}{k:Nat}{f:Addr}{name qual:Str}{params:Arguments}{body:List Stmt}{scope:Scope}{dV kV doc pm cdv ct oc:Value}{an od:Option Addr}
  {osl:Array (Option Value)} {N ps:List Str} {sp:Sp} (lk:K.lookup f=some ⟨oc,od,.func (W.fnOf name qual params body scope dV kV doc pm an cdv ct),osl⟩) (hcd:W.codeIn K cdv qual=true) (S:ay N ps scope)
  (len:∀vs H Q E,sp vs H Q E->vs.length=ps.length)
  (hbody:∀(A:Around) (outer:List Env) (s:Shared) (H:Hp) (vs:List V) (Q:VK) (E:XK),dz k (A.deeper (envOfC qual scope s.heap.objs.size f cdv))->sp vs H Q E->
   ∃t,PSs (oq CX P w K mg base N qual scope f cdv A outer s H E) body t/\t {nx:=fun _ H'=>Q .non H',rt:=Q} (lJ N vs) H) :
  fM P w K mg base CX (k+1) f (W.fnOf name qual params body scope dV kV doc pm an cdv ct) ps sp:=by
 refine ⟨len,fun A outer s H args us vs Q E hr e0 hb r hsp=>?_⟩
 have hl:=len _ _ _ _ hsp
 have KX:K.In s.heap:=e0.mod.kin.keeps fun b o e=>(e0.bs b o e).1
 have lim:s.heap.NoLimit:=e0.mod.nolimit.keeps fun b o e=>(e0.bs b o e).1
 have hkind:∀y∈ps.zip us,scope.names.lookup y.1=some .local\/(scope.names.lookup y.1=some .cell/\((cellsFrom (s.heap.objs.size+1) scope.names []).lookup y.1).isSome=true):=fun ⟨n,v⟩ hy=>by
  rcases S.par n (List.of_mem_zip hy).1 with q | q
  ·exact .inl q
  ·exact .inr ⟨q,W.cellsFrom_some _ _ _ (.inl q)⟩
 refine codeAny_call_function hr.depth (KX _ _ lk) rfl S.co S.gen rfl (W.codeRec_of KX hcd) (hb _ _ _ _ ?_)
 refine wpAny_newFunctionEnv_cells S.kind hkind fun env he s1 x=>?_
 subst he
 refine ⟨lim.keeps x.toInCall.keep,codeAny_func ?_⟩
 obtain ⟨t,ht,hq⟩:=hbody A outer s H vs Q E (hr.deeper _) hsp
 have I:Inv (oq CX P w K mg base N qual scope f cdv A outer s H E) [] (lJ N vs) H s1:=Ck S hr.hd e0 hl r x
 refine wpAny_mono (ht [] s1 (lJ N vs) H _ I hq) (fun fl s' hs=>?_) fun e s' hs=>hs
 have fin:∀{σ':St} {H':Hp} {v:V} {u:Value},Inv (oq CX P w K mg base N qual scope f cdv A outer s H E) [] σ' H' s'->bI v u->Q v H'->CE outer P w H s Q u s':=
  fun {σ' H' v u} J rv q=>⟨v,H',J.os,J.bare,J.base,J.hok,rv,q⟩
 cases fl with
 | ret u=>
  obtain ⟨v,σ',H',J,rv,q⟩:=hs
  exact fin J rv q
 | next=>
  obtain ⟨σ',H',J,q⟩:=hs
  exact fin (v:=V.non) (u:=Value.none) J rfl q
 | brk=>
  obtain ⟨_,_,_,q⟩:=hs
  exact False.elim q
 | cont=>
  obtain ⟨_,_,_,q⟩:=hs
  exact False.elim q
section
variable {X:Cx}{x:Str}{p pos:Pos}{e:Expr}{es:List Expr}{t:TA}{id T:String}{r:List V->Hp->VK->Prop}
noncomputable def tCB (r:List V->Hp->VK->Prop)(t:TA):TE:=fun σ H Q=>t σ H fun vs H1=>r vs H1 Q
theorem aG (hc:fK X (.builtin id) r)(hg:Gl X x)(hm:X.mg x=none)(hv:bootBuiltins x=some (.builtin id))(ha:PA X (e::es) t)(hn:x≠"__name__":=by decide)(hdb:(x == ("__debug__":Str))=false:=by decide)
  (he:starEach (e::es) X.env=(false,eval e X.env)::starEach es X.env:=by rfl) (hpl:(backTo pos (starEach es X.env)).any (·.1)=false:=by rfl):PE X (.Call (.Name x p) (e::es) [] pos) (tCB r t):=by
 intro pins s σ H Q I h
 refine wpAny_Call_Name_kw (om I hg hm hv ?_ hn hdb)
 exact PyProof.Rows.callWith_builtin1 (thn (ha pos pins s σ H _ I h) fun us s1 ⟨vs,H1,I1,r1,q1⟩=>hc pins s1 σ H1 vs us Q I1 r1 q1) he hpl
theorem bc (hc:fK X (.type T) r)(hg:Gl X x)(hm:X.mg x=none)(hv:bootBuiltins x=some (.type T))(ha:PA X (e::es) t)(hn:x≠"__name__":=by decide)(hdb:(x == ("__debug__":Str))=false:=by decide)
  (he:starEach (e::es) X.env=(false,eval e X.env)::starEach es X.env:=by rfl) (hpl:(backTo pos (starEach es X.env)).any (·.1)=false:=by rfl):PE X (.Call (.Name x p) (e::es) [] pos) (tCB r t):=by
 intro pins s σ H Q I h
 refine wpAny_Call_Name_kw (om I hg hm hv ?_ hn hdb)
 exact PyProof.Rows.callWith_type1 (thn (ha pos pins s σ H _ I h) fun us s1 ⟨vs,H1,I1,r1,q1⟩=>hc pins s1 σ H1 vs us Q I1 r1 q1) he hpl
end
end L2
namespace HT
open PySem PyProof.Rows
section
open PySem.SeqAt
open PySem.AutoSeq1 (wpAny_loadPart')
open PySem.MeetsSeq PySem.MeetsSeq2 PySem.MeetsSeq3
end
section
variable {prog:Program}{w:World}{A:Around}{E:Value->Shared->Prop}{s:Shared}
theorem FC {t b:Addr}{vs ws:List Value}{Q:Value->Shared->Prop}(ht:IsTup s.heap t vs.toArray)(hb:IsTup s.heap b ws.toArray)(hv:vs≠[])
  (h1:ws=[]->Q (.ref t) s) (h2:ws≠[]->Q (.ref s.heap.objs.size) {s with heap:=s.heap.push {cls:=.type "tuple",data:=.seq (vs++ws).toArray}})
  (hsz:vs.length+ws.length<=sizeLine):wpAny (model prog w) A (binaryOp .Add (.ref t) (.ref b)) Q E s:=by
 obtain ⟨⟨cls,dd,data,sl⟩,ho,hc,n,hd⟩:=id ht
 obtain ⟨⟨cls2,dd2,data2,sl2⟩,ho2,hc2,n2,hd2⟩:=id hb
 simp only at hc hd hc2 hd2
 subst hc hd hc2 hd2
 have e:vs.toArray++ws.toArray=(vs++ws).toArray:=by simp
 by_cases hw:ws=[]
 ·exact concat_meets ⟨_,ho,rfl⟩ ⟨_,ho2,rfl⟩ noFill_tuple_add seq_tuple_add PySem.F.slot_tuple_add PySem.F.entry_tuple_add (PySem.F.args_tuple_add_2 _ _)
   (tuple_addW1 t b vs.toArray ws.toArray n n2 dd dd2 sl sl2 (by simpa using hv) (by simp [hw])) ⟨ho,ho2,h1 hw⟩
 ·refine concat_meets ⟨_,ho,rfl⟩ ⟨_,ho2,rfl⟩ noFill_tuple_add seq_tuple_add PySem.F.slot_tuple_add PySem.F.entry_tuple_add (PySem.F.args_tuple_add_2 _ _)
   (tuple_addW2 t b vs.toArray ws.toArray n n2 dd dd2 sl sl2 (by simpa using hv) (by simpa using hw) (by rw [List.size_toArray,List.size_toArray];exact hsz)) ⟨ho,ho2,?_⟩
  rw [e]
  exact h2 hw
noncomputable def sIx (n d:Nat):Option Int->Nat
 | none=>d
 | some v=>if v < 0 then (v+(n:Int)).toNat else min v.toNat n
theorem FD (n d k:Nat):sIx n d (some (k:Int))=min k n:=by
 show (if (k:Int) < 0 then ((k:Int)+(n:Int)).toNat else min (k:Int).toNat n)=min k n
 rw [if_neg (by omega),Int.toNat_natCast]
theorem IF (n d:Nat)(hd:d<=n)(o:Option Int):sIx n d o<=n:=by
 cases o with
 | none=>exact hd
 | some v=>
  show (if v < 0 then (v+(n:Int)).toNat else min v.toNat n)<=n
  by_cases hv:v < 0
  ·rw [if_pos hv];omega
  ·rw [if_neg hv];exact Nat.min_le_right _ _
theorem xK (v:Int)(n d:Nat):(if v < 0 then max (v+(n:Int)) 0 else min v (n:Int))=((sIx n d (some v):Nat):Int):=by
 show (if v < 0 then max (v+(n:Int)) 0 else min v (n:Int))=(((if v < 0 then (v+(n:Int)).toNat else min v.toNat n):Nat):Int)
 by_cases hv:v < 0
 ·simp only [if_pos hv];omega
 ·simp only [if_neg hv];omega
theorem Ah (lo hi:Option Int)(n:Nat):Builtin.Slice.sliceAdjust lo hi 1 (n:Int)=(((sIx n 0 lo:Nat):Int),((sIx n n hi:Nat):Int)):=by
 have h1:¬((1:Int) < 0):=by omega
 unfold Builtin.Slice.sliceAdjust
 simp only [h1,if_false]
 refine Prod.ext ?_ ?_
 ·cases lo with
  | none=>rfl
  | some v=>exact xK v n 0
 ·cases hi with
  | none=>rfl
  | some v=>exact xK v n n
theorem Ai (i j:Nat):Builtin.Slice.slicePlaces (i:Int) (j:Int) 1=j - i:=by
 unfold Builtin.Slice.slicePlaces
 have h1:(1:Int) > 0:=by omega
 simp only [h1,if_true,Int.ediv_one]
 split<;>omega
theorem uj {v:Value}{o:Option Int}{Q:Option Int->Shared->Prop}(p:IsPart v o)(h:Q o s):wpAny (model prog w) A (Builtin.Slice.slicePartIndex v) Q E s:=by
 cases p with
 | none=>exact slicePart_none h
 | int i t=>exact slicePart_int h
theorem qV {sl:Addr}{vl vu:Value}{lo hi:Option Int}{n:Nat}{Q:Int×Int×Nat->Shared->Prop}(hs:s.heap.IsSliceOf sl vl vu .none)(pl:IsPart vl lo)(pu:IsPart vu hi)
  (h:Q (((sIx n 0 lo:Nat):Int),1,sIx n n hi - sIx n 0 lo) s):wpAny (model prog w) A (Builtin.Slice.sliceApplied (.ref sl) (pure (n:Int))) Q E s:=by
 obtain ⟨os,hos,hcs,hds⟩:=id hs
 unfold Builtin.Slice.sliceApplied Builtin.Slice.sliceFields
 refine wpAny_bind (wpAny_bind (wpAny_field hos hds (x:=vl) rfl (wpAny_bind (wpAny_field hos hds (x:=vu) rfl (wpAny_bind (wpAny_field hos hds (x:=.none) rfl (wpAny_pure ?_)))))))
 refine wpAny_bind (slicePart_none ?_)
 show wpAny _ _ (if ((1:Int) == 0)=true then _ else _) _ _ s
 rw [if_neg (by decide)]
 refine wpAny_bind (uj pl (wpAny_bind (uj pu (wpAny_bind (wpAny_pure ?_)))))
 show wpAny _ _ (match Builtin.Slice.sliceAdjust lo hi 1 (n:Int) with | (lo,hi)=>pure (lo,(1:Int),Builtin.Slice.slicePlaces lo hi 1)) _ _ s
 rw [Ah lo hi n]
 show wpAny _ _ (pure (((sIx n 0 lo:Nat):Int),(1:Int),Builtin.Slice.slicePlaces ((sIx n 0 lo:Nat):Int) ((sIx n n hi:Nat):Int) 1)) _ _ s
 rw [Ai]
 exact wpAny_pure h
theorem DE (xs:Array Value)(i k:Nat):((List.range k).filterMap fun (m:Nat)=>xs[((i:Int)+(m:Int) * 1).toNat]?).toArray=((xs.toList.drop i).take k).toArray:=by
 have e:(fun (m:Nat)=>xs[((i:Int)+(m:Int) * 1).toNat]?)=fun m=>xs[i+m]?:=by
  funext m
  have:((i:Int)+(m:Int) * 1).toNat=i+m:=by omega
  rw [this]
 rw [e]
 have:=pick_run xs i k
 rw [List.filterMap_map] at this
 have e2:((fun x=>xs[x]?) ∘ fun x=>i+x)=fun m=>xs[i+m]?:=rfl
 rw [e2] at this
 rw [this]
theorem pk {t sl:Addr}{items:Array Value}{vl vu:Value}{lo hi:Option Int}{Q:Value->Shared->Prop}(ht:IsTup s.heap t items)(hs:s.heap.IsSliceOf sl vl vu .none)(pl:IsPart vl lo)(pu:IsPart vu hi)
  (hw:¬(sIx items.size 0 lo=0/\sIx items.size items.size hi=items.size))
  (h:Q (.ref s.heap.objs.size) {s with heap:=s.heap.push {cls:=.type "tuple",data:=.seq ((items.toList.drop (sIx items.size 0 lo)).take (sIx items.size items.size hi - sIx items.size 0 lo)).toArray}})
  (hsz:items.size<=sizeLine):wpAny (model prog w) A (getItem (.ref t) (.ref sl)) Q E s:=by
 have htake:sizeOk (.seq ((items.toList.drop (sIx items.size 0 lo)).take (sIx items.size items.size hi - sIx items.size 0 lo)).toArray):=by
  show ((items.toList.drop (sIx items.size 0 lo)).take (sIx items.size items.size hi - sIx items.size 0 lo)).toArray.size<=sizeLine
  rw [List.size_toArray,List.length_take,List.length_drop,Array.length_toList]
  omega
 have hj:sIx items.size items.size hi<=items.size:=IF _ _ (Nat.le_refl _) hi
 obtain ⟨os,hos,hcs,hds⟩:=id hs
 have hTs:s.TypeIs (.ref sl) "slice":=⟨os,hos,hcs⟩
 unfold getItem
 try with_reducible refine wpAny_holding ?_
 first | refine wpAny_bind (wpAny_pure ?_) | skip
 refine wpAny_bind (wpAny_sequenceKey ht.typeIs (by decide) ?_)
 refine wpAny_bind (wpAny_callSpecial?_slot (name:=Str.ofString "__getitem__") ht.typeIs PyProof.Rows.slot_tuple_getitem
  (wpAny_call_entry PyProof.Rows.slot_tuple_getitem ht.typeIs entry_tuple_getitem ?_ (args_tuple_getitem _ _)))
 show wpAny _ _ (Builtin.Tuple.tupleItemsOf (.ref t) >>= _) _ _ s
 refine wpAny_bind (tupleItemsOf_ ht ?_)
 refine wpAny_bind (wpAny_typeOf hTs ?_)
 rw [if_pos (by decide)]
 refine wpAny_bind (qV hs pl pu ?_)
 have hno:¬((((sIx items.size 0 lo:Nat):Int) == 0 && (1:Int) == 1 && (sIx items.size items.size hi - sIx items.size 0 lo) == items.size)=true):=by
  intro q
  rw [Bool.and_eq_true,Bool.and_eq_true] at q
  have q1:((sIx items.size 0 lo:Nat):Int)=0:=eq_of_beq q.1.1
  have q2:sIx items.size items.size hi - sIx items.size 0 lo=items.size:=eq_of_beq q.2
  exact hw ⟨by omega,by omega⟩
 show wpAny _ _ (if (((sIx items.size 0 lo:Nat):Int) == 0 && (1:Int) == 1 && (sIx items.size items.size hi - sIx items.size 0 lo) == items.size)=true then _ else _) _ _ s
 rw [if_neg hno,DE]
 first
  | exact wpAny_bind (m:=Builtin.Tuple.tupleExact _) (wpAny_newObj_type (wpAny_pure ⟨_,rfl,wpAny_pure h⟩) htake)
  | exact wpAny_bind (m:=Builtin.Tuple.tupleExact _) (wpAny_newObj_type (wpAny_bind (wpAny_pure (wpAny_pure ⟨_,rfl,wpAny_pure h⟩))) htake)
  | exact wpAny_bind (wpAny_bind (m:=Builtin.Tuple.tupleExact _) (wpAny_newObj_type (wpAny_pure (wpAny_pure ⟨_,rfl,wpAny_pure h⟩)) htake))
  | exact wpAny_bind (wpAny_bind (m:=Builtin.Tuple.tupleExact _) (wpAny_newObj_type (wpAny_pure ⟨_,rfl,wpAny_pure h⟩) htake))
end
end HT
namespace L2
open PySem PySem.Spec PyProof.Rows
noncomputable abbrev TO:=St->Hp->(Option Int->Hp->Prop)->Prop
def PO (X:Cx)(e:Option Expr)(t:TO):Prop:=
 ∀(pins:List (Addr×Obj)) (s:Shared) (σ:St) (H:Hp) (Q:Option Int->Hp->Prop),Inv X pins σ H s->t σ H Q->
  wpAny (model X.prog X.w) X.A (evalPart e X.env) (fun u s'=>∃o H',Inv X pins σ H' s'/\IsPart u o/\Q o H') X.xe s
noncomputable def Br:TO:=fun _ H Q=>Q none H
noncomputable def Hn (t:TE):TO:=fun σ H Q=>t σ H fun x H1=>∃i,x=.int i/\Q (some i) H1
section
variable {X:Cx}{e:Expr}{te:TE}{lo hi:Option Expr}{tl th:TO}{pos p2:Pos}
theorem Bs:PO X none Br:=by
 intro pins s σ H Q I h
 rw [evalPart_none]
 exact wpAny_pure ⟨none,H,I,.none,h⟩
theorem FE (h:PE X e te):PO X (some e) (Hn te):=by
 intro pins s σ H Q I hw
 rw [evalPart_some]
 refine thn (h pins s σ H _ I hw) fun u s1 ⟨x,H1,I1,r1,q1⟩=>?_
 obtain ⟨i,rfl,q⟩:=q1
 obtain ⟨t,rfl⟩:=r1
 exact ⟨some i,H1,I1,.int i t,q⟩
def SlR (X:Cx)(r:V->Option Int->Option Int->Hp->VK->Prop):Prop:=
 ∀(pins:List (Addr×Obj)) (s:Shared) (σ:St) (H:Hp) (x:V) (v vl vu:Value) (lo hi:Option Int) (sl:Addr) (Q:VK),Inv X pins σ H s->bI x v->s.heap.IsSliceOf sl vl vu .none->IsPart vl lo->IsPart vu hi->r x lo hi H Q->
  ∃T id,typeLookup (.type T) "__getitem__"=pure (some (.builtin id))/\s.TypeIs v T/\wpAny (model X.prog X.w) X.A (getItem v (.ref sl)) (EP X pins σ Q) X.xe s
noncomputable def tSl (r:V->Option Int->Option Int->Hp->VK->Prop)(te:TE)(tl th:TO):TE:=fun σ H Q=>te σ H fun x H1=>tl σ H1 fun l H2=>th σ H2 fun u H3=>r x l u H3 Q
theorem uk {r:V->Option Int->Option Int->Hp->VK->Prop}(hr:SlR X r)(he:PE X e te)(hl:PO X lo tl)(hu:PO X hi th):PE X (.Subscript e (.Slice lo hi none p2) pos) (tSl r te tl th):=by
 intro pins s σ H Q I h
 refine Subscript_ (thn (he pins s σ H _ I h) fun v s1 ⟨x,H1,I1,r1,q1⟩=>?_)
 refine wpAny_Slice (thn (hl pins s1 σ H1 _ I1 q1) fun vl s2 ⟨l,H2,I2,pl,q2⟩=>thn (hu pins s2 σ H2 _ I2 q2) fun vu s3 ⟨u,H3,I3,pu,q3⟩=>?_)
 rw [evalPart_none]
 refine wpAny_pure ?_
 have I4:Inv X pins σ H3 {s3 with heap:=s3.heap.push {cls:=.type "slice",data:=.fields #[vl,vu,.none]}}:=I3.kept (t':=s3.toks) fun b ob q=>Heap.get?_push_of_some _ q
 obtain ⟨T,id,hT,ht,hg⟩:=hr pins {s3 with heap:=s3.heap.push {cls:=.type "slice",data:=.fields #[vl,vu,.none]}} σ H3 x v vl vu l u s3.heap.objs.size Q I4 r1 (Heap.IsSliceOf.new ..) pl pu q3
 show wpAny (model X.prog X.w) X.A (subscriptTail e (.Slice lo hi none p2) v (.ref s3.heap.objs.size)) (EP X pins σ Q) X.xe {s3 with heap:=s3.heap.push {cls:=.type "slice",data:=.fields #[vl,vu,.none]}}
 exact tail_any (ops:=[.ref s3.heap.objs.size,v]) ht hT hg (by with_unfolding_all rfl)
noncomputable def pw (xs:List V)(lo hi:Option Int):List V:=(xs.drop (HT.sIx xs.length 0 lo)).take (HT.sIx xs.length xs.length hi - HT.sIx xs.length 0 lo)
theorem jd (xs:List V)(lo hi:Option Int):(pw xs lo hi).length<=xs.length:=by
 unfold pw
 rw [List.length_take,List.length_drop]
 omega
noncomputable def Kc (K:WA):V->Option Int->Option Int->Hp->VK->Prop:=fun x lo hi H Q=>∃a xs,x=.ref a/\SqT K H a xs/\
 ¬(HT.sIx xs.length 0 lo=0/\HT.sIx xs.length xs.length hi=xs.length)/\∀p,H p=none->Q (.ref p) (upd H p (.tup (pw xs lo hi)))
theorem IG:SlR X (Kc X.K):=by
 intro pins s σ H x v vl vu lo hi sl Q I rx hs pl pu h
 obtain ⟨a,xs,rfl,hx,hw,q⟩:=h
 cases rx
 obtain ⟨its,r,ht,hz⟩:=I.tuple hx
 have hlen:its.toArray.size=xs.length:=by rw [List.size_toArray];exact r.length.symm
 refine ⟨"tuple",_,PyProof.Rows.slot_tuple_getitem.lookup,ht.typeIs,?_⟩
 refine HT.pk ht hs pl pu (by rw [hlen];exact hw) ?_ (by rw [hlen];exact hz)
 rw [hlen]
 refine ⟨.ref s.heap.objs.size,_,I.laid (t':=s.toks) (o:=.tup (pw xs lo hi)) (fun b ob q=>Heap.get?_push_of_some _ q) (Nat.le_refl _) ?_,rfl,q _ (I.hok.fresh (Nat.le_refl _))⟩
 exact ⟨Nat.le_trans (jd xs lo hi) hz,_,(r.drop (HT.sIx xs.length 0 lo)).take (HT.sIx xs.length xs.length hi - HT.sIx xs.length 0 lo),hZ.new _ _⟩
noncomputable def Ho (K:WA):R2:=fun x y H Q=>∃a b xs ys,x=.ref a/\y=.ref b/\SqT K H a xs/\SqT K H b ys/\xs≠[]/\xs.length+ys.length<=sizeLine/\
 (ys=[]->Q (.ref a) H)/\(ys≠[]->∀p,H p=none->Q (.ref p) (upd H p (.tup (xs++ys))))
theorem bz.nil_iff {xs:List V}{us:List Value}(r:bz xs us):us=[]↔xs=[]:=by
 cases r with
 | nil=>simp
 | cons _ _=>simp
theorem Bt:OpR X (binaryOp .Add) (Ho X.K):=by
 intro pins s σ H x y v u Q I rx ry h
 obtain ⟨a,b,xs,ys,rfl,rfl,ha,hb,hx,hz,q1,q2⟩:=h
 cases rx
 cases ry
 obtain ⟨its,r1,p1,_⟩:=I.tuple ha
 obtain ⟨its2,r2,p2,_⟩:=I.tuple hb
 refine HT.FC p1 p2 (fun z=>hx (r1.nil_iff.mp z)) (fun z=>⟨.ref a,H,I,rfl,q1 (r2.nil_iff.mp z)⟩) (fun z=>?_) (by rw [←r1.length,←r2.length];exact hz)
 refine ⟨.ref s.heap.objs.size,_,I.laid (t':=s.toks) (o:=.tup (xs++ys)) (fun b ob q=>Heap.get?_push_of_some _ q) (Nat.le_refl _) ?_,rfl,q2 (fun w=>z (r2.nil_iff.mpr w)) _ (I.hok.fresh (Nat.le_refl _))⟩
 exact ⟨by rw [List.length_append];exact hz,_,r1.append r2,hZ.new _ _⟩
end
noncomputable def ixN (n:Nat)(i:Int):Option Nat:=if 0<=i then (if i < n then some i.toNat else none) else if -(n:Int)<=i then some (i+n).toNat else none
noncomputable def atI {α:Type}(xs:List α)(i:Int):Option α:=(ixN xs.length i).bind fun j=>xs[j]?
theorem Bu {n:Nat}{i:Int}{j:Nat}(h:ixN n i=some j):seqIndex? i n=some j/\j < n/\-(n:Int)<=i/\i < n:=by
 unfold ixN at h
 by_cases h0:0<=i
 ·rw [if_pos h0] at h
  by_cases h1:i < n
  ·rw [if_pos h1] at h
   have e:i.toNat=j:=Option.some.inj h
   exact ⟨by rw [seqIndex_of h0 h1,e],by omega,by omega,h1⟩
  ·rw [if_neg h1] at h;cases h
 ·rw [if_neg h0] at h
  by_cases h1:-(n:Int)<=i
  ·rw [if_pos h1] at h
   have e:(i+n).toNat=j:=Option.some.inj h
   exact ⟨by rw [seqIndex_neg (by omega) h1,e],by omega,h1,by omega⟩
  ·rw [if_neg h1] at h;cases h
theorem xM {α:Type}{xs:List α}{i:Int}{v:α}(h:atI xs i=some v):∃j,seqIndex? i xs.length=some j/\xs[j]?=some v/\j < xs.length/\-(xs.length:Int)<=i/\i < xs.length:=by
 unfold atI at h
 cases e:ixN xs.length i with
 | none=>rw [e] at h;cases h
 | some j=>
  rw [e] at h
  obtain ⟨h1,h2,h3,h4⟩:=Bu e
  exact ⟨j,h1,h,h2,h3,h4⟩
theorem Bv {α:Type}{xs:List α}{j:Nat}{v:α}(h:xs[j]?=some v):atI xs (j:Int)=some v:=by
 have hj:j < xs.length:=(List.getElem?_eq_some_iff.mp h).1
 have e:ixN xs.length (j:Int)=some j:=by
  unfold ixN
  rw [if_pos (by omega),if_pos (by omega)];simp
 unfold atI;rw [e];exact h
theorem DF {α:Type}(xs:List α)(v:α):atI (xs++[v]) (-1)=some v:=by
 have hl:(xs++[v]).length=xs.length+1:=by simp
 have e:ixN (xs++[v]).length (-1)=some xs.length:=by
  unfold ixN
  rw [hl,if_neg (by decide),if_pos (by omega)]
  congr 1
  omega
 unfold atI
 rw [e]
 show (xs++[v])[xs.length]?=some v
 simp
def Bw (b:Expr):Prop:=∀o i,subscripted b false o i=operate [o,i] (getItem o i)
def IxR (X:Cx)(r:R2):Prop:=
 ∀(value slice:Expr) (pins:List (Addr×Obj)) (s:Shared) (σ:St) (H:Hp) (x y:V) (v u:Value) (Q:VK),Inv X pins σ H s->bI x v->bI y u->r x y H Q->
  subscripted slice false v u=operate [v,u] (getItem v u)->wpAny (model X.prog X.w) X.A (subscriptTail value slice v u) (EP X pins σ Q) X.xe s
def MtR (X:Cx)(id:String)(r:V->List V->Hp->VK->Prop):Prop:=
 ∀(pins:List (Addr×Obj)) (s:Shared) (σ:St) (H:Hp) (x:V) (xs:List V) (v:Value) (us:List Value) (Q:VK),Inv X pins σ H s->bI x v->bz xs us->r x xs H Q->
  wpAny (model X.prog X.w) X.A (call (.builtin id) (v::us)) (EP X pins σ Q) X.xe s
section
variable {X:Cx}{a b:Expr}{ta tb:TE}{pos:Pos}
theorem IxR.or {r r':R2}(h:IxR X r)(h':IxR X r'):IxR X (fun x y H Q=>r x y H Q\/r' x y H Q):=by
 intro value slice pins s σ H x y v u Q I rx ry q hs
 rcases q with q | q
 ·exact h value slice pins s σ H x y v u Q I rx ry q hs
 ·exact h' value slice pins s σ H x y v u Q I rx ry q hs
theorem Kd {r:R2}(hr:IxR X r)(ha:PE X a ta)(hb:PE X b tb)(hs:Bw b):PE X (.Subscript a b pos) (tOp r ta tb):=by
 intro pins s σ H Q I h
 exact Subscript_ (Iw ha hb I h fun v u s2 x y H2 I2 rx ry q=>hr a b pins s2 σ H2 x y v u Q I2 rx ry q (hs _ _))
noncomputable def IH (K:WA):R2:=fun x y H Q=>∃p xs i v,x=.ref p/\y=.int i/\SqL K H p xs/\atI xs i=some v/\Q v H
noncomputable def IJ (K:WA):R2:=fun x y H Q=>∃p xs i v,x=.ref p/\y=.int i/\SqT K H p xs/\atI xs i=some v/\Q v H
noncomputable def Ke:R2:=fun x y H Q=>∃z i c,x=.str z/\y=.int i/\z.length<=sizeLine/\atI z.cps.toList i=some c/\Q (.str ⟨#[c]⟩) H
theorem Bx:IxR X (IH X.K):=by
 intro value slice pins s σ H x y v u Q I rx ry h hs
 obtain ⟨p,xs,i,z,rfl,rfl,hq,he,q⟩:=h
 cases rx
 obtain ⟨t,rfl⟩:=ry
 obtain ⟨its,r,pl,hz⟩:=I.list hq
 obtain ⟨j,h1,h2,h3,h4,h5⟩:=xM he
 obtain ⟨w,ew,rw'⟩:=r.get h2
 have hl:=r.length
 have hn:=qT
 have fin:EP X pins σ Q w s:=⟨z,H,I,rw',q⟩
 by_cases h0:0<=i
 ·have hj:i.toNat=j:=by
   rw [seqIndex_of h0 h5] at h1
   exact Option.some.inj h1
  exact item_listR pl.isList h0 (by omega) (by rw [hj];simpa using ew) fin hs
 ·have hj:(i+(its.toArray.size:Int)).toNat=j:=by
   rw [seqIndex_neg (by omega) h4] at h1
   rw [List.size_toArray,←hl]
   exact Option.some.inj h1
  exact subscriptTail_builtinR (x:=w) pl.isList.typeIs slot_list_getitem.lookup
   (wpAny_getItem_list_neg (Q:=fun r s'=>r=w/\EP X pins σ Q r s') pl.isList (by omega) (by rw [List.size_toArray]<;>omega) (by omega) (by rw [hj];simpa using ew) ⟨rfl,fin⟩) hs
theorem DG:IxR X (IJ X.K):=by
 intro value slice pins s σ H x y v u Q I rx ry h hs
 obtain ⟨p,xs,i,z,rfl,rfl,hq,he,q⟩:=h
 cases rx
 obtain ⟨t,rfl⟩:=ry
 obtain ⟨its,r,pl,hz⟩:=I.tuple hq
 obtain ⟨j,h1,h2,h3,h4,h5⟩:=xM he
 obtain ⟨w,ew,rw'⟩:=r.get h2
 have hl:=r.length
 have hn:=qT
 have fin:EP X pins σ Q w s:=⟨z,H,I,rw',q⟩
 exact subscriptTail_builtinR (x:=w) pl.typeIs slot_tuple_getitem.lookup
  (getItem_tuple (j:=j) (Q:=fun r s'=>r=w/\EP X pins σ Q r s') pl (by omega) (by omega) (by rw [List.size_toArray,←hl];exact h1) (by simpa using ew) ⟨rfl,fin⟩) hs
theorem IK:IxR X Ke:=by
 intro value slice pins s σ H x y v u Q I rx ry h hs
 obtain ⟨z,i,c,rfl,rfl,hz,he,q⟩:=h
 obtain ⟨t,rfl⟩:=rx
 obtain ⟨t',rfl⟩:=ry
 obtain ⟨j,h1,h2,h3,h4,h5⟩:=xM he
 have hl:z.cps.toList.length=z.length:=by simp [Str.length]
 rw [hl] at h1 h4 h5
 have hn:=qT
 exact tail_any (typeIs_str s z t) slot_str_getitem.lookup (getItem_str (c:=c) (by
  have e1:decide (i < -(2 ^ 63:Int))=false:=decide_eq_false (by omega)
  have e2:decide (i≥2 ^ 63)=false:=decide_eq_false (by omega)
  rw [e1,e2,Bool.or_false]) (by rw [h1];simpa using h2) ⟨.str ⟨#[c]⟩,H,I.tok _,⟨_,rfl⟩,q⟩) hs
noncomputable def rIx (K:WA):R2:=fun x y H Q=>IH K x y H Q\/IJ K x y H Q\/Ke x y H Q
theorem DH:IxR X (rIx X.K):=Bx.or (DG.or IK)
theorem Aj (its:List Value)(n j:Nat)(u:Value):Obj.mapSeq (·.setIfInBounds j u) {cls:=.type "list",data:=.seq its.toArray n}={cls:=.type "list",data:=.seq (its.set j u).toArray n}:=by
 simp [Obj.mapSeq]
theorem Inv.lst {pins:List (Addr×Obj)}{σ:St}{H:Hp}{s:Shared}{p:Addr}{xs:List V}(I:Inv X pins σ H s)(h:H p=some (.lst xs)) :
  ∃(its:List Value) (n:Nat),bz xs its/\s.heap.get? p=some {cls:=.type "list",data:=.seq its.toArray n}/\xs.length<=sizeLine:=by
 obtain ⟨z,its,n,r,e⟩:=I.hok p _ h
 exact ⟨its,n,r,e,z⟩
theorem Inv.lstUpd {pins:List (Addr×Obj)}{σ:St}{H:Hp}{s:Shared}{p:Addr}{xs ys:List V}{its its':List Value}{n n':Nat}{f:Obj->Obj}(I:Inv X pins σ H s)(h:H p=some (.lst xs))
  (ho:s.heap.get? p=some {cls:=.type "list",data:=.seq its.toArray n}) (hf:f {cls:=.type "list",data:=.seq its.toArray n}={cls:=.type "list",data:=.seq its'.toArray n'}) (r:bz ys its') (hz:ys.length<=sizeLine) (t:Nat) :
  Inv X pins σ (upd H p (.lst ys)) {s with heap:=s.heap.update p f,toks:=t}:=by
 have e:(s.heap.update p f).get? p=some {cls:=.type "list",data:=.seq its'.toArray n'}:=by
  rw [Heap.get?_update_self f ho (by rw [hf]<;>rfl),hf]
 refine I.write (x:=p) (e:=p) (by rw [h];trivial) (.inl rfl) (fun b u hb q=>(Heap.get?_update_other _ _ (Ne.symm hb)).trans q) ⟨_,e⟩ ?_
 exact ⟨hz,its',n',r,e⟩
noncomputable def Hq:V->V->V->Hp->(Hp->Prop)->Prop:=fun o i v H Q=>∃p xs k j,o=.ref p/\i=.int k/\H p=some (.lst xs)/\ixN xs.length k=some j/\Q (upd H p (.lst (xs.set j v)))
theorem DJ:Io X Hq:=by
 intro pins s σ H o i v ov iv u Q I ro ri rv h
 obtain ⟨p,xs,k,j,rfl,rfl,hp,hj,q⟩:=h
 cases ro
 obtain ⟨t,rfl⟩:=ri
 obtain ⟨its,n,r,ho,hz⟩:=I.lst hp
 obtain ⟨h1,h2,h3,h4⟩:=Bu hj
 have hl:=r.length
 have hn:=qT
 have I':Inv X pins σ (upd H p (.lst (xs.set j v))) {s with heap:=s.heap.update p (Obj.mapSeq (·.setIfInBounds j u))}:=
  I.lstUpd hp ho (Aj its n j u) (r.set rv j) (by rw [List.length_set];exact hz) s.toks
 by_cases h0:0<=k
 ·have hk:k.toNat=j:=by
   rw [seqIndex_of h0 h4] at h1
   exact Option.some.inj h1
  exact W.ki_setAt ho h0 (by omega) (by rw [List.size_toArray,←hl];exact h4) (by rw [hk];exact ⟨_,I',q⟩)
 ·have hk:(k+(its.toArray.size:Int)).toNat=j:=by
   rw [seqIndex_neg (by omega) h3] at h1
   rw [List.size_toArray,←hl]
   exact Option.some.inj h1
  exact W.ki_setBack ho (by omega) (by rw [List.size_toArray,←hl];exact h3) (by omega) (by rw [hk];exact ⟨_,I',q⟩)
theorem xN (lo hi:Option Int)(n:Nat):(sliceBounds lo hi none n).1=((HT.sIx n 0 lo:Nat):Int)/\(sliceBounds lo hi none n).2.1=((HT.sIx n n hi:Nat):Int)/\(sliceBounds lo hi none n).2.2=1:=by
 refine ⟨?_,?_,rfl⟩
 ·cases lo with
  | none=>simp [sliceBounds,HT.sIx]
  | some i=>
   simp only [sliceBounds,HT.sIx,Option.getD_none,show (1:Int) > 0 by decide,if_true]
   by_cases h:i < 0
   ·simp only [h,if_true]<;>omega
   ·simp only [h,if_false]<;>omega
 ·cases hi with
  | none=>simp [sliceBounds,HT.sIx]
  | some i=>
   simp only [sliceBounds,HT.sIx,Option.getD_none,show (1:Int) > 0 by decide,if_true]
   by_cases h:i < 0
   ·simp only [h,if_true]<;>omega
   ·simp only [h,if_false]<;>omega
theorem vO (its:List Value)(lo hi:Option Int):slicePick its.toArray lo hi none=((its.drop (HT.sIx its.length 0 lo)).take (HT.sIx its.length its.length hi - HT.sIx its.length 0 lo)).toArray:=by
 obtain ⟨h1,h2,h3⟩:=xN lo hi its.toArray.size
 unfold slicePick
 rw [h1,h2,h3]
 simp only [sliceRange_one,pick_run,List.size_toArray]<;>rfl
noncomputable def Kf (K:WA):V->Option Int->Option Int->Hp->VK->Prop:=fun x lo hi H Q=>∃a xs,x=.ref a/\SqL K H a xs/\∀p,H p=none->Q (.ref p) (upd H p (.lst (pw xs lo hi)))
theorem FG:SlR X (Kf X.K):=by
 intro pins s σ H x v vl vu lo hi sl Q I rx hs pl pu h
 obtain ⟨a,xs,rfl,hx,q⟩:=h
 cases rx
 obtain ⟨its,r,ht,hz⟩:=I.list hx
 have hlen:=r.length
 refine ⟨"list",_,slot_list_getitem.lookup,ht.isList.typeIs,?_⟩
 refine wpAny_getItem_list_slice ht.isList hs pl pu .none (by simp) ?_ (by rw [List.size_toArray]<;>omega)
 rw [vO,←hlen]
 refine ⟨.ref s.heap.objs.size,_,I.laid (t':=s.toks) (o:=.lst (pw xs lo hi)) (fun b ob q=>Heap.get?_push_of_some _ q) (Nat.le_refl _) ?_,rfl,q _ (I.hok.fresh (Nat.le_refl _))⟩
 exact ⟨Nat.le_trans (jd xs lo hi) hz,_,0,(r.drop (HT.sIx xs.length 0 lo)).take (HT.sIx xs.length xs.length hi - HT.sIx xs.length 0 lo),Heap.get?_push_size _ rfl⟩
noncomputable def bg:V->Bool
 | .non=>true
 | .bl _=>true
 | .int _=>true
 | .str _=>true
 | _=>false
noncomputable def eqV:V->V->Bool
 | .non,.non=>true
 | .bl a,.bl b=>a == b
 | .bl a,.int b=>(if a then 1 else 0) == b
 | .int a,.bl b=>a == (if b then 1 else 0)
 | .int a,.int b=>a == b
 | .str a,.str b=>a == b
 | _,_=>false
theorem ot {A:Around}{s:Shared}{y x:V}{u v:Value}(ry:bI y u)(rx:bI x v)(fy:bg y=true)(fx:bg x=true):SeqAt.EqAt A s u v (eqV y x):=by
 cases y with
 | non=>
  cases ry
  cases x with
  | non=>cases rx;exact SeqAt.EqAt.same _
  | bl b=>cases rx;exact SeqAt.EqAt.none_bool b
  | int b=>obtain ⟨t,rfl⟩:=rx;exact SeqAt.EqAt.none_int b t
  | str b=>obtain ⟨t,rfl⟩:=rx;exact SeqAt.EqAt.none_str b t
  | _=>exact absurd (show false=true from fx) Bool.false_ne_true
 | bl a=>
  cases ry
  cases x with
  | non=>cases rx;exact SeqAt.EqAt.bool_none a
  | bl b=>cases rx;exact SeqAt.EqAt.bool_bool a b
  | int b=>obtain ⟨t,rfl⟩:=rx;exact SeqAt.EqAt.bool_int a b t
  | str b=>obtain ⟨t,rfl⟩:=rx;exact SeqAt.EqAt.bool_str a b t
  | _=>exact absurd (show false=true from fx) Bool.false_ne_true
 | int a=>
  obtain ⟨t',rfl⟩:=ry
  cases x with
  | non=>cases rx;exact SeqAt.EqAt.int_none a t'
  | bl b=>cases rx;exact SeqAt.EqAt.int_bool a t' b
  | int b=>obtain ⟨t,rfl⟩:=rx;exact SeqAt.EqAt.int_int a t' b t
  | str b=>obtain ⟨t,rfl⟩:=rx;exact SeqAt.EqAt.int_str a t' b t
  | _=>exact absurd (show false=true from fx) Bool.false_ne_true
 | str a=>
  obtain ⟨t',rfl⟩:=ry
  cases x with
  | non=>cases rx;exact SeqAt.EqAt.str_none a t'
  | bl b=>cases rx;exact SeqAt.EqAt.str_bool a t' b
  | int b=>obtain ⟨t,rfl⟩:=rx;exact SeqAt.EqAt.str_int a t' b t
  | str b=>obtain ⟨t,rfl⟩:=rx;exact SeqAt.EqAt.str_str a t' b t
  | _=>exact absurd (show false=true from fx) Bool.false_ne_true
 | _=>exact absurd (show false=true from fy) Bool.false_ne_true
noncomputable def eqU (x:V)(u:Value):Bool:=match u with
 | .none=>eqV .non x
 | .bool b=>eqV (.bl b) x
 | .int i _=>eqV (.int i) x
 | .str z _=>eqV (.str z) x
 | _=>false
theorem DK {x y:V}{u:Value}(r:bI y u)(f:bg y=true):eqU x u=eqV y x:=by
 cases y with
 | non=>cases r;rfl
 | bl b=>cases r;rfl
 | int i=>obtain ⟨t,rfl⟩:=r;rfl
 | str z=>obtain ⟨t,rfl⟩:=r;rfl
 | _=>exact absurd (show false=true from f) Bool.false_ne_true
theorem pz {x:V}:∀{xs:List V} {us:List Value},bz xs us->xs.all bg=true->us.any (eqU x)=xs.any fun y=>eqV y x
 | _,_,.nil,_=>rfl
 | y::xs,u::us,.cons r t,f=>by
  rw [List.all_cons,Bool.and_eq_true] at f
  rw [List.any_cons,List.any_cons,DK r f.1,pz t f.2]
theorem lT {A:Around}{s:Shared}{x:V}{v:Value}(rx:bI x v)(fx:bg x=true):∀{xs:List V} {us:List Value},bz xs us->xs.all bg=true->∀u∈us,SeqAt.EqAt A s u v (eqU x u)
 | _,_,.nil,_=>fun u hu=>by cases hu
 | y::xs,u::us,.cons r t,f=>fun u' hu=>by
  rw [List.all_cons,Bool.and_eq_true] at f
  rcases List.mem_cons.mp hu with rfl | hu
  ·rw [DK r f.1];exact ot r rx f.1 fx
  ·exact lT rx fx t f.2 u' hu
noncomputable def inV (x:V)(xs:List V):Bool:=xs.any fun y=>eqV y x
noncomputable def rIn (K:WA)(neg:Bool):R2:=fun x y H Q=>∃p xs,y=.ref p/\(SqL K H p xs\/SqT K H p xs)/\bg x=true/\xs.all bg=true/\Q (.bl (if neg then !inV x xs else inV x xs)) H
theorem Cm:OpR X (compareOp .In) (rIn X.K false):=by
 intro pins s σ H x y v u Q I rx ry h
 obtain ⟨p,xs,rfl,hq,fx,fs,q⟩:=h
 cases ry
 rcases hq with hq | hq
 ·obtain ⟨its,r,pl,hz⟩:=I.list hq
  refine SeqAt.in_listAt (eqU x) pl.isList (fun w hw=>lT rx fx r fs w (by simpa using hw)) ⟨.bl _,H,I,rfl,?_⟩
  rw [show its.toArray.any (eqU x)=its.any (eqU x) by simp,pz r fs]
  exact q
 ·obtain ⟨its,r,pl,hz⟩:=I.tuple hq
  refine SeqAt.in_tupleAt (eqU x) pl (fun w hw=>lT rx fx r fs w (by simpa using hw)) ⟨.bl _,H,I,rfl,?_⟩
  rw [show its.toArray.any (eqU x)=its.any (eqU x) by simp,pz r fs]
  exact q
theorem xO:OpR X (compareOp .NotIn) (rIn X.K true):=by
 intro pins s σ H x y v u Q I rx ry h
 obtain ⟨p,xs,rfl,hq,fx,fs,q⟩:=h
 cases ry
 rcases hq with hq | hq
 ·obtain ⟨its,r,pl,hz⟩:=I.list hq
  refine SeqAt.notIn_listAt (eqU x) pl.isList (fun w hw=>lT rx fx r fs w (by simpa using hw)) ⟨.bl _,H,I,rfl,?_⟩
  rw [show its.toArray.any (eqU x)=its.any (eqU x) by simp,pz r fs]
  exact q
 ·obtain ⟨its,r,pl,hz⟩:=I.tuple hq
  refine SeqAt.notIn_tupleAt (eqU x) pl (fun w hw=>lT rx fx r fs w (by simpa using hw)) ⟨.bl _,H,I,rfl,?_⟩
  rw [show its.toArray.any (eqU x)=its.any (eqU x) by simp,pz r fs]
  exact q
theorem xP:fK X (.builtin "len") (fun xs H Q=>∃p ys,xs=[.ref p]/\(SqL X.K H p ys\/SqT X.K H p ys)/\Q (.int ys.length) H):=by
 intro pins s σ H xs us Q I r h
 obtain ⟨p,ys,rfl,hq,q⟩:=h
 obtain ⟨u,rfl,rx⟩:=ui r
 cases rx
 have hn:=qT
 rcases hq with hq | hq
 ·obtain ⟨its,r',pl,hz⟩:=I.list hq
  have hlen:=r'.length
  exact Calls.call_len_list pl.isList (by simp only [List.size_toArray]<;>omega) ⟨.int ys.length,H,I.tok _,⟨s.toks+1,by rw [List.size_toArray,hlen]⟩,q⟩
 ·obtain ⟨its,r',pl,hz⟩:=I.tuple hq
  have hlen:=r'.length
  exact len_tuple pl (by simp only [List.size_toArray]<;>omega) ⟨.int ys.length,H,I.tok _,⟨s.toks+1,by rw [List.size_toArray,hlen]⟩,q⟩
theorem xQ:fK X (.type "list") (fun xs H Q=>∃p ys,xs=[.ref p]/\(SqL X.K H p ys\/SqT X.K H p ys)/\∀l,H l=none->Q (.ref l) (upd H l (.lst ys))):=by
 intro pins s σ H xs us Q I r h
 obtain ⟨p,ys,rfl,hq,q⟩:=h
 obtain ⟨u,rfl,rx⟩:=ui r
 cases rx
 have fin:∀(its:List Value),bz ys its->ys.length<=sizeLine->∀(h':Heap) (c':Nat),(∀b o',s.heap.get? b=some o'->h'.get? b=some o')->
   h'.get? s.heap.objs.size=some {cls:=.type "list",dict:=none,data:=.seq its.toArray c',slots:=#[]}->EP X pins σ Q (.ref s.heap.objs.size) {s with heap:=h'}:=fun its r' hz h' c' kp e=>
  ⟨.ref s.heap.objs.size,_,I.laid (t':=s.toks) kp (Nat.le_refl _) (show fh X.prog X.w _ h' _ (.lst ys) from ⟨hz,its,c',r',e⟩),rfl,q _ (I.hok.fresh (Nat.le_refl _))⟩
 rcases hq with hq | hq
 ·obtain ⟨its,r',pl,hz⟩:=I.list hq
  have hlen:=r'.length
  obtain ⟨o,ho,hc,n,hd⟩:=pl.isList
  exact call_list_seq p (.inl rfl) ho hc hd (fun h' c' kp e=>fin its r' hz h' c' kp e) (by simp only [List.size_toArray]<;>omega)
 ·obtain ⟨its,r',pl,hz⟩:=I.tuple hq
  have hlen:=r'.length
  obtain ⟨o,ho,hc,n,hd⟩:=pl
  exact call_list_seq p (.inr rfl) ho hc hd (fun h' c' kp e=>fin its r' hz h' c' kp e) (by simp only [List.size_toArray]<;>omega)
theorem vP:fK X (.type "tuple") (fun xs H Q=>∃p ys,xs=[.ref p]/\((SqL X.K H p ys/\∀l,H l=none->Q (.ref l) (upd H l (.tup ys)))\/(SqT X.K H p ys/\Q (.ref p) H))):=by
 intro pins s σ H xs us Q I r h
 obtain ⟨p,ys,rfl,h⟩:=h
 obtain ⟨u,rfl,rx⟩:=ui r
 cases rx
 rcases h with ⟨hq,q⟩ | ⟨hq,q⟩
 ·obtain ⟨its,r',pl,hz⟩:=I.list hq
  have hlen:=r'.length
  refine call_tuple_list pl.isList (fun h' kp=>?_) (by simp only [List.size_toArray]<;>omega)
  have I1:Inv X pins σ H {s with heap:=h'}:=I.kept (t':=s.toks) kp
  have I2:Inv X pins σ (upd H h'.objs.size (.tup ys)) {s with heap:=h'.push {cls:=.type "tuple",data:=.seq its.toArray}}:=
   I1.laid (t':=s.toks) (fun b o e=>Heap.get?_push_of_some _ e) (Nat.le_refl _) (show fh X.prog X.w _ _ _ (.tup ys) from ⟨hz,its,r',hZ.new _ _⟩)
  exact ⟨.ref h'.objs.size,_,I2,rfl,q _ (I1.hok.fresh (Nat.le_refl _))⟩
 ·obtain ⟨its,r',pl,hz⟩:=I.tuple hq
  exact call_tuple_same pl ⟨.ref p,H,I,rfl,q⟩
def tyV (K:WA)(T:String)(x:V)(H:Hp):Prop:=match x with
 | .str _=>T="str"
 | .int _=>T="int"
 | .ref p=>(T="list"/\∃xs,SqL K H p xs)\/(T="tuple"/\∃o,K.lookup p=some o/\o.cls=.type "tuple"/\o.dict=none)\/
   (T="dict"/\((∃kvs,H p=some (.dK kvs))\/∃kvs,H p=some (.dT kvs)))\/(T="set"/\∃S n,H p=some (.set S n))
 | _=>False
theorem DL {pins:List (Addr×Obj)}{σ:St}{H:Hp}{s:Shared}{T:String}{x:V}{v:Value}(I:Inv X pins σ H s)(r:bI x v)(ty:tyV X.K T x H) :
  s.TypeIs v T/\∀a,v=.ref a->∃ob,s.heap.get? a=some ob/\ob.dict=none:=by
 cases x with
 | str z=>
  obtain ⟨t,rfl⟩:=r
  cases (show T="str" from ty)
  exact ⟨typeIs_str s z t,fun _ e=>nomatch e⟩
 | int i=>
  obtain ⟨t,rfl⟩:=r
  cases (show T="int" from ty)
  exact ⟨typeIs_int s i t,fun _ e=>nomatch e⟩
 | ref p=>
  cases r
  rcases ty with ⟨rfl,xs,hq⟩ | ⟨rfl,o,hk,hc,hd⟩ | ⟨rfl,hk⟩ | ⟨rfl,S,n,hk⟩
  ·obtain ⟨its,_,pl,_⟩:=I.list hq
   refine ⟨pl.isList.typeIs,fun a e=>?_⟩
   cases e
   obtain ⟨o,n,e,c,hd,_⟩:=pl
   exact ⟨o,e,hd⟩
  ·refine ⟨⟨o,I.kIn p o hk,hc⟩,fun a e=>?_⟩
   cases e
   exact ⟨o,I.kIn _ o hk,hd⟩
  ·have z:∃o,s.heap.get? p=some o/\o.ExactDict:=by
    rcases hk with ⟨kvs,hk⟩ | ⟨kvs,hk⟩
    ·obtain ⟨_,_,_,_,o,_,_,e,ex,_⟩:=I.hok p _ hk
     exact ⟨o,e,ex⟩
    ·obtain ⟨_,_,_,_,o,_,_,e,ex,_⟩:=I.hok p _ hk
     exact ⟨o,e,ex⟩
   obtain ⟨o,e,ex⟩:=z
   refine ⟨⟨o,e,ex.1⟩,fun a e2=>?_⟩
   cases e2
   exact ⟨o,e,ex.2.1⟩
  ·obtain ⟨o,_,_,_,e,ex,_⟩:=I.hok p _ hk
   refine ⟨⟨o,e,ex.1⟩,fun a e2=>?_⟩
   cases e2
   exact ⟨o,e,ex.2.1⟩
 | _=>exact False.elim ty
noncomputable def Kg (K:WA)(T:String)(r:V->List V->Hp->VK->Prop)(to:TE):TE:=fun σ H Q=>to σ H fun x H1=>tyV K T x H1/\r x [] H1 Q
noncomputable def tBM (K:WA)(T:String)(r:V->List V->Hp->VK->Prop)(to:TE)(t:TA):TE:=fun σ H Q=>to σ H fun x H1=>tyV K T x H1/\t σ H1 fun xs H2=>r x xs H2 Q
variable {o e:Expr}{es:List Expr}{to:TE}{t:TA}{name:Str}{apos cpos:Pos}{T id:String}{r:V->List V->Hp->VK->Prop}
theorem Ak (pa:PlainAttrs T)(slot:Slot T name id)(hty:typeOf (.builtin id)=pure (.type "method_descriptor"))(hm:MtR X id r)(ho:PE X o to)
  (hbase:attributeBase o name X.env (eval o X.env)=eval o X.env:=by rfl) (hline:(apos.endLine == cpos.line)=true:=by rfl):PE X (.Call (.Attribute o name apos) [] [] cpos) (Kg X.K T r to):=by
 intro pins s σ H Q I h
 refine wpAny_Call_method0_late hbase hline (thn (ho pins s σ H _ I h) fun v s1 ⟨x,H1,I1,r1,ty,q1⟩=>?_)
 obtain ⟨h1,h2⟩:=DL I1 r1 ty
 exact ⟨T,id,pa,slot,hty,h1,h2,Calls.callWith_builtin rfl (PySem.evalArgs_none (hm pins s1 σ H1 x [] v [] Q I1 r1 .nil q1))⟩
theorem j9 (pa:PlainAttrs T)(slot:Slot T name id)(hty:typeOf (.builtin id)=pure (.type "method_descriptor"))(hm:MtR X id r)(ho:PE X o to)(ha:PA X (e::es) t)
  (hbase:attributeBase o name X.env (eval o X.env)=eval o X.env:=by rfl)
  (hfew:((backTo cpos (starEach (e::es) X.env)).all (fun x=>!x.1) && (backToKw cpos (keywordEach [] X.env)).all (fun x=>x.1.isSome)
   && decide ((e::es).length+([]:List Keyword).length+(if ([]:List Keyword).isEmpty then 0 else 1) < 30))=true:=by rfl)
  (hline:(apos.endLine == cpos.line)=true:=by rfl) (hs:starEach (e::es) X.env=(false,eval e X.env)::starEach es X.env:=by rfl) (hplain:(backTo cpos (starEach es X.env)).any (·.1)=false:=by rfl) :
  PE X (.Call (.Attribute o name apos) (e::es) [] cpos) (tBM X.K T r to t):=by
 intro pins s σ H Q I h
 refine wpAny_Call_method_late hbase hfew hline rfl (thn (ho pins s σ H _ I h) fun v s1 ⟨x,H1,I1,r1,ty,q1⟩=>?_)
 obtain ⟨h1,h2⟩:=DL I1 r1 ty
 refine ⟨T,id,pa,slot,hty,h1,h2,?_⟩
 have hA:=ha cpos pins s1 σ H1 _ I1 q1
 rw [hs] at hA ⊢
 refine Calls.callWith_builtin (by show (false || (backTo cpos (starEach es X.env)).any (·.1))=false;rw [hplain]<;>rfl) (Calls.evalArgs_plain ?_)
 exact thn hA fun us s2 ⟨vs,H2,I2,r2,q2⟩=>hm pins s2 σ H2 x vs v us Q I2 r1 r2 q2
end
def MtM (X:Cx)(id:String)(r:V->List V->Hp->VK->Prop):Prop:=
 ∀(pins:List (Addr×Obj)) (s:Shared) (σ:St) (H:Hp) (x:V) (xs:List V) (v:Value) (us:List Value) (Q:VK),Inv X pins σ H s->bI x v->bz xs us->r x xs H Q->
  wpAny (model X.prog X.w) X.A (call (.builtin id) (v::us)) (EP X pins σ Q) X.xe s
theorem bz.one:∀{x:V} {us:List Value},bz [x] us->∃u,us=[u]/\bI x u
 | _,_,.cons r .nil=>⟨_,rfl,r⟩
theorem bz.two:∀{x y:V} {us:List Value},bz [x,y] us->∃u v,us=[u,v]/\bI x u/\bI y v
 | _,_,_,.cons r (.cons q .nil)=>⟨_,_,rfl,r,q⟩
theorem bz.zero:∀{us:List Value},bz [] us->us=[]
 | _,.nil=>rfl
theorem bz.dropLast {xs:List V}{us:List Value}(h:bz xs us):bz xs.dropLast us.dropLast:=by
 induction h with
 | nil=>exact .nil
 | cons r t ih=>
  cases t with
  | nil=>exact .nil
  | cons q t'=>exact .cons r ih
theorem Al {α:Type}(l:List α):l.eraseIdx (l.length - 1)=l.dropLast:=by
 induction l with
 | nil=>rfl
 | cons a r ih=>
  cases r with
  | nil=>rfl
  | cons b r=>
   have e:(a::b::r).length - 1=((b::r).length - 1)+1:=by
    have h1:(a::b::r).length=r.length+2:=rfl
    have h2:(b::r).length=r.length+1:=rfl
    omega
   rw [e,List.eraseIdx_cons_succ,ih]
   all_goals rfl
theorem wY (its:List Value):∀(k:Nat) (acc:List Value),
  List.foldl (fun x1 x2=>x1++x2) acc.toArray (List.replicate k its.toArray)=(acc++(List.replicate k its).flatten).toArray
 | 0,acc=>by simp
 | k+1,acc=>by
  have e:acc.toArray++its.toArray=(acc++its).toArray:=by simp
  have e2:(acc++its)++(List.replicate k its).flatten=acc++(List.replicate (k+1) its).flatten:=by
   rw [List.replicate_succ,List.flatten_cons,List.append_assoc]
  rw [←e2,←wY its k (acc++its),←e,List.replicate_succ,List.foldl_cons]
section
variable {X:Cx}{pins:List (Addr×Obj)}{σ:St}{H:Hp}{s:Shared}{l b:Addr}{xs ys zs:List V}
theorem Inv.lset {its its':List Value}{n:Nat}{f:Array Value->Array Value}{t':Nat}(I:Inv X pins σ H s)(hH:H l=some (.lst xs))
  (e:s.heap.get? l=some {cls:=.type "list",data:=.seq its.toArray n}) (hf:f its.toArray=its'.toArray) (hv:bz ys its') (hz:ys.length<=sizeLine) :
  Inv X pins σ (upd H l (.lst ys)) {s with heap:=s.heap.update l (Obj.mapSeq f),toks:=t'}:=by
 have q:=PySem.IsL.update e f
 rw [hf] at q
 refine I.write (x:=l) (e:=l) (by rw [hH];exact trivial) (.inl rfl) (fun b' u hb hu=>(Heap.get?_update_other s.heap (Obj.mapSeq f) (Ne.symm hb)).trans hu) ⟨_,q⟩ ?_
 exact ⟨hz,its',_,hv,q⟩
theorem Inv.lnew {its:List Value}{t':Nat}(I:Inv X pins σ H s)(hv:bz ys its)(hz:ys.length<=sizeLine) :
  Inv X pins σ (upd H s.heap.objs.size (.lst ys)) {s with heap:=s.heap.push {cls:=.type "list",data:=.seq its.toArray},toks:=t'}:=
 I.laid (fun _ _ q=>Heap.get?_push_of_some _ q) (Nat.le_refl _) ⟨hz,its,0,hv,Heap.get?_push_size _ rfl⟩
theorem Inv.fresh (I:Inv X pins σ H s):H s.heap.objs.size=none:=I.hok.fresh (Nat.le_refl _)
theorem Inv.lstM (I:Inv X pins σ H s)(hH:H l=some (.lst xs)):xs.length<=sizeLine/\∃(its:List Value) (n:Nat),bz xs its/\xs.length=its.length/\s.heap.get? l=some {cls:=.type "list",data:=.seq its.toArray n}:=by
 obtain ⟨z,its,n,r,e⟩:=I.hok l _ hH
 exact ⟨z,its,n,r,r.length,e⟩
theorem DM {n:Nat}(h:n<=sizeLine):Builtin.List.listTooLong n=false:=by
 unfold Builtin.List.listTooLong
 exact decide_eq_false (by omega)
end
section
variable {X:Cx}
noncomputable def By:V->List V->Hp->VK->Prop:=fun x vs H Q=>∃l xs y,x=.ref l/\vs=[y]/\H l=some (.lst xs)/\xs.length < sizeLine/\Q .non (upd H l (.lst (xs++[y])))
theorem Cn:MtM X "list.append" By:=by
 intro pins s σ H x vs v us Q I rx rv h
 obtain ⟨l,xs,y,rfl,rfl,hH,hz,q⟩:=h
 cases rx
 obtain ⟨u,rfl,ru⟩:=rv.one
 obtain ⟨z,its,n,r,hl,e⟩:=I.lstM hH
 refine call_meets F.slot_list_append ⟨_,e,rfl⟩ F.entry_list_append (F.args_list_append_2 _ _) (PySem.list_append l its.toArray n u (by rw [List.size_toArray];omega)) ⟨e,?_⟩
 refine ⟨.non,_,I.lset (its':=its++[u]) hH e (by simp) (r.append (.cons ru .nil)) ?_,rfl,q⟩
 rw [List.length_append,List.length_singleton]
 omega
noncomputable def Bz:V->List V->Hp->VK->Prop:=fun x vs H Q=>∃l b xs zs,x=.ref l/\vs=[.ref b]/\H l=some (.lst xs)/\H b=some (.lst zs)/\xs.length+zs.length<=sizeLine/\Q .non (upd H l (.lst (xs++zs)))
theorem Co:MtM X "list.extend" Bz:=by
 intro pins s σ H x vs v us Q I rx rv h
 obtain ⟨l,b,xs,zs,rfl,rfl,hH,hB,hz,q⟩:=h
 cases rx
 obtain ⟨u,rfl,ru⟩:=rv.one
 cases ru
 obtain ⟨z,its,n,r,hl,e⟩:=I.lstM hH
 obtain ⟨z2,its2,n2,r2,hl2,e2⟩:=I.lstM hB
 have hsz:its.toArray.size+its2.toArray.size<=sizeLine:=by rw [List.size_toArray,List.size_toArray];omega
 have hlong:¬(!its.toArray.isEmpty && Builtin.List.listTooLong (its.toArray.size+its2.toArray.size))=true:=by
  rw [DM hsz,Bool.and_false]
  exact Bool.false_ne_true
 refine call_meets F.slot_list_extend ⟨_,e,rfl⟩ F.entry_list_extend (F.args_list_extend_2 _ _)
  (AutoSeq1.list_extend_list_list_0 l its.toArray n b its2.toArray n2 hlong (by rw [List.size_toArray];omega) (by omega)) ⟨e,e2,?_⟩
 refine ⟨.non,_,I.lset (its':=its++its2) hH e (by simp) (r.append r2) ?_,rfl,q⟩
 rw [List.length_append]
 omega
noncomputable def IL:V->List V->Hp->VK->Prop:=fun x vs H Q=>∃l xs y,x=.ref l/\vs=[]/\H l=some (.lst xs)/\xs[xs.length - 1]?=some y/\Q y (upd H l (.lst xs.dropLast))
theorem IM:MtM X "list.pop" IL:=by
 intro pins s σ H x vs v us Q I rx rv h
 obtain ⟨l,xs,y,rfl,rfl,hH,hy,q⟩:=h
 cases rx
 have hus:=rv.zero
 subst hus
 obtain ⟨z,its,n,r,hl,e⟩:=I.lstM hH
 obtain ⟨u,hu,ru⟩:=r.get hy
 have hy':its.toArray[its.toArray.size - 1]?=some u:=by
  show its.toArray[its.length - 1]?=some u
  rw [←Array.getElem?_toList,←hl]
  exact hu
 refine call_meets F.slot_list_pop ⟨_,e,rfl⟩ F.entry_list_pop (F.args_list_pop_1 _) (MeetsSeq.list_pop_last l its.toArray n u hy' (by rw [List.size_toArray];omega)) ⟨e,?_⟩
 refine ⟨y,_,I.lset (its':=its.dropLast) hH e ?_ r.dropLast ?_,ru,q⟩
 ·show its.toArray.eraseIdxIfInBounds (its.toArray.size - 1)=its.dropLast.toArray
  rw [List.size_toArray,List.eraseIdxIfInBounds_toArray,Al]
 ·rw [List.length_dropLast]
  omega
noncomputable def Kh:R2:=fun x y H Q=>∃l b xs zs,x=.ref l/\y=.ref b/\H l=some (.lst xs)/\H b=some (.lst zs)/\xs.length+zs.length<=sizeLine/\∀p,H p=none->Q (.ref p) (upd H p (.lst (xs++zs)))
theorem IP:OpR X (binaryOp .Add) Kh:=by
 intro pins s σ H x y v u Q I rx ry h
 obtain ⟨l,b,xs,zs,rfl,rfl,hH,hB,hz,q⟩:=h
 cases rx
 cases ry
 obtain ⟨z,its,n,r,hl,e⟩:=I.lstM hH
 obtain ⟨z2,its2,n2,r2,hl2,e2⟩:=I.lstM hB
 refine PySem.P.add_list e e2 ?_ (by rw [List.size_toArray,List.size_toArray];omega)
 have ea:its.toArray++its2.toArray=(its++its2).toArray:=by simp
 rw [ea]
 exact ⟨.ref _,_,I.lnew (t':=s.toks) (r.append r2) (by rw [List.length_append];omega),rfl,q _ I.fresh⟩
end
section
variable {prog:Program}{w:World}{A:Around}{E:Value->Shared->Prop}{s:Shared}
set_option maxRecDepth 100000 in
end
end L2
namespace Att
open PySem PySem.W PySem.Calls PyProof.Rows
theorem tE {P:Params}{h:Heap}:∀(ns:List Int) (vs:List Value),WellAll P h vs (ns.map WData.int)->IntsAre vs ns:=by
 intro ns
 induction ns with
 | nil=>
  intro vs w
  rw [List.map_nil] at w
  cases w
  exact .nil
 | cons n ns ih=>
  intro vs w
  rw [List.map_cons] at w
  cases w with
  | cons a b=>
   cases a
   exact .cons _ _ (ih _ b)
theorem Cp {l:OpenLaw}{n:Nat}(hn:l.most=some n){P:Params}{h:Heap}{args:List WData}{vals:List Value}
  (hpre:l.row.toRowW.claim.pre args=true) (hwl:WellAll P h vals args) :
  ∃a vs ns,vals=[Value.ref a]/\args=[WData.list (ns.map WData.int)]/\h.get? a=some {cls:=.type "list",data:=.seq vs.toArray}/\IntsAre vs ns/\ns.length<=n:=by
 have hsh:WShape.hasAll [] args [.list .int]=true:=(pre_splitW hpre).1
 have hc:l.pre.holds [] {args:=args}=true:=(pre_splitW hpre).2
 obtain ⟨d,r,rfl,h1,h2⟩:=hasAllW_cons hsh
 obtain rfl:=hasAllW_nil h2
 obtain ⟨xs,rfl,h3⟩:=hasW_list h1
 obtain ⟨ns,rfl⟩:=items_int h3
 have hlen:ns.length<=n:=by
  unfold OpenLaw.pre at hc
  have h4:(WTm.not (.lt (.lit (.int (n:Int))) (.len (.arg 0)))).holds [] {args:=[.list (ns.map .int)]}=true:=by
   have h4:=(holds_andW hc).1
   rw [hn] at h4
   exact h4
  have h5:=condW_of h4 (w_not (w_lt w_lit (w_len_list (w_arg rfl))))
  rw [WB] at h5
  refine Nat.le_of_not_lt fun q=>?_
  have q':(n:Int) < ((ns.length:Nat):Int):=by omega
  first
   | (rw [decide_eq_true q'] at h5;exact absurd h5 (by decide))
   | (simp at h5;omega)
 cases hwl with
 | cons w1 w2=>
  cases w2
  cases w1 with
  | list ho hall=>exact ⟨_,_,ns,rfl,rfl,ho,tE ns _ hall,hlen⟩
theorem Cq (l:OpenLaw)(args:List WData):l.row.toRowW.claim.post args (.bool true) args=true:=
 postW_of (r:=l.row.toRowW) (X:=(true == true))
  (show WShape.has [] (.bool true) .bool=true by first | rfl | decide | simp [WShape.has,WShape.arms,WShape.armsAll])
  (show (WTm.eq .res (.lit (.bool true))).value [] {args:=args,res:=some (.bool true),after:=args}=some (.bool (true == true)) from w_eq_bool (w_res rfl) w_lit) rfl
theorem yI {l:OpenLaw}{n:Nat}{q:Program}{loose:List Str}{XP:(Str->Option Value)->Heap->Prop}{YP:World->Heap->Prop}{d:DefRec}
  (hn:l.most=some n) (hdf:d.params.defaults=[])
  (call:∀(w:World) (s₀ s₁:Shared) (mg mb:Str->Option Value) (fa:Addr) (o:Obj) (pm cd doc:Value) (a:Addr) (vs:List Value) (ns:List Int),
   Ground q loose [] XP w s₀ mg mb s₁.heap->YP w s₁.heap->
   s₁.heap.get? fa=some o->o.data=.func (docDef d.name d.params d.body d.scope pm cd doc)->s₁.heap.CodeRec cd d.name->mg d.name=some (.ref fa)->
   s₁.heap.get? a=some {cls:=.type "list",data:=.seq vs.toArray}->IntsAre vs ns->ns.length<=n->s₁.gens=#[]->
   codeAny (model l.prog w) callerA (.call (.ref fa) ⟨[.ref a],[]⟩) (fun r s'=>r=.ok (.ret (.bool true))/\OldK s₁.heap s'.heap/\s'.os=s₁.os/\AllBare s'.gens) s₁) :
  WalkO q loose XP YP l.row.toRowW d [] (fun f vs=>PySem.call f vs):=by
 intro w s₀ s₁ mg mb G Y fa o pm cd doc dV kV ho hd hcd hD hmg hg args vals as hpre hlay hrd hwl hlo
 obtain rfl:dV=.none:=Dflts.none hD hdf
 obtain rfl:kV=.none:=Dflts.noKw hD
 obtain ⟨a,vs,ns,rfl,rfl,hobj,hints,hlen⟩:=Cp hn hpre hwl
 refine enter_call (codeAny_mono (call w s₀ s₁ mg mb fa o pm cd doc a vs ns G Y ho (fd_plain hd) hcd hmg hobj hints hlen hg) fun r s' hq=>?_)
 obtain ⟨rfl,h2,h3,h4⟩:=hq
 exact ⟨.inl ⟨.bool true,.bool true,[],rfl,fun _=>rfl,.bool true,Cq l _,fun _=>⟨List.Pairwise.nil,fun _ hm=>(nomatch hm)⟩⟩,h2,h3,h4⟩
end Att
namespace L2
open PySem PySem.Spec PyProof.Rows
theorem wZ:∀{vs:List Value} {ns:List Int},IntsAre vs ns->bz (ns.map V.int) vs
 | _,_,.nil=>.nil
 | _,_,.cons n t h=>.cons ⟨t,rfl⟩ (wZ h)
def IQ (H:Hp):Prop:=∀b,H b=none\/∃o xs,H b=some (.frz o (.lst xs))
theorem DN {P:Program}{w:World}{K:WA}{mg mb:Str->Option Value}{CX:CXT}{k:Nat}{fa a:Addr}{fd:FuncData}{x:Str}{sp:Sp}{s₁:Shared}{vs:List Value}{ns:List Int}
  (KX:K.In s₁.heap) (hns:s₁.heap.Ns mainGlobals mg) (hb:s₁.heap.Ns builtinsNs mb) (hbb:∀x:Str,x≠"__name__"->mb x=bootBuiltins x) (hlim:s₁.heap.NoLimit) (hg:s₁.gens=#[])
  (ha:s₁.heap.get? a=some {cls:=.type "list",data:=.seq vs.toArray}) (hi:IntsAre vs ns) (hl:ns.length<=sizeLine) (hr:dz k callerA)
  (F:∀base:Heap,K.In base->base.Ns mainGlobals mg->fM P w K mg base CX k fa fd [x] sp) (hbind:∀(s:Shared) (u:Value),BindsTo s fd ⟨[u],[]⟩ [(x,u)])
  (hsp:∀H:Hp,IQ H->SqL K H a (ns.map V.int)->sp [.ref a] H (fun v _=>v=.bl true) fun _ _ _=>False)
  (hCX:∀H e s',CX [] H s₁ (fun _ _ _=>False) e s'->False) :
  codeAny (model P w) callerA (.call (.ref fa) ⟨[.ref a],[]⟩) (fun r s'=>r=.ok (.ret (.bool true))/\OldK s₁.heap s'.heap/\s'.os=s₁.os/\AllBare s'.gens) s₁:=by
 have rv:=wZ hi
 have lenV:=hi.length
 have core:∀H:Hp,IQ H->SqL K H a (ns.map V.int)->HOk P w H s₁.heap->(∀b,H b≠none->b=a)->(H a≠none->K.lookup a=none)->
   codeAny (model P w) callerA (.call (.ref fa) ⟨[.ref a],[]⟩) (fun r s'=>r=.ok (.ret (.bool true))/\OldK s₁.heap s'.heap/\s'.os=s₁.os/\AllBare s'.gens) s₁:=by
  intro H hO hS hok hA hK
  have base_of:∀{b:Addr} {o:Obj},s₁.heap.get? b=some o->H b=none->(xI s₁.heap H).get? b=some o:=fun e n=>Dk e n
  have noA:∀{b:Addr} {o:Obj} {es:Array DictEntry} {ep:Nat},s₁.heap.get? b=some o->o.data=.dict es ep->H b=none:=fun {b o es ep} e d=>by
   cases q:H b with
   | none=>rfl
   | some u=>
    have e':b=a:=hA b (by rw [q];simp)
    subst e'
    rw [ha] at e;cases e
    have d':Data.seq vs.toArray _=Data.dict es ep:=d
    cases d'
  have nsK:∀{b:Addr} {m:Str->Option Value},s₁.heap.Ns b m->(xI s₁.heap H).Ns b m:=fun {b m} ⟨o,es,ep,e,d,r⟩=>⟨o,es,ep,base_of e (noA e d),d,r⟩
  have hKb:K.In (xI s₁.heap H):=fun b o e=>base_of (KX b o e) (by
   cases q:H b with
   | none=>rfl
   | some u=>
    have e':b=a:=hA b (by rw [q];simp)
    subst e'
    rw [hK (by rw [q];simp)] at e;cases e)
  have hM:Mod K mg (xI s₁.heap H):=⟨hKb,nsK hns,⟨mb,nsK hb,hbb⟩,let ⟨mc,h1,h2⟩:=hlim;⟨mc,nsK h1,h2⟩⟩
  have e0:Af P w K mg (xI s₁.heap H) callerA [] s₁ H:=⟨rfl,hM,fun b o e=>Fm e,Nat.le_of_eq (B8 _ _),trivial,fun b hb=>absurd (show b∈([]:List Addr) from hb) (by simp),hok,.of_eq hg⟩
  refine codeAny_mono ((F _ hKb (nsK hns)).run callerA [] s₁ H ⟨[.ref a],[]⟩ [.ref a] [.ref a] _ _ hr e0 (hbind s₁ (.ref a)) (.cons rfl .nil) (hsp H hO hS)) fun r s' h=>?_
  cases r with
  | error e=>exact (hCX H e s' h).elim
  | ok fl=>
   cases fl with
   | next=>exact False.elim h
   | brk=>exact False.elim h
   | cont=>exact False.elim h
   | ret u=>
    obtain ⟨v,H',os,bare,un,hok',r',q⟩:=h
    have q':v=.bl true:=q
    subst q'
    obtain rfl:u=Value.bool true:=r'
    refine ⟨rfl,OldK.of_keep fun b o e=>?_,os,bare⟩
    cases q:H b with
    | none=>exact un.keep b o e q (by intro z;exact absurd (show b∈([]:List Addr) from z) (by simp)) (by simp)
    | some u=>
     rcases hO b with z | ⟨ob,xs,z⟩
     ·rw [q] at z;cases z
     ·have z2:=un.frzs b ob _ z
      obtain ⟨e1,_⟩:=hok b _ z
      obtain ⟨e2,_⟩:=hok' b _ z2
      rw [e] at e1;cases e1
      exact e2
 cases hk:K.lookup a with
 | some o=>
  have e:=KX a o hk
  rw [ha] at e
  cases e
  refine core (fun _=>none) (fun _=>.inl rfl) (.inr ⟨_,vs.toArray,_,hk,rfl,rfl,rfl,by rw [List.size_toArray,lenV];exact hl,by simpa using rv⟩) (fun b u z=>by have z':(none:Option HO)=some u:=z;cases z') (fun b z=>absurd rfl z) fun z=>absurd rfl z
 | none=>
  refine core (fun b=>if b=a then some (.frz {cls:=.type "list",data:=.seq vs.toArray} (.lst (ns.map V.int))) else none) (fun b=>?_) (.inl (.inr ⟨{cls:=.type "list",data:=.seq vs.toArray},if_pos rfl⟩)) (fun b u z=>?_) (fun b z=>?_) fun _=>hk
  ·by_cases hb:b=a
   ·exact .inr ⟨_,_,if_pos hb⟩
   ·exact .inl (if_neg hb)
  ·by_cases hb:b=a
   ·have z':=(if_pos hb).symm.trans z
    cases z'
    subst hb
    exact ⟨ha,by rw [WB];exact hl,vs,_,rv,ha⟩
   ·have z':=(if_neg hb).symm.trans z
    cases z'
  ·by_cases hb:b=a
   ·exact hb
   ·exact absurd (if_neg hb) z
theorem FH {l:W.OpenLaw}{n k:Nat}{q:Program}{loose:List Str}{XP:(Str->Option Value)->Heap->Prop}{YP:World->Heap->Prop}{d:DefRec}{K:Params->WA}{CX:World->CXT}{sp:World->Sp}{x:Str}
  (hn:l.most=some n) (hn2:n<=sizeLine) (hdf:d.params.defaults=[]) (hr:dz k callerA)
  (hY:∀(w:World) (h:Heap),YP w h->(K w.params).In h)
  (F:∀(w:World) (mg:Str->Option Value) (fa:Addr) (h:Heap),(K w.params).In h->h.Ns mainGlobals mg->mg d.name=some (.ref fa)->
   ∃fd:FuncData,(∀(s:Shared) (u:Value),BindsTo s fd ⟨[u],[]⟩ [(x,u)])/\
    ∀base:Heap,(K w.params).In base->base.Ns mainGlobals mg->fM l.prog w (K w.params) mg base (CX w) k fa fd [x] (sp w))
  (hsp:∀(w:World) (H:Hp) (a:Addr) (ns:List Int),ns.length<=n->IQ H->SqL (K w.params) H a (ns.map V.int)->sp w [.ref a] H (fun v _=>v=.bl true) fun _ _ _=>False)
  (hCX:∀(w:World) (H:Hp) (s:Shared) (e:Value) (s':Shared),CX w [] H s (fun _ _ _=>False) e s'->False) :
  W.WalkO q loose XP YP l.row.toRowW d [] (fun f vs=>PySem.call f vs):=by
 refine Att.yI hn hdf fun w s₀ s₁ mg mb fa o pm cd doc a vs ns G Y ho hd hcd hmg hobj hints hlen hg=>?_
 have KX:=hY w _ Y
 obtain ⟨fd,hb,hF⟩:=F w mg fa _ KX G.T.g hmg
 exact DN KX G.T.g G.T.b G.T.builtins G.T.nolimit hg hobj hints (Nat.le_trans hlen hn2) hr hF hb (fun H hO hS=>hsp w H a ns hlen hO hS) fun H e s'=>hCX w H s₁ e s'
noncomputable def aN (s:Stmt)(j:Nat):Stmt:=match s with
 | .ClassDef _ _ _ body _ _ _ _ _ _ _=>body.getD j (.Pass ⟨0,0,0,0⟩)
 | _=>.Pass ⟨0,0,0,0⟩
noncomputable def dA (s:Stmt):Arguments:=match s with
 | .FunctionDef _ a _ _ _ _ _ _ _ _=>a
 | _=>{posonlyargs:=[],args:=[],vararg:=none,kwonlyargs:=[],kw_defaults:=[],kwarg:=none,defaults:=[]}
noncomputable def bE (s:Stmt):List Stmt:=match s with
 | .FunctionDef _ _ b _ _ _ _ _ _ _=>b
 | _=>[]
noncomputable def aj (s:Stmt):Scope:=match s with
 | .FunctionDef _ _ _ _ _ _ sc _ _ _=>sc
 | _=>{kind:=.function,names:=[],isGenerator:=false,isCoroutine:=false}
noncomputable abbrev CX0:CXT:=fun _ _ _ _ _ _=>False
noncomputable abbrev E0:XK:=fun _ _ _=>False
theorem aU {X:Cx}:fi CX0 X E0:=fun _ _ _ _ _ _ _ h=>h.elim
structure Fun (K:WA)(x qual:Str)(st:Stmt)(f:Addr)(fd:FuncData):Prop where
 ex:∃(oc:Value) (od:Option Addr) (kV doc pm:Value) (an:Option Addr) (cdv ct:Value) (osl:Array (Option Value)),
  fd=W.fnOf x qual (dA st) (bE st) (aj st) .none kV doc pm an cdv ct/\K.lookup f=some ⟨oc,od,.func fd,osl⟩/\W.codeIn K cdv qual=true
 kp:W.keepIn K (.ref f)=true
section
variable {P:Program}{w:World}{K:WA}{mg:Str->Option Value}{base:Heap}
theorem Fun.ok {x qual:Str}{st:Stmt}{f:Addr}{fd:FuncData}{N ps:List Str}{k:Nat}{sp:Sp}(F:Fun K x qual st f fd)(S:ay N ps (aj st))(len:∀vs H Q E,sp vs H Q E->vs.length=ps.length)
  (hbody:∀(cdv:Value) (A:Around) (outer:List Env) (s:Shared) (H:Hp) (vs:List V) (Q:VK) (E:XK),dz k (A.deeper (envOfC qual (aj st) s.heap.objs.size f cdv))->sp vs H Q E->
   ∃t,PSs (oq CX0 P w K mg base N qual (aj st) f cdv A outer s H E).nox (bE st) t/\t {nx:=fun _ H'=>Q .non H',rt:=Q} (lJ N vs) H):fM P w K mg base CX0 (k+1) f fd ps sp:=by
 obtain ⟨oc,od,kV,doc,pm,an,cdv,ct,osl,rfl,lk,hcd⟩:=F.ex
 refine Hm lk hcd S len fun A outer s H vs Q E hr hsp=>?_
 obtain ⟨t,h,q⟩:=hbody cdv A outer s H vs Q E hr hsp
 exact ⟨t,h.nox,q⟩
theorem Fun.binds {x qual:Str}{st:Stmt}{f:Addr}{fd:FuncData}{ps:List Str}(F:Fun K x qual st f fd)
  (h:∀(kV doc pm:Value) (an:Option Addr) (cdv ct:Value) (us:List Value),us.length=ps.length->bindArgs (W.fnOf x qual (dA st) (bE st) (aj st) .none kV doc pm an cdv ct) ⟨us,[]⟩=pure (ps.zip us)):dQ K fd ps []:=by
 obtain ⟨oc,od,kV,doc,pm,an,cdv,ct,osl,rfl,lk,hcd⟩:=F.ex
 exact .all (h kV doc pm an cdv ct)
theorem Am {x qual:Str}{st:Stmt}{f:Addr}{oc:Value}{od an:Option Addr}{osl:Array (Option Value)}{kV doc pm cdv ct:Value}(l:K.lookup f=some ⟨oc,od,.func (W.fnOf x qual (dA st) (bE st) (aj st) .none kV doc pm an cdv ct),osl⟩)
  (c:W.codeIn K cdv qual=true) (k:W.keepIn K (.ref f)=true):Fun K x qual st f (W.fnOf x qual (dA st) (bE st) (aj st) .none kV doc pm an cdv ct):=⟨⟨oc,od,kV,doc,pm,an,cdv,ct,osl,rfl,l,c⟩,k⟩
end
theorem cw {n:Nat}(h:n<=1000):n < sizeLine:=Nat.lt_of_le_of_lt h (by decide)
section
variable {X:Cx}
theorem pv (i:Nat){x:Str}{pos:Pos}(hN:X.N[i]?=some x:=by rfl)(hv:Vis X.env.scope x:=by first | exact Or.inl rfl | exact Or.inr (Or.inl rfl) | exact Or.inr (Or.inr rfl))(hd:(x == ("__debug__":Str))=false:=by decide)
  (hcd:(x == ("__classdict__":Str))=false:=by decide):PE X (.Name x pos) (Ii i):=Ij hN hv hd hcd
end
theorem Ki {A B:Prop}(h:B):if false=true then A else B:=by
 rw [if_neg Bool.false_ne_true]
 exact h
theorem Kj {A B:Prop}(h:A):if true=true then A else B:=by
 rw [if_pos rfl]
 exact h
def av (H H':Hp):Prop:=∀b o,H b=some o->H' b=some o
theorem av.refl (H:Hp):av H H:=fun _ _ h=>h
theorem av.trans {H H1 H2:Hp}(a:av H H1)(b:av H1 H2):av H H2:=fun c o h=>b c o (a c o h)
theorem av.free {H H':Hp}(e:av H H'){l:Addr}(h:H' l=Option.none):H l=Option.none:=by
 cases q:H l with
 | none=>rfl
 | some o=>
  rw [e l o q] at h
  cases h
theorem av.seq {K:WA}{H H':Hp}{a:Addr}{xs:List V}(e:av H H')(h:SqL K H a xs):SqL K H' a xs:=by
 rcases h with (h | ⟨o,h⟩) | h
 ·exact .inl (.inl (e _ _ h))
 ·exact .inl (.inr ⟨o,e _ _ h⟩)
 ·exact .inr h
end L2
set_option maxHeartbeats 4000000
namespace L2
open PySem PySem.Spec PyProof.Rows
noncomputable def ig (cells:List (Str×Addr)):List (Str×NameKind)->List (Str×Addr)->List (Str×Addr)
 | [],acc=>acc
 | (n,k)::r,acc=>if (k == NameKind.free)=true then (match cells.lookup n with | some c=>ig cells r ((n,c)::acc) | none=>ig cells r acc) else ig cells r acc
theorem ij {scope:Scope}{env:Env}(h:∀y∈scope.names,y.2=.free->∃c,env.cells.lookup y.1=some c):closureFor scope env=pure (ig env.cells scope.names []):=by
 have key:∀(l:List (Str×NameKind)) (acc:List (Str×Addr)),(∀y∈l,y.2=.free->∃c,env.cells.lookup y.1=some c)->
   (forIn l acc fun x s=>if (x.snd == NameKind.free)=true then do
       let c ←cellOf env x.fst
       pure (ForInStep.yield ((x.fst,c)::s))
      else pure (ForInStep.yield s))=(pure (ig env.cells l acc):Sem _):=by
  intro l
  induction l with
  | nil=>intro acc _;rfl
  | cons y r ih=>
   intro acc hy
   obtain ⟨n,k⟩:=y
   have ih':=fun a=>ih a fun z hz=>hy z (List.mem_cons_of_mem _ hz)
   by_cases hk:(k == NameKind.free)=true
   ·obtain ⟨c,hc⟩:=hy (n,k) List.mem_cons_self (by simpa using hk)
    have hc':env.cells.lookup n=some c:=hc
    simp only [List.forIn_cons,hk,if_true,cellOf,hc',pure_bind,ig]
    exact ih' _
   ·simp only [List.forIn_cons,hk,if_false,pure_bind,ig]
    exact ih' _
 simp only [closureFor]
 rw [key _ _ h]
 rfl
theorem tU {cells:List (Str×Addr)}:∀{l:List (Str×NameKind)} {acc:List (Str×Addr)} {x:Str} {c:Addr},(∀x c,acc.lookup x=some c->cells.lookup x=some c)->(ig cells l acc).lookup x=some c->cells.lookup x=some c
 | [],acc,x,c,h,e=>h x c e
 | (n,k)::r,acc,x,c,h,e=>by
  unfold ig at e
  split at e
  ·split at e
   ·rename_i d hd
    refine tU (l:=r) (acc:=(n,d)::acc) (fun y b hy=>?_) e
    rw [List.lookup_cons] at hy
    split at hy
    ·rename_i z
     have zn:y=n:=by simpa using z
     cases hy
     rw [zn];exact hd
    ·exact h y b hy
   ·exact tU h e
  ·exact tU h e
theorem pA {cells:List (Str×Addr)}{x:Str}:∀{l:List (Str×NameKind)} {acc:List (Str×Addr)},(∃c,acc.lookup x=some c)->∃c,(ig cells l acc).lookup x=some c
 | [],acc,h=>h
 | (n,k)::r,acc,h=>by
  unfold ig
  split
  ·split
   ·rename_i d hd
    refine pA (l:=r) ?_
    rw [List.lookup_cons]
    split
    ·exact ⟨_,rfl⟩
    ·exact h
   ·exact pA h
  ·exact pA h
theorem lU {cells:List (Str×Addr)}{x:Str}:∀{l:List (Str×NameKind)} {acc:List (Str×Addr)},l.lookup x=some .free->(∃c,cells.lookup x=some c)->∃c,(ig cells l acc).lookup x=some c
 | [],acc,h,_=>by simp at h
 | (n,k)::r,acc,h,hc=>by
  rw [List.lookup_cons] at h
  unfold ig
  split at h
  ·rename_i z
   have zn:x=n:=by simpa using z
   cases h
   subst zn
   obtain ⟨c,hc⟩:=hc
   rw [if_pos (by decide),hc]
   refine pA ⟨c,?_⟩
   rw [List.lookup_cons]
   simp
  ·split
   ·split
    ·exact lU h hc
    ·exact lU h hc
   ·exact lU h hc
theorem gL {env:Env}:∀{names:List (Str×NameKind)} {x:Str},names.lookup x=some .free->
  (names.map fun (n,k)=>if (k == NameKind.free && env.scope.kind == .function && env.kindOf n == some .cell) then (n,NameKind.cell) else (n,k)).lookup x=some .cell\/
  (names.map fun (n,k)=>if (k == NameKind.free && env.scope.kind == .function && env.kindOf n == some .cell) then (n,NameKind.cell) else (n,k)).lookup x=some .free
 | [],_,h=>by simp at h
 | (n,k)::r,x,h=>by
  have ih:=@gL env r x
  show List.lookup x ((if (k == NameKind.free && env.scope.kind == .function && env.kindOf n == some .cell)=true then (n,NameKind.cell) else (n,k))::_)=_\/List.lookup x ((if (k == NameKind.free && env.scope.kind == .function && env.kindOf n == some .cell)=true then (n,NameKind.cell) else (n,k))::_)=_
  cases hx:x == n with
  | true=>
   simp only [List.lookup_cons,hx] at h
   cases h
   by_cases hc:(NameKind.free == NameKind.free && env.scope.kind == .function && env.kindOf n == some .cell)=true
   ·rw [if_pos hc];left;simp only [List.lookup_cons,hx]
   ·rw [if_neg hc];right;simp only [List.lookup_cons,hx]
  | false=>
   simp only [List.lookup_cons,hx] at h
   by_cases hc:(k == NameKind.free && env.scope.kind == .function && env.kindOf n == some .cell)=true
   ·rw [if_pos hc];simp only [List.lookup_cons,hx];exact ih h
   ·rw [if_neg hc];simp only [List.lookup_cons,hx];exact ih h
theorem gM {env:Env}:∀{names:List (Str×NameKind)} {x:Str},(∀y∈names,y.2≠NameKind.cell)->
  ((names.map fun (n,k)=>if (k == NameKind.free && env.scope.kind == .function && env.kindOf n == some .cell) then (n,NameKind.cell) else (n,k)).lookup x=some .cell\/
  (names.map fun (n,k)=>if (k == NameKind.free && env.scope.kind == .function && env.kindOf n == some .cell) then (n,NameKind.cell) else (n,k)).lookup x=some .free)->names.lookup x=some .free
 | [],_,_,h=>by simp at h
 | (n,k)::r,x,hn,h=>by
  have ih:=@gM env r x fun y hy=>hn y (List.mem_cons_of_mem _ hy)
  have h':List.lookup x ((if (k == NameKind.free && env.scope.kind == .function && env.kindOf n == some .cell)=true then (n,NameKind.cell) else (n,k))::(r.map fun (n,k)=>if (k == NameKind.free && env.scope.kind == .function && env.kindOf n == some .cell) then (n,NameKind.cell) else (n,k)))=some .cell\/List.lookup x ((if (k == NameKind.free && env.scope.kind == .function && env.kindOf n == some .cell)=true then (n,NameKind.cell) else (n,k))::(r.map fun (n,k)=>if (k == NameKind.free && env.scope.kind == .function && env.kindOf n == some .cell) then (n,NameKind.cell) else (n,k)))=some .free:=h
  cases hx:x == n with
  | true=>
   simp only [List.lookup_cons,hx]
   by_cases hc:(k == NameKind.free && env.scope.kind == .function && env.kindOf n == some .cell)=true
   ·have hk:k=NameKind.free:=by
     rw [Bool.and_eq_true,Bool.and_eq_true] at hc
     simpa using hc.1.1
    rw [hk]
   ·rw [if_neg hc] at h'
    simp only [List.lookup_cons,hx] at h'
    rcases h' with h' | h'
    ·exact absurd (Option.some.inj h') (hn (n,k) List.mem_cons_self)
    ·exact h'
  | false=>
   simp only [List.lookup_cons,hx]
   by_cases hc:(k == NameKind.free && env.scope.kind == .function && env.kindOf n == some .cell)=true
   ·rw [if_pos hc] at h';simp only [List.lookup_cons,hx] at h';exact ih h'
   ·rw [if_neg hc] at h';simp only [List.lookup_cons,hx] at h';exact ih h'
noncomputable def blk (X:Cx)(Nc:List Str)(scope:Scope)(C:Addr)(s₀:Shared)(H₀:Hp)(ex:List Addr):Cx:=
 {X with N:=Nc,s₀:=s₀,H₀:=H₀,env:=compEnvC scope (ig X.env.cells scope.names []) C X.env,outer:=X.stack,ex:=ex,fn:=fun _=>false,pn:=[],xe:=fun _ _=>False}
noncomputable def cv (cm:List (Option Nat))(σ:St):St:=cm.map fun o=>match o with
 | none=>none
 | some i=>(σ[i]?).getD none
def Wk (σ σ':St):Prop:=σ.length=σ'.length/\∀(i:Nat) (v:V),σ[i]?=some (some v)->σ'[i]?=some (some v)
noncomputable def um (wi:TI)(g:TG)(tc:TT)(te:TE)(cm:List (Option Nat)):TE:=fun σ H Q=>wi σ H fun J H1=>∃W:Nat->Nat->List V->Hp->Prop,(∃m,W 0 m [] H1)/\∀i m acc H,W i m acc H->
 (J.stop i H/\∀p,H p=none->Q (.ref p) (upd H p (.lst acc)))\/
 (J.go i H/\acc.length < sizeLine/\∀x H',J.yld i H x H'->g x (cv cm σ) H' fun σ2 H2=>Wk (cv cm σ) σ2/\tc σ2 H2 fun b H3=>if b=true then te σ2 H3 fun v H4=>∃m',m' < m/\W (i+1) m' (acc++[v]) H4 else ∃m',m' < m/\W (i+1) m' acc H3)
def PIf (X:Cx)(ifs:List Expr)(t:TT):Prop:=
 ∀(pins:List (Addr×Obj)) (s:Shared) (σ:St) (H:Hp) (Q:Bool->Hp->Prop),Inv X pins σ H s->t σ H Q->
  wpAny (model X.prog X.w) X.A (forIn ifs true fun c r=>if r=true then do let ok ←isTrue c X.env (eval c X.env);pure (ForInStep.yield ok) else pure (ForInStep.yield r)) (TP X pins σ Q) X.xe s
noncomputable def tF:TT:=fun _ H Q=>Q true H
theorem fj {X:Cx}:PIf X [] tF:=fun _ _ σ H _ I h=>wpAny_pure ⟨H,I,h⟩
theorem kD {X:Cx}{c:Expr}{t:TT}(h:PT X c t):PIf X [c] t:=fun pins s σ H Q I q=>wpAny_tests_one (h pins s σ H Q I q)
theorem Inv.track {X:Cx}{pins:List (Addr×Obj)}{σ:St}{H:Hp}{s:Shared}{D:Addr}{o:HO}(I:Inv X pins σ H s)(hn:H D=none)(h0:X.s₀.heap.objs.size<=D)(hL:D≠X.env.locals)
  (hcl:∀x c,X.env.cells.lookup x=some c->c≠D) (hp:∀p∈X.pn++pins,p.1≠D) (new:fh X.prog X.w (upd H D o) s.heap D o):Inv X pins σ (upd H D o) s:=by
 have hb:∀b u,X.s₀.heap.get? b=some u->b≠D:=fun b u e=>Nat.ne_of_lt (Nat.lt_of_lt_of_le (Heap.lt_size e) h0)
 refine ⟨I.ok,I.os,I.bare,⟨I.base.keep,I.base.slot,fun b u e n hx=>?_,I.base.there,fun b xs e=>?_,fun b u xs e=>?_,fun b ps e=>?_⟩,I.loc,I.cell,?_,fun x c e=>?_,fun p hpp=>?_,fun b u e=>?_,I.len⟩
 ·rw [aK (hb b u e)];exact I.base.free b u e n hx
 ·have q:=I.base.tups b xs e;rw [aK (ai q hn)];exact q
 ·have q:=I.base.frzs b u xs e;rw [aK (ai q hn)];exact q
 ·obtain ⟨more,q⟩:=I.base.tbls b ps e;exact ⟨more,by rw [aK (ai q hn)];exact q⟩
 ·rw [aK (Ne.symm hL)];exact I.free
 ·rw [aK (hcl x c e)];exact I.freeC x c e
 ·obtain ⟨a,b,c⟩:=I.pin p hpp
  exact ⟨a,by rw [aK (hp p hpp)];exact b,c⟩
 ·by_cases hb:b=D
  ·subst hb;rw [ag] at e;cases e;exact new
  ·rw [aK hb] at e
   exact (I.hok b u e).stay (fun c v _ q=>q) (fun c q=>by rw [aK (ai q hn)];exact q) fun c xs q=>by rw [aK (ai q hn)];exact q
theorem gf {env:Env}{yc:Str}:∀{names:List (Str×NameKind)} {x:Str},(∀z∈names,z.2=NameKind.cell->z.1=yc)->
  ((names.map fun (n,k)=>if (k == NameKind.free && env.scope.kind == .function && env.kindOf n == some .cell) then (n,NameKind.cell) else (n,k)).lookup x=some .cell\/
  (names.map fun (n,k)=>if (k == NameKind.free && env.scope.kind == .function && env.kindOf n == some .cell) then (n,NameKind.cell) else (n,k)).lookup x=some .free)->x=yc\/names.lookup x=some .free
 | [],_,_,h=>by simp at h
 | (n,k)::r,x,hn,h=>by
  have ih:=@gf env yc r x fun y hy=>hn y (List.mem_cons_of_mem _ hy)
  have h':List.lookup x ((if (k == NameKind.free && env.scope.kind == .function && env.kindOf n == some .cell)=true then (n,NameKind.cell) else (n,k))::(r.map fun (n,k)=>if (k == NameKind.free && env.scope.kind == .function && env.kindOf n == some .cell) then (n,NameKind.cell) else (n,k)))=some .cell\/List.lookup x ((if (k == NameKind.free && env.scope.kind == .function && env.kindOf n == some .cell)=true then (n,NameKind.cell) else (n,k))::(r.map fun (n,k)=>if (k == NameKind.free && env.scope.kind == .function && env.kindOf n == some .cell) then (n,NameKind.cell) else (n,k)))=some .free:=h
  cases hx:x == n with
  | true=>
   simp only [List.lookup_cons,hx]
   by_cases hc:(k == NameKind.free && env.scope.kind == .function && env.kindOf n == some .cell)=true
   ·have hk:k=NameKind.free:=by
     rw [Bool.and_eq_true,Bool.and_eq_true] at hc
     simpa using hc.1.1
    rw [hk];exact .inr rfl
   ·rw [if_neg hc] at h'
    simp only [List.lookup_cons,hx] at h'
    rcases h' with h' | h'
    ·have e:=hn (n,k) List.mem_cons_self (Option.some.inj h')
     have:x=n:=by simpa using hx
     exact .inl (this.trans e)
    ·exact .inr h'
  | false=>
   simp only [List.lookup_cons,hx]
   by_cases hc:(k == NameKind.free && env.scope.kind == .function && env.kindOf n == some .cell)=true
   ·rw [if_pos hc] at h';simp only [List.lookup_cons,hx] at h';exact ih h'
   ·rw [if_neg hc] at h';simp only [List.lookup_cons,hx] at h';exact ih h'
noncomputable def gm (yo:Option Str)(C:Addr)(cl:List (Str×Addr)):List (Str×Addr):=match yo with | some yc=>(yc,C+1)::cl | none=>cl
noncomputable def fnG (yo:Option Str):Str->Bool:=match yo with | some yc=>fun x=>x == yc | none=>fun _=>false
noncomputable def DO (X:Cx)(Nc:List Str)(scope:Scope)(yo:Option Str)(C:Addr)(s₀:Shared)(H₀:Hp)(ex:List Addr):Cx:=
 {X with N:=Nc,s₀:=s₀,H₀:=H₀,env:=compEnvC scope (gm yo C (ig X.env.cells scope.names [])) C X.env,outer:=X.stack,ex:=ex,fn:=fnG yo,pn:=[],xe:=fun _ _=>False}
theorem qW {yo:Option Str}{C:Addr}{cl:List (Str×Addr)}{x:Str}(h:yo≠some x):(gm yo C cl).lookup x=cl.lookup x:=by
 cases yo with
 | none=>rfl
 | some yc=>show List.lookup x ((yc,C+1)::cl)=_;rw [List.lookup_cons,show (x == yc)=false by simpa using fun z=>h (by rw [z])]
theorem Cr {yo:Option Str}{C c:Addr}{cl:List (Str×Addr)}{x:Str}(e:(gm yo C cl).lookup x=some c):(yo=some x/\c=C+1)\/(yo≠some x/\cl.lookup x=some c):=by
 by_cases h:yo=some x
 ·rw [h] at e
  have e':List.lookup x ((x,C+1)::cl)=some c:=e
  rw [List.lookup_cons] at e'
  simp at e'
  exact .inl ⟨h,e'.symm⟩
 ·rw [qW h] at e
  exact .inr ⟨h,e⟩
theorem IS {yo:Option Str}{x:Str}(e:fnG yo x=true):yo=some x:=by
 cases yo with
 | none=>cases e
 | some yc=>rw [show x=yc from eq_of_beq e]
theorem lV {env:Env}{yo:Option Str}{names:List (Str×NameKind)}{x:Str}(hn:∀z∈names,z.2=NameKind.cell->yo=some z.1)
  (h:(names.map fun (n,k)=>if (k == NameKind.free && env.scope.kind == .function && env.kindOf n == some .cell) then (n,NameKind.cell) else (n,k)).lookup x=some .cell\/
  (names.map fun (n,k)=>if (k == NameKind.free && env.scope.kind == .function && env.kindOf n == some .cell) then (n,NameKind.cell) else (n,k)).lookup x=some .free):yo=some x\/names.lookup x=some .free:=by
 cases yo with
 | none=>exact .inr (gM (fun y hy e=>by cases hn y hy e) h)
 | some yc=>exact (gf (fun z hz e=>(Option.some.inj (hn z hz e)).symm) h).imp (fun e=>by rw [e]) id
section
variable {X:Cx}
theorem qX {tg iter elt:Expr}{ifs:List Expr}{scope:Scope}{pos:Pos}{Nc:List Str}{cm:List (Option Nat)}{g:TG}{tc:TT}{te:TE}{yo:Option Str}{pins:List (Addr×Obj)}{σ:St}{it:Addr}{fp:List Addr}{tn:Nat->Heap->Prop}{J:It}{H2:Hp}{s2:Shared}{W:Nat->Nat->List V->Hp->Prop}{m0:Nat}{h₁:Heap}{QV:VK}{use:Option (Value->Sem Unit)}{R:Value->Shared->Prop}
  (hc:X.calm=true) (hkind:scope.kind=.function) (hcell:∀z∈scope.names,z.2=.cell->yo=some z.1) (hyc:∀yc,yo=some yc->scope.names.lookup yc=some .cell)
  (hfr:∀y∈scope.names,y.2=.free->∃c,X.env.cells.lookup y.1=some c) (hlen:cm.length=Nc.length)
  (hcm:∀(j:Nat) (x:Str) (i:Nat),Nc[j]?=some x->cm[j]?=some (some i)->X.N[i]?=some x/\scope.names.lookup x=some .free/\(X.env.kindOf x=some .cell\/X.env.kindOf x=some .free))
  (hg:∀C s₀ H₀ ex,PG (DO X Nc scope yo C s₀ H₀ ex) tg g) (ht:∀C s₀ H₀ ex,PIf (DO X Nc scope yo C s₀ H₀ ex) ifs tc) (he:∀C s₀ H₀ ex,PE (DO X Nc scope yo C s₀ H₀ ex) elt te)
  (I2:Inv X pins σ H2 s2) (T:zV X.prog X.w X.K tg J fp it tn) (st2:tn 0 s2.heap) (f2:∀b∈fp,qS X pins H2 b) (w0:W 0 m0 [] H2)
  (turn:∀i m acc H,W i m acc H->(J.stop i H/\∀p,H p=none->QV (.ref p) (upd H p (.lst acc)))\/(J.go i H/\acc.length < sizeLine/\∀x H',J.yld i H x H'->g x (cv cm σ) H' fun σ2 H2=>Wk (cv cm σ) σ2/\tc σ2 H2 fun b H3=>if b=true then te σ2 H3 fun v H4=>∃m',m' < m/\W (i+1) m' (acc++[v]) H4 else ∃m',m' < m/\W (i+1) m' acc H3))
  (hns₁:h₁.Ns (s2.heap.push {cls:=.type "list",dict:=none,data:=.seq ([]:List Value).toArray}).objs.size fun _=>none) (keep1:∀b u,(s2.heap.push {cls:=.type "list",dict:=none,data:=.seq ([]:List Value).toArray}).get? b=some u->h₁.get? b=some u)
  (hcl₁:∀yc,yo=some yc->h₁.IsCell ((s2.heap.push {cls:=.type "list",dict:=none,data:=.seq ([]:List Value).toArray}).objs.size+1) none)
  (fin:∀(s6:Shared) (H5:Hp) (acc:List V) (m:Str->Option Value),s6.heap.Ns (s2.heap.push {cls:=.type "list",dict:=none,data:=.seq ([]:List Value).toArray}).objs.size m->qS X pins (upd H5 s2.heap.objs.size (.lst acc)) (s2.heap.push {cls:=.type "list",dict:=none,data:=.seq ([]:List Value).toArray}).objs.size->
   (∀h',Heap.SameBut (s2.heap.push {cls:=.type "list",dict:=none,data:=.seq ([]:List Value).toArray}).objs.size s6.heap h'->Inv X pins σ (upd H5 s2.heap.objs.size (.lst acc)) {s6 with heap:=h'})->QV (.ref s2.heap.objs.size) (upd H5 s2.heap.objs.size (.lst acc))->
   ∀fl,compPost (model X.prog X.w) X.A X.xe use R (.ref s2.heap.objs.size) (s2.heap.push {cls:=.type "list",dict:=none,data:=.seq ([]:List Value).toArray}).objs.size (.ok fl) s6) :
  codeAny (model X.prog X.w) X.A (.compStart (.ListComp elt [⟨tg,iter,ifs,0⟩] scope pos) 0 (.ref it) (.ref s2.heap.objs.size) (compEnvC scope (gm yo (s2.heap.push {cls:=.type "list",dict:=none,data:=.seq ([]:List Value).toArray}).objs.size (ig X.env.cells scope.names [])) (s2.heap.push {cls:=.type "list",dict:=none,data:=.seq ([]:List Value).toArray}).objs.size X.env))
   (compPost (model X.prog X.w) X.A X.xe use R (.ref s2.heap.objs.size) (s2.heap.push {cls:=.type "list",dict:=none,data:=.seq ([]:List Value).toArray}).objs.size) {s2 with heap:=h₁,toks:=s2.toks+([]:List (Str×Value)).length}:=by
 have hk3:∀b u,s2.heap.get? b=some u->(s2.heap.push {cls:=.type "list",dict:=none,data:=.seq ([]:List Value).toArray}).get? b=some u:=fun b u q=>Heap.get?_push_of_some _ q
 have I3:Inv X pins σ H2 {s2 with heap:=s2.heap.push {cls:=.type "list",dict:=none,data:=.seq ([]:List Value).toArray},toks:=s2.toks}:=I2.kept hk3
 have hD3:(s2.heap.push {cls:=.type "list",dict:=none,data:=.seq ([]:List Value).toArray}).get? s2.heap.objs.size=some {cls:=.type "list",data:=.seq ([]:List Value).toArray}:=Heap.get?_push_size _ rfl
 have hCs:(s2.heap.push {cls:=.type "list",dict:=none,data:=.seq ([]:List Value).toArray}).objs.size=s2.heap.objs.size+1:=Heap.size_push _ _
 have hDn:H2 s2.heap.objs.size=none:=I2.hok.fresh (Nat.le_refl _)
 have st3:tn 0 (s2.heap.push {cls:=.type "list",dict:=none,data:=.seq ([]:List Value).toArray}):=T.keep _ _ _ st2 fun b _ o q=>hk3 b o q
 have fpD:∀b∈fp,b < s2.heap.objs.size:=fun b hb=>by
  obtain ⟨o,e,_⟩:=T.obj _ _ st2 b hb
  exact Heap.lt_size e
 have DX:qS X pins H2 s2.heap.objs.size:=I2.fpOk (Nat.le_refl _) hDn
 generalize hs3:s2.heap.push {cls:=.type "list",dict:=none,data:=.seq ([]:List Value).toArray}=h3 at *
 generalize hDg:s2.heap.objs.size=D at *
 have exX:∀b∈D::fp,qS X pins H2 b:=fun b hb=>by
  rcases List.mem_cons.mp hb with z | z
  ·rw [z];exact DX
  ·exact f2 b z
 have exC:∀b∈D::fp,b < h3.objs.size:=fun b hb=>by
  rcases List.mem_cons.mp hb with z | z
  ·rw [z,hCs];exact Nat.lt_succ_self _
  ·rw [hCs];exact Nat.lt_succ_of_lt (fpD b z)
 have exS:∀b∈D::fp,b∉frs X.stack:=fun b hb z=>by
  obtain ⟨_,n1,n2,_⟩:=exX b hb
  rcases List.mem_cons.mp (I2.stkSub b z) with y | y
  ·exact n1 y
  ·exact n2 y
 have clo:∀x c,(ig X.env.cells scope.names []).lookup x=some c->X.env.cells.lookup x=some c:=fun x c e=>tU (acc:=[]) (fun _ _ z=>by simp at z) e
 have ltX:∀x c,X.env.cells.lookup x=some c->c < h3.objs.size:=fun x c e=>by
  obtain ⟨v,z⟩:=I3.cell x c e
  exact z.lt
 have cloC:∀x c,(gm yo h3.objs.size (ig X.env.cells scope.names [])).lookup x=some c->(yo=some x/\c=h3.objs.size+1)\/(yo≠some x/\X.env.cells.lookup x=some c):=fun x c e=>(Cr e).imp id fun h=>⟨h.1,clo x c h.2⟩
 have cellne:∀b,b < h3.objs.size->(∀x c,X.env.cells.lookup x=some c->c≠b)->∀x c,(gm yo h3.objs.size (ig X.env.cells scope.names [])).lookup x=some c->c≠b:=fun b hb hn x c e=>by
  rcases cloC x c e with ⟨_,z⟩ | ⟨_,z⟩
  ·rw [z];exact Nat.ne_of_gt (Nat.lt_succ_of_lt hb)
  ·exact hn x c z
 let s3:Shared:={s2 with heap:=h3}
 let X':Cx:=DO X Nc scope yo h3.objs.size s3 H2 (D::fp)
 have hX':X'=DO X Nc scope yo h3.objs.size s3 H2 (D::fp):=rfl
 have okX:X'.Ok:=by
  refine ⟨I3.ok.mod,hkind,I3.ok.glob,I3.ok.blt,Nat.le_refl _,fun x y c e1 e2=>(by
   rcases cloC x c e1 with ⟨a1,a2⟩ | ⟨_,a2⟩
   ·rcases cloC y c e2 with ⟨b1,b2⟩ | ⟨_,b2⟩
    ·exact Option.some.inj (a1.symm.trans b1)
    ·exact absurd (ltX y c b2) (by rw [a2];exact Nat.not_lt.mpr (Nat.le_succ _))
   ·rcases cloC y c e2 with ⟨b1,b2⟩ | ⟨_,b2⟩
    ·exact absurd (ltX x c a2) (by rw [b2];exact Nat.not_lt.mpr (Nat.le_succ _))
    ·exact I3.ok.inj x y c a2 b2),fun x hx=>?_,fun x c e z=>(cloC x c z).elim (fun h=>by rw [h.2];exact Nat.le_succ _) (fun h=>absurd (IS e) h.1),I3.ok.hd,I3.ok.frames,.inl rfl,fun b hb=>⟨Nat.ne_of_lt (exC b hb),cellne b (exC b hb) (exX b hb).2.2.2.2.1⟩,
   I3.bs,?_,fun b o e hb=>?_,exS,I3.stack,I3.stkFree⟩
  ·rcases lV (env:=X.env) hcell hx with hx' | hx'
   ·exact ⟨h3.objs.size+1,by show List.lookup x (gm yo h3.objs.size _)=_;rw [hx'];show List.lookup x ((x,h3.objs.size+1)::_)=_;rw [List.lookup_cons];simp⟩
   have hmem:(x,NameKind.free)∈scope.names:=by
    have:∀(l:List (Str×NameKind)),l.lookup x=some .free->(x,NameKind.free)∈l:=by
     intro l
     induction l with
     | nil=>intro z;simp at z
     | cons a r ih=>
      obtain ⟨n,k⟩:=a
      intro z
      rw [List.lookup_cons] at z
      split at z
      ·rename_i y
       have yn:x=n:=by simpa using y
       cases z
       rw [yn];exact List.mem_cons_self
      ·exact List.mem_cons_of_mem _ (ih z)
    exact this _ hx'
   have nx:yo≠some x:=fun z=>by rw [hyc x z] at hx';cases hx'
   obtain ⟨c,hc⟩:=lU (acc:=[]) hx' (hfr (x,.free) hmem rfl)
   exact ⟨c,by show List.lookup x (gm yo _ _)=_;rw [qW nx];exact hc⟩
  ·exact Nat.le_trans I3.ok.bsz I3.sz
  ·rcases (exX b hb).2.2.2.1 with z | z
   ·exact I3.ok.noex b o e z
   ·exact absurd (Nat.lt_of_lt_of_le (Heap.lt_size (I3.ok.bs b o e).1) z) (Nat.lt_irrefl _)
 have hσl:(cv cm σ).length=Nc.length:=by
  unfold cv
  rw [WB];exact hlen
 have I4:Inv X' [] (cv cm σ) H2 {s2 with heap:=h₁,toks:=s2.toks+([]:List (Str×Value)).length}:=by
  refine ⟨okX,rfl,I3.bare,Un.kept keep1,⟨_,hns₁,fun j x v e1 e2 e3=>?_⟩,fun x c e=>?_,?_,fun x c e=>(cloC x c e).elim (fun h=>by rw [h.2];exact I3.hok.fresh (Nat.le_succ _)) (fun h=>I3.freeC x c h.2),(fun p hp=>absurd (show p∈([]:List (Addr×Obj)) from hp) (by simp)),I3.hok.kept keep1,hσl⟩
  ·have e2':∃i,cm[j]?=some (some i)/\σ[i]?=some (some v):=by
    unfold cv at e2
    rw [List.getElem?_map] at e2
    cases q:cm[j]? with
    | none=>rw [q] at e2;simp at e2
    | some o=>
     rw [q] at e2
     cases o with
     | none=>simp at e2
     | some i=>
      refine ⟨i,rfl,?_⟩
      simp only [Option.map_some,Option.some.injEq] at e2
      cases q2:σ[i]? with
      | none=>rw [q2] at e2;simp at e2
      | some o2=>rw [q2] at e2;simp at e2;rw [e2]
   obtain ⟨i,ej,ei⟩:=e2'
   obtain ⟨n1,n2,n3⟩:=hcm j x i e1 ej
   obtain ⟨m,hn,hl⟩:=I3.loc
   have n3':Vis X.env.scope x:=by
    rcases n3 with z | z
    ·exact .inr (.inl z)
    ·exact .inr (.inr z)
   obtain ⟨u,r,l⟩:=hl i x v n1 ei n3'
   refine ⟨u,r,?_⟩
   rcases l with ⟨l,_⟩ | ⟨_,c,ec,ic⟩
   ·rcases n3 with z | z
    ·rw [l] at z;cases z
    ·rw [l] at z;cases z
   ·obtain ⟨c',ec'⟩:=lU (cells:=X.env.cells) (acc:=[]) n2 ⟨c,ec⟩
    have hcc:=clo x c' ec'
    rw [ec] at hcc;cases hcc
    obtain ⟨oc,hoc,hdc⟩:=ic
    have nx:yo≠some x:=fun z=>by rw [hyc x z] at n2;cases n2
    refine .inr ⟨?_,c,(by show List.lookup x (gm yo _ _)=_;rw [qW nx];exact ec'),oc,keep1 _ _ hoc,hdc⟩
    exact gL (env:=X.env) n2
  ·rcases cloC x c e with ⟨z0,z⟩ | ⟨_,z⟩
   ·rw [z];exact ⟨none,hcl₁ _ z0⟩
   ·obtain ⟨v,oc,hoc,hdc⟩:=I3.cell x c z
    exact ⟨v,oc,keep1 _ _ hoc,hdc⟩
  ·exact I3.hok.fresh (Nat.le_refl _)
 have stat:∀{H':Hp} {pl:List (Addr×Obj)},(∀b∈fp,H' b=none)->(∀p∈pl,p.1=D)->∀b∈fp,qS X' pl H' b:=fun {H' pl} hn hpl b hb=>
  ⟨hn b hb,Nat.ne_of_lt (exC b (List.mem_cons_of_mem _ hb)),exS b (List.mem_cons_of_mem _ hb),.inl (List.mem_cons_of_mem _ hb),cellne b (exC b (List.mem_cons_of_mem _ hb)) (f2 b hb).2.2.2.2.1,fun p hp z=>by
   have:p∈pl:=(List.mem_append.mp hp).elim (fun z=>absurd (show p∈([]:List (Addr×Obj)) from z) (by simp)) fun z=>z
   have e:=hpl p this
   rw [e] at z
   exact absurd (fpD b hb) (by rw [←z];exact Nat.lt_irrefl _)⟩
 have hDC:D≠h3.objs.size:=by rw [hCs];exact Nat.ne_of_lt (Nat.lt_succ_self _)
 have hDs:D∉frs X.stack:=exS D List.mem_cons_self
 have loop:∀s5:Shared,s5={s2 with heap:=h₁,toks:=s2.toks+([]:List (Str×Value)).length}->
   codeAny (model X.prog X.w) X.A (.compLoop (.ListComp elt [⟨tg,iter,ifs,0⟩] scope pos) 0 (.ref it) (.ref D) (compEnvC scope (gm yo h3.objs.size (ig X.env.cells scope.names [])) h3.objs.size X.env))
    (compPost (model X.prog X.w) X.A X.xe use R (.ref D) h3.objs.size) s5:=by
  rintro s5 rfl
  refine codeAny_loop rfl (fun n s'=>∃i acc its k H',Inv X' [] (cv cm σ) H' s'/\tn i s'.heap/\(∀b∈fp,H' b=none)/\s'.heap.get? D=some {cls:=.type "list",data:=.seq (List.toArray its) k}/\H' D=none/\bz acc its/\acc.length<=sizeLine/\W i n acc H') (fun n s' hI=>?_) m0
   ⟨0,[],[],0,H2,I4,T.keep _ _ _ st3 fun b _ o q=>keep1 b o q,fun b hb=>(f2 b hb).1,keep1 _ _ hD3,hDn,.nil,Nat.zero_le _,w0⟩
  obtain ⟨i,acc,its,k,H5,J5,t5,fr5,d5,dn5,va5,ac5,w5⟩:=hI
  show wpAny _ X.A ((compTurn (.ListComp elt [⟨tg,iter,ifs,0⟩] scope pos) 0 (.ref it) (.ref D) (compEnvC scope (gm yo h3.objs.size (ig X.env.cells scope.names [])) h3.objs.size X.env)).onRaise (fun x=>do noteFrame x (compEnvC scope (gm yo h3.objs.size (ig X.env.cells scope.names [])) h3.objs.size X.env);theTreesLotGoes x)) _ _ s'
  refine wpAny_noted ?_
  rw [compTurn_list]
  have nocell:∀v,({cls:=.type "list",data:=.seq (List.toArray its) k}:Obj).data≠.cell v:=fun v z=>nomatch z
  have P5:Inv X' [(D,{cls:=.type "list",data:=.seq (List.toArray its) k})] (cv cm σ) H5 s':=J5.pins_of fun p hp=>by
   have e:p=(D,{cls:=.type "list",data:=.seq (List.toArray its) k}):=by simpa using hp
   subst e
   exact ⟨d5,dn5,hDC,hDs,nocell⟩
  have pl1:∀p∈[((D,{cls:=.type "list",data:=.seq (List.toArray its) k}):Addr×Obj)],p.1=D:=fun p hp=>by
   have e:p=(D,{cls:=.type "list",data:=.seq (List.toArray its) k}):=by simpa using hp
   rw [e]
  rcases turn i n acc H5 w5 with ⟨stop,qn⟩ | ⟨go,hsz,step⟩
  ·refine wpAny_bind (wpAny_standAt (wpAny_bind (wpAny_mono (T.done X' rfl rfl rfl hc i _ s' _ H5 (fun _ _=>False) P5 (stat fr5 pl1) t5 stop) (fun r s6 ⟨hr,J6⟩=>?_) fun _ _ f=>f.elim)))
   subst hr
   refine wpAny_pure ?_
   obtain ⟨mC,hnC,_⟩:=J6.loc
   have hCn:H5 h3.objs.size=none:=J6.free
   obtain ⟨dg,dg2,_⟩:=J6.pin (D,{cls:=.type "list",data:=.seq (List.toArray its) k}) (by simp)
   refine fin s6 H5 acc mC hnC (I3.fpOk (b:=h3.objs.size) (H':=upd H5 D (.lst acc)) (Nat.le_refl _) (by rw [aK (Ne.symm hDC)];exact hCn)) (fun h' hsb=>?_) (qn D dg2) _
   have toh:∀b u,b≠h3.objs.size->s6.heap.get? b=some u->h'.get? b=some u:=fun b u hb q=>(hsb.2 b hb).trans q
   have hok':HOk X.prog X.w H5 h':=fun a o e=>(J6.hok a o e).stay (fun b u hb q=>toh b u (by
    rintro rfl
    rcases hb with z | z
    ·rw [←z,hCn] at e;cases e
    ·rw [hCn] at z;cases z) q) (fun _ q=>q) fun _ _ q=>q
   have ltC:∀{b:Addr} {u:Obj},h3.get? b=some u->b≠h3.objs.size:=fun q=>Nat.ne_of_lt (Heap.lt_size q)
   have un':Un (frs X.stack) (D::fp) H2 H5 h3 h':=by
    have u:=J6.base
    refine ⟨fun b o e n hb hx=>toh b o (ltC e) (u.keep b o e n hb hx),fun b o e n hb hx=>?_,u.free,fun b o e hx=>?_,u.tups,u.frzs,u.tbls⟩
    ·obtain ⟨sl,q⟩:=u.slot b o e n hb hx
     exact ⟨sl,toh b _ (ltC e) q⟩
    ·obtain ⟨o',q⟩:=u.there b o e hx
     exact ⟨o',toh b _ (ltC e) q⟩
   have J7:Inv X pins σ H5 {s6 with heap:=h'}:=Inv.call' (s':={s6 with heap:=h'}) (ch:=D::fp) I3 J6.os un' hok' J6.bare fun b hb=>by
    obtain ⟨_,n1,n2,n3,n4,n5⟩:=exX b hb
    exact ⟨n3,n1,n4,n5⟩
   obtain ⟨_,n1,n2,n3,n4,n5⟩:=exX D List.mem_cons_self
   have n3':X.s₀.heap.objs.size<=D:=by
    have:=I2.sz
    rw [hDg] at this
    exact this
   exact J7.track (o:=.lst acc) dg2 n3' n1 n4 n5 ⟨ac5,its,k,va5,toh _ _ hDC dg⟩
  ·refine wpAny_bind (wpAny_standAt (wpAny_bind (wpAny_mono (T.item X' rfl rfl rfl hc i _ s' _ H5 (fun _ _=>False) P5 (stat fr5 pl1) t5 go) (fun r s6 ⟨u,hr,h6⟩=>?_) fun _ _ f=>f.elim)))
   subst hr
   refine wpAny_bind (wpAny_mono h6 (fun _ s7 ⟨x,H7,J7,r7,y7,t7,fr7⟩=>?_) fun _ _ f=>f.elim)
   have P7:=J7.pinned (stat fr7 pl1) (T.obj _ _ t7)
   refine wpAny_bind (wpAny_mono (hg _ _ _ _ _ s7 _ H7 x u _ P7 r7 (step x H7 y7)) (fun _ s8 ⟨σ8,H8,J8,wk8,q8⟩=>?_) fun _ _ f=>f.elim)
   refine wpAny_bind (wpAny_mono (ht _ _ _ _ _ s8 σ8 H8 _ J8 q8) (fun b s9 ⟨H9,J9,q9⟩=>?_) fun _ _ f=>f.elim)
   have back:∀{Ha:Hp} {sa:Shared},Inv X' ([(D,{cls:=.type "list",data:=.seq (List.toArray its) k})]++ue fp s7.heap) σ8 Ha sa->
     Inv X' [] (cv cm σ) Ha sa/\tn (i+1) sa.heap/\(∀b∈fp,Ha b=none)/\sa.heap.get? D=some {cls:=.type "list",data:=.seq (List.toArray its) k}/\Ha D=none:=fun {Ha sa} Ja=>by
    refine ⟨(Ja.weak wk8.1 wk8.2).pins_of fun p hp=>absurd hp (by simp),T.keep _ _ _ t7 fun b hb o e=>(Ja.pin (b,o) (List.mem_append_right _ (List.mem_append_right _ (kC hb e)))).1,fun b hb=>?_,?_⟩
    ·obtain ⟨o,e,d⟩:=T.obj _ _ t7 b hb
     exact (Ja.pin (b,o) (List.mem_append_right _ (List.mem_append_right _ (kC hb e)))).2.1
    ·obtain ⟨z1,z2,_⟩:=Ja.pin (D,{cls:=.type "list",data:=.seq (List.toArray its) k}) (by simp)
     exact ⟨z1,z2⟩
   cases b with
   | false=>
    simp only [Bool.false_eq_true,if_false] at q9 ⊢
    obtain ⟨m',hm,w'⟩:=q9
    obtain ⟨z0,z1,z2,z3,z4⟩:=back J9
    exact wpAny_pure ⟨rfl,m',hm,i+1,acc,its,k,H9,z0,z1,z2,z3,z4,va5,ac5,w'⟩
   | true=>
    simp only [if_true] at q9 ⊢
    refine wpAny_bind (wpAny_bind (wpAny_mono (he _ _ _ _ _ s9 σ8 H9 _ J9 q9) (fun y s10 ⟨v,H10,J10,rv,q10⟩=>wpAny_bind ?_) fun _ _ f=>f.elim))
    obtain ⟨m',hm,w'⟩:=q10
    obtain ⟨z0,z1,z2,z3,z4⟩:=back J10
    have hli:=va5.length
    refine call_meets F.slot_list_append ⟨_,z3,rfl⟩ F.entry_list_append (F.args_list_append_2 _ _) (PySem.list_append D its.toArray k y (by rw [List.size_toArray];omega)) ⟨z3,?_⟩
    obtain ⟨k',q⟩:∃k',(s10.heap.update D (Obj.mapSeq (·.push y))).get? D=some {cls:=.type "list",data:=.seq (List.toArray (its++[y])) k'}:=by
     have q:=PySem.IsL.update z3 (·.push y)
     have e:its.toArray.push y=(its++[y]).toArray:=by simp
     rw [e] at q
     exact ⟨_,q⟩
    refine wpAny_pure (wpAny_pure ⟨rfl,m',hm,i+1,acc++[v],its++[y],k',H10,z0.turned (it:=D) (fun b o hb hu=>(Heap.get?_update_other s10.heap (Obj.mapSeq (·.push y)) (Ne.symm hb)).trans hu) z4 hDC (.inl List.mem_cons_self) (cellne D (exC D List.mem_cons_self) (exX D List.mem_cons_self).2.2.2.2.1) (fun p hp=>absurd (show p∈([]:List (Addr×Obj)) from hp) (by simp)),
     T.keep _ _ _ z1 fun b hb o e=>(Heap.get?_update_other s10.heap (Obj.mapSeq (·.push y)) (Nat.ne_of_gt (fpD b hb))).trans e,z2,q,z4,va5.append (.cons rv .nil),by rw [List.length_append,List.length_singleton];omega,w'⟩)
 exact codeAny_compStart_list (loop _ rfl) (T.self X.A 0 _ _ _ (T.keep _ _ _ st3 fun b _ o q=>keep1 b o q) (loop _ rfl))
theorem FI {tg iter elt:Expr}{ifs:List Expr}{scope:Scope}{pos:Pos}{Nc:List Str}{cm:List (Option Nat)}{wi:TI}{g:TG}{tc:TT}{te:TE}
  (hc:X.calm=true) (hi:PI X tg iter wi) (hkind:scope.kind=.function) (hcell:∀y∈scope.names,y.2≠.cell) (hnames:∀y∈scope.names,y.2=.local->scope.names.lookup y.1=some .local)
  (hfree:∀y∈scope.names,y.2=.free->X.env.kindOf y.1=some .cell\/X.env.kindOf y.1=some .free) (hlen:cm.length=Nc.length)
  (hcm:∀(j:Nat) (x:Str) (i:Nat),Nc[j]?=some x->cm[j]?=some (some i)->X.N[i]?=some x/\scope.names.lookup x=some .free/\(X.env.kindOf x=some .cell\/X.env.kindOf x=some .free))
  (hg:∀C s₀ H₀ ex,PG (blk X Nc scope C s₀ H₀ ex) tg g) (ht:∀C s₀ H₀ ex,PIf (blk X Nc scope C s₀ H₀ ex) ifs tc) (he:∀C s₀ H₀ ex,PE (blk X Nc scope C s₀ H₀ ex) elt te)
  (hs:∀x,foldedSetIterable iter X.env x=pure x:=by intro _;rfl):PE X (.ListComp elt [⟨tg,iter,ifs,0⟩] scope pos) (um wi g tc te cm):=by
 intro pins s σ H Q I h
 rw [eval_ListComp]
 have hfr:∀y∈scope.names,y.2=.free->∃c,X.env.cells.lookup y.1=some c:=fun y hy e=>I.ok.has y.1 (hfree y hy e)
 refine wpAny_comprehension_free (use:=none) rfl hs (ij hfr) hkind hnames (thn (hi pins s σ H _ I h) fun v s1 h1=>thn h1 fun itv s2 h2=>?_)
 obtain ⟨it,fp,tn,J,H2,e,I2,T,st2,f2,W,⟨m0,w0⟩,turn⟩:=h2
 subst e
 refine wpAny_newObj_type (wpAny_newFunctionEnv hcell (by intro y hy;simp at hy) (fun h₁ hns₁ hsb₁=>?_) hkind)
 dsimp only at hns₁ hsb₁ ⊢
 have keepA:∀b u,(s2.heap.push {cls:=.type "list",dict:=none,data:=.seq ([]:List Value).toArray}).get? b=some u->h₁.get? b=some u:=fun b u q=>(hsb₁.2 b (Nat.ne_of_lt (Heap.lt_size q))).trans (Heap.get?_push_of_some _ q)
 exact qX (yo:=none) hc hkind (fun z hz e=>absurd e (hcell z hz)) (fun _ e=>by cases e) hfr hlen hcm hg ht he I2 T st2 f2 w0 turn hns₁ keepA (fun _ e=>by cases e) fun s6 H5 acc m hm _ J qn _=>⟨m,hm,fun h' hsb=>⟨.ref s2.heap.objs.size,_,J h' hsb,rfl,qn⟩⟩
end
theorem IT {lo:Int}{n:Nat}{g:TG}{tc:TT}{te:TE}{cm:List (Option Nat)}{σ:St}{H:Hp}{Q:VK}(Pv:Nat->List V->Hp->Prop)(h0:Pv 0 [] H)
  (hs:∀i acc H,i < n->Pv i acc H->acc.length < sizeLine/\g (.int (lo+i)) (cv cm σ) H fun σ2 H2=>Wk (cv cm σ) σ2/\tc σ2 H2 fun b H3=>if b=true then te σ2 H3 fun v H4=>Pv (i+1) (acc++[v]) H4 else Pv (i+1) acc H3)
  (mono:∀x σ H N N',(∀σ2 H2,N σ2 H2->N' σ2 H2)->g x σ H N->g x σ H N':=by exact fun _ _ _ _ _ h q=>h _ _ q)
  (monoc:∀σ H N N',(∀b H2,N b H2->N' b H2)->tc σ H N->tc σ H N') (monoe:∀σ H N N',(∀v H2,N v H2->N' v H2)->te σ H N->te σ H N')
  (hd:∀acc H,Pv n acc H->∀p,H p=none->Q (.ref p) (upd H p (.lst acc))) :
  ∃W:Nat->Nat->List V->Hp->Prop,(∃m,W 0 m [] H)/\∀i m acc H,W i m acc H->
   ((Itr lo n).stop i H/\∀p,H p=none->Q (.ref p) (upd H p (.lst acc)))\/
   ((Itr lo n).go i H/\acc.length < sizeLine/\∀x H',(Itr lo n).yld i H x H'->g x (cv cm σ) H' fun σ2 H2=>Wk (cv cm σ) σ2/\tc σ2 H2 fun b H3=>if b=true then te σ2 H3 fun v H4=>∃m',m' < m/\W (i+1) m' (acc++[v]) H4 else ∃m',m' < m/\W (i+1) m' acc H3):=by
 refine ⟨fun i m acc H=>m=n - i/\i<=n/\Pv i acc H,⟨n,by simp,Nat.zero_le _,h0⟩,?_⟩
 rintro i m acc H ⟨rfl,hi,p⟩
 by_cases hlt:i < n
 ·obtain ⟨hz,q⟩:=hs i acc H hlt p
  refine .inr ⟨hlt,hz,fun x H' y=>?_⟩
  obtain ⟨e,y⟩:=y
  subst e y
  refine mono _ _ _ _ _ (fun σ2 H2 ⟨wk,q⟩=>⟨wk,monoc _ _ _ _ (fun b H3 q=>?_) q⟩) q
  cases b with
  | true=>exact monoe _ _ _ _ (fun v H4 q=>⟨n - (i+1),by omega,rfl,hlt,q⟩) q
  | false=>exact ⟨n - (i+1),by omega,rfl,hlt,q⟩
 ·have e:i=n:=by omega
  subst e
  exact .inl ⟨Nat.le_refl _,hd acc H p⟩
theorem uo {lo:Int}{n:Nat}{te:TE}{cm:List (Option Nat)}{σ:St}{H:Hp}{Q:VK}(f:Nat->V)(hn:n<=sizeLine){j:Nat}(hj:(cv cm σ)[j]?=some none)
  (hs:∀i,i < n->∀N:VK,N (f i) H->te ((cv cm σ).set j (some (.int (lo+i)))) H N)
  (hd:∀p,H p=none->Q (.ref p) (upd H p (.lst ((List.range n).map f)))) :
  ∃W:Nat->Nat->List V->Hp->Prop,(∃m,W 0 m [] H)/\∀i m acc H,W i m acc H->
   ((Itr lo n).stop i H/\∀p,H p=none->Q (.ref p) (upd H p (.lst acc)))\/
   ((Itr lo n).go i H/\acc.length < sizeLine/\∀x H',(Itr lo n).yld i H x H'->dP j x (cv cm σ) H' fun σ2 H2=>Wk (cv cm σ) σ2/\tF σ2 H2 fun b H3=>if b=true then te σ2 H3 fun v H4=>∃m',m' < m/\W (i+1) m' (acc++[v]) H4 else ∃m',m' < m/\W (i+1) m' acc H3):=by
 refine ⟨fun i m acc H'=>m=n - i/\i<=n/\H'=H/\acc=(List.range i).map f,⟨n,by simp,Nat.zero_le _,rfl,rfl⟩,?_⟩
 rintro i m acc H' ⟨rfl,hi,rfl,rfl⟩
 by_cases hlt:i < n
 ·refine .inr ⟨hlt,by rw [WB,List.length_range];omega,fun x H' y=>?_⟩
  obtain ⟨e,y⟩:=y
  subst e y
  refine ⟨⟨by simp,fun k v e=>?_⟩,?_⟩
  ·by_cases hk:j=k
   ·subst hk;rw [hj] at e;cases e
   ·rw [List.getElem?_set_ne hk];exact e
  ·unfold tF;dsimp only
   split
   ·refine hs i hlt _ ⟨n - (i+1),by omega,rfl,hlt,rfl,?_⟩
    rw [List.range_succ,List.map_append];rfl
   ·rename_i z;exact absurd rfl z
 ·have e:i=n:=by omega
  subst e
  exact .inl ⟨Nat.le_refl _,hd⟩
theorem vQ {K:WA}{a:Addr}{xs:List V}{tc:TT}{te:TE}{cm:List (Option Nat)}{σ:St}{H:Hp}{Q:VK}(p:V->Bool)(f:V->V)(hl:SqL K H a xs)(hn:xs.length<=sizeLine){j:Nat}(hj:(cv cm σ)[j]?=some none)
  (hc:∀x,x∈xs->∀N:Bool->Hp->Prop,N (p x) H->tc ((cv cm σ).set j (some x)) H N)
  (hs:∀x,x∈xs->p x=true->∀N:VK,N (f x) H->te ((cv cm σ).set j (some x)) H N)
  (hd:∀b,H b=none->Q (.ref b) (upd H b (.lst ((xs.filter p).map f)))) :
  ∃W:Nat->Nat->List V->Hp->Prop,(∃m,W 0 m [] H)/\∀i m acc H,W i m acc H->
   ((Itl K a).stop i H/\∀p,H p=none->Q (.ref p) (upd H p (.lst acc)))\/
   ((Itl K a).go i H/\acc.length < sizeLine/\∀x H',(Itl K a).yld i H x H'->dP j x (cv cm σ) H' fun σ2 H2=>Wk (cv cm σ) σ2/\tc σ2 H2 fun b H3=>if b=true then te σ2 H3 fun v H4=>∃m',m' < m/\W (i+1) m' (acc++[v]) H4 else ∃m',m' < m/\W (i+1) m' acc H3):=by
 refine ⟨fun i m acc H'=>m=xs.length - i/\i<=xs.length/\H'=H/\acc=((xs.take i).filter p).map f,⟨xs.length,by simp,Nat.zero_le _,rfl,by simp⟩,?_⟩
 rintro i m acc H' ⟨rfl,hi,rfl,rfl⟩
 by_cases hlt:i < xs.length
 ·have hx:xs[i]?=some xs[i]:=by simp [hlt]
  have hle:(((xs.take i).filter p).map f).length < sizeLine:=by
   rw [WB]
   have:=List.length_filter_le p (xs.take i)
   rw [List.length_take] at this
   omega
  refine .inr ⟨⟨xs,xs[i],hl,hx⟩,hle,fun x H' y=>?_⟩
  obtain ⟨e,y⟩:=y
  subst e
  have hy:=y xs hl
  rw [hx] at hy;cases hy
  have hmem:xs[i]∈xs:=List.getElem_mem hlt
  refine ⟨⟨by simp,fun k v e=>?_⟩,hc _ hmem _ ?_⟩
  ·by_cases hk:j=k
   ·subst hk;rw [hj] at e;cases e
   ·rw [List.getElem?_set_ne hk];exact e
  ·have hstep:((xs.take (i+1)).filter p).map f=((xs.take i).filter p).map f++(if p xs[i] then [f xs[i]] else []):=by
    rw [take_succ_filter p xs i _ hx,List.map_append]
    cases p xs[i]<;>rfl
   cases hp:p xs[i] with
   | true=>
    refine Kj (hs _ hmem hp _ ⟨xs.length - (i+1),by omega,rfl,hlt,rfl,?_⟩)
    rw [hstep,hp];rfl
   | false=>
    refine Ki ⟨xs.length - (i+1),by omega,rfl,hlt,rfl,?_⟩
    rw [hstep,hp];simp
 ·have e:i=xs.length:=by omega
  subst e
  refine .inl ⟨⟨xs,hl,Nat.le_refl _⟩,?_⟩
  rw [List.take_length]
  exact hd
theorem pB {lo:Int}{n:Nat}{tc:TT}{te:TE}{cm:List (Option Nat)}{σ:St}{H:Hp}{Q:VK}(p:Nat->Bool)(f:Nat->V)(hn:n<=sizeLine){j:Nat}(hj:(cv cm σ)[j]?=some none)
  (hc:∀i,i < n->∀N:Bool->Hp->Prop,N (p i) H->tc ((cv cm σ).set j (some (.int (lo+i)))) H N)
  (hs:∀i,i < n->p i=true->∀N:VK,N (f i) H->te ((cv cm σ).set j (some (.int (lo+i)))) H N)
  (hd:∀b,H b=none->Q (.ref b) (upd H b (.lst (((List.range n).filter p).map f)))) :
  ∃W:Nat->Nat->List V->Hp->Prop,(∃m,W 0 m [] H)/\∀i m acc H,W i m acc H->
   ((Itr lo n).stop i H/\∀p,H p=none->Q (.ref p) (upd H p (.lst acc)))\/
   ((Itr lo n).go i H/\acc.length < sizeLine/\∀x H',(Itr lo n).yld i H x H'->dP j x (cv cm σ) H' fun σ2 H2=>Wk (cv cm σ) σ2/\tc σ2 H2 fun b H3=>if b=true then te σ2 H3 fun v H4=>∃m',m' < m/\W (i+1) m' (acc++[v]) H4 else ∃m',m' < m/\W (i+1) m' acc H3):=by
 refine ⟨fun i m acc H'=>m=n - i/\i<=n/\H'=H/\acc=((List.range i).filter p).map f,⟨n,by simp,Nat.zero_le _,rfl,by simp⟩,?_⟩
 rintro i m acc H' ⟨rfl,hi,rfl,rfl⟩
 by_cases hlt:i < n
 ·have hle:(((List.range i).filter p).map f).length < sizeLine:=by
   rw [WB]
   have:=List.length_filter_le p (List.range i)
   rw [List.length_range] at this
   omega
  refine .inr ⟨hlt,hle,fun x H' y=>?_⟩
  obtain ⟨e,y⟩:=y
  subst e y
  refine ⟨⟨by simp,fun k v e=>?_⟩,hc _ hlt _ ?_⟩
  ·by_cases hk:j=k
   ·subst hk;rw [hj] at e;cases e
   ·rw [List.getElem?_set_ne hk];exact e
  ·have hstep:((List.range (i+1)).filter p).map f=((List.range i).filter p).map f++(if p i then [f i] else []):=by
    rw [List.range_succ,List.filter_append,List.map_append]
    cases hp:p i<;>simp [hp]
   cases hp:p i with
   | true=>
    refine Kj (hs _ hlt hp _ ⟨n - (i+1),by omega,rfl,hlt,rfl,?_⟩)
    rw [hstep,hp];rfl
   | false=>
    refine Ki ⟨n - (i+1),by omega,rfl,hlt,rfl,?_⟩
    rw [hstep,hp];simp
 ·have e:i=n:=by omega
  subst e
  exact .inl ⟨Nat.le_refl _,hd⟩
section
variable {X:Cx}
def Hr (i j:Int):Prop:=0 < j/\j < 2 ^ 200
theorem DP:OpR X (binaryOp .FloorDiv) (rI Hr fun i j=>.int (i / j)):=opI fun i j _ _ _ _ _ hc q=>by
 have hj:j.natAbs.log2 < 9000:=by
  have h1:j.natAbs < 2 ^ 200:=by have:=hc.2;have:=hc.1;omega
  have h0:j.natAbs≠0:=by have:=hc.1;omega
  exact Nat.lt_of_lt_of_le ((Nat.log2_lt h0).mpr h1) (by decide)
 have e:i.fdiv j=i / j:=Int.fdiv_eq_ediv_of_nonneg _ (Int.le_of_lt hc.1)
 exact floordiv_int (by have:=hc.1;omega) (by rw [e];exact q) (.inl (PyProof.noPylong_of_log2 hj))
end
theorem bb:bootBuiltins "len"=some (.builtin "len"):=by decide +kernel
theorem ck:bootBuiltins "isinstance"=some (.builtin "isinstance"):=by decide +kernel
theorem An:bootBuiltins "min"=some (.builtin "min"):=by decide +kernel
theorem DQ:bootBuiltins "abs"=some (.builtin "abs"):=by decide +kernel
theorem Cs:bootBuiltins "sorted"=some (.builtin "sorted"):=by decide +kernel
theorem lW:bootBuiltins "int"=some (.type "int"):=by decide +kernel
theorem BA:bootBuiltins "bool"=some (.type "bool"):=by decide +kernel
theorem DR:bootBuiltins "str"=some (.type "str"):=by decide +kernel
theorem cB:bootBuiltins "list"=some (.type "list"):=by decide +kernel
theorem lX:bootBuiltins "tuple"=some (.type "tuple"):=by decide +kernel
theorem IU:bootBuiltins "zip"=some (.type "zip"):=by decide +kernel
theorem kE:bootBuiltins "enumerate"=some (.type "enumerate"):=by decide +kernel
noncomputable def Ao (X:Cx)(scope:Scope):Bool:=scope.names.all fun y=>y.2 != .free || (X.env.kindOf y.1 == some .cell || X.env.kindOf y.1 == some .free)
noncomputable def IV (X:Cx)(scope:Scope)(Nc:List Str)(cm:List (Option Nat)):Bool:=(Nc.zip cm).all fun p=>match p.2 with
 | none=>true
 | some i=>X.N[i]? == some p.1 && (scope.names.lookup p.1 == some .free && (X.env.kindOf p.1 == some .cell || X.env.kindOf p.1 == some .free))
theorem ka {X:Cx}{tg iter elt:Expr}{ifs:List Expr}{scope:Scope}{pos:Pos}(Nc:List Str)(cm:List (Option Nat)){wi:TI}{g:TG}{tc:TT}{te:TE}
  (hi:PI X tg iter wi) (hg:∀C s₀ H₀ ex,PG (blk X Nc scope C s₀ H₀ ex) tg g) (ht:∀C s₀ H₀ ex,PIf (blk X Nc scope C s₀ H₀ ex) ifs tc) (he:∀C s₀ H₀ ex,PE (blk X Nc scope C s₀ H₀ ex) elt te)
  (hc:X.calm=true:=by rfl) (hkind:scope.kind=.function:=by rfl) (hcell:∀y∈scope.names,y.2≠.cell:=by decide +kernel) (hnames:∀y∈scope.names,y.2=.local->scope.names.lookup y.1=some .local:=by decide +kernel)
  (hfree:Ao X scope=true:=by rfl) (hlen:cm.length=Nc.length:=by rfl) (hcm:IV X scope Nc cm=true:=by rfl)
  (hs:∀x,foldedSetIterable iter X.env x=pure x:=by intro _;rfl):PE X (.ListComp elt [⟨tg,iter,ifs,0⟩] scope pos) (um wi g tc te cm):=by
 refine FI hc hi hkind hcell hnames (fun y hy e=>?_) hlen (fun j x i e1 e2=>?_) hg ht he hs
 ·have h:=List.all_eq_true.mp hfree y hy
  rw [e] at h
  simpa using h
 ·have hj:(Nc.zip cm)[j]?=some (x,some i):=by
   rw [List.getElem?_zip_eq_some];exact ⟨e1,e2⟩
  have h:=List.all_eq_true.mp hcm _ (List.mem_of_getElem? hj)
  simpa using h
theorem IW {CX:CXT}{P:Program}{w:World}{K:WA}{mg:Str->Option Value}{base:Heap}{N:List Str}{qual:Str}{scope:Scope}{f:Addr}{cd:Value}{A:Around}{outer:List Env}{s:Shared}{H:Hp}{E:XK} :
  (oq CX P w K mg base N qual scope f cd A outer s H E).K=K:=rfl
theorem dh {ns:List Int}{k:Int}(h0:0<=k)(h1:k < ns.length):atI (ns.map V.int) k=some (.int (ns.getD k.toNat 0)):=by
 have hl:k.toNat < ns.length:=by omega
 have q:(ns.map V.int)[k.toNat]?=some (.int (ns.getD k.toNat 0)):=by
  rw [List.getElem?_map,List.getD_eq_getElem?_getD,List.getElem?_eq_getElem hl]
  rfl
 have q2:=Bv q
 rw [show ((k.toNat:Nat):Int)=k by omega] at q2
 exact q2
theorem gg {ns:List Int}{k:Nat}(h1:k < ns.length):atI (ns.map V.int) (k:Int)=some (.int (ns.getD k 0)):=by
 have:=dh (ns:=ns) (k:=(k:Int)) (by omega) (by omega)
 simpa using this
theorem DS {ns:List Int}{k:Nat}(h:ns.length<=k):ns.getD k 0=0:=by
 rw [List.getD_eq_getElem?_getD,List.getElem?_eq_none_iff.mpr h];rfl
structure bX (ds:List Int):Prop where
 l2:2<=ds.length
 l6:ds.length<=6
 lo:∀d∈ds,0<=d
 hi:∀d∈ds,d<=500
 up:ds.Pairwise (· < ·)
theorem bX.get {ds:List Int}(h:bX ds){i:Nat}(hi:i < ds.length):0<=ds.getD i 0/\ds.getD i 0<=500:=by
 rw [List.getD_eq_getElem?_getD,List.getElem?_eq_getElem hi,Option.getD_some]
 exact ⟨h.lo _ (List.getElem_mem hi),h.hi _ (List.getElem_mem hi)⟩
theorem bX.lt {ds:List Int}(h:bX ds){i j:Nat}(hij:i < j)(hj:j < ds.length):ds.getD i 0 < ds.getD j 0:=by
 have hi:i < ds.length:=Nat.lt_trans hij hj
 rw [List.getD_eq_getElem?_getD,List.getElem?_eq_getElem hi,List.getD_eq_getElem?_getD,List.getElem?_eq_getElem hj,Option.getD_some,Option.getD_some]
 exact List.pairwise_iff_getElem.mp h.up i j hi hj hij
noncomputable def bY (ds:List Int):Int:=ds.getD (ds.length - 1) 0
theorem bX.le_whole {ds:List Int}(h:bX ds){d:Int}(hd:d∈ds):d<=bY ds:=by
 obtain ⟨i,hi,rfl⟩:=List.getElem_of_mem hd
 have e:ds[i]=ds.getD i 0:=by rw [List.getD_eq_getElem?_getD,List.getElem?_eq_getElem hi];rfl
 rw [e]
 unfold bY
 by_cases hl:i=ds.length - 1
 ·rw [hl];exact Int.le_refl _
 ·exact Int.le_of_lt (h.lt (by omega) (by have:=h.l2;omega))
theorem bX.whole_mem {ds:List Int}(h:bX ds):bY ds∈ds:=by
 have hl:=h.l2
 unfold bY
 rw [List.getD_eq_getElem?_getD,List.getElem?_eq_getElem (by omega:ds.length - 1 < ds.length),Option.getD_some]
 exact List.getElem_mem _
theorem bX.even {n:Nat}{g:Int}(h2:2<=n)(h6:n<=6)(g1:1<=g)(g2:g<=100):bX ((List.range n).map fun (i:Nat)=>g * (i:Int)):=by
 refine ⟨by simpa using h2,by simpa using h6,fun d hd=>?_,fun d hd=>?_,?_⟩
 ·obtain ⟨i,hi,rfl⟩:=List.mem_map.mp hd
  exact Int.mul_nonneg (by omega) (by omega)
 ·obtain ⟨i,hi,rfl⟩:=List.mem_map.mp hd
  have hi':=List.mem_range.mp hi
  have a:g * (i:Int)<=g * 5:=Int.mul_le_mul_of_nonneg_left (by omega) (by omega)
  omega
 ·rw [List.pairwise_map]
  refine List.Pairwise.imp_of_mem (fun {a b} ha hb hab=>?_) List.pairwise_lt_range
  exact Int.mul_lt_mul_of_pos_left (by omega) (by omega)
structure kF (ds:List Int)(l:Int):Prop where
 lo:∀d∈ds,0<=d
 hi:∀d∈ds,d<=l
 up:ds.Pairwise (· < ·)
 l0:-1<=l
theorem kF.nil:kF [] (-1):=⟨by simp,by simp,List.Pairwise.nil,by omega⟩
theorem kF.snoc {ds:List Int}{l r:Int}(h:kF ds l)(h0:0<=r):kF (ds++[l+1+r]) (l+1+r):=by
 have l0:=h.l0
 refine ⟨fun d hd=>?_,fun d hd=>?_,?_,by omega⟩
 ·rcases List.mem_append.mp hd with z | z
  ·exact h.lo d z
  ·have:d=l+1+r:=by simpa using z
   omega
 ·rcases List.mem_append.mp hd with z | z
  ·have:=h.hi d z;omega
  ·have:d=l+1+r:=by simpa using z
   omega
 ·rw [List.pairwise_append]
  refine ⟨h.up,by simp,fun a ha b hb=>?_⟩
  have hb':b=l+1+r:=by simpa using hb
  have:=h.hi a ha;omega
theorem kF.shaft {ds:List Int}{l:Int}(h:kF ds l)(hl:l<=500)(h2:2<=ds.length)(h6:ds.length<=6):bX ds:=
 ⟨h2,h6,h.lo,fun d hd=>Int.le_trans (h.hi d hd) hl,h.up⟩
theorem bX.ends {ds:List Int}(h:bX ds):bX ([0]++(ds.drop 1).take (ds.length - 1 - 1)++[500]):=by
 have l2:=h.l2
 have l6:=h.l6
 have hlen:((ds.drop 1).take (ds.length - 1 - 1)).length=ds.length - 2:=by
  rw [List.length_take,List.length_drop];omega
 have hmem:∀d,d∈(ds.drop 1).take (ds.length - 1 - 1)->0 < d/\d < 500:=fun d hd=>by
  obtain ⟨i,hi,rfl⟩:=List.getElem_of_mem hd
  rw [hlen] at hi
  have e:((ds.drop 1).take (ds.length - 1 - 1))[i]'(by rw [hlen];exact hi)=ds.getD (1+i) 0:=by
   rw [List.getElem_take,List.getElem_drop,List.getD_eq_getElem?_getD,List.getElem?_eq_getElem (by omega)]
   rfl
  rw [e]
  have a:=h.lt (i:=0) (j:=1+i) (by omega) (by omega)
  have b:=h.lt (i:=1+i) (j:=ds.length - 1) (by omega) (by omega)
  have c:=(h.get (i:=0) (by omega)).1
  have d:=(h.get (i:=ds.length - 1) (by omega)).2
  omega
 refine ⟨by simp [hlen]<;>omega,by simp [hlen]<;>omega,fun d hd=>?_,fun d hd=>?_,?_⟩
 ·rcases List.mem_append.mp hd with z | z
  ·rcases List.mem_append.mp z with z | z
   ·have:d=0:=by simpa using z
    omega
   ·have:=hmem d z;omega
  ·have:d=500:=by simpa using z
   omega
 ·rcases List.mem_append.mp hd with z | z
  ·rcases List.mem_append.mp z with z | z
   ·have:d=0:=by simpa using z
    omega
   ·have:=hmem d z;omega
  ·have:d=500:=by simpa using z
   omega
 ·rw [List.pairwise_append,List.pairwise_append]
  refine ⟨⟨by simp,(h.up.drop).take,fun a ha b hb=>?_⟩,by simp,fun a ha b hb=>?_⟩
  ·have ha':a=0:=by simpa using ha
   have:=hmem b hb;omega
  ·have hb':b=500:=by simpa using hb
   rcases List.mem_append.mp ha with z | z
   ·have:a=0:=by simpa using z
    omega
   ·have:=hmem a z;omega
def BB (J:It)(g:TG)(tb:TS)(D:gQ)(σ:St)(H1:Hp):Prop:=∃W:Nat->Nat->St->Hp->Prop,(∃m,W 0 m σ H1)/\∀i m σ H,W i m σ H->
 (J.stop i H/\D.nx σ H)\/(J.go i H/\∃N:St->Hp->Prop,(∀σ' H',N σ' H'->∃m',m' < m/\W (i+1) m' σ' H')/\∀x H',J.yld i H x H'->g x σ H' fun σ2 H2=>tb {D with nx:=N,ct:=N,bk:=D.nx} σ2 H2)
theorem FJ (wi:TI)(g:TG)(tb:TS)(D:gQ)(σ:St)(H:Hp):JY wi g tb D σ H=wi σ H fun J H1=>BB J g tb D σ H1:=rfl
def pC (J:It)(g:TG)(tc:TT)(te:TE)(cm:List (Option Nat))(σ:St)(Q:VK)(H1:Hp):Prop:=∃W:Nat->Nat->List V->Hp->Prop,(∃m,W 0 m [] H1)/\∀i m acc H,W i m acc H->
 (J.stop i H/\∀p,H p=none->Q (.ref p) (upd H p (.lst acc)))\/
 (J.go i H/\acc.length < sizeLine/\∀x H',J.yld i H x H'->g x (cv cm σ) H' fun σ2 H2=>Wk (cv cm σ) σ2/\tc σ2 H2 fun b H3=>if b=true then te σ2 H3 fun v H4=>∃m',m' < m/\W (i+1) m' (acc++[v]) H4 else ∃m',m' < m/\W (i+1) m' acc H3)
theorem DT (wi:TI)(g:TG)(tc:TT)(te:TE)(cm:List (Option Nat))(σ:St)(H:Hp)(Q:VK):um wi g tc te cm σ H Q=wi σ H fun J H1=>pC J g tc te cm σ Q H1:=rfl
theorem bK {lo:Int}{n:Nat}{g:TG}{tb:TS}{D:gQ}{σ:St}{H:Hp}(Pv:Nat->St->Hp->Prop)(h0:Pv 0 σ H)
  (hs:∀i σ H,i < n->Pv i σ H->g (.int (lo+i)) σ H fun σ2 H2=>tb {D with nx:=Pv (i+1),ct:=Pv (i+1),bk:=D.nx} σ2 H2) (hd:∀σ H,Pv n σ H->D.nx σ H):BB (Itr lo n) g tb D σ H:=Ce Pv h0 hs hd
theorem kb {K:WA}{a:Addr}(xs:List V){g:TG}{tb:TS}{D:gQ}{σ:St}{H:Hp}(Pv:Nat->St->Hp->Prop)(h0:Pv 0 σ H)(hl:∀i σ H,i<=xs.length->Pv i σ H->SqL K H a xs)
  (hs:∀i x σ H,xs[i]?=some x->Pv i σ H->g x σ H fun σ2 H2=>tb {D with nx:=Pv (i+1),ct:=Pv (i+1),bk:=D.nx} σ2 H2) (hd:∀σ H,Pv xs.length σ H->D.nx σ H):BB (Itl K a) g tb D σ H:=Dr Pv h0 hl hs hd
theorem xR {lo:Int}{n:Nat}{te:TE}{cm:List (Option Nat)}{σ:St}{H:Hp}{Q:VK}(f:Nat->V)(hn:n<=sizeLine){j:Nat}(hj:(cv cm σ)[j]?=some none)
  (hs:∀i,i < n->∀N:VK,N (f i) H->te ((cv cm σ).set j (some (.int (lo+i)))) H N)
  (hd:∀p,H p=none->Q (.ref p) (upd H p (.lst ((List.range n).map f)))):pC (Itr lo n) (dP j) tF te cm σ Q H:=uo f hn hj hs hd
theorem eO {lo:Int}{n:Nat}{tc:TT}{te:TE}{cm:List (Option Nat)}{σ:St}{H:Hp}{Q:VK}(p:Nat->Bool)(f:Nat->V)(hn:n<=sizeLine){j:Nat}(hj:(cv cm σ)[j]?=some none)
  (hc:∀i,i < n->∀N:Bool->Hp->Prop,N (p i) H->tc ((cv cm σ).set j (some (.int (lo+i)))) H N)
  (hs:∀i,i < n->p i=true->∀N:VK,N (f i) H->te ((cv cm σ).set j (some (.int (lo+i)))) H N)
  (hd:∀b,H b=none->Q (.ref b) (upd H b (.lst (((List.range n).filter p).map f)))):pC (Itr lo n) (dP j) tc te cm σ Q H:=pB p f hn hj hc hs hd
theorem sj {K:WA}{a:Addr}{xs:List V}{tc:TT}{te:TE}{cm:List (Option Nat)}{σ:St}{H:Hp}{Q:VK}(p:V->Bool)(f:V->V)(hl:SqL K H a xs)(hn:xs.length<=sizeLine){j:Nat}(hj:(cv cm σ)[j]?=some none)
  (hc:∀x,x∈xs->∀N:Bool->Hp->Prop,N (p x) H->tc ((cv cm σ).set j (some x)) H N)
  (hs:∀x,x∈xs->p x=true->∀N:VK,N (f x) H->te ((cv cm σ).set j (some x)) H N)
  (hd:∀b,H b=none->Q (.ref b) (upd H b (.lst ((xs.filter p).map f)))):pC (Itl K a) (dP j) tc te cm σ Q H:=vQ p f hl hn hj hc hs hd
theorem upo {H:Hp}{a b:Addr}{o u:HO}(h:H b=some u)(hn:H a=none):upd H a o b=some u:=by rw [aK (ai h hn)];exact h
theorem upn {H:Hp}{a b:Addr}{o:HO}(h:upd H a o b=none):H b=none:=by
 by_cases e:b=a
 ·subst e;rw [ag] at h;cases h
 ·rw [aK e] at h;exact h
theorem av.lay {H H':Hp}{a:Addr}{o:HO}(s:av H H')(hn:H' a=none):av H (upd H' a o):=fun b u e=>upo (s b u e) hn
theorem av.rewr {H H':Hp}{a:Addr}{o:HO}(s:av H H')(hn:H a=none):av H (upd H' a o):=fun b u e=>by rw [aK (ai e hn)];exact s b u e
theorem FK {n d:Nat}(h:1<=n):HT.sIx n d (some 1)=1:=by
 have:=HT.FD n d 1
 rw [show ((1:Nat):Int)=1 from rfl] at this
 omega
theorem IX {n d:Nat}(h:1<=n):HT.sIx n d (some (-1))=n - 1:=by
 have:=HT.xK (-1) n d
 rw [if_pos (by decide)] at this
 omega
theorem DU (ds:List Int)(h:2<=ds.length):pw (ds.map V.int) (some 1) (some (-1))=((ds.drop 1).take (ds.length - 1 - 1)).map V.int:=by
 unfold pw
 rw [WB,FK (by omega),IX (by omega),List.map_take,List.map_drop]
theorem Ap {ds:List Int}(h:0 < ds.length):atI (ds.map V.int) (-1)=some (.int (bY ds)):=by
 unfold atI ixN
 rw [if_neg (by decide),WB,if_pos (by omega),Option.bind_some,List.getElem?_map,show (-1+(ds.length:Int)).toNat=ds.length - 1 by omega,List.getElem?_eq_getElem (by omega)]
 unfold bY
 rw [List.getD_eq_getElem?_getD,List.getElem?_eq_getElem (by omega)]
 rfl
theorem xS (a b:Int):eqV (.int a) (.int b)=decide (a=b):=by
 simp [eqV,Bool.beq_eq_decide_eq]
theorem ni (d:Int)(ds:List Int):inV (.int d) (ds.map V.int)=decide (d∈ds):=by
 unfold inV
 rw [List.any_map]
 by_cases h:d∈ds
 ·rw [decide_eq_true h,List.any_eq_true]
  exact ⟨d,h,by simp [xS]⟩
 ·rw [decide_eq_false h,List.any_eq_false]
  intro x hx
  simp [xS]
  rintro rfl
  exact h hx
theorem kG {xs:List Int}{i:Nat}{x:V}(h:(xs.map V.int)[i]?=some x):∃z,x=V.int z/\xs[i]?=some z/\z∈xs:=by
 rw [List.getElem?_map] at h
 cases e:xs[i]? with
 | none=>rw [e] at h;cases h
 | some z=>rw [e] at h;exact ⟨z,(Option.some.inj h).symm,rfl,List.mem_of_getElem? e⟩
theorem BC (d x y:Int):inV (.int d) [.int x,.int y]=decide (d=x\/d=y):=by
 have:=ni d [x,y]
 simpa [eq_comm] using this
theorem Aq {w s:Int}(hw:0<=w)(hs:0 < s):0<=(w+s - 1) / s/\w<=(w+s - 1) / s * s/\((w+s - 1) / s - 1) * s < w/\(w+s - 1) / s<=w:=by
 have e:=Int.emod_add_mul_ediv (w+s - 1) s
 have r0:=Int.emod_nonneg (w+s - 1) (by omega:s≠0)
 have r1:=Int.emod_lt_of_pos (w+s - 1) hs
 have e2:s * ((w+s - 1) / s)=(w+s - 1) / s * s:=Int.mul_comm _ _
 have e3:((w+s - 1) / s - 1) * s=(w+s - 1) / s * s - s:=by rw [Int.sub_mul,Int.one_mul]
 have q0:0<=(w+s - 1) / s:=Int.ediv_nonneg (by omega) (by omega)
 refine ⟨q0,by omega,by omega,?_⟩
 by_cases h:(w+s - 1) / s<=w
 ·exact h
 ·exfalso
  have h1:((w+s - 1) / s - 1) * 1<=((w+s - 1) / s - 1) * s:=Int.mul_le_mul_of_nonneg_left (by omega) (by omega)
  omega
end L2
namespace L2
theorem FL {x y i:Int}(h:i=0\/i=1):∃m,(m=x\/m=y)/\atI [V.int x,V.int y] i=some (.int m):=by
 rcases h with rfl | rfl
 ·exact ⟨x,.inl rfl,rfl⟩
 ·exact ⟨y,.inr rfl,rfl⟩
end L2
namespace L2
open PySem PySem.Spec PyProof.Rows
noncomputable def CXf (P:Program)(w:World):CXT:=fun outer H s E e s'=>
 ∃(x:Addr) (cls a0:Value) (H':Hp) (B:Heap),e=.ref x/\s'.os=s.os/\AllBare s'.gens/\Un (frs outer) [] H H' s.heap s'.heap/\HOk P w H' s'.heap/\Heap.FlyingW B outer x cls a0 s'.heap/\
  (∀b o,s'.heap.get? b=some o->(H' b≠none\/∃o0,s.heap.get? b=some o0)->b∉frs outer->B.get? b=some o)/\(∀o,s.heap.get? x≠some o)/\H' x=none/\E cls none H'
theorem fh.there {P:Program}{w:World}{H:Hp}{h:Heap}{a:Addr}{o:HO}(l:fh P w H h a o):∃ob,h.get? a=some ob:=by
 cases o with
 | lst xs=>obtain ⟨_,its,n,_,e⟩:=l;exact ⟨_,e⟩
 | tup xs=>obtain ⟨_,its,_,ob,e,_⟩:=l;exact ⟨_,e⟩
 | dK kvs=>obtain ⟨_,_,_,_,ob,_,_,e,_⟩:=l;exact ⟨_,e⟩
 | dT kvs=>obtain ⟨_,_,_,_,ob,_,_,e,_⟩:=l;exact ⟨_,e⟩
 | set S n=>obtain ⟨ob,_,_,_,e,_⟩:=l;exact ⟨_,e⟩
 | ins C dx fs=>obtain ⟨_,_,_,e,_⟩:=l;exact ⟨_,e⟩
 | own y=>exact l
 | xd fs=>obtain ⟨mA,⟨od,_,_,e,_⟩,_⟩:=l;exact ⟨_,e⟩
 | rng lo hi=>obtain ⟨_,_,_,e⟩:=l;exact ⟨_,e⟩
 | frz ob u=>obtain ⟨e,_⟩:=l;exact ⟨_,e⟩
 | tbl ps=>exact ⟨_,l⟩
 | met f y=>exact ⟨_,l⟩
 | ext φ=>obtain ⟨_,h,_⟩:=l;exact h
section
variable {P:Program}{w:World}{K:WA}{mg:Str->Option Value}{base:Heap}{N:List Str}{qual:Str}{scope:Scope}{f:Addr}{cd:Value}{A:Around}{outer:List Env}{s:Shared}{H:Hp}{E:XK}
noncomputable abbrev cxF (P:Program)(w:World)(K:WA)(mg:Str->Option Value)(base:Heap)(N:List Str)(qual:Str)(scope:Scope)(f:Addr)(cd:Value)(A:Around)(outer:List Env)(s:Shared)(H:Hp)(E:XK):Cx:=
 oq (CXf P w) P w K mg base N qual scope f cd A outer s H E
theorem BD {pins:List (Addr×Obj)}{σ:St}{H1:Hp}{s1:Shared}{h2:Heap}{x:Addr}{cls a0:Value}{B:Heap}(I:Inv (cxF P w K mg base N qual scope f cd A outer s H E) pins σ H1 s1)
  (hB:∀b o,s1.heap.get? b=some o->(H1 b≠none\/∃o0,s.heap.get? b=some o0)->b∉frs (cxF P w K mg base N qual scope f cd A outer s H E).stack->B.get? b=some o)
  (hfl:Heap.FlyingW B outer x cls a0 h2) (hsl:∀b o,s1.heap.get? b=some o->(∀vs,o.data≠.fields vs)->∃sl,h2.get? b=some {o with slots:=sl}) (hx:∀o,s.heap.get? x≠some o) (hx1:H1 x=none) (q:E cls none H1) :
  CXf P w outer H s E (.ref x) {s1 with heap:=h2}:=by
 have neL:∀b o,s.heap.get? b=some o->b≠s.heap.objs.size:=fun b o e=>Nat.ne_of_lt (Heap.lt_size e)
 have stk:∀b,b∈frs (cxF P w K mg base N qual scope f cd A outer s H E).stack->b=s.heap.objs.size\/b∈frs outer:=fun b hb=>by
  rcases List.mem_cons.mp (I.stkSub b hb) with z | z
  ·exact .inl z
  ·exact .inr z
 have hfree:H1 s.heap.objs.size=none:=I.free
 have st:B.StaysIn h2:=hfl.1
 have frD:∀b∈frs outer,∃o,s.heap.get? b=some o/\∀vs,o.data≠.fields vs:=fun b hb=>(I.ok.funs.mem hb).2
 have u:=I.base
 have nf:∀b o,s.heap.get? b=some o->b∉frs outer->b∉frs (cxF P w K mg base N qual scope f cd A outer s H E).stack:=fun b o e hb z=>(stk b z).elim (neL b o e) hb
 have up:∀b∈frs outer,∀o,s.heap.get? b=some o->∃sl,h2.get? b=some {o with slots:=sl}:=fun b hb o e=>by
  obtain ⟨o',e',d⟩:=frD b hb
  rw [e] at e';cases e'
  obtain ⟨sl,q1⟩:=u.any (b:=b) e (I.ok.frf b hb) (by intro z;exact nomatch z)
  obtain ⟨sl',q2⟩:=hsl b _ q1 d
  exact ⟨sl',q2⟩
 refine ⟨x,cls,a0,H1,B,rfl,I.os,I.bare,⟨fun b o e n hb _=>?_,fun b o e n hb _=>up b hb o e,u.free,fun b o e _=>?_,u.tups,u.frzs,u.tbls⟩,fun b o e=>?_,hfl,fun b o e hh hb=>?_,hx,hx1,q⟩
 ·exact st b o (hB b o (u.keep b o e n hb (by intro z;exact nomatch z)) (.inr ⟨o,e⟩) (nf b o e hb))
 ·by_cases hb:b∈frs outer
  ·obtain ⟨sl,q⟩:=up b hb o e
   exact ⟨_,q⟩
  ·obtain ⟨o',e'⟩:=u.there b o e (by intro z;exact nomatch z)
   exact ⟨o',st b o' (hB b o' e' (.inr ⟨o,e⟩) (nf b o e hb))⟩
 ·have ne:b≠s.heap.objs.size:=fun z=>by rw [z,hfree] at e;cases e
  have inB:∀c v,H1 c≠none->s1.heap.get? c=some v->h2.get? c=some v:=fun c v hc q=>st c v (hB c v q (.inl hc) fun z=>by
   rcases stk c z with y | y
   ·rw [y] at hc;exact hc hfree
   ·obtain ⟨o',e',_⟩:=frD c y
    exact hc (u.free c o' e' (I.ok.frf c y) (by intro z;exact nomatch z)))
  refine (I.hok b o e).stay (fun c v hc q=>inB c v ?_ q) (fun _ q=>q) fun _ _ q=>q
  rcases hc with z | z
  ·rw [z,e];simp
  ·rw [z];simp
 ·
  have there1:∃o1,s1.heap.get? b=some o1:=by
   rcases hh with z | ⟨o0,z⟩
   ·cases q:H1 b with
    | none=>exact absurd q z
    | some v=>exact (I.hok b v q).there
   ·exact u.there b o0 z (by intro z;exact nomatch z)
  obtain ⟨o1,e1⟩:=there1
  have nfb:b∉frs (cxF P w K mg base N qual scope f cd A outer s H E).stack:=fun z=>by
   rcases stk b z with y | y
   ·rcases hh with t | ⟨o0,t⟩
    ·rw [y] at t;exact t hfree
    ·exact neL b o0 t y
   ·exact hb y
  have e2:=hB b o1 e1 hh nfb
  have e3:=st b o1 e2
  have e':h2.get? b=some o:=e
  rw [e3] at e';cases e'
  exact e2
theorem Ct {pins:List (Addr×Obj)}{σ:St}{H1:Hp}{s1:Shared}{h':Heap}{x:Addr}{cls:Value}{args:List Value}(I:Inv (cxF P w K mg base N qual scope f cd A outer s H E) pins σ H1 s1)
  (hx:Heap.MadeExcOf s1.heap h' x cls args) (q:E cls none H1):(cxF P w K mg base N qual scope f cd A outer s H E).xe (.ref x) {s1 with heap:=h'}:=by
 have hn:=hx.new
 have hin:∀env∈(cxF P w K mg base N qual scope f cd A outer s H E).stack,∀b,env.frame=some b->b∈frs (cxF P w K mg base N qual scope f cd A outer s H E).stack:=fun env he b hb=>List.mem_filterMap.mpr ⟨env,he,hb⟩
 have hx1:H1 x=none:=by
  cases q:H1 x with
  | none=>rfl
  | some v=>
   obtain ⟨ob,e⟩:=(I.hok x v q).there
   rw [hn] at e;cases e
 refine wpAny_leaves_madeW (base:=W.hideAll s1.heap (frs (cxF P w K mg base N qual scope f cd A outer s H E).stack)) (h:=s1.heap) (s:={s1 with heap:=h'}) I.ok.frames rfl (fun b o q=>W.of_hideAll _ q) (W.funFrames_hide I.stack hin) hx fun h2 t f1 f2 f3 f4=>?_
 refine BD (s1:=s1) I (fun b o e _ hb=>W.hideAll_get _ e hb) f1 (fun b o e d=>f4 b o (hx.keeps b o e) d) (fun o e=>?_) hx1 q
 obtain ⟨o',e'⟩:=I.base.there x o e (by intro z;exact nomatch z)
 rw [hn] at e';cases e'
theorem bC:fi (CXf P w) (cxF P w K mg base N qual scope f cd A outer s H E) E:=by
 rintro pins σ H1 s1 e s2 I ⟨x,cls,a0,H2,B,rfl,os,bare,un,hok,hfl,hB,hx,hx2,q⟩
 have I2:Inv (cxF P w K mg base N qual scope f cd A outer s H E) pins σ H2 s2:=I.call' os un hok bare fun b hb=>absurd hb (by simp)
 refine wpAny_leaves_onW (s:=s2) I.ok.frames rfl hfl fun h2 f1 f2=>?_
 refine BD I2 (fun b o e hh hb=>hB b o e ?_ hb) f1 (fun b o e d=>f2 b o e d) (fun o e=>?_) hx2 q
 ·rcases hh with z | ⟨o0,z⟩
  ·exact .inl z
  ·obtain ⟨o1,e1⟩:=I.base.there b o0 z (by intro z;exact nomatch z)
   exact .inr ⟨o1,e1⟩
 ·obtain ⟨o1,e1⟩:=I.base.there x o e (by intro z;exact nomatch z)
  exact hx o1 e1
theorem yJ:PassesOwn (model P w) (cxF P w K mg base N qual scope f cd A outer s H E).A (cxF P w K mg base N qual scope f cd A outer s H E).env (cxF P w K mg base N qual scope f cd A outer s H E).xe:=PassesOwn.leaving
structure ExC (K:WA)(C:Addr):Prop where
 ex:∃(nm q:Str) (N:Addr) (bs bm:List Value) (hdct:Bool) (sn:List Str) (sub:List Value) (ab:Bool) (col:Option Bool) (dd:Option Addr) (k0 k1 k2 k3 k5:Option Value) (mN:Str->Option Value),
  ∀h,K.In h->h.get? C=some (excClassObj nm q C N bs bm hdct sn sub ab col dd k0 k1 k2 k3 k5 "ValueError.__new__")/\h.Ns N mN/\(∀n∈quietNames,mN n=none)/\OwnTailQ h [.type "ValueError",.type "Exception",.type "BaseException",.type "object"] bm
noncomputable def nj (es:Array DictEntry):Bool:=es.toList.all fun e=>match e.key with | .str _ _=>true | _=>false
theorem Hs {K:WA}{h:Heap}{N:Addr}{c:Value}{d:Option Addr}{es:Array DictEntry}{ep:Nat}{sl:Array (Option Value)}(X:K.In h)(l:K.lookup N=some ⟨c,d,.dict es ep,sl⟩)(k:nj es=true):h.Ns N (nsFind es):=by
 refine ⟨_,es,ep,X _ _ l,rfl,fun e he=>?_,fun _=>rfl⟩
 have z:=List.all_eq_true.mp k e (by simpa using he)
 split at z
 ·rename_i n t q;exact ⟨n,t,q⟩
 ·cases z
theorem IY {K:WA}{C N C0 N0:Addr}{nm q:Str}{bs:List Value}{hdct:Bool}{sn:List Str}{sub:List Value}{ab:Bool}{col:Option Bool}{dd:Option Addr}{k0 k1 k2 k3 k5:Option Value}
  {c1 c2 c0:Value} {d1 d2 dd0:Option Addr} {es es0:Array DictEntry} {ep ep0:Nat} {sl1 sl2 sl0:Array (Option Value)} {cd0:ClassData}
  (lC:K.lookup C=some (excClassObj nm q C N bs [.ref C0,.type "ValueError",.type "Exception",.type "BaseException",.type "object"] hdct sn sub ab col dd k0 k1 k2 k3 k5 "ValueError.__new__"))
  (lN:K.lookup N=some ⟨c1,d1,.dict es ep,sl1⟩) (kN:nj es=true) (iN:(quietNames.all fun n=>(nsFind es n).isNone)=true)
  (l0:K.lookup C0=some ⟨c0,dd0,.cls cd0,sl0⟩) (e0:cd0.ns=N0) (lN0:K.lookup N0=some ⟨c2,d2,.dict es0 ep0,sl2⟩) (kN0:nj es0=true) (iN0:(quietNames.all fun n=>(nsFind es0 n).isNone)=true):ExC K C:=
 ⟨nm,q,N,bs,_,hdct,sn,sub,ab,col,dd,k0,k1,k2,k3,k5,nsFind es,fun h X=>⟨X _ _ lC,Hs X lN kN,fun n hn=>Option.isNone_iff_eq_none.mp (List.all_eq_true.mp iN n hn),.own (X _ _ l0) (e0▸Hs X lN0 kN0) (fun n hn=>Option.isNone_iff_eq_none.mp (List.all_eq_true.mp iN0 n hn)) .base⟩⟩
noncomputable def DV (E:XK)(C:Addr)(t:TA):TS:=fun _ σ H=>t σ H fun vs H1=>vs.length<=sizeLine/\E (.ref C) none H1
theorem bh {x:Str}{C:Addr}{e:Expr}{es:List Expr}{t:TA}{np cpos pos:Pos}(O:ExC K C)(hg:Gl (cxF P w K mg base N qual scope f cd A outer s H E) x)(hm:mg x=some (.ref C))
  (ha:PA (cxF P w K mg base N qual scope f cd A outer s H E) (e::es) t) (hdb:(x == ("__debug__":Str))=false:=by decide)
  (he:starEach (e::es) (cxF P w K mg base N qual scope f cd A outer s H E).env=(false,eval e (cxF P w K mg base N qual scope f cd A outer s H E).env)::starEach es (cxF P w K mg base N qual scope f cd A outer s H E).env:=by rfl)
  (hpl:(backTo cpos (starEach es (cxF P w K mg base N qual scope f cd A outer s H E).env)).any (·.1)=false:=by rfl) :
  PS (cxF P w K mg base N qual scope f cd A outer s H E) (.Raise (some (.Call (.Name x np) (e::es) [] cpos)) none pos) (DV E C t):=by
 intro pins s1 σ H1 D I h
 obtain ⟨nm,q,N,bs,bm,hdct,sn,sub,ab,col,dd,k0,k1,k2,k3,k5,mN,O⟩:=O.ex
 obtain ⟨_,_,hni,T0⟩:=O _ I.kIn
 refine wpAny_Raise_call_subU (C:=C) (nm:=nm) (q:=q) (N:=N) (bs:=bs) (bm:=bm) (hdct:=hdct) (sn:=sn) (sub:=sub) (ab:=ab) (col:=col) (dd:=dd) (k0:=k0) (k1:=k1) (k2:=k2) (k3:=k3) (k5:=k5)
  PySem.F.excBase_ValueError (by decide +kernel) PySem.F.excBase_ValueError (mN:=mN) (T0.tail.hasType PySem.F.excBase_ValueError.hasBase) (I.ok.hd rfl) (by rw [he];show (false || (backTo cpos (starEach es _)).any (·.1))=false;rw [hpl];rfl) (hni _ (.head _)) (tT I hg hm ⟨rfl,?_⟩ hdb)
 have ha':=ha cpos pins s1 σ H1 _ I h
 rw [he] at ha' ⊢
 refine Calls.evalArgs_plain (wpAny_mono ha' (fun us s2 h2=>?_) fun _ _ y=>y)
 obtain ⟨vs,H2,I2,rv,hlen,qE⟩:=h2
 obtain ⟨a1,a2,_,a4⟩:=O _ I2.kIn
 exact ⟨rfl,by rw [←rv.length];exact hlen,a1,a2,a4.tail,fun h' e hx=>Ct I2 hx qE⟩
theorem Fun.okF {x qual:Str}{st:Stmt}{f:Addr}{fd:FuncData}{N ps:List Str}{k:Nat}{sp:Sp}(F:Fun K x qual st f fd)(S:ay N ps (aj st))(len:∀vs H Q E,sp vs H Q E->vs.length=ps.length)
  (hbody:∀(cdv:Value) (A:Around) (outer:List Env) (s:Shared) (H:Hp) (vs:List V) (Q:VK) (E:XK),dz k (A.deeper (envOfC qual (aj st) s.heap.objs.size f cdv))->sp vs H Q E->
   ∃t,PSs (cxF P w K mg base N qual (aj st) f cdv A outer s H E) (bE st) t/\t {nx:=fun _ H'=>Q .non H',rt:=Q} (lJ N vs) H):fM P w K mg base (CXf P w) (k+1) f fd ps sp:=by
 obtain ⟨oc,od,kV,doc,pm,an,cdv,ct,osl,rfl,lk,hcd⟩:=F.ex
 refine Hm lk hcd S len fun A outer s H vs Q E hr hsp=>?_
 exact hbody cdv A outer s H vs Q E hr hsp
end
noncomputable abbrev XT:=Value->St->Hp->Prop
end L2
namespace L2
open PySem PySem.W PySem.Spec PyProof.Rows
structure ExI (K:Frag)(C:Addr):Prop where
 ex:ExC K C
 ca:findIn K (.ref C) "__class__"=some (some (.builtin "object.__class__"))
 mo:mroIn K C (.type "object")=some true
end L2
namespace L2
open PySem PySem.Spec PyProof.Rows
theorem cX {X:Cx}{x:Str}{v:V}{pos:Pos}(hg:Gl X x)(h:∃u,X.mg x=some u/\bI v u)(hd:(x == ("__debug__":Str))=false:=by decide):PE X (.Name x pos) (tC v):=
 let ⟨_,hm,r⟩:=h
 Fo hg hm r hd
noncomputable def eqL:List V->List V->Bool
 | [],[]=>true
 | x::xs,y::ys=>eqV x y && eqL xs ys
 | _,_=>false
theorem tV:∀{xs ys:List V},eqL xs ys=true->xs.length=ys.length
 | [],[],_=>rfl
 | _::_,_::_,h=>by
  unfold eqL at h
  rw [Bool.and_eq_true] at h
  simp [tV h.2]
 | [],_::_,h=>by cases h
 | _::_,[],h=>by cases h
noncomputable def IZ (K:WA):R2:=fun x y H Q=>∃a b xs ys,x=.ref a/\y=.ref b/\SqL K H a xs/\SqL K H b ys/\xs.all bg=true/\ys.all bg=true/\Q (.bl (eqL xs ys)) H
theorem tW:∀{xs ys:List V},xs.length=ys.length->(List.range xs.length).all (fun j=>eqV (xs.getD j .non) (ys.getD j .non))=eqL xs ys
 | [],[],_=>rfl
 | x::xs,y::ys,h=>by
  have ih:=tW (xs:=xs) (ys:=ys) (by simpa using h)
  rw [List.length_cons,List.range_succ_eq_map,List.all_cons,List.all_map]
  show (eqV x y && (List.range xs.length).all (fun j=>eqV (xs.getD j .non) (ys.getD j .non)))=(eqV x y && eqL xs ys)
  rw [ih]
 | [],_::_,h=>by simp at h
 | _::_,[],h=>by simp at h
theorem I0 {X:Cx}(hu:X.A.units < cLine):OpR X (compareOp .Eq) (IZ X.K):=by
 intro pins s σ H x y u v Q I rx ry h
 obtain ⟨a,b,xs,ys,rfl,rfl,ha,hb,fa,fb,q⟩:=h
 cases rx;cases ry
 obtain ⟨ia,ra,pa,za⟩:=I.list ha
 obtain ⟨ib,rb,pb,zb⟩:=I.list hb
 have la:=ra.length
 have lb:=rb.length
 by_cases hl:xs.length=ys.length
 ·refine PySem.SeqAt.eq_listAt (e:=fun j=>eqV (xs.getD j .non) (ys.getD j .non)) pa.isList pb.isList (by simp only [List.size_toArray];omega) hu (fun j h1 h2=>?_) ?_
  ·simp only [List.size_toArray] at h1 h2
   have hx:xs[j]?=some (xs.getD j .non):=by
    rw [List.getD_eq_getElem?_getD,List.getElem?_eq_getElem (by omega)];rfl
   have hy:ys[j]?=some (ys.getD j .non):=by
    rw [List.getD_eq_getElem?_getD,List.getElem?_eq_getElem (by omega)];rfl
   obtain ⟨u,eu,ru⟩:=ra.get hx
   obtain ⟨v,ev,rv⟩:=rb.get hy
   have e1:ia.toArray[j]=u:=by
    have:=List.getElem?_eq_some_iff.mp eu
    simpa using this.2
   have e2:ib.toArray[j]=v:=by
    have:=List.getElem?_eq_some_iff.mp ev
    simpa using this.2
   rw [e1,e2]
   exact ot ru rv (List.all_eq_true.mp fa _ (List.mem_of_getElem? hx)) (List.all_eq_true.mp fb _ (List.mem_of_getElem? hy))
  ·have e:(List.range ia.toArray.size).all (fun j=>eqV (xs.getD j .non) (ys.getD j .non))=eqL xs ys:=by
    rw [List.size_toArray,←la]
    exact tW hl
   rw [e]
   exact ⟨.bl (eqL xs ys),H,I,rfl,q⟩
 ·refine PySem.SeqAt.eq_list_lengthsAt pa.isList pb.isList (by simp only [List.size_toArray,bne_iff_ne,ne_eq];omega) hu ?_
  have e:eqL xs ys=false:=by
   cases z:eqL xs ys with
   | false=>rfl
   | true=>exact absurd (tV z) hl
  rw [e] at q
  exact ⟨.bl false,H,I,rfl,q⟩
end L2
namespace L2
theorem bX.of {ds:List Int}(l2:2<=ds.length)(l6:ds.length<=6)(b:∀i,i < ds.length->0<=ds.getD i 0/\ds.getD i 0<=500)(u:∀i,i+1 < ds.length->ds.getD i 0 < ds.getD (i+1) 0):bX ds:=by
 have get:∀i (h:i < ds.length),ds[i]=ds.getD i 0:=fun i h=>by rw [List.getD_eq_getElem?_getD,List.getElem?_eq_getElem h];rfl
 have up:∀k i,i+k+1 < ds.length->ds.getD i 0 < ds.getD (i+k+1) 0:=by
  intro k
  induction k with
  | zero=>intro i h;exact u i h
  | succ k ih=>
   intro i h
   have h1:=ih i (by omega)
   have h2:=u (i+k+1) (by omega)
   rw [show i+(k+1)+1=i+k+1+1 by omega]
   omega
 refine ⟨l2,l6,fun d hd=>?_,fun d hd=>?_,List.pairwise_iff_getElem.mpr fun i j hi hj hij=>?_⟩
 ·obtain ⟨i,hi,rfl⟩:=List.getElem_of_mem hd
  rw [get i hi];exact (b i hi).1
 ·obtain ⟨i,hi,rfl⟩:=List.getElem_of_mem hd
  rw [get i hi];exact (b i hi).2
 ·rw [get i hi,get j hj]
  have:=up (j - i - 1) i (by omega)
  rw [show i+(j - i - 1)+1=j by omega] at this
  exact this
end L2
namespace L2
end L2
namespace L2
open PySem PySem.W PySem.Spec PyProof.Rows
noncomputable def uq:V->Option String
 | .non=>some "NoneType"
 | .bl _=>some "bool"
 | .int _=>some "int"
 | .str _=>some "str"
 | _=>none
def TyX (K:Frag)(H:Hp)(x:V)(T:String):Prop:=uq x=some T\/(∃a xs,x=.ref a/\SqL K H a xs/\T="list")\/∃a xs,x=.ref a/\SqT K H a xs/\T="tuple"
noncomputable def je:List String:=["NoneType","bool","int","str","list","tuple"]
noncomputable def yK (T n:String):Bool:=T == n || (T == "bool" && n == "int")
theorem BE {K:Frag}{T n:String}(hT:T∈je)(hn:n∈je):kitOne K (.type T) (.type n)=some (yK T n):=by
 simp only [je,List.mem_cons,List.not_mem_nil,or_false] at hT hn
 rcases hT with rfl | rfl | rfl | rfl | rfl | rfl<;>rcases hn with rfl | rfl | rfl | rfl | rfl | rfl<;>with_unfolding_all rfl
theorem BF {K:Frag}{T:String}(hT:T∈je):∀{ns:List String},(∀n∈ns,n∈je)->kitAny K (.type T) (ns.map Value.type)=some (ns.any (yK T))
 | [],_=>rfl
 | n::r,h=>by
  have ih:=BF (K:=K) hT (ns:=r) fun m hm=>h m (List.mem_cons_of_mem _ hm)
  rw [List.map_cons,List.any_cons]
  unfold kitAny
  rw [BE hT (h n List.mem_cons_self)]
  cases e:yK T n with
  | true=>rfl
  | false=>rw [Bool.false_or];exact ih
section
variable {X:Cx}{pins:List (Addr×Obj)}{σ:St}{H:Hp}{s:Shared}
theorem w6 {K:Frag}{x:V}{T:String}(h:TyX K H x T):T∈je:=by
 rcases h with h | ⟨_,_,_,_,rfl⟩ | ⟨_,_,_,_,rfl⟩
 ·cases x<;>simp only [uq,Option.some.injEq,reduceCtorEq] at h<;>subst h<;>decide
 ·decide
 ·decide
theorem yL (I:Inv X pins σ H s){x:V}{u:Value}{T:String}(rx:bI x u)(ty:TyX X.K H x T):∃φ:Heap->Prop,KitX X.K u (.type T) φ/\φ s.heap/\u≠.builtin "__main__.__loader__#opaque":=by
 rcases ty with h | ⟨a,xs,rfl,h,rfl⟩ | ⟨a,xs,rfl,h,rfl⟩
 ·cases x with
  | non=>cases rx;cases h;exact ⟨_,kitx_none,trivial,fun z=>nomatch z⟩
  | bl b=>cases rx;cases h;exact ⟨_,kitx_bool,trivial,fun z=>nomatch z⟩
  | int i=>obtain ⟨t,rfl⟩:=rx;cases h;exact ⟨_,kitx_int,trivial,fun z=>nomatch z⟩
  | str i=>obtain ⟨t,rfl⟩:=rx;cases h;exact ⟨_,kitx_str,trivial,fun z=>nomatch z⟩
  | _=>cases h
 ·cases rx
  obtain ⟨its,r,pl,hz⟩:=I.list h
  obtain ⟨o,ho,hc,_⟩:=pl.isList
  exact ⟨_,kitx_list,⟨o,ho,hc⟩,fun z=>nomatch z⟩
 ·cases rx
  obtain ⟨its,r,⟨o,ho,hc,_⟩,hz⟩:=I.tuple h
  exact ⟨_,kitx_tuple,⟨o,ho,hc⟩,fun z=>nomatch z⟩
noncomputable def Kk (K:Frag):List V->Hp->VK->Prop:=fun xs H Q=>∃x n T,xs=[x,.ty n]/\TyX K H x T/\n∈je/\Q (.bl (yK T n)) H
theorem g8:fK X (.builtin "isinstance") (Kk X.K):=by
 intro pins s σ H xs us Q I r h
 obtain ⟨x,n,T,rfl,ty,hn,q⟩:=h
 obtain ⟨u,v,rfl,ru,rv⟩:=Dx r
 cases rv
 obtain ⟨φ,Z,p,ne⟩:=yL I ru ty
 exact kia_one Z I.kIn p (BE (w6 ty) hn) ne fun tk=>⟨.bl _,H,I.tok tk,rfl,q⟩
noncomputable def Kl (K:Frag):List V->Hp->VK->Prop:=fun xs H Q=>∃(x:V) (tp:Addr) (ns:List String) (T:String),xs=[x,.ref tp]/\SqT K H tp (ns.map V.ty)/\TyX K H x T/\(∀n∈ns,n∈je)/\Q (.bl (ns.any (yK T))) H
theorem BG:∀{ns:List String} {its:List Value},bz (ns.map V.ty) its->its=ns.map Value.type
 | [],_,h=>by cases h;rfl
 | n::r,_,h=>by
  cases h with
  | cons a b=>rw [BG b];cases a;rfl
theorem qY:fK X (.builtin "isinstance") (Kl X.K):=by
 intro pins s σ H xs us Q I r h
 obtain ⟨x,tp,ns,T,rfl,ht,ty,hn,q⟩:=h
 obtain ⟨u,v,rfl,ru,rv⟩:=Dx r
 cases rv
 obtain ⟨φ,Z,p,ne⟩:=yL I ru ty
 obtain ⟨its,rt,⟨o,ho,hc,n,hd⟩,hz⟩:=I.tuple ht
 obtain rfl:=BG rt
 obtain ⟨c,d,dt,sl⟩:=o
 dsimp only at hc hd
 subst hc hd
 exact kia_tup Z I.kIn p ho (BF (w6 ty) hn) ne fun tk=>⟨.bl _,H,I.tok tk,rfl,q⟩
end
inductive Dt where
 | flat (v:V)
 | lst (ds:List Dt)
 | tup (ds:List Dt)
inductive Rep (K:Frag)(H:Hp):Nat->V->Dt->Prop
 | flat {n:Nat} {v:V} (h:bg v=true):Rep K H n v (.flat v)
 | lst {n:Nat} {a:Addr} {xs:List V} {ds:List Dt} (hs:SqL K H a xs) (hb:xs.length<=100000) (hl:xs.length=ds.length) (hr:∀(i:Nat) x d,xs[i]?=some x->ds[i]?=some d->Rep K H n x d):Rep K H (n+1) (.ref a) (.lst ds)
 | tup {n:Nat} {a:Addr} {xs:List V} {ds:List Dt} (hs:SqT K H a xs) (hb:xs.length<=100000) (hl:xs.length=ds.length) (hr:∀(i:Nat) x d,xs[i]?=some x->ds[i]?=some d->Rep K H n x d):Rep K H (n+1) (.ref a) (.tup ds)
theorem av.tup {K:Frag}{H H':Hp}{a:Addr}{xs:List V}(e:av H H')(h:SqT K H a xs):SqT K H' a xs:=by
 rcases h with (h | ⟨o,h⟩) | h
 ·exact .inl (.inl (e _ _ h))
 ·exact .inl (.inr ⟨o,e _ _ h⟩)
 ·exact .inr h
theorem Rep.same {K:Frag}{H H':Hp}(s:av H H'){n:Nat}{x:V}{d:Dt}(h:Rep K H n x d):Rep K H' n x d:=by
 induction h with
 | flat h=>exact .flat h
 | lst hs hb hl _ ih=>exact .lst (s.seq hs) hb hl ih
 | tup hs hb hl _ ih=>exact .tup (s.tup hs) hb hl ih
theorem DW {P:Program}{w:World}{K:Frag}{mg:Str->Option Value}{base:Heap}{CX:CXT}{k:Nat}{f:Addr}{fd:FuncData}{ps:List Str}:fM P w K mg base CX k f fd ps (fun _ _ _ _=>False):=
 ⟨fun _ _ _ _ h=>h.elim,fun _ _ _ _ _ _ _ _ _ _ _ _ _ h=>h.elim⟩
theorem ju {α:Type}{xs:List α}{k:Nat}{v:α}(h:xs[k]?=some v):atI xs (k:Int)=some v:=Bv h
end L2
namespace L2
open PySem PySem.Spec PyProof.Rows
noncomputable abbrev Ld:=Str×Int×Int
noncomputable def ldV (x:Ld):List V:=[.str x.1,.int x.2.1,.int x.2.2]
def eC (K:WA)(H:Hp)(as:List Addr)(ls:List Ld):Prop:=as.length=ls.length/\∀(i:Nat) a x,as[i]?=some a->ls[i]?=some x->SqT K H a (ldV x)
def dX (K:WA)(H:Hp)(l:Addr)(ls:List Ld):Prop:=∃as:List Addr,SqL K H l (as.map V.ref)/\eC K H as ls
def jv (m:Int)(x:Ld):Prop:=(0<=x.2.1/\x.2.1 < m)/\(0<=x.2.2/\x.2.2 < m)
def Ar (x:Ld):Prop:=x.1="men"\/x.1="coal"
theorem eC.same {K:WA}{H H':Hp}{as:List Addr}{ls:List Ld}(s:av H H')(h:eC K H as ls):eC K H' as ls:=⟨h.1,fun i a x e1 e2=>s.tup (h.2 i a x e1 e2)⟩
theorem dX.same {K:WA}{H H':Hp}{l:Addr}{ls:List Ld}(s:av H H')(h:dX K H l ls):dX K H' l ls:=by
 obtain ⟨as,a,b⟩:=h
 exact ⟨as,s.seq a,b.same s⟩
theorem eC.nil {K:WA}{H:Hp}:eC K H [] []:=⟨rfl,fun i a x e _=>by simp at e⟩
theorem eC.app {K:WA}{H:Hp}{as bs:List Addr}{ls ks:List Ld}(h:eC K H as ls)(g:eC K H bs ks):eC K H (as++bs) (ls++ks):=by
 refine ⟨by rw [List.length_append,List.length_append,h.1,g.1],fun i a x e1 e2=>?_⟩
 by_cases hi:i < as.length
 ·rw [List.getElem?_append_left hi] at e1
  rw [List.getElem?_append_left (by rw [←h.1];exact hi)] at e2
  exact h.2 i a x e1 e2
 ·rw [List.getElem?_append_right (by omega)] at e1
  rw [List.getElem?_append_right (by rw [←h.1];omega),←h.1] at e2
  exact g.2 _ a x e1 e2
theorem eC.one {K:WA}{H:Hp}{a:Addr}{x:Ld}(h:SqT K H a (ldV x)):eC K H [a] [x]:=by
 refine ⟨rfl,fun i b y e1 e2=>?_⟩
 cases i with
 | zero=>cases e1;cases e2;exact h
 | succ i=>simp at e1
noncomputable def ldD (x:Ld):Dt:=.tup [.flat (.str x.1),.flat (.int x.2.1),.flat (.int x.2.2)]
theorem I8 {K:WA}{H:Hp}{a:Addr}{x:Ld}{n:Nat}(h:SqT K H a (ldV x)):Rep K H (n+1) (.ref a) (ldD x):=by
 refine .tup h (by show 3<=100000;decide) rfl fun i y d e1 e2=>?_
 match i,e1,e2 with
 | 0,e1,e2=>cases e1;cases e2;exact .flat rfl
 | 1,e1,e2=>cases e1;cases e2;exact .flat rfl
 | 2,e1,e2=>cases e1;cases e2;exact .flat rfl
 | i+3,e1,e2=>simp [ldV] at e1
theorem w8 {K:WA}{H:Hp}{l:Addr}{ls:List Ld}{n:Nat}(h:dX K H l ls)(hb:ls.length<=100000):Rep K H (n+2) (.ref l) (.lst (ls.map ldD)):=by
 obtain ⟨as,hs,hl,ht⟩:=h
 refine .lst hs (by rw [WB];omega) (by rw [WB,WB];exact hl) fun i x d e1 e2=>?_
 rw [List.getElem?_map] at e1 e2
 obtain ⟨a,ea,rfl⟩:=Option.map_eq_some_iff.mp e1
 obtain ⟨y,ey,rfl⟩:=Option.map_eq_some_iff.mp e2
 exact I8 (ht i a y ea ey)
theorem SqT.rew {K:WA}{H:Hp}{a l:Addr}{xs ys:List V}{o:HO}(h:SqT K H a xs)(hl:H l=some (.lst ys)):SqT K (upd H l o) a xs:=by
 rcases h with (h | ⟨o',h⟩) | h
 ·refine .inl (.inl ?_)
  rw [aK (fun e=>by rw [e,hl] at h;cases h)];exact h
 ·refine .inl (.inr ⟨o',?_⟩)
  rw [aK (fun e=>by rw [e,hl] at h;cases h)];exact h
 ·exact .inr h
theorem eC.rew {K:WA}{H:Hp}{as:List Addr}{ls:List Ld}{l:Addr}{ys:List V}{o:HO}(h:eC K H as ls)(hl:H l=some (.lst ys)):eC K (upd H l o) as ls:=⟨h.1,fun i a x e1 e2=>(h.2 i a x e1 e2).rew hl⟩
theorem DY {r:Int}(h0:0<=r)(h1:r < 2):∃k:Str,(k="men"\/k="coal")/\atI [V.str "men",V.str "coal"] r=some (.str k):=by
 rcases (by omega:r=0\/r=1) with rfl | rfl
 ·exact ⟨"men",.inl rfl,rfl⟩
 ·exact ⟨"coal",.inr rfl,rfl⟩
theorem lY {J:It}{g:TG}{tc:TT}{te:TE}{cm:List (Option Nat)}{σ:St}{Q:VK}{H:Hp}(n:Nat)(Pv:Nat->List V->Hp->Prop)(h0:Pv 0 [] H)
  (hgo:∀i acc H,i < n->Pv i acc H->J.go i H) (hst:∀acc H,Pv n acc H->J.stop n H)
  (hs:∀i acc H,i < n->Pv i acc H->acc.length < sizeLine/\∀x H',J.yld i H x H'->∀M:List V->Hp->Prop,(∀acc' H',Pv (i+1) acc' H'->M acc' H')->g x (cv cm σ) H' fun σ2 H2=>Wk (cv cm σ) σ2/\tc σ2 H2 fun b H3=>if b=true then te σ2 H3 fun v H4=>M (acc++[v]) H4 else M acc H3)
  (hd:∀acc H,Pv n acc H->∀p,H p=none->Q (.ref p) (upd H p (.lst acc))):pC J g tc te cm σ Q H:=by
 refine ⟨fun i m acc H=>m=n - i/\i<=n/\Pv i acc H,⟨n,by simp,Nat.zero_le _,h0⟩,?_⟩
 rintro i m acc H ⟨rfl,hi,p⟩
 by_cases hlt:i < n
 ·obtain ⟨hz,q⟩:=hs i acc H hlt p
  refine .inr ⟨hgo i acc H hlt p,hz,fun x H' y=>q x H' y (fun acc' H4=>∃m',m' < n - i/\m'=n - (i+1)/\i+1<=n/\Pv (i+1) acc' H4) fun acc' H4 q=>⟨n - (i+1),by omega,rfl,hlt,q⟩⟩
 ·have e:i=n:=by omega
  subst e
  exact .inl ⟨hst acc H p,hd acc H p⟩
theorem DZ {σ:St}{j:Nat}{x:V}(hj:σ[j]?=some none):Wk σ (σ.set j (some x)):=by
 refine ⟨by simp,fun k v e=>?_⟩
 by_cases hk:j=k
 ·subst hk;rw [hj] at e;cases e
 ·rw [List.getElem?_set_ne hk];exact e
theorem pD {lo:Int}{n:Nat}{te:TE}{cm:List (Option Nat)}{σ:St}{H:Hp}{Q:VK}(Pv:Nat->List V->Hp->Prop)(h0:Pv 0 [] H){j:Nat}(hj:(cv cm σ)[j]?=some none)
  (hs:∀i acc H,i < n->Pv i acc H->acc.length < sizeLine/\∀N:VK,(∀v H',Pv (i+1) (acc++[v]) H'->N v H')->te ((cv cm σ).set j (some (.int (lo+i)))) H N)
  (hd:∀acc H,Pv n acc H->∀p,H p=none->Q (.ref p) (upd H p (.lst acc))):pC (Itr lo n) (dP j) tF te cm σ Q H:=by
 refine lY n Pv h0 (fun i _ _ hi _=>hi) (fun _ _ _=>Nat.le_refl _) (fun i acc H hi p=>⟨(hs i acc H hi p).1,fun x H' y M hM=>?_⟩) hd
 obtain ⟨e,y⟩:=y
 subst e y
 refine ⟨DZ hj,?_⟩
 unfold tF;dsimp only
 split
 ·exact (hs i acc H' hi p).2 _ fun v H4 q=>hM _ _ q
 ·rename_i z;exact absurd rfl z
theorem dj {K:WA}{H:Hp}{a:Addr}{xs:List V}{n:Nat}(h:SqT K H a xs)(hb:xs.length<=100000)(hf:∀x∈xs,bg x=true):Rep K H (n+1) (.ref a) (.tup (xs.map Dt.flat)):=by
 refine .tup h hb (by rw [WB]) fun i y d e1 e2=>?_
 rw [List.getElem?_map,e1] at e2
 cases e2
 exact .flat (hf y (List.mem_of_getElem? e1))
theorem w9 {K:WA}{H:Hp}{a:Addr}{x y z:V}{d e f:Dt}{n:Nat}(h:SqL K H a [x,y,z])(h1:Rep K H n x d)(h2:Rep K H n y e)(h3:Rep K H n z f):Rep K H (n+1) (.ref a) (.lst [d,e,f]):=by
 refine .lst h (by show 3<=100000;decide) rfl fun i v w e1 e2=>?_
 match i,e1,e2 with
 | 0,e1,e2=>cases e1;cases e2;exact h1
 | 1,e1,e2=>cases e1;cases e2;exact h2
 | 2,e1,e2=>cases e1;cases e2;exact h3
 | i+3,e1,e2=>simp at e1
section
variable {X:Cx}{e:Expr}{te:TE}{p1 p2 pos1 pos2:Pos}
theorem xa:∀{vs:List Value} {ms:List Int},IntsAre vs ms->bz (ms.map V.int) vs
 | _,_,.nil=>.nil
 | _,_,.cons n t h=>.cons ⟨t,rfl⟩ (xa h)
theorem qZ:∀{ms:List Int} {vs:List Value},bz (ms.map V.int) vs->IntsAre vs ms
 | [],_,h=>by cases h;exact .nil
 | m::ms,_,h=>by
  cases h with
  | cons a b=>
   obtain ⟨t,rfl⟩:=a
   exact .cons m t (qZ b)
end
section
variable {X:Cx}
theorem Inv.turnedL {pins:List (Addr×Obj)}{σ:St}{H:Hp}{s:Shared}{h':Heap}{t':Nat}{fp:List Addr}(I:Inv X pins σ H s)(k:∀b o,b∉fp->s.heap.get? b=some o->h'.get? b=some o)(hf:∀b∈fp,qS X pins H b) :
  Inv X pins σ H {s with heap:=h',toks:=t'}:=by
 have nit:∀b u,H b=some u->b∉fp:=fun b u e z=>by rw [(hf b z).1] at e;cases e
 refine I.step (g':=s.gens) (d':=s.drawn) (ch:=fp) (fun b hb=>⟨(hf b hb).2.2.2.1,(hf b hb).2.1,(hf b hb).2.2.2.2.1,(hf b hb).2.2.2.2.2⟩) (fun b o _ _ hc e _=>k b o hc e) (fun b o _ _ hc e _=>⟨o.slots,k b o hc e⟩) (fun _ _ _ _ n=>n)
  (fun b o hc e=>⟨o,k b o hc e⟩) (fun _ _ e=>e) (fun _ _ _ e=>e) (fun b ps e=>⟨#[],by rw [e];simp⟩) (fun m hm=>?_) (fun b u e=>?_) I.bare
 ·obtain ⟨o,es,ep,ho,r⟩:=hm
  exact ⟨o,es,ep,k _ o (fun z=>(hf _ z).2.1 rfl) ho,r⟩
 ·refine (I.hok b u e).stay (fun c v hc q=>k c v ?_ q) (fun _ q=>q) fun _ _ q=>q
  rcases hc with z | z
  ·exact z▸nit b u e
  ·exact nit c _ z
theorem Inv.handed {pins:List (Addr×Obj)}{σ:St}{H:Hp}{s:Shared}{h':Heap}{t':Nat}{fp:List Addr}{xs:List V}{us:List Value}{T:Addr}{n:Nat}(I:Inv X pins σ H s)(k:∀b o,b∉fp->s.heap.get? b=some o->h'.get? b=some o)(hf:∀b∈fp,qS X pins H b)
  (hT:s.heap.objs.size<=T) (hz:xs.length<=sizeLine) (r:bz xs us) (e:h'.get? T=some {cls:=.type "tuple",data:=.seq us.toArray n}):Inv X pins σ (upd H T (.tup xs)) {s with heap:=h',toks:=t'}:=by
 have I1:Inv X pins σ H {s with heap:=h',toks:=t'}:=I.turnedL k hf
 have hn:H T=none:=I.hok.fresh hT
 obtain ⟨f0,f1,f2,f3,f4,f5⟩:=I.fpOk hT hn
 have h0:X.s₀.heap.objs.size<=T:=Nat.le_trans I.sz hT
 exact I1.track hn h0 f1 f4 f5 ⟨hz,us,r,⟨_,e,⟨rfl,_,rfl⟩,rfl⟩⟩
noncomputable def Ite (K:WA)(a:Addr):It:=
 ⟨fun i H=>∃xs x,SqL K H a xs/\xs[i]?=some x,fun i H y H'=>∃t x,y=.ref t/\H t=none/\H'=upd H t (.tup [.int (i:Nat),x])/\∀xs,SqL K H a xs->xs[i]?=some x,fun i H=>∃xs,SqL K H a xs/\xs.length<=i⟩
theorem Cu {P:Program}{w:World}{K:WA}{elts:List Expr}{x1:Nat}{tpos:Pos}(a e it:Addr)(hne:e≠it):zV P w K (.Tuple elts x1 tpos) (Ite K a) [e,it] e (fun i h=>(∃old,IsEnum h e it (i:Nat) old)/\h.IsListIter it a i) where
 mem:=by simp
 obj:=fun i h st b hb=>by
  obtain ⟨⟨old,h1⟩,o,h2,_,h3⟩:=st
  rcases List.mem_cons.mp hb with rfl | hb
  ·exact ⟨_,h1,fun v z=>by
    have z':Data.fields _=Data.cell v:=z
    cases z'⟩
  ·rw [List.mem_singleton] at hb
   subst hb
   exact ⟨o,h2,fun v z=>by rw [h3] at z;cases z⟩
 keep:=fun i h h' st k=>by
  obtain ⟨⟨old,h1⟩,h2⟩:=st
  exact ⟨⟨old,k e (by simp) _ h1⟩,h2.at fun o q=>k it (by simp) o q⟩
 item:=by
  intro X hP hw hK hc i pins s σ H E I hf st hg
  subst hP hw hK
  obtain ⟨xs,x,hq,hx⟩:=hg
  obtain ⟨its,rv,p,hz⟩:=I.list hq
  obtain ⟨u,hu,ru⟩:=rv.get hx
  obtain ⟨⟨old,h1⟩,h2⟩:=st
  have hel:e < s.heap.objs.size:=Heap.lt_size h1
  have hil:it < s.heap.objs.size:=by
   obtain ⟨o,q,_⟩:=h2
   exact Heap.lt_size q
  refine wpAny_pyNext_enum_item h1 h2 p.isList (x:=u) (by simpa using hu) hne fun h' g1 g2 g3 g4 g5=>?_
  have kf:∀b o,b∉[e,it]->s.heap.get? b=some o->h'.get? b=some o:=fun b o hb q=>g5 b o (fun z=>hb (by simp [z])) (fun z=>hb (by simp [z])) q
  have I1:Inv X pins σ (upd H s.heap.objs.size (.tup [.int (i:Nat),x])) {s with heap:=h',toks:=s.toks+1}:=I.handed (us:=[Value.int (i:Nat) s.toks,u]) kf hf (Nat.le_refl _) (by show 2<=sizeLine;decide) (.cons ⟨_,rfl⟩ (.cons ru .nil)) g3
  have hn:H s.heap.objs.size=none:=I.hok.fresh (Nat.le_refl _)
  have hf1:∀b∈[e,it],upd H s.heap.objs.size (.tup [.int (i:Nat),x]) b=none:=fun b hb=>by
   have hlt:b < s.heap.objs.size:=by
    rcases List.mem_cons.mp hb with rfl | hb
    ·exact hel
    ·rw [List.mem_singleton] at hb
     subst hb
     exact hil
   rw [aK (Nat.ne_of_lt hlt)]
   exact (hf b hb).1
  refine ⟨_,rfl,wpAny_letOwnedTupleGo_enum (s:={s with heap:=h',toks:=s.toks+1}) g1 fun h2' q1 q2=>?_⟩
  have I2:Inv X pins σ (upd H s.heap.objs.size (.tup [.int (i:Nat),x])) {s with heap:=h2',toks:=s.toks+1}:=I1.turnedL (s:={s with heap:=h',toks:=s.toks+1}) (t':=s.toks+1) (fp:=[e,it]) (fun b o hb q=>(q2.2 b (fun z=>hb (by simp [z]))).trans q) fun b hb=>⟨hf1 b hb,(hf b hb).2⟩
  refine ⟨.ref s.heap.objs.size,_,I2,rfl,⟨_,x,rfl,hn,rfl,fun ys hy=>by rw [I.list_inj hy hq];exact hx⟩,⟨⟨u,?_⟩,?_⟩,hf1⟩
  ·have:((i+1:Nat):Int)=(i:Int)+1:=by omega
   rw [this]
   exact q1
  ·exact g2.at fun o q=>(q2.2 it (Ne.symm hne)).trans q
 done:=by
  intro X hP hw hK hc i pins s σ H E I hf st hg
  subst hP hw hK
  obtain ⟨xs,hq,hx⟩:=hg
  obtain ⟨its,rv,p,hz⟩:=I.list hq
  have hl:=rv.length
  obtain ⟨⟨old,h1⟩,h2⟩:=st
  exact wpAny_pyNext_enum_end (I.ok.hd hc) h1 h2 p.isList (by simp;omega) fun h' eb=>⟨rfl,I.turnedL (t':=s.toks) (fun b o hb q=>eb b o (fun z=>hb (by simp [z])) q) hf⟩
 self:=fun _ _ _ _ _ st h=>by
  obtain ⟨⟨old,h1⟩,h2⟩:=st
  exact wpAny_pyIter_enum h1 h
noncomputable def Ht (K:WA)(te:TE):TI:=fun σ H R=>te σ H fun x H1=>∃a,x=.ref a/\(∃xs,SqL K H1 a xs)/\R (Ite K a) H1
theorem FN {a:Expr}{te:TE}{p pos tpos:Pos}{elts:List Expr}{x1:Nat}(hg:Gl X "enumerate")(hm:X.mg "enumerate"=none)(hb:bootBuiltins "enumerate"=some (.type "enumerate"))(he:PE X a te)(hs:starEach [a] X.env=[(false,eval a X.env)]:=by rfl) :
  PI X (.Tuple elts x1 tpos) (.Call (.Name "enumerate" p) [a] [] pos) (Ht X.K te):=by
 intro pins s σ H R I h
 refine Call_ (om I hg hm hb (PyProof.Rows.callWith_type1 ?_ hs rfl))
 rw [hs]
 refine Calls.spliced_cons (thn (he pins s σ H _ I h) fun u s1 ⟨x,H1,I1,r1,l,ex,⟨xs,hq⟩,q⟩=>?_)
 subst ex
 cases r1
 refine Calls.spliced_nil ?_
 obtain ⟨its,rv,pl,hz⟩:=I1.list hq
 refine call_enumerate_list pl.isList fun h' h1 h2 h3 h4=>?_
 refine wpAny_pyIter_enum h1 ?_
 have hne:s1.heap.objs.size+1≠s1.heap.objs.size:=Nat.ne_of_gt (Nat.lt_succ_self _)
 refine ⟨s1.heap.objs.size+1,[s1.heap.objs.size+1,s1.heap.objs.size],_,_,H1,rfl,I1.kept (t':=s1.toks) h4,Cu l _ _ hne,⟨⟨_,h1⟩,h2⟩,fun b hb=>?_,q⟩
 rcases List.mem_cons.mp hb with rfl | hb
 ·exact I1.fpOk (Nat.le_succ _) (I1.hok.fresh (Nat.le_succ _))
 ·rw [List.mem_singleton] at hb
  subst hb
  exact I1.fpOk (Nat.le_refl _) (I1.hok.fresh (Nat.le_refl _))
noncomputable def Itz (K:WA)(a b:Addr):It:=
 ⟨fun i H=>∃xs ys x y,SqL K H a xs/\SqL K H b ys/\xs[i]?=some x/\ys[i]?=some y,fun i H v H'=>∃t x y,v=.ref t/\H t=none/\H'=upd H t (.tup [x,y])/\(∀xs,SqL K H a xs->xs[i]?=some x)/\∀ys,SqL K H b ys->ys[i]?=some y,
  fun i H=>∃xs ys,SqL K H a xs/\SqL K H b ys/\(xs.length<=i\/ys.length<=i)⟩
theorem Ea {P:Program}{w:World}{K:WA}{elts:List Expr}{x1:Nat}{tpos:Pos}(l1 l2 z TI TO i1 i2:Addr)(D:ZipApart z TI TO i1 i2 l1 l2) :
  zV P w K (.Tuple elts x1 tpos) (Itz K l1 l2) [z,TI,TO,i1,i2] z (fun i h=>IsZip h z TI TO .none/\IsPair h TI (.ref i1) (.ref i2)/\(∃u v,IsPair h TO u v)/\h.IsListIter i1 l1 i/\h.IsListIter i2 l2 i) where
 mem:=by simp
 obj:=fun i h st b hb=>by
  obtain ⟨h1,h2,⟨u,v,h3⟩,⟨o4,h4,_,d4⟩,⟨o5,h5,_,d5⟩⟩:=st
  simp only [List.mem_cons,List.not_mem_nil,or_false] at hb
  rcases hb with rfl | rfl | rfl | rfl | rfl
  ·exact ⟨_,h1,fun v z=>by
    have z':Data.fields _=Data.cell v:=z
    cases z'⟩
  ·exact ⟨_,h2,fun v z=>by
    have z':Data.seq _ _=Data.cell v:=z
    cases z'⟩
  ·exact ⟨_,h3,fun v z=>by
    have z':Data.seq _ _=Data.cell v:=z
    cases z'⟩
  ·exact ⟨o4,h4,fun v z=>by rw [d4] at z;cases z⟩
  ·exact ⟨o5,h5,fun v z=>by rw [d5] at z;cases z⟩
 keep:=fun i h h' st k=>by
  obtain ⟨h1,h2,⟨u,v,h3⟩,h4,h5⟩:=st
  exact ⟨k z (by simp) _ h1,k TI (by simp) _ h2,⟨u,v,k TO (by simp) _ h3⟩,h4.at fun o q=>k i1 (by simp) o q,h5.at fun o q=>k i2 (by simp) o q⟩
 item:=by
  intro X hP hw hK hc i pins s σ H E I hf st hg
  subst hP hw hK
  obtain ⟨xs,ys,x,y,hq1,hq2,hx,hy⟩:=hg
  obtain ⟨its1,rv1,p1,hz1⟩:=I.list hq1
  obtain ⟨its2,rv2,p2,hz2⟩:=I.list hq2
  obtain ⟨u,hu,ru⟩:=rv1.get hx
  obtain ⟨v,hv,rv⟩:=rv2.get hy
  obtain ⟨h1,h2,⟨c1,c2,h3⟩,h4,h5⟩:=st
  have lt:∀b∈[z,TI,TO,i1,i2],b < s.heap.objs.size:=fun b hb=>by
   simp only [List.mem_cons,List.not_mem_nil,or_false] at hb
   rcases hb with rfl | rfl | rfl | rfl | rfl
   ·exact Heap.lt_size h1
   ·exact Heap.lt_size h2
   ·exact Heap.lt_size h3
   ·obtain ⟨o,q,_⟩:=h4;exact Heap.lt_size q
   ·obtain ⟨o,q,_⟩:=h5;exact Heap.lt_size q
  refine wpAny_pyNext_zip_item D h1 h2 h3 h4 h5 p1.isList p2.isList (x:=u) (y:=v) (by simpa using hu) (by simpa using hv) fun h' g1 g2 g3 g4 g5 g6 g7=>?_
  have kf:∀b o,b∉[z,TI,TO,i1,i2]->s.heap.get? b=some o->h'.get? b=some o:=fun b o hb q=>g7 b o (fun e=>hb (by simp [e])) (fun e=>hb (by simp [e])) (fun e=>hb (by simp [e])) (fun e=>hb (by simp [e])) q
  have I1:Inv X pins σ (upd H s.heap.objs.size (.tup [x,y])) {s with heap:=h',toks:=s.toks}:=I.handed (us:=[u,v]) kf hf (Nat.le_refl _) (by show 2<=sizeLine;decide) (.cons ru (.cons rv .nil)) g5
  have hn:H s.heap.objs.size=none:=I.hok.fresh (Nat.le_refl _)
  have hf1:∀b∈[z,TI,TO,i1,i2],upd H s.heap.objs.size (.tup [x,y]) b=none:=fun b hb=>by
   rw [aK (Nat.ne_of_lt (lt b hb))]
   exact (hf b hb).1
  refine ⟨_,rfl,wpAny_letOwnedTupleGo_zip (s:={s with heap:=h'}) g1 fun h2' q1 q2=>?_⟩
  have I2:Inv X pins σ (upd H s.heap.objs.size (.tup [x,y])) {s with heap:=h2',toks:=s.toks}:=I1.turnedL (s:={s with heap:=h',toks:=s.toks}) (t':=s.toks) (fp:=[z,TI,TO,i1,i2]) (fun b o hb q=>(q2.2 b (fun e=>hb (by simp [e]))).trans q) fun b hb=>⟨hf1 b hb,(hf b hb).2⟩
  have k2:∀b o,b≠z->h'.get? b=some o->h2'.get? b=some o:=fun b o hb q=>(q2.2 b hb).trans q
  have gTI:IsPair h' TI (.ref i1) (.ref i2):=g7 TI _ D.TIz D.TITO D.TIi1 D.TIi2 h2
  refine ⟨.ref s.heap.objs.size,_,I2,rfl,⟨_,x,y,rfl,hn,rfl,fun zs hz=>by rw [I.list_inj hz hq1];exact hx,fun zs hz=>by rw [I.list_inj hz hq2];exact hy⟩,⟨q1,k2 _ _ D.TIz gTI,⟨u,v,k2 _ _ D.TOz g2⟩,g3.at fun o q=>k2 _ _ D.i1z q,g4.at fun o q=>k2 _ _ D.i2z q⟩,hf1⟩
 done:=by
  intro X hP hw hK hc i pins s σ H E I hf st hg
  subst hP hw hK
  obtain ⟨xs,ys,hq1,hq2,hend⟩:=hg
  obtain ⟨its1,rv1,p1,hz1⟩:=I.list hq1
  obtain ⟨its2,rv2,p2,hz2⟩:=I.list hq2
  have hl1:=rv1.length
  have hl2:=rv2.length
  obtain ⟨h1,h2,⟨c1,c2,h3⟩,h4,h5⟩:=st
  refine wpAny_pyNext_zip_end (I.ok.hd hc) D h1 h2 h3 h4 h5 p1.isList p2.isList ?_ fun h' eb=>⟨rfl,I.turnedL (t':=s.toks) (fun b o hb q=>eb b o (fun e=>hb (by simp [e])) (fun e=>hb (by simp [e])) (fun e=>hb (by simp [e])) (fun e=>hb (by simp [e])) q) hf⟩
  rcases hend with e | e
  ·left;simp;omega
  ·right;simp;omega
 self:=fun _ _ _ _ _ st h=>wpAny_pyIter_zip st.1 h
noncomputable def Km (K:WA)(ta tb:TE):TI:=fun σ H R=>ta σ H fun x H1=>tb σ H1 fun y H2=>∃a b,x=.ref a/\y=.ref b/\(∃xs,SqL K H2 a xs)/\(∃ys,SqL K H2 b ys)/\R (Itz K a b) H2
theorem I9 {a b:Expr}{ta tb:TE}{p pos tpos:Pos}{elts:List Expr}{x1:Nat}(hg:Gl X "zip")(hm:X.mg "zip"=none)(hb:bootBuiltins "zip"=some (.type "zip"))(ha:PE X a ta)(hb2:PE X b tb)(hs:starEach [a,b] X.env=[(false,eval a X.env),(false,eval b X.env)]:=by rfl)(hs2:starEach [b] X.env=[(false,eval b X.env)]:=by rfl) :
  PI X (.Tuple elts x1 tpos) (.Call (.Name "zip" p) [a,b] [] pos) (Km X.K ta tb):=by
 intro pins s σ H R I h
 refine Call_ (om I hg hm hb (PyProof.Rows.callWith_type1 ?_ (by rw [hs,hs2]) (by rw [hs2];rfl)))
 rw [hs]
 refine Calls.spliced_cons (thn (ha pins s σ H _ I h) fun u s1 ⟨x,H1,I1,r1,q1⟩=>?_)
 refine Calls.spliced_cons (thn (hb2 pins s1 σ H1 _ I1 q1) fun v s2 ⟨y,H2,I2,r2,l1,l2,ex,ey,⟨xs,hq1⟩,⟨ys,hq2⟩,q⟩=>?_)
 subst ex ey
 cases r1
 cases r2
 refine Calls.spliced_nil ?_
 obtain ⟨its1,rv1,p1,hz1⟩:=I2.list hq1
 obtain ⟨its2,rv2,p2,hz2⟩:=I2.list hq2
 have a1:l1 < s2.heap.objs.size:=by obtain ⟨o,q,_⟩:=p1.isList;exact Heap.lt_size q
 have a2:l2 < s2.heap.objs.size:=by obtain ⟨o,q,_⟩:=p2.isList;exact Heap.lt_size q
 refine call_zip_2 p1.isList p2.isList fun h' h1 h2 h3 h4 h5 h6 h7=>?_
 refine wpAny_pyIter_zip h1 ?_
 have n0:∀l:Nat,l < s2.heap.objs.size->∀k:Nat,l≠s2.heap.objs.size+k:=fun l hl k=>by omega
 have n1:∀j k:Nat,j≠k->s2.heap.objs.size+j≠s2.heap.objs.size+k:=fun j k hjk=>by omega
 refine ⟨s2.heap.objs.size+4,[s2.heap.objs.size+4,s2.heap.objs.size+2,s2.heap.objs.size+3,s2.heap.objs.size+0,s2.heap.objs.size+1],_,_,H2,rfl,I2.kept (t':=s2.toks) h7,
  Ea l1 l2 _ _ _ _ _ ⟨n1 2 4 (by decide),n1 3 4 (by decide),n1 0 4 (by decide),n1 1 4 (by decide),n1 2 3 (by decide),n1 2 0 (by decide),n1 2 1 (by decide),n1 3 0 (by decide),n1 3 1 (by decide),n1 0 1 (by decide),n0 _ a1 4,n0 _ a1 3,n0 _ a1 0,n0 _ a1 1,n0 _ a2 4,n0 _ a2 3,n0 _ a2 0,n0 _ a2 1⟩,⟨h1,h2,⟨_,_,h3⟩,h4,h5⟩,fun b hb=>?_,q⟩
 have hle:s2.heap.objs.size<=b:=by
  simp only [List.mem_cons,List.not_mem_nil,or_false] at hb
  rcases hb with rfl | rfl | rfl | rfl | rfl<;>exact Nat.le_add_right _ _
 exact I2.fpOk hle (I2.hok.fresh hle)
end
theorem yM {J:It}{g:TG}{tb:TS}{D:gQ}{σ:St}{H:Hp}(n:Nat)(Pv:Nat->St->Hp->Prop)(h0:Pv 0 σ H)(hgo:∀i σ H,i < n->Pv i σ H->J.go i H)(hst:∀σ H,Pv n σ H->J.stop n H)
  (hs:∀i σ H,i < n->Pv i σ H->∀x H',J.yld i H x H'->g x σ H' fun σ2 H2=>tb {D with nx:=Pv (i+1),ct:=Pv (i+1),bk:=D.nx} σ2 H2) (hd:∀σ H,Pv n σ H->D.nx σ H):BB J g tb D σ H:=by
 refine ⟨fun i m σ H=>m=n - i/\i<=n/\Pv i σ H,⟨n,by simp,Nat.zero_le _,h0⟩,?_⟩
 rintro i m σ H ⟨rfl,hi,p⟩
 by_cases hlt:i < n
 ·exact .inr ⟨hgo i σ H hlt p,Pv (i+1),fun σ' H' q=>⟨n - (i+1),by omega,rfl,hlt,q⟩,fun x H' y=>hs i σ H hlt p x H' y⟩
 ·have e:i=n:=by omega
  subst e
  exact .inl ⟨hst σ H p,hd σ H p⟩
section
variable {X:Cx}
noncomputable def Jb (K:WA):V->List V->Hp->VK->Prop:=fun x vs H Q=>∃(l:Addr) (ns:List Int) (k:Int),x=.ref l/\vs=[.int k]/\SqL K H l (ns.map V.int)/\k∈ns/\Q (.int (ns.idxOf k:Nat)) H
end
def aA (p:Addr)(H H':Hp):Prop:=∀b o,b≠p->H b=some o->H' b=some o
theorem aA.of {p:Addr}{H H':Hp}(s:av H H'):aA p H H':=fun b o _ e=>s b o e
theorem aA.trans {p:Addr}{H H1 H2:Hp}(a:aA p H H1)(b:aA p H1 H2):aA p H H2:=fun c o n e=>b c o n (a c o n e)
theorem aA.put {p:Addr}{H H':Hp}{o:HO}(s:aA p H H'):aA p H (upd H' p o):=fun b u n e=>by rw [aK n];exact s b u n e
theorem Rd.keep {p a:Addr}{H H':Hp}{u:HO}(s:aA p H H')(n:a≠p)(h:Rd H a u):Rd H' a u:=by
 rcases h with h | ⟨o,h⟩
 ·exact .inl (s _ _ n h)
 ·exact .inr ⟨o,s _ _ n h⟩
theorem SqT.keep {K:WA}{p a:Addr}{H H':Hp}{xs ys:List V}(s:aA p H H')(hp:H p=some (.lst ys))(h:SqT K H a xs):SqT K H' a xs:=by
 rcases h with h | h
 ·refine .inl (h.keep s fun z=>?_)
  subst z
  rcases h with h | ⟨o,h⟩
  ·rw [hp] at h;cases h
  ·rw [hp] at h;cases h
 ·exact .inr h
theorem Rd.keepI {p a C dx:Addr}{H H':Hp}{fs:List (Str×V)}{u:HO}(s:aA p H H')(hp:H p=some (.ins C dx fs))(hu:∀C dx fs,u≠.ins C dx fs)(h:Rd H a u):Rd H' a u:=by
 refine h.keep s fun z=>?_
 subst z
 rcases h with h | ⟨o,h⟩
 ·rw [hp] at h;cases h;exact hu _ _ _ rfl
 ·rw [hp] at h;cases h
theorem SqL.keepI {K:WA}{p a C dx:Addr}{H H':Hp}{xs:List V}{fs:List (Str×V)}(s:aA p H H')(hp:H p=some (.ins C dx fs))(h:SqL K H a xs):SqL K H' a xs:=by
 rcases h with h | h
 ·exact .inl (h.keepI s hp fun _ _ _ z=>HO.noConfusion z)
 ·exact .inr h
theorem SqT.keepI {K:WA}{p a C dx:Addr}{H H':Hp}{xs:List V}{fs:List (Str×V)}(s:aA p H H')(hp:H p=some (.ins C dx fs))(h:SqT K H a xs):SqT K H' a xs:=by
 rcases h with h | h
 ·exact .inl (h.keepI s hp fun _ _ _ z=>HO.noConfusion z)
 ·exact .inr h
theorem dX.keepI {K:WA}{p l C dx:Addr}{H H':Hp}{ls:List Ld}{fs:List (Str×V)}(s:aA p H H')(hp:H p=some (.ins C dx fs))(h:dX K H l ls):dX K H' l ls:=by
 obtain ⟨as,a,b⟩:=h
 exact ⟨as,a.keepI s hp,b.1,fun i a x e1 e2=>(b.2 i a x e1 e2).keepI s hp⟩
structure cS (C:Addr)(H:Hp)(y kn wh:Addr)(ks:List Str)(ws:List Int)(m:Int):Prop where
 ob:∃dx,H y=some (.ins C dx [("kinds",.ref kn),("where",.ref wh),("many",.int m)])
 okn:H kn=some (.lst (ks.map V.str))
 owh:H wh=some (.lst (ws.map V.int))
theorem cS.same {C:Addr}{H H':Hp}{y kn wh:Addr}{ks:List Str}{ws:List Int}{m:Int}(h:cS C H y kn wh ks ws m)(s:av H H'):cS C H' y kn wh ks ws m:=by
 obtain ⟨⟨dx,a⟩,b,c⟩:=h
 exact ⟨⟨dx,s _ _ a⟩,s _ _ b,s _ _ c⟩
theorem cS.off {C:Addr}{H H':Hp}{p y kn wh:Addr}{ks:List Str}{ws:List Int}{m:Int}{ys:List V}(h:cS C H y kn wh ks ws m)(s:aA p H H')(hp:H p=some (.lst ys))(n1:kn≠p)(n2:wh≠p):cS C H' y kn wh ks ws m:=by
 obtain ⟨⟨dx,a⟩,b,c⟩:=h
 exact ⟨⟨dx,s _ _ (fun z=>by rw [z,hp] at a;cases a) a⟩,s _ _ n1 b,s _ _ n2 c⟩
theorem cS.put {C:Addr}{H H':Hp}{y kn wh:Addr}{ks:List Str}{ws ws':List Int}{m:Int}(h:cS C H y kn wh ks ws m)(s:aA wh H H')(n1:kn≠wh)(e:H' wh=some (.lst (ws'.map V.int))):cS C H' y kn wh ks ws' m:=by
 obtain ⟨⟨dx,a⟩,b,c⟩:=h
 exact ⟨⟨dx,s _ _ (fun z=>by rw [z,c] at a;cases a) a⟩,s _ _ n1 b,e⟩
theorem Eb {K:WA}{l:Addr}{ls:List Ld}{te:TE}{cm:List (Option Nat)}{σ:St}{H:Hp}{Q:VK}(f:Ld->V)(hL:dX K H l ls)(hn:ls.length<=sizeLine)(hcm:cv cm σ=[none,none,none])
  (he:∀x∈ls,∀N:VK,N (f x) H->te [some (.str x.1),some (.int x.2.1),some (.int x.2.2)] H N)
  (hd:∀p,H p=none->Q (.ref p) (upd H p (.lst (ls.map f)))):pC (Itl K l) (Iq K 3 (yE (dP 0) (yE (dP 1) (yE (dP 2) Ip)))) tF te cm σ Q H:=by
 obtain ⟨as,hS,hlen,hT⟩:=hL
 refine lY ls.length (fun i acc H'=>H'=H/\acc=(ls.take i).map f) ⟨rfl,by simp⟩ ?_ ?_ ?_ ?_
 ·rintro i acc H' hi ⟨rfl,_⟩
  have ha:as[i]?=some as[i]:=List.getElem?_eq_getElem (by omega)
  exact ⟨_,.ref as[i],hS,by rw [List.getElem?_map,ha];rfl⟩
 ·rintro acc H' ⟨rfl,_⟩
  exact ⟨_,hS,by rw [WB];omega⟩
 ·rintro i acc H' hi ⟨rfl,rfl⟩
  have ha:as[i]?=some as[i]:=List.getElem?_eq_getElem (by omega)
  have hx:ls[i]?=some ls[i]:=List.getElem?_eq_getElem hi
  refine ⟨by rw [WB,List.length_take];omega,fun x H2 y M hM=>?_⟩
  obtain ⟨e,y⟩:=y
  subst e
  have hy:=y _ hS
  rw [List.getElem?_map,ha] at hy
  cases hy
  rw [hcm]
  refine ⟨_,_,rfl,hT i _ _ ha hx,rfl,_,_,rfl,_,_,rfl,_,_,rfl,rfl,⟨rfl,fun k v e=>?_⟩,?_⟩
  ·match k,e with
   | 0,e=>cases e
   | 1,e=>cases e
   | 2,e=>cases e
  ·unfold tF;dsimp only
   split
   ·refine he ls[i] (List.getElem_mem _) _ (hM _ _ ⟨rfl,?_⟩)
    rw [List.take_succ_eq_append_getElem hi,List.map_append];rfl
   ·rename_i z;exact absurd rfl z
 ·rintro acc H' ⟨rfl,rfl⟩ p hp
  rw [List.take_length]
  exact hd p hp
theorem ur {n:Nat}{i:Int}(h0:0<=i)(h1:i < n):ixN n i=some i.toNat:=by
 unfold ixN
 rw [if_pos h0,if_pos h1]
theorem cM {ds:List Int}{i:Nat}(h:i < ds.length):ds.getD i 0∈ds:=by
 rw [List.getD_eq_getElem?_getD,List.getElem?_eq_getElem h]
 exact List.getElem_mem h
theorem ke {ds:List Int}{i:Nat}(h:i < ds.length):ds[i]?=some (ds.getD i 0):=by
 rw [List.getD_eq_getElem?_getD,List.getElem?_eq_getElem h];rfl
theorem xb {c:Int}(h0:0<=c)(h1:c < 2):atI [V.int 10,V.int 11] c=some (.int (10+c)):=by
 rcases (by omega:c=0\/c=1) with rfl | rfl<;>rfl
theorem Cv {ws:List Int}{k:Int}{i:Nat}(hi:i < ws.length)(he:ws.getD i 0=k)(hn:∀j,j < i->ws.getD j 0≠k):ws.idxOf k=i:=by
 have hm:k∈ws:=he▸cM hi
 have hlt:ws.idxOf k < ws.length:=List.idxOf_lt_length_iff.mpr hm
 have e1:ws.getD (ws.idxOf k) 0=k:=by
  rw [List.getD_eq_getElem?_getD,List.getElem?_eq_getElem hlt]
  exact List.getElem_idxOf hlt
 rcases Nat.lt_trichotomy (ws.idxOf k) i with h | h | h
 ·exact absurd e1 (hn _ h)
 ·exact h
 ·have:=ne_of_lt_idxOf (ns:=ws) (k:=k) h (by omega)
  rw [List.getD_eq_getElem?_getD,List.getElem?_eq_getElem hi] at he
  exact absurd he (by simpa using this)
section
variable {X:Cx}
theorem As {tg iter elt:Expr}{ifs:List Expr}{scope:Scope}{pos spos py:Pos}{Nc:List Str}{cm:List (Option Nat)}{wi:TI}{g:TG}{tc:TT}{te:TE}{iy:Nat}{y:Str}(hN:X.N.Nodup)(hiy:X.N[iy]?=some y)(hly:X.env.scope.names.lookup y=some .local)
  (hsw:swapsWith (.ListComp elt [⟨tg,iter,ifs,0⟩] scope pos) (some (.Name y py)) spos.line X.env=pure true)
  (hc:X.calm=true) (hi:PI X tg iter wi) (hkind:scope.kind=.function) (hcell:∀y∈scope.names,y.2≠.cell) (hnames:∀y∈scope.names,y.2=.local->scope.names.lookup y.1=some .local)
  (hfree:∀y∈scope.names,y.2=.free->X.env.kindOf y.1=some .cell\/X.env.kindOf y.1=some .free) (hlen:cm.length=Nc.length)
  (hcm:∀(j:Nat) (x:Str) (i:Nat),Nc[j]?=some x->cm[j]?=some (some i)->X.N[i]?=some x/\scope.names.lookup x=some .free/\(X.env.kindOf x=some .cell\/X.env.kindOf x=some .free))
  (hg:∀C s₀ H₀ ex,PG (blk X Nc scope C s₀ H₀ ex) tg g) (ht:∀C s₀ H₀ ex,PIf (blk X Nc scope C s₀ H₀ ex) ifs tc) (he:∀C s₀ H₀ ex,PE (blk X Nc scope C s₀ H₀ ex) elt te)
  (hs:∀x,foldedSetIterable iter X.env x=pure x:=by intro _;rfl):PS X (.Assign [.Name y py] (.ListComp elt [⟨tg,iter,ifs,0⟩] scope pos) spos) (zU (um wi g tc te cm) (dP iy)):=by
 intro pins s σ H D0 I h
 rw [exec_Assign_Name_used _ _ _ _ hsw]
 refine wpAny_bind (wpAny_standAt (wpAny_bind ?_))
 show wpAny _ X.A (do let _ ←comprehension (.ListComp elt [⟨tg,iter,ifs,0⟩] scope pos) scope X.env _ (newList []) false (eval iter X.env) (some (assign (.Name y py) X.env))) _ _ s
 refine wpAny_bind (wpAny_mono (Q:=fun _ s'=>SP X pins D0 .next s') ?_ (fun _ s' hq=>wpAny_pure (wpAny_pure hq)) fun _ _ e=>e)
 have hfr:∀y∈scope.names,y.2=.free->∃c,X.env.cells.lookup y.1=some c:=fun y hy e=>I.ok.has y.1 (hfree y hy e)
 refine wpAny_comprehension_free (use:=some (assign (.Name y py) X.env)) (Q:=fun _ s'=>SP X pins D0 .next s') rfl hs (ij hfr) hkind hnames (thn (hi pins s σ H _ I h) fun v s1 h1=>thn h1 fun itv s2 h2=>?_)
 obtain ⟨it,fp,tn,J,H2,e,I2,T,st2,f2,W,⟨m0,w0⟩,turn⟩:=h2
 subst e
 refine wpAny_newObj_type (wpAny_newFunctionEnv hcell (by intro y hy;simp at hy) (fun h₁ hns₁ hsb₁=>?_) hkind)
 dsimp only at hns₁ hsb₁ ⊢
 have keepA:∀b u,(s2.heap.push {cls:=.type "list",dict:=none,data:=.seq ([]:List Value).toArray}).get? b=some u->h₁.get? b=some u:=fun b u q=>(hsb₁.2 b (Nat.ne_of_lt (Heap.lt_size q))).trans (Heap.get?_push_of_some _ q)
 refine qX (yo:=none) (QV:=fun x H1=>dP iy x σ H1 D0.nx) hc hkind (fun z hz e=>absurd e (hcell z hz)) (fun _ e=>by cases e) hfr hlen hcm hg ht he I2 T st2 f2 w0 turn hns₁ keepA (fun _ e=>by cases e) (fun s6 H5 acc m hm fc J qn _=>?_)
 obtain ⟨fc0,fc1,fc2,fc3,fc4,fc5⟩:=fc
 refine wpAny_assign_Name (qQ (s:=s6) (v:=.ref s2.heap.objs.size) (J s6.heap ⟨rfl,fun _ _=>rfl⟩) hN hiy (.inl hly) rfl (fun s7 J9 hsa=>?_) (.inr hly))
 obtain ⟨aa,hsa,hwh⟩:=hsa
 exact ⟨m,hm.sameBut hsa (by rcases hwh with z | z;rw [z];exact fc1;exact (fc4 _ _ z).symm),fun h7 hs7=>⟨_,_,J9.turned (it:=(s2.heap.push {cls:=.type "list",dict:=none,data:=.seq ([]:List Value).toArray}).objs.size) (t':=s7.toks) (fun b o hb hu=>(hs7.2 b hb).trans hu) fc0 fc1 fc3 fc4 fc5,qn⟩⟩
end
theorem BH {X:Cx}{tg iter elt:Expr}{ifs:List Expr}{scope:Scope}{pos spos py:Pos}(Nc:List Str)(cm:List (Option Nat)){wi:TI}{g:TG}{tc:TT}{te:TE}{iy:Nat}{y:Str}(hN:X.N.Nodup)(hiy:X.N[iy]?=some y)(hly:X.env.scope.names.lookup y=some .local)
  (hi:PI X tg iter wi) (hg:∀C s₀ H₀ ex,PG (blk X Nc scope C s₀ H₀ ex) tg g) (ht:∀C s₀ H₀ ex,PIf (blk X Nc scope C s₀ H₀ ex) ifs tc) (he:∀C s₀ H₀ ex,PE (blk X Nc scope C s₀ H₀ ex) elt te)
  (hsw:swapsWith (.ListComp elt [⟨tg,iter,ifs,0⟩] scope pos) (some (.Name y py)) spos.line X.env=pure true:=by rfl)
  (hc:X.calm=true:=by rfl) (hkind:scope.kind=.function:=by rfl) (hcell:∀y∈scope.names,y.2≠.cell:=by decide +kernel) (hnames:∀y∈scope.names,y.2=.local->scope.names.lookup y.1=some .local:=by decide +kernel)
  (hfree:Ao X scope=true:=by rfl) (hlen:cm.length=Nc.length:=by rfl) (hcm:IV X scope Nc cm=true:=by rfl)
  (hs:∀x,foldedSetIterable iter X.env x=pure x:=by intro _;rfl):PS X (.Assign [.Name y py] (.ListComp elt [⟨tg,iter,ifs,0⟩] scope pos) spos) (zU (um wi g tc te cm) (dP iy)):=by
 refine As hN hiy hly hsw hc hi hkind hcell hnames (fun y hy e=>?_) hlen (fun j x i e1 e2=>?_) hg ht he hs
 ·have h:=List.all_eq_true.mp hfree y hy
  rw [e] at h
  simpa using h
 ·have hj:(Nc.zip cm)[j]?=some (x,some i):=by
   rw [List.getElem?_zip_eq_some];exact ⟨e1,e2⟩
  have h:=List.all_eq_true.mp hcm _ (List.mem_of_getElem? hj)
  simpa using h
theorem fM.calm {P:Program}{w:World}{K:WA}{mg:Str->Option Value}{base:Heap}{k:Nat}{f:Addr}{fd:FuncData}{ps:List Str}{sp:Sp}(F:fM P w K mg base (CXf P w) k f fd ps sp)
  (h:∀vs H Q E,sp vs H Q E->sp vs H Q E0):fM P w K mg base CX0 k f fd ps sp:=by
 refine ⟨F.len,fun A outer s H args us vs Q E hr he hb hv hs=>?_⟩
 refine codeAny_mono (F.run A outer s H args us vs Q E0 hr he hb hv (h _ _ _ _ hs)) fun r s' q=>?_
 cases r with
 | ok fl=>cases fl<;>exact q
 | error e=>
  obtain ⟨x,cls,a0,H',B,_,_,_,_,_,_,_,_,_,z⟩:=q
  exact z.elim
def bF {α:Type}(f:α->List V)(K:WA)(H:Hp)(as:List Addr)(ls:List α):Prop:=as.length=ls.length/\∀(i:Nat) a x,as[i]?=some a->ls[i]?=some x->SqT K H a (f x)
def ik {α:Type}(f:α->List V)(K:WA)(H:Hp)(l:Addr)(ls:List α):Prop:=∃as:List Addr,SqL K H l (as.map V.ref)/\bF f K H as ls
section
variable {α:Type}{f:α->List V}{K:WA}{H H':Hp}{as bs:List Addr}{ls ks:List α}{l p:Addr}
theorem bF.same (s:av H H')(h:bF f K H as ls):bF f K H' as ls:=⟨h.1,fun i a x e1 e2=>s.tup (h.2 i a x e1 e2)⟩
theorem ik.same (s:av H H')(h:ik f K H l ls):ik f K H' l ls:=by
 obtain ⟨as,a,b⟩:=h
 exact ⟨as,s.seq a,b.same s⟩
theorem bF.nil:bF f K H [] []:=⟨rfl,fun i a x e _=>by simp at e⟩
theorem bF.app (h:bF f K H as ls)(g:bF f K H bs ks):bF f K H (as++bs) (ls++ks):=by
 refine ⟨by rw [List.length_append,List.length_append,h.1,g.1],fun i a x e1 e2=>?_⟩
 by_cases hi:i < as.length
 ·rw [List.getElem?_append_left hi] at e1
  rw [List.getElem?_append_left (by rw [←h.1];exact hi)] at e2
  exact h.2 i a x e1 e2
 ·rw [List.getElem?_append_right (by omega)] at e1
  rw [List.getElem?_append_right (by rw [←h.1];omega),←h.1] at e2
  exact g.2 _ a x e1 e2
theorem bF.one {a:Addr}{x:α}(h:SqT K H a (f x)):bF f K H [a] [x]:=by
 refine ⟨rfl,fun i b y e1 e2=>?_⟩
 cases i with
 | zero=>cases e1;cases e2;exact h
 | succ i=>simp at e1
theorem bF.rew {ys:List V}{o:HO}(h:bF f K H as ls)(hl:H l=some (.lst ys)):bF f K (upd H l o) as ls:=⟨h.1,fun i a x e1 e2=>(h.2 i a x e1 e2).rew hl⟩
theorem bF.keep {ys:List V}(s:aA p H H')(hp:H p=some (.lst ys))(h:bF f K H as ls):bF f K H' as ls:=⟨h.1,fun i a x e1 e2=>(h.2 i a x e1 e2).keep s hp⟩
theorem bF.keepI {C dx:Addr}{fs:List (Str×V)}(s:aA p H H')(hp:H p=some (.ins C dx fs))(h:bF f K H as ls):bF f K H' as ls:=⟨h.1,fun i a x e1 e2=>(h.2 i a x e1 e2).keepI s hp⟩
theorem ik.keepI {C dx:Addr}{fs:List (Str×V)}(s:aA p H H')(hp:H p=some (.ins C dx fs))(h:ik f K H l ls):ik f K H' l ls:=by
 obtain ⟨as,a,b⟩:=h
 exact ⟨as,a.keepI s hp,b.keepI s hp⟩
theorem yN {n:Nat}(h:ik f K H l ls)(hb:ls.length<=100000)(hw:∀x∈ls,(f x).length<=100000/\∀v∈f x,bg v=true):Rep K H (n+2) (.ref l) (.lst (ls.map fun x=>.tup ((f x).map Dt.flat))):=by
 obtain ⟨as,hs,hl,ht⟩:=h
 refine .lst hs (by rw [WB];omega) (by rw [WB,WB];exact hl) fun i x d e1 e2=>?_
 rw [List.getElem?_map] at e1 e2
 obtain ⟨a,ea,rfl⟩:=Option.map_eq_some_iff.mp e1
 obtain ⟨y,ey,rfl⟩:=Option.map_eq_some_iff.mp e2
 have hm:=hw y (List.mem_of_getElem? ey)
 exact dj (ht i a y ea ey) hm.1 hm.2
end
noncomputable abbrev Cd:=Int×Int
noncomputable def cdV (x:Cd):List V:=[.int x.1,.int x.2]
def ez (x:Cd):Prop:=(1<=x.1/\x.1<=9)/\(1<=x.2/\x.2<=9)/\x.1≠x.2
theorem Ec (x:Cd):(cdV x).length<=100000/\∀v∈cdV x,bg v=true:=⟨by show 2<=100000;decide,by simp [cdV,bg]⟩
end L2
namespace L2
open PySem PySem.Spec PyProof.Rows PySem.SeqAt
theorem tG {M:Model}{A:Around}{E:Value->Shared->Prop}{s:Shared}{β:Type}{c:β}{f:Nat->β->Sem (ForInStep β)}{Q:β->Shared->Prop}{n:Nat}(hn:n=2)
  (h:wpAny M A (f 0 c) (fun r s1=>match r with | .done b=>Q b s1 | .yield b=>wpAny M A (f 1 b) (fun r s2=>match r with | .done b=>Q b s2 | .yield b=>Q b s2) E s1) E s) :
  wpAny M A (forIn ([:n]:Std.Legacy.Range) c f) Q E s:=by
 subst hn
 rw [Std.Legacy.Range.forIn_eq_forIn_range']
 show wpAny M A (forIn [0,1] c f) Q E s
 rw [List.forIn_cons]
 refine wpAny_bind (wpAny_mono h ?_ (fun _ _ z=>z))
 intro r s1 h1
 cases r with
 | done b=>exact wpAny_pure h1
 | yield b=>
  show wpAny M A (forIn [1] b f) Q E s1
  rw [List.forIn_cons]
  refine wpAny_bind (wpAny_mono h1 ?_ (fun _ _ z=>z))
  intro r s2 h2
  cases r with
  | done b=>exact wpAny_pure h2
  | yield b=>
   show wpAny M A (forIn [] b f) Q E s2
   rw [List.forIn_nil]
   exact wpAny_pure h2
theorem xT (l:Addr)(items:Array Value)(a b:Value)(n:Nat)(dd:Option Addr)(sl:Array (Option Value))(x:Value)(e0 e1:Bool)(he:(e0 || e1)=true)(hsz:items.size=2)(i0:items[0]?=some a)(i1:items[1]?=some b) :
  Meets (Builtin.«tuple.index» ⟨[.ref l,x],[]⟩)
   (fun A R s=>s.heap.get? l=some {cls:=.type "tuple",dict:=dd,data:=.seq items n,slots:=sl}/\EqAt A.in1 s a x e0/\EqAt A.in1 s b x e1/\R (.ok (.ret (.int (if e0=true then 0 else 1) s.toks))) {s with toks:=s.toks+1}):=
 .of_wp fun prog w A R s h=>by
  obtain ⟨hp,g,d,tk,os⟩:=s;obtain ⟨hl,h0,h1,h⟩:=h
  wp_walk using wpAny_loadPart' hl,tG (show min items.size items.size=2 by omega)
  rw [i0]
  refine wpAny_bind (h0 prog w _ _ ?_)
  cases e0 with
  | true=>
   wp_walk
   exact ⟨_,rfl,h⟩
  | false=>
   wp_walk
   rw [i1]
   refine wpAny_bind (h1 prog w _ _ ?_)
   have e1t:e1=true:=by simpa using he
   subst e1t
   wp_walk
   exact ⟨_,rfl,h⟩
section
variable {X:Cx}
noncomputable def BI (K:WA):V->List V->Hp->VK->Prop:=fun x vs H Q=>∃(l:Addr) (a b k:V),x=.ref l/\vs=[k]/\SqT K H l [a,b]/\bg a=true/\bg b=true/\bg k=true/\(eqV a k || eqV b k)=true/\Q (.int (if eqV a k=true then 0 else 1)) H
theorem Cw:MtR X "tuple.index" (BI X.K):=by
 intro pins s σ H x vs v us Q I rx rv h
 obtain ⟨l,a,b,k,rfl,rfl,hq,fa,fb,fk,hk,q⟩:=h
 cases rx
 obtain ⟨u,rfl,ru⟩:=rv.one
 obtain ⟨its,r,pl,hz⟩:=I.tuple hq
 obtain ⟨u1,u2,rfl,r1,r2⟩:=r.two
 obtain ⟨⟨cls,dd,data,sl⟩,ho,hc,n,hd⟩:=id pl
 simp only at hc hd
 subst hc hd
 refine call_meets PySem.F.slot_tuple_index ⟨_,ho,rfl⟩ PySem.F.entry_tuple_index (PySem.F.args_tuple_index_2 _ _)
  (xT l _ u1 u2 n dd sl u (eqV a k) (eqV b k) hk rfl rfl rfl) ⟨ho,ot r1 ru fa fk,ot r2 ru fb fk,?_⟩
 exact ⟨.int _,H,I.tok _,⟨_,rfl⟩,q⟩
noncomputable def Kn (K:WA):R2:=fun x y H Q=>∃a b xs ys,x=.ref a/\y=.ref b/\SqT K H a xs/\SqT K H b ys/\xs.all bg=true/\ys.all bg=true/\Q (.bl (!eqL xs ys)) H
theorem BJ {xs ys:List V}:((List.range (min xs.length ys.length)).all (fun j=>eqV (xs.getD j .non) (ys.getD j .non)) && xs.length == ys.length)=eqL xs ys:=by
 by_cases hl:xs.length=ys.length
 ·rw [show min xs.length ys.length=xs.length by omega,tW hl,hl]
  simp
 ·have e:eqL xs ys=false:=by
   cases z:eqL xs ys with
   | false=>rfl
   | true=>exact absurd (tV z) hl
  rw [e]
  simp [hl]
theorem Jc (hu:X.A.units < cLine):OpR X (compareOp .NotEq) (Kn X.K):=by
 intro pins s σ H x y u v Q I rx ry h
 obtain ⟨a,b,xs,ys,rfl,rfl,ha,hb,fa,fb,q⟩:=h
 cases rx;cases ry
 obtain ⟨ia,ra,pa,za⟩:=I.tuple ha
 obtain ⟨ib,rb,pb,zb⟩:=I.tuple hb
 have la:=ra.length
 have lb:=rb.length
 refine RcNeAt.tuples (e:=fun j=>eqV (xs.getD j .non) (ys.getD j .non)) pa pb hu (fun j h1 h2=>?_) X.prog X.w _ _ ?_
 ·simp only [List.size_toArray] at h1 h2
  have hx:xs[j]?=some (xs.getD j .non):=by
   rw [List.getD_eq_getElem?_getD,List.getElem?_eq_getElem (by omega)];rfl
  have hy:ys[j]?=some (ys.getD j .non):=by
   rw [List.getD_eq_getElem?_getD,List.getElem?_eq_getElem (by omega)];rfl
  obtain ⟨u,eu,ru⟩:=ra.get hx
  obtain ⟨v,ev,rv⟩:=rb.get hy
  have e1:ia.toArray[j]=u:=by
   have:=List.getElem?_eq_some_iff.mp eu
   simpa using this.2
  have e2:ib.toArray[j]=v:=by
   have:=List.getElem?_eq_some_iff.mp ev
   simpa using this.2
  rw [e1,e2]
  exact ot ru rv (List.all_eq_true.mp fa _ (List.mem_of_getElem? hx)) (List.all_eq_true.mp fb _ (List.mem_of_getElem? hy))
 ·have e:=BJ (xs:=xs) (ys:=ys)
  simp only [List.size_toArray]
  rw [←la,←lb,e]
  exact ⟨.bl (!eqL xs ys),H,I,rfl,q⟩
end
end L2
namespace L2
open PySem PySem.Spec PyProof.Rows
inductive Eng where
 | no | wait (l r:Int) | armed (l r:Int) | other (l r s:Int) | used (l r:Int)
 deriving DecidableEq
noncomputable def kH:Eng->List V
 | .no=>[.str "not rung",.non,.non,.non]
 | .wait l r=>[.str "not repeated",.int l,.int r,.non]
 | .armed l r=>[.str "armed",.int l,.int r,.int r]
 | .other l r s=>[.str "repeated otherwise",.int l,.int r,.int s]
 | .used l r=>[.str "used up",.int l,.int r,.int r]
theorem rf (e:Eng):∀x∈kH e,bg x=true:=by cases e<;>simp [kH,bg]
theorem yO (e:Eng):(kH e).length=4:=by cases e<;>rfl
theorem aA.free {p x:Addr}{H H':Hp}(k:aA p H H')(n:x≠p)(h:H' x=none):H x=none:=by
 cases e:H x with
 | none=>rfl
 | some o=>have:=k x o n e;rw [h] at this;cases this
theorem Jd {ls:List Cd}{n:Nat}:(ls.map fun _=>false).getD n false=false:=by
 rw [List.getD_eq_getElem?_getD,List.getElem?_map]
 cases ls[n]?<;>rfl
structure bA (C:Addr)(K:WA)(H:Hp)(b cs fl st:Addr)(ls:List Cd)(fs:List Bool)(e:Eng):Prop where
 ob:∃dx,H b=some (.ins C dx [("codes",.ref cs),("failed",.ref fl),("state",.ref st)])
 oc:∃as:List Addr,H cs=some (.lst (as.map V.ref))/\bF cdV K H as ls
 of:H fl=some (.lst (fs.map V.bl))
 os:SqT K H st (kH e)
 nn:cs≠fl
 ln:fs.length=ls.length
theorem bA.rows {C:Addr}{K:WA}{H:Hp}{b cs fl st:Addr}{ls:List Cd}{fs:List Bool}{e:Eng}(h:bA C K H b cs fl st ls fs e):ik cdV K H cs ls:=by
 obtain ⟨as,a,t⟩:=h.oc
 exact ⟨as,SqL.of a,t⟩
theorem bA.same {C:Addr}{K:WA}{H H':Hp}{b cs fl st:Addr}{ls:List Cd}{fs:List Bool}{e:Eng}(h:bA C K H b cs fl st ls fs e)(s:av H H'):bA C K H' b cs fl st ls fs e:=by
 obtain ⟨⟨dx,a⟩,⟨as,c,t⟩,f,g,n,l⟩:=h
 exact ⟨⟨dx,s _ _ a⟩,⟨as,s _ _ c,t.same s⟩,s _ _ f,s.tup g,n,l⟩
theorem bA.state {C:Addr}{K:WA}{H H':Hp}{b cs fl st st' dx:Addr}{ls:List Cd}{fs:List Bool}{e e':Eng}(h:bA C K H b cs fl st ls fs e)(k:aA b H H')
  (a:H' b=some (.ins C dx [("codes",.ref cs),("failed",.ref fl),("state",.ref st')])) (g:SqT K H' st' (kH e')):bA C K H' b cs fl st' ls fs e':=by
 obtain ⟨⟨dx0,a0⟩,⟨as,c,t⟩,f,_,n,l⟩:=h
 exact ⟨⟨dx,a⟩,⟨as,k _ _ (fun z=>by rw [z,a0] at c;cases c) c,t.keepI k a0⟩,k _ _ (fun z=>by rw [z,a0] at f;cases f) f,g,n,l⟩
theorem bA.fail {C:Addr}{K:WA}{H H':Hp}{b cs fl st:Addr}{ls:List Cd}{fs fs':List Bool}{e:Eng}(h:bA C K H b cs fl st ls fs e)(k:aA fl H H')(g:H' fl=some (.lst (fs'.map V.bl)))(hl:fs'.length=fs.length):bA C K H' b cs fl st ls fs' e:=by
 obtain ⟨⟨dx0,a0⟩,⟨as,c,t⟩,f,o,n,l⟩:=h
 exact ⟨⟨dx0,k _ _ (fun z=>by rw [z,f] at a0;cases a0) a0⟩,⟨as,k _ _ n c,t.keep k f⟩,g,o.keep k f,n,hl.trans l⟩
noncomputable def fm (ls:List Cd)(l:Int):Cd:=ls.getD l.toNat (0,0)
noncomputable def cC (ls:List Cd)(l:Int)(k:Str):Int:=if k="men" then (fm ls l).1 else (fm ls l).2
theorem pE {K:WA}{H:Hp}{as:List Addr}{ls:List Cd}{l:Int}(t:bF cdV K H as ls)(h0:0<=l)(h1:l < ls.length):∃a,atI (as.map V.ref) l=some (.ref a)/\SqT K H a (cdV (fm ls l)):=by
 obtain ⟨n,rfl⟩:=Int.eq_ofNat_of_zero_le h0
 have hn:n < ls.length:=by omega
 have ha:as[n]?=some (as[n]'(by rw [t.1];exact hn)):=List.getElem?_eq_getElem _
 refine ⟨as[n]'(by rw [t.1];exact hn),ju (by rw [List.getElem?_map,ha];rfl),t.2 n _ _ ha ?_⟩
 rw [fm,Int.toNat_natCast,List.getD_eq_getElem?_getD,List.getElem?_eq_getElem hn];rfl
theorem kI {fs:List Bool}{l:Int}(h0:0<=l)(h1:l < fs.length):atI (fs.map V.bl) l=some (.bl (fs.getD l.toNat false)):=by
 obtain ⟨n,rfl⟩:=Int.eq_ofNat_of_zero_le h0
 have hn:n < fs.length:=by omega
 refine ju ?_
 rw [List.getElem?_map,List.getElem?_eq_getElem hn,Int.toNat_natCast,List.getD_eq_getElem?_getD,List.getElem?_eq_getElem hn];rfl
noncomputable def lvl (ds:List Int)(d:Int):Option Int:=if d∈ds then some (ds.idxOf d:Nat) else none
noncomputable def lvV:Option Int->V
 | none=>.non
 | some i=>.int i
theorem il {ds:List Int}(h:bX ds){i:Nat}{d:Int}(hi:i < ds.length)(e:ds.getD i 0=d):lvl ds d=some (i:Int):=by
 have hm:d∈ds:=e▸cM hi
 rw [lvl,if_pos hm]
 have hlt:=List.idxOf_lt_length_iff.mpr hm
 have e2:ds.getD (ds.idxOf d) 0=d:=by
  rw [List.getD_eq_getElem?_getD,List.getElem?_eq_getElem hlt]
  exact List.getElem_idxOf hlt
 have:ds.idxOf d=i:=by
  rcases Nat.lt_trichotomy (ds.idxOf d) i with z | z | z
  ·have:=h.lt z hi;omega
  ·exact z
  ·have:=h.lt z hlt;omega
 rw [this]
theorem yP {ds:List Int}{d:Int}(h:∀i,i < ds.length->ds.getD i 0≠d):lvl ds d=none:=by
 rw [lvl,if_neg fun hm=>?_]
 have hlt:=List.idxOf_lt_length_iff.mpr hm
 refine h _ hlt ?_
 rw [List.getD_eq_getElem?_getD,List.getElem?_eq_getElem hlt]
 exact List.getElem_idxOf hlt
noncomputable def bG (ds:List Int)(p c:Int):Option Int:=if c=0 then lvl ds p else lvl ds (bY ds - p)
inductive Stp where
 | wind (c l:Int) | load (k c:Int) | unload (k c:Int)
noncomputable def Ko (lv:Option Int)(x:List Int):Stp->Option (List Int)
 | .wind _ _=>none
 | .load k c=>match lv with | none=>none | some l=>if x.getD (k.toNat+1) 0=l/\¬10+c∈x.tail then some (x.set (k.toNat+1) (10+c)) else none
 | .unload k c=>match lv with | none=>none | some l=>if x.getD (k.toNat+1) 0=10+c then some (x.set (k.toNat+1) l) else none
noncomputable def Je:Stp->Int
 | .wind c _=>c
 | .load _ c=>c
 | .unload _ c=>c
noncomputable def stK:Stp->Int
 | .wind _ _=>0
 | .load k _=>k
 | .unload k _=>k
noncomputable def after (ds dead:List Int)(x:List Int):Stp->Option (List Int)
 | .wind c l=>if l < 0\/(ds.length:Int)<=l\/l∈dead then none else some ((if c=0 then ds.getD l.toNat 0 else bY ds - ds.getD l.toNat 0)::x.tail)
 | s=>if stK s < 0\/(x.length:Int)<=stK s+1 then none else Ko (bG ds (x.getD 0 0) (Je s)) x s
theorem Kp {K:WA}{H:Hp}{Q:VK}{a b:Addr}{xs ys:List V}(ha:SqT K H a xs)(hb:SqT K H b ys)(n0:xs≠[])(hn:xs.length+ys.length<=1000)(q:∀p H',av H H'->SqT K H' p (xs++ys)->Q (.ref p) H'):Ho K (.ref a) (.ref b) H Q:=by
 refine ⟨a,b,xs,ys,rfl,rfl,ha,hb,n0,Nat.le_of_lt (cw hn),fun e=>?_,fun _ p hp=>q p _ ((av.refl H).lay hp) (SqT.of ag)⟩
 subst e
 exact q a H (av.refl H) (by rw [List.append_nil];exact ha)
theorem ip {K:WA}{H:Hp}{a:Addr}{xs:List Int}{n:Nat}(h:SqL K H a (xs.map V.int))(hb:xs.length<=100000):Rep K H (n+1) (.ref a) (.lst ((xs.map V.int).map Dt.flat)):=by
 refine .lst h (by rw [WB];exact hb) (by simp) fun i y d e1 e2=>?_
 rw [List.getElem?_map,e1] at e2
 cases e2
 obtain ⟨z,rfl,_⟩:=kG e1
 exact .flat rfl
theorem yQ {K:WA}{H:Hp}{a:Addr}{x y:V}{d e:Dt}{n:Nat}(h:SqL K H a [x,y])(h1:Rep K H n x d)(h2:Rep K H n y e):Rep K H (n+1) (.ref a) (.lst [d,e]):=by
 refine .lst h (by show 2<=100000;decide) rfl fun i v w e1 e2=>?_
 match i,e1,e2 with
 | 0,e1,e2=>cases e1;cases e2;exact h1
 | 1,e1,e2=>cases e1;cases e2;exact h2
 | i+2,e1,e2=>simp at e1
section
variable {X:Cx}
noncomputable def Hu (K:WA):R2:=fun x y H Q=>∃a b xs ys,x=.ref a/\y=.ref b/\SqT K H a xs/\SqT K H b ys/\xs.length+ys.length<=1000/\∀p H',av H H'->SqT K H' p (xs++ys)->Q (.ref p) H'
theorem FO:OpR X (binaryOp .Add) (Hu X.K):=by
 intro pins s σ H x y v u Q I rx ry h
 obtain ⟨a,b,xs,ys,rfl,rfl,ha,hb,hz,q⟩:=h
 by_cases hx:xs=[]
 ·subst hx
  cases rx
  cases ry
  obtain ⟨its,r1,p1,_⟩:=I.tuple ha
  obtain ⟨its2,r2,p2,_⟩:=I.tuple hb
  have e1:=r1.zero
  subst e1
  obtain ⟨⟨cls,dd,data,sl⟩,ho,hc,n,hd⟩:=id p1
  obtain ⟨⟨cls2,dd2,data2,sl2⟩,ho2,hc2,n2,hd2⟩:=id p2
  simp only at hc hd hc2 hd2
  subst hc hd hc2 hd2
  exact concat_meets ⟨_,ho,rfl⟩ ⟨_,ho2,rfl⟩ noFill_tuple_add seq_tuple_add PySem.F.slot_tuple_add PySem.F.entry_tuple_add (PySem.F.args_tuple_add_2 _ _)
   (tuple_addW0 a b _ its2.toArray n n2 dd dd2 sl sl2 rfl) ⟨ho,ho2,⟨.ref b,H,I,rfl,q b H (av.refl H) hb⟩⟩
 ·exact Bt pins s σ H _ _ v u Q I rx ry (Kp ha hb hx hz q)
end
theorem Ed:∀{xs ys:List Int},xs.Pairwise (· < ·)->ys.Pairwise (· < ·)->(∀k,k∈xs↔k∈ys)->xs=ys
 | [],[],_,_,_=>rfl
 | [],y::ys,_,_,h=>absurd ((h y).mpr List.mem_cons_self) (by simp)
 | x::xs,[],_,_,h=>absurd ((h x).mp List.mem_cons_self) (by simp)
 | x::xs,y::ys,hx,hy,h=>by
  obtain ⟨x1,x2⟩:=List.pairwise_cons.mp hx
  obtain ⟨y1,y2⟩:=List.pairwise_cons.mp hy
  have e:x=y:=by
   rcases List.mem_cons.mp ((h x).mp List.mem_cons_self) with e | e
   ·exact e
   ·rcases List.mem_cons.mp ((h y).mpr List.mem_cons_self) with e' | e'
    ·exact e'.symm
    ·have:=y1 x e
     have:=x1 y e'
     omega
  subst e
  rw [Ed x2 y2 fun k=>?_]
  constructor
  ·intro hk
   rcases List.mem_cons.mp ((h k).mp (List.mem_cons_of_mem _ hk)) with e | e
   ·have:=x1 k hk
    omega
   ·exact e
  ·intro hk
   rcases List.mem_cons.mp ((h k).mpr (List.mem_cons_of_mem _ hk)) with e | e
   ·have:=y1 k hk
    omega
   ·exact e
structure Cl where
 (B Y S K W:Addr)
structure aO where
 place:Int
 gates:List Bool
 fs:List Bool
 e:Eng
 ws:List Int
structure Cfg where
 ds:List Int
 ls:List Cd
 slow:Int
 fast:Int
 goals:List Int
 ks:List Str
 N:Addr->Prop:=fun _=>False
structure SA where
 (dx ol b cs fl st y kn wh:Addr)
structure Kq (rl:Addr)(A:SA):Prop where
 r1:A.ol≠rl
 r2:A.cs≠rl
 r3:A.fl≠rl
 r4:A.kn≠rl
 r5:A.wh≠rl
 o1:A.cs≠A.ol
 o2:A.fl≠A.ol
 o3:A.kn≠A.ol
 o4:A.wh≠A.ol
 f1:A.ol≠A.fl
 f2:A.kn≠A.fl
 f3:A.wh≠A.fl
 w1:A.ol≠A.wh
 w2:A.cs≠A.wh
 w3:A.fl≠A.wh
 w4:A.kn≠A.wh
structure Off (H:Hp)(rl:Addr)(N:Addr->Prop)(A:SA):Prop where
 al:∀p,N p->∃ys,H p=some (.lst ys)
 nr:∀p,N p->rl≠p
 no:∀p,N p->A.ol≠p
 nc:∀p,N p->A.cs≠p
 nf:∀p,N p->A.fl≠p
 nk:∀p,N p->A.kn≠p
 nw:∀p,N p->A.wh≠p
theorem Off.keep {H H':Hp}{rl q:Addr}{N:Addr->Prop}{A:SA}(h:Off H rl N A)(k:aA q H H')(hq:∀p,N p->q≠p):Off H' rl N A:=⟨fun p hp=>by
 obtain ⟨ys,e⟩:=h.al p hp
 exact ⟨ys,k _ _ (hq p hp).symm e⟩,h.nr,h.no,h.nc,h.nf,h.nk,h.nw⟩
theorem Off.same {H H':Hp}{rl:Addr}{N:Addr->Prop}{A:SA}(h:Off H rl N A)(k:av H H'):Off H' rl N A:=⟨fun p hp=>by
 obtain ⟨ys,e⟩:=h.al p hp
 exact ⟨ys,k _ _ e⟩,h.nr,h.no,h.nc,h.nf,h.nk,h.nw⟩
theorem Off.keepI {H H':Hp}{rl q C dx:Addr}{fs:List (Str×V)}{N:Addr->Prop}{A:SA}(h:Off H rl N A)(k:aA q H H')(hq:H q=some (.ins C dx fs)):Off H' rl N A:=h.keep k fun p hp z=>by
 obtain ⟨ys,e⟩:=h.al p hp
 rw [←z,hq] at e
 cases e
structure aT (C:Cl)(K:WA)(H:Hp)(rl:Addr)(g:Cfg)(s:Addr)(A:SA)(n:aO):Prop where
 ob:H s=some (.ins C.S A.dx [("place",.int n.place),("opened",.ref A.ol),("bells",.ref A.b),("yard",.ref A.y)])
 go:H A.ol=some (.lst (n.gates.map V.bl))
 be:bA C.B K H A.b A.cs A.fl A.st g.ls n.fs n.e
 ya:cS C.Y H A.y A.kn A.wh g.ks n.ws g.ds.length
 ap:Kq rl A
 nn:Off H rl g.N A
def dM (C:Cl)(K:WA)(H:Hp)(rl:Addr)(g:Cfg)(s:Addr)(n:aO):Prop:=∃A,aT C K H rl g s A n
theorem bA.off {C:Addr}{K:WA}{H H':Hp}{p b cs fl st:Addr}{ls:List Cd}{fs:List Bool}{e:Eng}{ys:List V}(h:bA C K H b cs fl st ls fs e)(s:aA p H H')(hp:H p=some (.lst ys))(n1:cs≠p)(n2:fl≠p):bA C K H' b cs fl st ls fs e:=by
 obtain ⟨⟨dx,a⟩,⟨as,c,t⟩,f,g,n,l⟩:=h
 exact ⟨⟨dx,s _ _ (fun z=>by rw [z,hp] at a;cases a) a⟩,⟨as,s _ _ n1 c,t.keep s hp⟩,s _ _ n2 f,g.keep s hp,n,l⟩
theorem bA.offI {C D dp:Addr}{K:WA}{H H':Hp}{p b cs fl st:Addr}{ls:List Cd}{fs:List Bool}{e:Eng}{us:List (Str×V)}(h:bA C K H b cs fl st ls fs e)(s:aA p H H')(hp:H p=some (.ins D dp us))(n1:b≠p):bA C K H' b cs fl st ls fs e:=by
 obtain ⟨⟨dx,a⟩,⟨as,c,t⟩,f,g,n,l⟩:=h
 exact ⟨⟨dx,s _ _ n1 a⟩,⟨as,s _ _ (fun z=>by rw [z,hp] at c;cases c) c,t.keepI s hp⟩,s _ _ (fun z=>by rw [z,hp] at f;cases f) f,g.keepI s hp,n,l⟩
theorem cS.offI {C D dp:Addr}{H H':Hp}{p y kn wh:Addr}{ks:List Str}{ws:List Int}{m:Int}{us:List (Str×V)}(h:cS C H y kn wh ks ws m)(s:aA p H H')(hp:H p=some (.ins D dp us))(n1:y≠p):cS C H' y kn wh ks ws m:=by
 obtain ⟨⟨dx,a⟩,b,c⟩:=h
 exact ⟨⟨dx,s _ _ n1 a⟩,s _ _ (fun z=>by rw [z,hp] at b;cases b) b,s _ _ (fun z=>by rw [z,hp] at c;cases c) c⟩
section
variable {C:Cl}{K:WA}{H H':Hp}{rl s a w bk:Addr}{g:Cfg}{A:SA}{n n0:aO}
theorem aT.same (h:aT C K H rl g s A n)(e:av H H'):aT C K H' rl g s A n:=⟨e _ _ h.ob,e _ _ h.go,h.be.same e,h.ya.same e,h.ap,h.nn.same e⟩
theorem aT.keep {ys:List V}(h:aT C K H rl g s A n)(e:aA rl H H')(hr:H rl=some (.lst ys)):aT C K H' rl g s A n:=
 ⟨e _ _ (fun z=>by have:=h.ob;rw [z,hr] at this;cases this) h.ob,e _ _ h.ap.r1 h.go,h.be.off e hr h.ap.r2 h.ap.r3,h.ya.off e hr h.ap.r4 h.ap.r5,h.ap,h.nn.keep e h.nn.nr⟩
theorem aT.at (h:aT C K H rl g s A n):dM C K H rl g s n:=⟨A,h⟩
theorem dM.same (h:dM C K H rl g s n)(e:av H H'):dM C K H' rl g s n:=by
 obtain ⟨A,h⟩:=h
 exact ⟨A,h.same e⟩
theorem dM.keep {ys:List V}(h:dM C K H rl g s n)(e:aA rl H H')(hr:H rl=some (.lst ys)):dM C K H' rl g s n:=by
 obtain ⟨A,h⟩:=h
 exact ⟨A,h.keep e hr⟩
theorem aT.gates (h:aT C K H rl g s A n)(e:aA A.ol H H'){gs:List Bool}(hg:H' A.ol=some (.lst (gs.map V.bl))):aT C K H' rl g s A {n with gates:=gs}:=
 ⟨e _ _ (fun z=>by have:=h.ob;rw [z,h.go] at this;cases this) h.ob,hg,h.be.off e h.go h.ap.o1 h.ap.o2,h.ya.off e h.go h.ap.o3 h.ap.o4,h.ap,h.nn.keep e h.nn.no⟩
structure Row where
 began:Int
 ended:Int
 deed:List V
 speed:Int
 sn:aO
def pF (C:Cl)(K:WA)(H:Hp)(rl:Addr)(g:Cfg)(a:Addr)(r:Row):Prop:=∃dd s,SqT K H a [.int r.began,.int r.ended,.ref dd,.int r.speed,.ref s]/\SqT K H dd r.deed/\dM C K H rl g s r.sn
theorem pF.same {r:Row}(h:pF C K H rl g a r)(e:av H H'):pF C K H' rl g a r:=by
 obtain ⟨dd,s,h1,h2,h3⟩:=h
 exact ⟨dd,s,e.tup h1,e.tup h2,h3.same e⟩
theorem pF.keep {r:Row}{ys:List V}(h:pF C K H rl g a r)(e:aA rl H H')(hr:H rl=some (.lst ys)):pF C K H' rl g a r:=by
 obtain ⟨dd,s,h1,h2,h3⟩:=h
 exact ⟨dd,s,h1.keep e hr,h2.keep e hr,h3.keep e hr⟩
def rg (C:Cl)(K:WA)(H:Hp)(rl:Addr)(g:Cfg)(as:List Addr)(rs:List Row):Prop:=as.length=rs.length/\∀(i:Nat) a r,as[i]?=some a->rs[i]?=some r->pF C K H rl g a r
theorem rg.same {as:List Addr}{rs:List Row}(h:rg C K H rl g as rs)(e:av H H'):rg C K H' rl g as rs:=⟨h.1,fun i a r e1 e2=>(h.2 i a r e1 e2).same e⟩
theorem rg.keep {as:List Addr}{rs:List Row}{ys:List V}(h:rg C K H rl g as rs)(e:aA rl H H')(hr:H rl=some (.lst ys)):rg C K H' rl g as rs:=⟨h.1,fun i a r e1 e2=>(h.2 i a r e1 e2).keep e hr⟩
theorem rg.push {as:List Addr}{rs:List Row}{r:Row}(h:rg C K H rl g as rs)(hr:pF C K H rl g a r):rg C K H rl g (as++[a]) (rs++[r]):=by
 refine ⟨by rw [List.length_append,List.length_append,h.1];rfl,fun i b x e1 e2=>?_⟩
 by_cases hi:i < as.length
 ·rw [List.getElem?_append_left hi] at e1
  rw [List.getElem?_append_left (by rw [←h.1];exact hi)] at e2
  exact h.2 i b x e1 e2
 ·rw [List.getElem?_append_right (by omega)] at e1
  rw [List.getElem?_append_right (by rw [←h.1];omega),←h.1] at e2
  have hz:i - as.length=0:=by
   have:=(List.getElem?_eq_some_iff.mp e1).1
   simp at this
   omega
  rw [hz] at e1 e2
  cases e1
  cases e2
  exact hr
noncomputable def ak (n0:aO)(rs:List Row):aO:=match rs.getLast? with | none=>n0 | some r=>r.sn
noncomputable def cD (rs:List Row):Int:=match rs.getLast? with | none=>0 | some r=>r.ended
structure BAt (C:Cl)(K:WA)(H:Hp)(bk rl:Addr)(g:Cfg)(n0:aO)(rs:List Row):Prop where
 ob:∃dx f,H bk=some (.ins C.K dx [("first",.ref f),("most",.int 300),("rows",.ref rl)])/\dM C K H rl g f n0
 ro:∃as,H rl=some (.lst (as.map V.ref))/\rg C K H rl g as rs
theorem BAt.same {rs:List Row}(h:BAt C K H bk rl g n0 rs)(e:av H H'):BAt C K H' bk rl g n0 rs:=by
 obtain ⟨⟨dx,f,h1,h2⟩,as,h3,h4⟩:=h
 exact ⟨⟨dx,f,e _ _ h1,h2.same e⟩,as,e _ _ h3,h4.same e⟩
structure WAt (C:Cl)(K:WA)(H:Hp)(w bk rl:Addr)(g:Cfg)(n0:aO)(rs:List Row):Prop where
 ob:∃dx dl gl,H w=some (.ins C.W dx [("depths",.ref dl),("slow",.int g.slow),("fast",.int g.fast),("goals",.ref gl),("log",.ref bk)])/\H dl=some (.lst (g.ds.map V.int))/\H gl=some (.lst (g.goals.map V.int))/\dl≠rl/\gl≠rl/\(∀p,g.N p->dl≠p)/\∀p,g.N p->gl≠p
 bo:BAt C K H bk rl g n0 rs
theorem WAt.same {rs:List Row}(h:WAt C K H w bk rl g n0 rs)(e:av H H'):WAt C K H' w bk rl g n0 rs:=by
 obtain ⟨⟨dx,dl,gl,h1,h2,h3,h4⟩,h5⟩:=h
 exact ⟨⟨dx,dl,gl,e _ _ h1,e _ _ h2,e _ _ h3,h4⟩,h5.same e⟩
theorem WAt.keep {rs rs':List Row}{ys:List V}(h:WAt C K H w bk rl g n0 rs)(e:aA rl H H')(hr:H rl=some (.lst ys))(hb:BAt C K H' bk rl g n0 rs'):WAt C K H' w bk rl g n0 rs':=by
 obtain ⟨⟨dx,dl,gl,h1,h2,h3,h4,h6⟩,h5⟩:=h
 exact ⟨⟨dx,dl,gl,e _ _ (fun z=>by rw [z,hr] at h1;cases h1) h1,e _ _ h4 h2,e _ _ h6.1 h3,h4,h6⟩,hb⟩
end
theorem cH {α:Type}(l:List α):l=[]\/∃l' a,l=l'++[a]:=by
 rcases List.eq_nil_or_concat l with h | ⟨l',a,h⟩
 ·exact .inl h
 ·exact .inr ⟨l',a,by rw [h,List.concat_eq_append]⟩
theorem rg.last {C:Cl}{K:WA}{H:Hp}{rl:Addr}{g:Cfg}{as:List Addr}{rs:List Row}{r:Row}(h:rg C K H rl g as (rs++[r])):∃as' a,as=as'++[a]/\rg C K H rl g as' rs/\pF C K H rl g a r:=by
 have hl:=h.1
 rw [List.length_append,List.length_singleton] at hl
 rcases cH as with rfl | ⟨as',a,rfl⟩
 ·cases hl
 ·have hl':as'.length=rs.length:=by rw [List.length_append,List.length_singleton] at hl;omega
  refine ⟨as',a,rfl,⟨hl',fun i b x e1 e2=>?_⟩,?_⟩
  ·have hi:=(List.getElem?_eq_some_iff.mp e1).1
   exact h.2 i b x (by rw [List.getElem?_append_left hi];exact e1) (by rw [List.getElem?_append_left (by omega)];exact e2)
  ·refine h.2 as'.length a r ?_ ?_
   ·rw [List.getElem?_append_right (Nat.le_refl _)];simp
   ·rw [List.getElem?_append_right (by omega),hl'];simp
theorem xc {as:List Addr}{a:Addr}:atI ((as++[a]).map V.ref) (((as++[a]).map V.ref).length - 1:Int)=some (.ref a):=by
 rw [show ((((as++[a]).map V.ref).length:Int) - 1)=((as.length:Nat):Int) by rw [WB,List.length_append];simp]
 exact ju (by rw [List.map_append,List.getElem?_append_right (by rw [WB];exact Nat.le_refl _),WB];simp)
theorem nq (rs:List Row)(r:Row):cD (rs++[r])=r.ended:=by simp [cD]
theorem jf (n0:aO)(rs:List Row)(r:Row):ak n0 (rs++[r])=r.sn:=by simp [ak]
theorem eD {H H':Hp}{x dx:Addr}{o1 o2:HO}(hx:H x=none)(hdx:H dx=none)(kp:aA x (upd (upd H dx o1) x o2) H'):av H H':=fun b o e=>kp b o (ai e hx) (by rw [aK (ai e hx),aK (ai e hdx)];exact e)
theorem dR {H:Hp}{x dx z:Addr}{o1 o2:HO}(h:upd (upd H dx o1) x o2 z=none):H z=none:=upn (upn h)
noncomputable def yR (ks:List Str)(ws:List Int):Bool:=(ks.zip ws).any fun p=>decide (p.1="men") && decide (p.2=10\/p.2=11)
theorem xf {ks:List Str}{ws:List Int}{i:Nat}(h:∀j k x,j < i->ks[j]?=some k->ws[j]?=some x->(decide (k="men") && decide (x=10\/x=11))=false)(hi:ks.length<=i\/ws.length<=i):yR ks ws=false:=by
 unfold yR
 rw [List.any_eq_false]
 intro p hp
 obtain ⟨j,hj⟩:=List.getElem?_of_mem hp
 rw [List.getElem?_zip_eq_some] at hj
 have h1:=(List.getElem?_eq_some_iff.mp hj.1).1
 have h2:=(List.getElem?_eq_some_iff.mp hj.2).1
 rw [h j p.1 p.2 (by omega) hj.1 hj.2]
 exact Bool.false_ne_true
theorem yS {ks:List Str}{ws:List Int}{i:Nat}{k:Str}{x:Int}(h1:ks[i]?=some k)(h2:ws[i]?=some x)(hk:k="men")(hx:x=10\/x=11):yR ks ws=true:=by
 unfold yR
 rw [List.any_eq_true]
 refine ⟨(k,x),List.mem_of_getElem? (i:=i) (by rw [List.getElem?_zip_eq_some];exact ⟨h1,h2⟩),?_⟩
 simp [hk,hx]
theorem xg (x:Int):inV (.int x) [.int 10,.int 11]=decide (x=10\/x=11):=by
 have:=ni x [10,11]
 rw [show ([10,11]:List Int).map V.int=[V.int 10,V.int 11] from rfl] at this
 rw [this]
 simp
noncomputable def inC (ws:List Int)(c:Int):V:=if 10+c∈ws then .int (ws.idxOf (10+c):Nat) else .non
noncomputable def vR (ws:List Int)(lv:Int)(i:Nat):List Int:=((List.range i).filter fun j=>decide (ws.getD j 0=lv)).map fun (j:Nat)=>(j:Int)
noncomputable def iq (ws:List Int)(lv:Int):List Int:=vR ws lv ws.length
theorem Cy (ws:List Int)(lv:Int)(i:Nat):vR ws lv (i+1)=vR ws lv i++(if ws.getD i 0=lv then [(i:Int)] else []):=by
 unfold vR
 rw [List.range_succ,List.filter_append,List.map_append]
 by_cases h:ws.getD i 0=lv
 ·rw [if_pos h,List.filter_cons,if_pos (by simpa using h)];rfl
 ·rw [if_neg h,List.filter_cons,if_neg (by simpa using h)];rfl
theorem yT (ws:List Int)(lv:Int)(i:Nat):(vR ws lv i).length<=i:=by
 unfold vR
 rw [WB]
 exact Nat.le_trans (List.length_filter_le _ _) (by rw [List.length_range];exact Nat.le_refl _)
noncomputable def jg (ds:List Int)(pl:Int):List Int:=((List.range ds.length).filter fun i=>decide (ds.getD i 0=pl\/ds.getD i 0=bY ds - pl)).map fun (i:Nat)=>(i:Int)
structure gN (g:Cfg):Prop where
 sh:bX g.ds
 lc:g.ls.length=g.ds.length
 gc:∀x∈g.ls,ez x
 s1:1<=g.slow
 sf:g.slow<=g.fast
 f5:g.fast<=500
 gk:g.goals.length=g.ks.length
 k30:g.ks.length<=30
noncomputable def fq (g:Cfg)(n:aO):Int:=if yR g.ks n.ws=true then g.slow else g.fast
theorem gN.speed {g:Cfg}(h:gN g)(n:aO):1<=fq g n/\fq g n<=500:=by
 have:=h.s1;have:=h.sf;have:=h.f5
 unfold fq;split<;>omega
inductive Dd where
 | ring (l s:Int) | rept (s:Int) | opn (l:Int) | sht (l:Int) | load (k c:Int) | unload (c:Int) | wind (c l:Int) (k:Str) | fail (l:Int)
noncomputable def ddV:Dd->List V
 | .ring l s=>[.str "ring",.int l,.int s]
 | .rept s=>[.str "repeat",.int s]
 | .opn l=>[.str "open",.int l]
 | .sht l=>[.str "shut",.int l]
 | .load k c=>[.str "load",.int k,.int c]
 | .unload c=>[.str "unload",.int c]
 | .wind c l k=>[.str "wind",.int c,.int l,.str k]
 | .fail l=>[.str "fail",.int l]
theorem uu (d:Dd):∀x∈ddV d,bg x=true:=by
 cases d<;>intro x hx<;>simp only [ddV,List.mem_cons,List.not_mem_nil,or_false] at hx<;>rcases hx with h | h | h | h<;>(try subst h)<;>(try rfl)<;>simp_all [bg]
theorem BK (d:Dd):(ddV d).length<=4:=by cases d<;>simp [ddV]
noncomputable def xU:Dd->Prop
 | .load _ c=>0<=c/\c < 2
 | .unload c=>0<=c/\c < 2
 | .wind c _ k=>(0<=c/\c < 2)/\(k="men"\/k="coal")
 | _=>True
inductive Rw where
 | lv | db | nc | nr | ch | na | ul | nt | ct | gs | ce | go
 deriving DecidableEq
def unk (l:Int)(m:Nat):Prop:=¬(0<=l/\l < m)
instance (l:Int) (m:Nat):Decidable (unk l m):=inferInstanceAs (Decidable (¬_))
noncomputable def ir (g:Cfg)(n:aO):Bool:=(jg g.ds n.place).any fun x=>n.gates.getD x.toNat false
noncomputable def eI (g:Cfg)(n:aO):Dd->Option Rw
 | .ring l s=>if unk l g.ds.length then some .lv else if n.fs.getD l.toNat false=true then some .db else if s=(fm g.ls l).1\/s=(fm g.ls l).2 then none else some .nc
 | .rept s=>match n.e with | .wait _ _=>if 1<=s/\s<=9 then none else some .nc | _=>some .nr
 | .opn l=>if unk l g.ds.length then some .lv else if n.gates.getD l.toNat false=true then some .ch else none
 | .sht l=>if unk l g.ds.length then some .lv else if n.gates.getD l.toNat false=false then some .ch else none
 | .load k c=>if unk k n.ws.length then some .ul else match bG g.ds n.place c with
  | none=>some .nt
  | some l=>if n.ws.getD k.toNat 0≠l then some .nt else if 10+c∈n.ws then some .ct else if n.gates.getD l.toNat false=true then none else some .gs
 | .unload c=>if ¬10+c∈n.ws then some .ce else match bG g.ds n.place c with
  | none=>some .nt
  | some l=>if n.gates.getD l.toNat false=true then none else some .gs
 | .wind _ l k=>if unk l g.ds.length then some .lv else if ir g n=true then some .go else if n.e=.armed l (cC g.ls l k) then none else some .na
 | .fail l=>if unk l g.ds.length then some .lv else if n.fs.getD l.toNat false=true then some .ch else none
noncomputable def gn (ds:List Int)(c l:Int):Int:=if c=0 then ds.getD l.toNat 0 else bY ds - ds.getD l.toNat 0
noncomputable def uv (g:Cfg)(n:aO):Dd->Eng
 | .ring l s=>.wait l s
 | .rept s=>match n.e with | .wait l r=>if s=r then .armed l r else .other l r s | e=>e
 | .wind _ l k=>.used l (cC g.ls l k)
 | _=>n.e
noncomputable def cI (g:Cfg)(n:aO)(d:Dd):aO:=
 {place:=match d with | .wind c l _=>gn g.ds c l | _=>n.place
  gates:=match d with | .opn l=>n.gates.set l.toNat true | .sht l=>n.gates.set l.toNat false | _=>n.gates
  fs:=match d with | .fail l=>n.fs.set l.toNat true | _=>n.fs
  e:=uv g n d
  ws:=match d with | .load k c=>n.ws.set k.toNat (10+c) | .unload c=>n.ws.set (n.ws.idxOf (10+c)) ((bG g.ds n.place c).getD (-1)) | _=>n.ws}
noncomputable def K6 (x:Int):Int:=if x < 0 then -x else x
noncomputable def xV (way sp:Int):Int:=(way+sp - 1) / sp
noncomputable def rh (g:Cfg)(n:aO):Dd->Int
 | .wind c l _=>xV (K6 (gn g.ds c l - n.place)) (fq g n)
 | _=>1
noncomputable def uw (g:Cfg)(n0:aO)(rs:List Row)(d:Dd):Row:=⟨cD rs,cD rs+rh g (ak n0 rs) d,ddV d,fq g (cI g (ak n0 rs) d),cI g (ak n0 rs) d⟩
structure dB (g:Cfg)(n:aO):Prop where
 gl:n.gates.length=g.ds.length
 fl:n.fs.length=g.ds.length
 wl:n.ws.length=g.ks.length
 wr:∀x∈n.ws,(0<=x/\x < g.ds.length)\/x=10\/x=11
 un:∀i j,i < n.ws.length->j < n.ws.length->10<=n.ws.getD i 0->n.ws.getD i 0=n.ws.getD j 0->i=j
 st:∃c,(c=0\/c=1)/\∃l,bG g.ds n.place c=some l
 ew:∀l r,n.e=.wait l r\/n.e=.armed l r->0<=l/\l < g.ds.length/\(r=(fm g.ls l).1\/r=(fm g.ls l).2)
theorem nu (ws:List Int)(n i:Nat)(v:Int)(hi:i < ws.length):(ws.set n v).getD i 0=if n=i then v else ws.getD i 0:=by
 rw [List.getD_eq_getElem?_getD,List.getD_eq_getElem?_getD,List.getElem?_set]
 split
 ·rename_i e
  subst e
  rw [if_pos hi];rfl
 ·rfl
theorem yU {ds:List Int}{d l:Int}(h:lvl ds d=some l):0<=l/\l < ds.length/\ds.getD l.toNat 0=d:=by
 unfold lvl at h
 split at h
 ·rename_i hm
  cases h
  have hlt:=List.idxOf_lt_length_iff.mpr hm
  refine ⟨Int.natCast_nonneg _,by omega,?_⟩
  rw [Int.toNat_natCast,List.getD_eq_getElem?_getD,List.getElem?_eq_getElem hlt]
  exact List.getElem_idxOf hlt
 ·cases h
theorem eR {ds:List Int}{p c l:Int}(h:bG ds p c=some l):0<=l/\l < ds.length/\ds.getD l.toNat 0=(if c=0 then p else bY ds - p):=by
 unfold bG at h
 split at h
 ·rename_i e;rw [if_pos e];exact yU h
 ·rename_i e;rw [if_neg e];exact yU h
theorem rj {ws:List Int}{k:Int}(h:k∈ws):ws.idxOf k < ws.length/\ws.getD (ws.idxOf k) 0=k:=by
 have hlt:=List.idxOf_lt_length_iff.mpr h
 refine ⟨hlt,?_⟩
 rw [List.getD_eq_getElem?_getD,List.getElem?_eq_getElem hlt]
 exact List.getElem_idxOf hlt
theorem yV {ws:List Int}{n:Nat}{v x:Int}(h:x∈ws.set n v):x∈ws\/x=v:=List.mem_or_eq_of_mem_set h
theorem Au {ds:List Int}(hs:bX ds){c l:Int}(hc:0<=c/\c < 2)(hl:0<=l/\l < ds.length):bG ds (gn ds c l) c=some l:=by
 obtain ⟨k,rfl⟩:=Int.eq_ofNat_of_zero_le hl.1
 unfold bG gn
 split
 ·exact il hs (by omega) (by rw [Int.toNat_natCast])
 ·exact il hs (by omega) (by rw [Int.toNat_natCast];omega)
theorem ifn {c:Prop}[Decidable c]{a:Rw}{x:Option Rw}(h:(if c then some a else x)=none):¬c/\x=none:=by
 split at h
 ·cases h
 ·rename_i n;exact ⟨n,h⟩
theorem ify {c:Prop}[Decidable c]{a:Rw}(h:(if c then none else some a)=none):c:=by
 split at h
 ·assumption
 ·cases h
theorem nv {l:Int}{m:Nat}(h:¬unk l m):0<=l/\l < m:=Decidable.not_not.mp h
theorem Ee {g:Cfg}{n:aO}{l s:Int}(h:eI g n (.ring l s)=none):(0<=l/\l < g.ds.length)/\n.fs.getD l.toNat false=false/\(s=(fm g.ls l).1\/s=(fm g.ls l).2):=by
 obtain ⟨h1,h⟩:=ifn h
 obtain ⟨h2,h⟩:=ifn h
 exact ⟨nv h1,by simpa using h2,ify h⟩
theorem yW {g:Cfg}{n:aO}{s:Int}(h:eI g n (.rept s)=none):∃l r,n.e=.wait l r/\1<=s/\s<=9:=by
 simp only [eI] at h
 split at h
 ·rename_i l r e;exact ⟨l,r,e,ify h⟩
 ·cases h
theorem FP {g:Cfg}{n:aO}{l:Int}(h:eI g n (.opn l)=none):(0<=l/\l < g.ds.length)/\n.gates.getD l.toNat false=false:=by
 obtain ⟨h1,h⟩:=ifn h
 obtain ⟨h2,h⟩:=ifn h
 exact ⟨nv h1,by simpa using h2⟩
theorem FQ {g:Cfg}{n:aO}{l:Int}(h:eI g n (.sht l)=none):(0<=l/\l < g.ds.length)/\n.gates.getD l.toNat false=true:=by
 obtain ⟨h1,h⟩:=ifn h
 obtain ⟨h2,h⟩:=ifn h
 exact ⟨nv h1,by simpa using h2⟩
theorem Ef {g:Cfg}{n:aO}{l:Int}(h:eI g n (.fail l)=none):(0<=l/\l < g.ds.length)/\n.fs.getD l.toNat false=false:=by
 obtain ⟨h1,h⟩:=ifn h
 obtain ⟨h2,h⟩:=ifn h
 exact ⟨nv h1,by simpa using h2⟩
theorem yX {g:Cfg}{n:aO}{k c:Int}(h:eI g n (.load k c)=none):(0<=k/\k < n.ws.length)/\∃l,bG g.ds n.place c=some l/\n.ws.getD k.toNat 0=l/\¬10+c∈n.ws/\n.gates.getD l.toNat false=true:=by
 obtain ⟨h1,h⟩:=ifn h
 refine ⟨nv h1,?_⟩
 cases e:bG g.ds n.place c with
 | none=>rw [e] at h;cases h
 | some l=>
  rw [e] at h
  obtain ⟨h2,h⟩:=ifn h
  obtain ⟨h3,h⟩:=ifn h
  exact ⟨l,rfl,Decidable.not_not.mp h2,h3,ify h⟩
theorem ux {g:Cfg}{n:aO}{c:Int}(h:eI g n (.unload c)=none):10+c∈n.ws/\∃l,bG g.ds n.place c=some l/\n.gates.getD l.toNat false=true:=by
 obtain ⟨h1,h⟩:=ifn h
 refine ⟨Decidable.not_not.mp h1,?_⟩
 cases e:bG g.ds n.place c with
 | none=>rw [e] at h;cases h
 | some l=>rw [e] at h;exact ⟨l,rfl,ify h⟩
theorem uy {g:Cfg}{n:aO}{c l:Int}{k:Str}(h:eI g n (.wind c l k)=none):(0<=l/\l < g.ds.length)/\ir g n=false/\n.e=.armed l (cC g.ls l k):=by
 obtain ⟨h1,h⟩:=ifn h
 obtain ⟨h2,h⟩:=ifn h
 exact ⟨nv h1,by simpa using h2,ify h⟩
theorem dB.next {g:Cfg}{n:aO}{d:Dd}(hg:gN g)(h:dB g n)(ok:xU d)(hr:eI g n d=none):dB g (cI g n d):=by
 have hds:=hg.sh.l6
 cases d with
 | ring l s=>
  obtain ⟨h1,_,h3⟩:=Ee hr
  exact ⟨h.gl,h.fl,h.wl,h.wr,h.un,h.st,fun l' r e=>by
   simp only [cI,uv] at e
   rcases e with e | e
   ·cases e;exact ⟨h1.1,h1.2,h3⟩
   ·cases e⟩
 | rept s=>
  refine ⟨h.gl,h.fl,h.wl,h.wr,h.un,h.st,fun l' r e=>?_⟩
  simp only [cI,uv] at e
  obtain ⟨l0,r0,e0,_⟩:=yW hr
  rw [e0] at e
  simp only at e
  have:=h.ew l0 r0 (.inl e0)
  split at e
  ·rcases e with e | e
   ·cases e
   ·cases e;exact this
  ·rcases e with e | e<;>cases e
 | opn l=>exact ⟨by simp only [cI];rw [List.length_set];exact h.gl,h.fl,h.wl,h.wr,h.un,h.st,h.ew⟩
 | sht l=>exact ⟨by simp only [cI];rw [List.length_set];exact h.gl,h.fl,h.wl,h.wr,h.un,h.st,h.ew⟩
 | fail l=>exact ⟨h.gl,by simp only [cI];rw [List.length_set];exact h.fl,h.wl,h.wr,h.un,h.st,h.ew⟩
 | load k c=>
  obtain ⟨h1,l,hl,h3,h4,_⟩:=yX hr
  have hc:0<=c/\c < 2:=ok
  refine ⟨h.gl,h.fl,by simp only [cI];rw [List.length_set];exact h.wl,fun x hx=>?_,fun i j hi hj h10 e=>?_,h.st,h.ew⟩
  ·rcases yV hx with hx | rfl
   ·exact h.wr x hx
   ·omega
  ·simp only [cI,List.length_set] at hi hj h10 e
   rw [nu _ _ _ _ hi] at h10 e
   rw [nu _ _ _ _ hj] at e
   split at e<;>split at e
   ·omega
   ·exact absurd (e▸cM hj) h4
   ·exact absurd (e▸cM hi) h4
   ·rename_i n1 n2;rw [if_neg n1] at h10;exact h.un i j hi hj h10 e
 | unload c=>
  obtain ⟨h1,l,hl,_⟩:=ux hr
  obtain ⟨l0,l1,l2⟩:=eR hl
  refine ⟨h.gl,h.fl,by simp only [cI];rw [List.length_set];exact h.wl,fun x hx=>?_,fun i j hi hj h10 e=>?_,h.st,h.ew⟩
  ·simp only [cI,hl,Option.getD_some] at hx
   rcases yV hx with hx | rfl
   ·exact h.wr x hx
   ·exact .inl ⟨l0,l1⟩
  ·simp only [cI,List.length_set,hl,Option.getD_some] at hi hj h10 e
   rw [nu _ _ _ _ hi] at h10 e
   rw [nu _ _ _ _ hj] at e
   split at e
   ·rename_i n1;rw [if_pos n1] at h10;omega
   ·rename_i n1
    rw [if_neg n1] at h10
    split at e
    ·omega
    ·exact h.un i j hi hj h10 e
 | wind c l k=>
  obtain ⟨h1,_⟩:=uy hr
  refine ⟨h.gl,h.fl,h.wl,h.wr,h.un,⟨c,by have:=ok.1;omega,l,Au hg.sh ok.1 h1⟩,fun l' r e=>?_⟩
  simp only [cI,uv] at e
  rcases e with e | e<;>cases e
theorem dB.place {g:Cfg}{n:aO}(hg:gN g)(h:dB g n):0<=n.place/\n.place<=bY g.ds:=by
 obtain ⟨c,hc,l,hl⟩:=h.st
 obtain ⟨l0,l1,l2⟩:=eR hl
 have hm:g.ds.getD l.toNat 0∈g.ds:=cM (by omega)
 have:=hg.sh.lo _ hm
 have:=hg.sh.le_whole hm
 split at l2<;>omega
noncomputable def jw (fs:List Bool)(i:Nat):List Int:=((List.range i).filter fun j=>fs.getD j false).map fun (j:Nat)=>(j:Int)
noncomputable def cN (fs:List Bool):List Int:=jw fs fs.length
theorem yY (fs:List Bool)(i:Nat):jw fs (i+1)=jw fs i++(if fs.getD i false=true then [(i:Int)] else []):=by
 unfold jw
 rw [List.range_succ,List.filter_append,List.map_append]
 by_cases h:fs.getD i false=true
 ·rw [if_pos h,List.filter_cons,if_pos h];rfl
 ·rw [if_neg h,List.filter_cons,if_neg h];rfl
theorem uz (fs:List Bool)(i:Nat):(jw fs i).length<=i:=by
 unfold jw
 rw [WB]
 exact Nat.le_trans (List.length_filter_le _ _) (by rw [List.length_range];exact Nat.le_refl _)
theorem kg {fs:List Bool}{x:Int}:x∈cN fs↔0<=x/\x < fs.length/\fs.getD x.toNat false=true:=by
 unfold cN jw
 rw [List.mem_map]
 constructor
 ·rintro ⟨j,hj,rfl⟩
  rw [List.mem_filter,List.mem_range] at hj
  exact ⟨Int.natCast_nonneg _,by omega,by rw [Int.toNat_natCast];exact hj.2⟩
 ·rintro ⟨h0,h1,h2⟩
  refine ⟨x.toNat,?_,by omega⟩
  rw [List.mem_filter,List.mem_range]
  exact ⟨by omega,h2⟩
theorem yZ (fs:List Bool):(cN fs).Pairwise (· < ·):=by
 unfold cN jw
 rw [List.pairwise_map]
 exact (List.pairwise_lt_range.sublist List.filter_sublist).imp fun h=>by omega
theorem av.keeps {H H1 H2:Hp}{p:Addr}(s:av H H1)(k:aA p H1 H2)(hp:H p=none):av H H2:=fun b o e=>k b o (ai e hp) (s b o e)
section
variable {C:Cl}{K:WA}{H H':Hp}{rl s:Addr}{g:Cfg}{A:SA}{n:aO}
theorem aT.ne_b (h:aT C K H rl g s A n):s≠A.b:=fun z=>by
 obtain ⟨dx,hb⟩:=h.be.ob
 have:=h.ob
 rw [z,hb] at this
 injection this with this
 injection this with _ _ this
 injection this with this _
 injection this with this _
 exact absurd this (by decide)
theorem aT.ne_y (h:aT C K H rl g s A n):s≠A.y:=fun z=>by
 obtain ⟨dx,hb⟩:=h.ya.ob
 have:=h.ob
 rw [z,hb] at this
 injection this with this
 injection this with _ _ this
 injection this with this _
 injection this with this _
 exact absurd this (by decide)
theorem aT.ne_by (h:aT C K H rl g s A n):A.y≠A.b:=fun z=>by
 obtain ⟨dx,hb⟩:=h.ya.ob
 obtain ⟨dx2,hb2⟩:=h.be.ob
 rw [z,hb2] at hb
 injection hb with this
 injection this with _ _ this
 injection this with this _
 injection this with this _
 exact absurd this (by decide)
theorem aT.bells {st':Addr}{e':Eng}(h:aT C K H rl g s A n)(k:aA A.b H H')(hb:bA C.B K H' A.b A.cs A.fl st' g.ls n.fs e'):aT C K H' rl g s {A with st:=st'} {n with e:=e'}:=by
 obtain ⟨dx,hb0⟩:=h.be.ob
 refine ⟨k _ _ h.ne_b h.ob,k _ _ (fun z=>?_) h.go,hb,h.ya.offI k hb0 h.ne_by,⟨h.ap.r1,h.ap.r2,h.ap.r3,h.ap.r4,h.ap.r5,h.ap.o1,h.ap.o2,h.ap.o3,h.ap.o4,h.ap.f1,h.ap.f2,h.ap.f3,h.ap.w1,h.ap.w2,h.ap.w3,h.ap.w4⟩,⟨(h.nn.keepI k hb0).al,h.nn.nr,h.nn.no,h.nn.nc,h.nn.nf,h.nn.nk,h.nn.nw⟩⟩
 have:=h.go
 rw [z,hb0] at this
 cases this
theorem aT.fail {fs':List Bool}(h:aT C K H rl g s A n)(k:aA A.fl H H')(hf:H' A.fl=some (.lst (fs'.map V.bl)))(hl:fs'.length=n.fs.length):aT C K H' rl g s A {n with fs:=fs'}:=by
 refine ⟨k _ _ (fun z=>?_) h.ob,k _ _ h.ap.f1 h.go,h.be.fail k hf hl,h.ya.off k h.be.of h.ap.f2 h.ap.f3,h.ap,h.nn.keep k h.nn.nf⟩
 have:=h.be.of
 rw [←z,h.ob] at this
 cases this
theorem aT.spots {ws':List Int}(h:aT C K H rl g s A n)(k:aA A.wh H H')(hw:H' A.wh=some (.lst (ws'.map V.int))):aT C K H' rl g s A {n with ws:=ws'}:=by
 refine ⟨k _ _ (fun z=>?_) h.ob,k _ _ h.ap.w1 h.go,h.be.off k h.ya.owh h.ap.w2 h.ap.w3,h.ya.put k h.ap.w4 hw,h.ap,h.nn.keep k h.nn.nw⟩
 have:=h.ya.owh
 rw [←z,h.ob] at this
 cases this
theorem aT.placed {pl:Int}(h:aT C K H rl g s A n)(k:aA s H H')(hp:H' s=some (.ins C.S A.dx [("place",.int pl),("opened",.ref A.ol),("bells",.ref A.b),("yard",.ref A.y)])):aT C K H' rl g s A {n with place:=pl}:=by
 refine ⟨hp,k _ _ (fun z=>?_) h.go,h.be.offI k h.ob h.ne_b.symm,h.ya.offI k h.ob h.ne_y.symm,h.ap,h.nn.keepI k h.ob⟩
 have:=h.go
 rw [z,h.ob] at this
 cases this
theorem aT.own {p:Addr}{ys:List V}(h:aT C K H rl g s A n)(hp:g.N p)(k:aA p H H')(e:H' p=some (.lst ys)):aT C K H' rl g s A n:=by
 obtain ⟨zs,hz⟩:=h.nn.al p hp
 refine ⟨k _ _ (fun z=>by have:=h.ob;rw [z,hz] at this;cases this) h.ob,k _ _ (h.nn.no p hp) h.go,h.be.off k hz (h.nn.nc p hp) (h.nn.nf p hp),h.ya.off k hz (h.nn.nk p hp) (h.nn.nw p hp),h.ap,⟨fun q hq=>?_,h.nn.nr,h.nn.no,h.nn.nc,h.nn.nf,h.nn.nk,h.nn.nw⟩⟩
 by_cases e1:q=p
 ·subst e1;exact ⟨ys,e⟩
 ·obtain ⟨us,hu⟩:=h.nn.al q hq
  exact ⟨us,k _ _ e1 hu⟩
noncomputable def Cfg.plus (g:Cfg)(p:Addr):Cfg:={g with N:=fun q=>g.N q\/q=p}
theorem aT.grow {p:Addr}{ys:List V}(h:aT C K H rl g s A n)(hr:rl≠p)(hn:H p=none)(k:av H H')(e:H' p=some (.lst ys)):aT C K H' rl (g.plus p) s A n:=by
 have h':=h.same k
 obtain ⟨_,⟨as,oc,_⟩,of,_⟩:=id h.be
 obtain ⟨_,okn,owh⟩:=id h.ya
 refine ⟨h'.ob,h'.go,h'.be,h'.ya,h'.ap,⟨fun q hq=>?_,fun q hq=>?_,fun q hq=>?_,fun q hq=>?_,fun q hq=>?_,fun q hq=>?_,fun q hq=>?_⟩⟩
 ·rcases hq with hq | rfl
  ·exact h'.nn.al q hq
  ·exact ⟨ys,e⟩
 ·rcases hq with hq | rfl
  ·exact h.nn.nr q hq
  ·exact hr
 ·rcases hq with hq | rfl
  ·exact h.nn.no q hq
  ·exact ai h.go hn
 ·rcases hq with hq | rfl
  ·exact h.nn.nc q hq
  ·exact ai oc hn
 ·rcases hq with hq | rfl
  ·exact h.nn.nf q hq
  ·exact ai of hn
 ·rcases hq with hq | rfl
  ·exact h.nn.nk q hq
  ·exact ai okn hn
 ·rcases hq with hq | rfl
  ·exact h.nn.nw q hq
  ·exact ai owh hn
end
section
variable {C:Cl}{K:WA}{H H':Hp}{rl s w bk:Addr}{g:Cfg}{n n0:aO}{rs:List Row}
theorem WAt.rows (h:WAt C K H w bk rl g n0 rs):∃as:List Addr,H rl=some (.lst (as.map V.ref)):=by
 obtain ⟨as,hr,_⟩:=h.bo.ro
 exact ⟨as,hr⟩
theorem WAt.own {p:Addr}{ys:List V}(h:WAt C K H w bk rl g n0 rs)(hp:g.N p)(k:aA p H H')(e:H' p=some (.lst ys)):WAt C K H' w bk rl g n0 rs:=by
 obtain ⟨⟨dx,dl,gl,h1,h2,h3,h4,h5,h6,h7⟩,⟨dy,f,h8,A,h9⟩,as,h10,h11⟩:=h
 obtain ⟨zs,hz⟩:=h9.nn.al p hp
 refine ⟨⟨dx,dl,gl,k _ _ (fun z=>by rw [z,hz] at h1;cases h1) h1,k _ _ (h6 p hp) h2,k _ _ (h7 p hp) h3,h4,h5,h6,h7⟩,⟨dy,f,k _ _ (fun z=>by rw [z,hz] at h8;cases h8) h8,A,h9.own hp k e⟩,as,k _ _ (h9.nn.nr p hp) h10,h11.1,fun i a r e1 e2=>?_⟩
 obtain ⟨dd,s,u1,u2,A',u3⟩:=h11.2 i a r e1 e2
 exact ⟨dd,s,u1.keep k hz,u2.keep k hz,A',u3.own hp k e⟩
theorem WAt.grow {p:Addr}{ys:List V}(h:WAt C K H w bk rl g n0 rs)(hn:H p=none)(k:av H H')(e:H' p=some (.lst ys)):WAt C K H' w bk rl (g.plus p) n0 rs:=by
 obtain ⟨⟨dx,dl,gl,h1,h2,h3,h4,h5,h6,h7⟩,⟨dy,f,h8,A,h9⟩,as,h10,h11⟩:=h
 have hr:rl≠p:=ai h10 hn
 refine ⟨⟨dx,dl,gl,k _ _ h1,k _ _ h2,k _ _ h3,h4,h5,fun q hq=>?_,fun q hq=>?_⟩,⟨dy,f,k _ _ h8,A,h9.grow hr hn k e⟩,as,k _ _ h10,h11.1,fun i a r e1 e2=>?_⟩
 ·rcases hq with hq | rfl
  ·exact h6 q hq
  ·exact ai h2 hn
 ·rcases hq with hq | rfl
  ·exact h7 q hq
  ·exact ai h3 hn
 ·obtain ⟨dd,s,u1,u2,A',u3⟩:=h11.2 i a r e1 e2
  exact ⟨dd,s,k.tup u1,k.tup u2,A',u3.grow hr hn k e⟩
end
noncomputable def df (ds:List Int)(ls:List Cd)(slow fast:Int)(lds:List Ld)(N:Addr->Prop):Cfg:=⟨ds,ls,slow,fast,lds.map (·.2.2),lds.map (·.1),N⟩
noncomputable def gh (ds:List Int)(ls:List Cd)(lds:List Ld):aO:=⟨ds.getD 0 0,ds.map fun _=>false,ls.map fun _=>false,.no,lds.map (·.2.1)⟩
theorem aT.keepI {C:Cl}{K:WA}{H H':Hp}{rl s x D dp:Addr}{g:Cfg}{A:SA}{n:aO}{us:List (Str×V)}(h:aT C K H rl g s A n)(k:aA x H H')(hx:H x=some (.ins D dp us))(n1:s≠x)(n2:A.b≠x)(n3:A.y≠x):aT C K H' rl g s A n:=by
 refine ⟨k _ _ n1 h.ob,k _ _ (fun z=>?_) h.go,h.be.offI k hx n2,h.ya.offI k hx n3,h.ap,h.nn.keepI k hx⟩
 have:=h.go
 rw [z,hx] at this
 cases this
theorem Jf {ds:List Int}{ls:List Cd}{slow fast:Int}{lds:List Ld}{N:Addr->Prop}(h1:bX ds)(h2:ls.length=ds.length)(h3:∀x∈ls,ez x)(h4:1<=slow/\slow<=fast/\fast<=500)(h5:lds.length<=30):gN (df ds ls slow fast lds N):=
 ⟨h1,h2,h3,h4.1,h4.2.1,h4.2.2,by simp [df],by simpa [df] using h5⟩
theorem FR {ds:List Int}{ls:List Cd}{slow fast:Int}{lds:List Ld}{N:Addr->Prop}(h1:bX ds)(h2:ls.length=ds.length)(h6:∀x∈lds,jv ds.length x):dB (df ds ls slow fast lds N) (gh ds ls lds):=by
 have l2:=h1.l2
 have l6:=h1.l6
 refine ⟨by simp [df,gh],by simp [df,gh,h2],by simp [df,gh],fun x hx=>?_,fun i j hi hj h10 e=>?_,⟨0,.inl rfl,0,?_⟩,fun l r e=>?_⟩
 ·simp only [gh,List.mem_map] at hx
  obtain ⟨y,hy,rfl⟩:=hx
  exact .inl (h6 y hy).1
 ·exfalso
  have hm:(gh ds ls lds).ws.getD i 0∈(gh ds ls lds).ws:=cM hi
  simp only [gh,List.mem_map] at hm
  obtain ⟨y,hy,e1⟩:=hm
  have:=(h6 y hy).1
  simp only [gh] at h10
  omega
 ·exact il h1 (i:=0) (by omega) rfl
 ·rcases e with e | e<;>cases e
end L2
namespace PySem
open PySem.Spec PyProof.Rows
section
variable {prog:Program}{w:World}{A:Around}{E:Value->Shared->Prop}{s:Shared}
theorem xh {it t:Addr}{items:Array Value}(hne:t≠it):∀(n i:Nat) (s:Shared) (Q:List Value->Shared->Prop),s.heap.IsListIter it t i->s.heap.IsList t items->i+n<=items.size->
  (∀h',Heap.IsListIter h' it t (i+n)->Heap.SameBut it s.heap h'->Q ((items.toList.drop i).take n) {s with heap:=h'})->wpAny (model prog w) A (draw (.ref it) n) Q E s
 | 0,i,s,Q,hit,_,_,hQ=>by
  show wpAny _ _ (pure []) Q E s
  exact wpAny_pure (by simpa using hQ s.heap hit (Heap.SameBut.refl ..))
 | n+1,i,s,Q,hit,ht,hle,hQ=>by
  have hlt:i < items.size:=by omega
  show wpAny _ _ (pyNext (.ref it) >>= _) Q E s
  refine wpAny_bind (wpAny_pyNext_list_item hit ht (x:=items[i]) (by simp [hlt]) fun h₁ hit₁ hs₁=>?_)
  refine wpAny_bind (wpAny_holding (xh hne n (i+1) _ _ hit₁ (ht.extBut hs₁.extBut hne) (by omega) fun h₂ hit₂ hs₂=>wpAny_pure ?_))
  have hd:items.toList.drop i=items[i]::items.toList.drop (i+1):=by simp [List.drop_eq_getElem_cons,hlt]
  have:=hQ h₂ (by rw [show i+(n+1)=i+1+n by omega];exact hit₂) (hs₁.trans hs₂)
  rw [hd,List.take_succ_cons] at this
  exact this
theorem rk {t:Addr}{items:Array Value}{Q:List Value->Shared->Prop}(hh:A.handled=none)(ht:s.heap.IsList t items)
  (hQ:∀h',Heap.ExtBut s.heap.objs.size s.heap h'->Q items.toList {s with heap:=h'}):wpAny (model prog w) A (unpackItems (.ref t) items.size none) Q E s:=by
 have hlt:t≠s.heap.objs.size:=by obtain ⟨o,ho,_⟩:=ht;exact Nat.ne_of_lt (Heap.lt_size ho)
 unfold unpackItems
 refine wpAny_bind ?_
 ·unfold notIterableAtAll
  refine wpAny_bind (wpAny_specialOf ht.typeIs slot_list_iter.lookup ?_)
  refine wpAny_pure ?_
  simp only [Bool.false_eq_true,if_false]
  refine wpAny_bind (wpAny_holding (wpAny_pyIter_list ht ?_))
  refine wpAny_bind (wpAny_holding (xh hlt items.size 0 _ _ ⟨_,Heap.get?_push_size _ rfl,rfl,rfl⟩ (ht.push _) (by omega) fun h₁ hit₁ hs₁=>?_))
  have hall:List.take items.size (List.drop 0 items.toList)=items.toList:=by
   rw [List.drop_zero];exact List.take_of_length_le (by simp)
  rw [hall]
  rw [if_neg (by simp)]
  have ht₁:Heap.IsList h₁ t items:=(ht.push _).extBut hs₁.extBut hlt
  refine wpAny_bind (wpAny_holding (wpAny_pyNext_list_end hh hit₁ ht₁ (by simp) fun h₂ he₂=>?_))
  simp only [Option.isSome_none,Bool.false_eq_true,if_false]
  refine wpAny_pure (hQ h₂ fun b o hb e=>he₂ b o hb (hs₁.extBut b o hb (Heap.get?_push_of_some _ e)))
theorem y4 {t:Addr}{items:Array Value}{targets:List (Bool×(Value->Sem Unit))}{Q:Unit->Shared->Prop}(hh:A.handled=none)(ht:s.heap.IsList t items)
  (hn:targets.length=items.size) (hstar:targets.findIdx? (·.1)=none)
  (h:∀h',Heap.ExtBut s.heap.objs.size s.heap h'->wpAny (model prog w) A (assignInOrder (targets.map (·.2)) items.toList) Q E {s with heap:=h'}) :
  wpAny (model prog w) A (unpack (.ref t) targets) Q E s:=by
 unfold unpack
 rw [hn,hstar]
 exact wpAny_bind (wpAny_holding (rk hh ht h))
theorem pG {env:Env}{elts:List Expr}{x1}{pos:Pos}{t:Addr}{items:Array Value}{Q:Unit->Shared->Prop}(hh:A.handled=none)(ht:s.heap.IsList t items)
  (hn:(assignEach elts env).length=items.size) (hstar:(assignEach elts env).findIdx? (·.1)=none)
  (h:∀h',Heap.ExtBut s.heap.objs.size s.heap h'->wpAny (model prog w) A (assignInOrder ((assignEach elts env).map (·.2)) items.toList) Q E {s with heap:=h'}) :
  wpAny (model prog w) A (assign (.Tuple elts x1 pos) env (.ref t)) Q E s:=by
 rw [assign_Tuple]
 exact wpAny_bind (wpAny_standAt (y4 hh ht hn hstar h))
end
end PySem
namespace L2
open PySem PySem.Spec PyProof.Rows PySem.SeqAt
section
variable {X:Cx}{pos:Pos}
noncomputable def Hv (K:WA)(n:Nat)(t:TGs):TG:=fun v σ H Q=>∃a xs,v=.ref a/\SqL K H a xs/\xs.length=n/\t xs σ H Q
theorem Jg {es:List Expr}{k:Nat}{t:TGs}{n:Nat}(hc:X.calm=true)(h:PGs X es t)
  (hn:(assignEach es X.env).length=n:=by rfl) (hst:(assignEach es X.env).findIdx? (·.1)=none:=by rfl):PG X (.Tuple es k pos) (Hv X.K n t):=by
 intro pins s σ H v u Q I r hw
 obtain ⟨a,xs,e1,hq,hl,hw⟩:=hw
 subst e1
 cases r
 obtain ⟨its,rv,ht,hz⟩:=I.list hq
 refine pG (I.ok.hd hc) ht.isList (by simp [hn,←hl,rv.length]) hst fun h' hx=>?_
 have I1:Inv X pins σ H {s with heap:=h'}:=I.kept (t':=s.toks) fun b o e=>hx b o (Nat.ne_of_lt (Heap.lt_size e)) e
 exact h pins _ σ H xs _ Q I1 (by simpa using rv) hw
noncomputable def Jh (K:WA):R2:=fun x y H Q=>∃a b xs ys,x=.ref a/\y=.ref b/\SqL K H a xs/\SqL K H b ys/\xs.all bg=true/\ys.all bg=true/\Q (.bl (!eqL xs ys)) H
theorem Ji (hu:X.A.units < cLine):OpR X (compareOp .NotEq) (Jh X.K):=by
 intro pins s σ H x y u v Q I rx ry h
 obtain ⟨a,b,xs,ys,rfl,rfl,ha,hb,fa,fb,q⟩:=h
 cases rx;cases ry
 obtain ⟨ia,ra,pa,za⟩:=I.list ha
 obtain ⟨ib,rb,pb,zb⟩:=I.list hb
 have la:=ra.length
 have lb:=rb.length
 by_cases hl:xs.length=ys.length
 ·refine RcNeAt.lists (e:=fun j=>eqV (xs.getD j .non) (ys.getD j .non)) pa.isList pb.isList (by simp only [List.size_toArray];omega) hu (fun j h1 h2=>?_) X.prog X.w _ _ ?_
  ·simp only [List.size_toArray] at h1 h2
   have hx:xs[j]?=some (xs.getD j .non):=by
    rw [List.getD_eq_getElem?_getD,List.getElem?_eq_getElem (by omega)];rfl
   have hy:ys[j]?=some (ys.getD j .non):=by
    rw [List.getD_eq_getElem?_getD,List.getElem?_eq_getElem (by omega)];rfl
   obtain ⟨u,eu,ru⟩:=ra.get hx
   obtain ⟨v,ev,rv⟩:=rb.get hy
   have e1:ia.toArray[j]=u:=by
    have:=List.getElem?_eq_some_iff.mp eu
    simpa using this.2
   have e2:ib.toArray[j]=v:=by
    have:=List.getElem?_eq_some_iff.mp ev
    simpa using this.2
   rw [e1,e2]
   exact ot ru rv (List.all_eq_true.mp fa _ (List.mem_of_getElem? hx)) (List.all_eq_true.mp fb _ (List.mem_of_getElem? hy))
  ·have e:(List.range ia.toArray.size).all (fun j=>eqV (xs.getD j .non) (ys.getD j .non))=eqL xs ys:=by
    rw [List.size_toArray,←la]
    exact tW hl
   rw [e]
   exact ⟨.bl (!eqL xs ys),H,I,rfl,q⟩
 ·refine RcNeAt.lists_lengths pa.isList pb.isList (by simp only [List.size_toArray,bne_iff_ne,ne_eq];omega) hu X.prog X.w _ _ ?_
  have e:eqL xs ys=false:=by
   cases he:eqL xs ys with
   | false=>rfl
   | true=>exact absurd (tV he) hl
  rw [e] at q
  exact ⟨.bl true,H,I,rfl,q⟩
end
end L2
namespace L2
open PySem PySem.Spec PyProof.Rows
inductive Run (g:Cfg)(n0:aO):List Row->Prop
 | nil:Run g n0 []
 | snoc {rs:List Row} {d:Dd} (h:Run g n0 rs) (ok:xU d) (hr:eI g (ak n0 rs) d=none):Run g n0 (rs++[uw g n0 rs d])
theorem y6 {α:Type}{xs ys:List α}{a b:α}(h:xs++[a]=ys++[b]):xs=ys/\a=b:=by
 have:=List.append_inj' h rfl
 exact ⟨this.1,by simpa using this.2⟩
theorem Run.inv {g:Cfg}{n0:aO}{rs:List Row}{r:Row}(h:Run g n0 (rs++[r])):Run g n0 rs/\∃d,xU d/\eI g (ak n0 rs) d=none/\r=uw g n0 rs d:=by
 generalize e:rs++[r]=rs' at h
 cases h with
 | nil=>simp at e
 | @snoc rs2 d h ok hr=>
  obtain ⟨rfl,rfl⟩:=y6 e
  exact ⟨h,d,ok,hr,rfl⟩
theorem Run.snap {g:Cfg}{n0:aO}{rs:List Row}(hg:gN g)(h0:dB g n0)(h:Run g n0 rs):dB g (ak n0 rs):=by
 induction h with
 | nil=>exact h0
 | snoc h ok hr ih=>
  rw [jf]
  exact ih.next hg ok hr
theorem Run.deeds {g:Cfg}{n0:aO}{rs:List Row}(h:Run g n0 rs):∀r∈rs,∃d,r.deed=ddV d:=by
 induction h with
 | nil=>intro r hr;cases hr
 | @snoc rs d h ok hr ih=>
  intro r hr
  rcases List.mem_append.mp hr with hr | hr
  ·exact ih r hr
  ·rw [List.mem_singleton] at hr
   subst hr
   exact ⟨d,rfl⟩
def tX (K:WA)(H:Hp)(a:Addr)(r:Row):Prop:=∃dd,SqT K H a [.int r.began,.int r.ended,.ref dd]/\SqT K H dd r.deed
def cE (K:WA)(H:Hp)(as:List Addr)(rs:List Row):Prop:=as.length=rs.length/\∀(i:Nat) a r,as[i]?=some a->rs[i]?=some r->tX K H a r
theorem cE.same {K:WA}{H H':Hp}{as:List Addr}{rs:List Row}(h:cE K H as rs)(e:av H H'):cE K H' as rs:=⟨h.1,fun i a r e1 e2=>by
 obtain ⟨dd,h1,h2⟩:=h.2 i a r e1 e2
 exact ⟨dd,e.tup h1,e.tup h2⟩⟩
theorem cE.keep {K:WA}{H H':Hp}{p:Addr}{ys:List V}{as:List Addr}{rs:List Row}(h:cE K H as rs)(e:aA p H H')(hp:H p=some (.lst ys)):cE K H' as rs:=⟨h.1,fun i a r e1 e2=>by
 obtain ⟨dd,h1,h2⟩:=h.2 i a r e1 e2
 exact ⟨dd,h1.keep e hp,h2.keep e hp⟩⟩
theorem cE.nil {K:WA}{H:Hp}:cE K H [] []:=⟨rfl,fun i a r e _=>by simp at e⟩
theorem cE.push {K:WA}{H:Hp}{as:List Addr}{rs:List Row}{a:Addr}{r:Row}(h:cE K H as rs)(hr:tX K H a r):cE K H (as++[a]) (rs++[r]):=by
 refine ⟨by rw [List.length_append,List.length_append,h.1];rfl,fun i b x e1 e2=>?_⟩
 by_cases hi:i < as.length
 ·rw [List.getElem?_append_left hi] at e1
  rw [List.getElem?_append_left (by rw [←h.1];exact hi)] at e2
  exact h.2 i b x e1 e2
 ·rw [List.getElem?_append_right (by omega)] at e1
  rw [List.getElem?_append_right (by rw [←h.1];omega),←h.1] at e2
  have hz:i - as.length=0:=by
   have:=(List.getElem?_eq_some_iff.mp e1).1
   simp at this
   omega
  rw [hz] at e1 e2
  cases e1
  cases e2
  exact hr
theorem cE.last {K:WA}{H:Hp}{as:List Addr}{rs:List Row}{r:Row}(h:cE K H as (rs++[r])):∃as' a,as=as'++[a]/\cE K H as' rs/\tX K H a r:=by
 have hl:=h.1
 rw [List.length_append,List.length_singleton] at hl
 rcases cH as with rfl | ⟨as',a,rfl⟩
 ·cases hl
 ·have hl':as'.length=rs.length:=by rw [List.length_append,List.length_singleton] at hl;omega
  refine ⟨as',a,rfl,⟨hl',fun i b x e1 e2=>?_⟩,?_⟩
  ·have hi:=(List.getElem?_eq_some_iff.mp e1).1
   exact h.2 i b x (by rw [List.getElem?_append_left hi];exact e1) (by rw [List.getElem?_append_left (by omega)];exact e2)
  ·refine h.2 as'.length a r ?_ ?_
   ·rw [List.getElem?_append_right (Nat.le_refl _)];simp
   ·rw [List.getElem?_append_right (by omega),hl'];simp
noncomputable def Hw (r:Row):Dt:=.tup [.flat (.int r.began),.flat (.int r.ended),.tup (r.deed.map Dt.flat)]
noncomputable def Hx (rs:List Row):Dt:=.lst (rs.map Hw)
theorem Cz {K:WA}{H:Hp}{a:Addr}{r:Row}{n:Nat}(h:tX K H a r)(hd:∃d,r.deed=ddV d):Rep K H (n+2) (.ref a) (Hw r):=by
 obtain ⟨dd,h1,h2⟩:=h
 obtain ⟨d,hd⟩:=hd
 refine .tup h1 (by show 3<=100000;decide) rfl fun i x y e1 e2=>?_
 match i,e1,e2 with
 | 0,e1,e2=>cases e1;cases e2;exact .flat rfl
 | 1,e1,e2=>cases e1;cases e2;exact .flat rfl
 | 2,e1,e2=>
  cases e1;cases e2
  have:=BK d
  exact dj h2 (by rw [hd];omega) (by rw [hd];exact uu d)
 | i+3,e1,e2=>simp at e1
theorem y8 {K:WA}{H:Hp}{p:Addr}{as:List Addr}{rs:List Row}{n:Nat}(hp:SqL K H p (as.map V.ref))(h:cE K H as rs)(hd:∀r∈rs,∃d,r.deed=ddV d)(hl:rs.length<=100000):Rep K H (n+3) (.ref p) (Hx rs):=by
 refine .lst hp (by rw [WB,h.1];exact hl) (by rw [WB,WB,h.1]) fun i x y e1 e2=>?_
 rw [List.getElem?_map] at e1 e2
 cases ea:as[i]? with
 | none=>rw [ea] at e1;cases e1
 | some a=>
  cases er:rs[i]? with
  | none=>rw [er] at e2;cases e2
  | some r=>
   rw [ea] at e1;rw [er] at e2
   cases e1;cases e2
   exact Cz (h.2 i a r ea er) (hd r (List.mem_of_getElem? er))
theorem xi {K:WA}{H:Hp}{a:Addr}{bs:List Bool}{n:Nat}(h:SqL K H a (bs.map V.bl))(hb:bs.length<=100000):Rep K H (n+1) (.ref a) (.lst ((bs.map V.bl).map Dt.flat)):=by
 refine .lst h (by rw [WB];exact hb) (by simp) fun i x y e1 e2=>?_
 rw [List.getElem?_map,e1] at e2
 cases e2
 rw [List.getElem?_map] at e1
 cases eb:bs[i]? with
 | none=>rw [eb] at e1;cases e1
 | some b=>rw [eb] at e1;cases e1;exact .flat rfl
theorem WAt.off {C:Cl}{K:WA}{H:Hp}{w bk rl:Addr}{g:Cfg}{n0:aO}{rs:List Row}(h:WAt C K H w bk rl g n0 rs)(p:Addr)(hp:g.N p):rl≠p:=by
 obtain ⟨dx,f,_,A,hA⟩:=h.bo.ob
 exact hA.nn.nr p hp
end L2
namespace PySem
open Sem (wp)
open Builtin PySem.Spec PyProof.Rows PySem.SeqAt
theorem rm:fillsNumberSlot (.type "tuple") "mul"=pure false:=
 fillsNumberSlot_seq (id:="tuple.__mul__") (r:=some (.builtin "tuple.__rmul__")) F.slot_tuple_mul.lookup (by decide +kernel) F.slot_tuple_rmul.lookup (by decide +kernel)
theorem xW:seqRepeat? (.type "tuple")=pure (some (.builtin "tuple.__mul__")):=by
 unfold seqRepeat?
 rw [seqSlot_of (T:="tuple") (name:="__mul__") (id:="tuple.__mul__") F.slot_tuple_mul.lookup (by decide +kernel),seqSlot_of (T:="tuple") (name:="__rmul__") (id:="tuple.__rmul__") F.slot_tuple_rmul.lookup (by decide +kernel)]
 rfl
theorem kJ (a:Int)(t:Tok)(l:Addr)(items:Array Value)(n:Nat)(dd:Option Addr)(sl:Array (Option Value)) :
  Meets (Builtin.«int.__rmul__» ⟨[.int a t,.ref l],[]⟩) (fun _ R s=>s.heap.get? l=some {cls:=.type "tuple",dict:=dd,data:=.seq items n,slots:=sl}/\R (.ok (.ret Value.notImplemented)) s):=
 .of_wp fun prog w A R s h=>by obtain ⟨hp,g,d,tk,os⟩:=s;obtain ⟨hl,h⟩:=h;wp_walk;exact ⟨_,rfl,h⟩
theorem Av (l:Addr)(items:Array Value)(n:Nat)(dd:Option Addr)(sl:Array (Option Value))(x:Int)(u:Tok)(h2:2<=x)(h3:x<=100)(hz:items.size=1) :
  Meets (Builtin.«tuple.__mul__» ⟨[.ref l,.int x u],[]⟩) (fun A R s=>s.heap.get? l=some {cls:=.type "tuple",dict:=dd,data:=.seq items n,slots:=sl}/\
   R (.ok (.ret (.ref s.heap.objs.size))) {s with heap:=s.heap.push {cls:=.type "tuple",data:=.seq ((List.replicate x.toNat items).foldl (·++·) #[])}}):=
 .of_wp fun prog w A R s h=>by
  obtain ⟨hp,g,d,tk,os⟩:=s;obtain ⟨hl,h⟩:=h
  have c1:¬(decide (x < -(2 ^ 63)) || decide (x≥2 ^ 63))=true:=by simp;omega
  have c2:¬(items.isEmpty || x == 1)=true:=by
   simp only [Array.isEmpty,Bool.or_eq_true,beq_iff_eq,decide_eq_true_eq];omega
  have c3:¬(decide (x<=0) || items.isEmpty)=true:=by
   simp only [Array.isEmpty,Bool.or_eq_true,beq_iff_eq,decide_eq_true_eq];omega
  have c4:¬((items.size:Int) * x > (2 ^ 63 - 1) / 8):=by rw [hz];omega
  have c5:¬Builtin.Tuple.tupleTooMany ((items.size:Int) * x)=true:=by
   simp only [Builtin.Tuple.tupleTooMany,decide_eq_true_eq,hz,sizeLine_eq];omega
  have c6:¬((List.foldl (fun x1 x2=>x1++x2) #[] (List.replicate x.toNat items)).size > sizeLine):=by
   have f0:∀(m:Nat) (b:Array Value),(List.foldl (fun x1 x2=>x1++x2) b (List.replicate m items)).size=b.size+m:=fun m=>by
    induction m with
    | zero=>intro b;rfl
    | succ m ih=>intro b;rw [List.replicate_succ,List.foldl_cons,ih,Array.size_append,hz];omega
   rw [f0,sizeLine_eq]
   show ¬(0+x.toNat > _)
   omega
  wp_walk using wpAny_loadPart' hl
  rw [if_neg c1]
  wp_walk using wpAny_loadPart' hl
  rw [if_neg c4]
  wp_walk using wpAny_loadPart' hl
  rw [if_neg c5]
  wp_walk using wpAny_loadPart' hl
  exact ⟨_,rfl,h⟩
theorem lZ {M:Model}{A:Around}{E:Value->Shared->Prop}{s:Shared}{β:Type}{c:β}{f:Nat->β->Sem (ForInStep β)}{Q:β->Shared->Prop} :
  ∀(l:List Nat) (j:Nat) (hj:j < l.length) (hno:∀i (hi:i < l.length),i < j->∀Q',Q' (.yield c) s->wpAny M A (f l[i] c) Q' E s) (hit:wpAny M A (f l[j] c) (fun r s1=>match r with | .done b=>Q b s1 | .yield _=>False) E s),wpAny M A (forIn l c f) Q E s
 | [],j,hj,_,_=>absurd hj (Nat.not_lt_zero _)
 | x::l,0,hj,_,hit=>by
  rw [List.forIn_cons]
  refine wpAny_bind (wpAny_mono hit ?_ (fun _ _ z=>z))
  intro r s1 h1
  cases r with
  | done b=>exact wpAny_pure h1
  | yield b=>exact h1.elim
 | x::l,j+1,hj,hno,hit=>by
  rw [List.forIn_cons]
  refine wpAny_bind (hno 0 (Nat.succ_pos _) (Nat.succ_pos _) _ ?_)
  exact lZ l j (by simpa using hj) (fun i hi hij=>hno (i+1) (by simpa using hi) (by omega)) hit
theorem uA {M:Model}{A:Around}{E:Value->Shared->Prop}{s:Shared}{β:Type}{c:β}{f:Nat->β->Sem (ForInStep β)}{Q:β->Shared->Prop}{n:Nat}(j:Nat)(hj:j < n)
  (h:(∀i,i < j->∀Q',Q' (.yield c) s->wpAny M A (f i c) Q' E s)/\wpAny M A (f j c) (fun r s1=>match r with | .done b=>Q b s1 | .yield _=>False) E s) :
  wpAny M A (forIn ([:n]:Std.Legacy.Range) c f) Q E s:=by
 rw [Std.Legacy.Range.forIn_eq_forIn_range']
 have hl:([:n]:Std.Legacy.Range).size=n:=by simp [Std.Legacy.Range.size]
 refine lZ _ j (by simp [hl];exact hj) (fun i hi hij Q' q=>?_) ?_
 ·have:=h.1 i hij Q' q
  simpa using this
 ·have:=h.2
  simpa using this
theorem vS (l:Addr)(items:Array Value)(n:Nat)(dd:Option Addr)(sl:Array (Option Value))(x:Value)(e:Value->Bool)(j:Nat)(hj:j < items.size)
  (hit:e items[j]=true) (hno:∀m (hm:m < items.size),m < j->e items[m]=false) :
  Meets (Builtin.«tuple.index» ⟨[.ref l,x],[]⟩)
   (fun A R s=>s.heap.get? l=some {cls:=.type "tuple",dict:=dd,data:=.seq items n,slots:=sl}/\(∀y,y∈items->EqAt A.in1 s y x (e y))/\R (.ok (.ret (.int j s.toks))) {s with toks:=s.toks+1}):=
 .of_wp fun prog w A R s h=>by
  obtain ⟨hp,g,d,tk,os⟩:=s;obtain ⟨hl,he,h⟩:=h
  wp_walk using wpAny_loadPart' hl,uA j (show j < min items.size items.size by omega)
  refine ⟨fun i hi Q' q=>?_,?_⟩
  ·have hm:i < items.size:=by omega
   simp only [getElem?_pos items i hm]
   refine wpAny_bind (he _ (Array.getElem_mem hm) prog w _ _ ?_)
   rw [hno i hm hi,if_neg Bool.false_ne_true]
   exact wpAny_pure q
  ·simp only [getElem?_pos items j hj]
   refine wpAny_bind (he _ (Array.getElem_mem hj) prog w _ _ ?_)
   rw [hit,if_pos rfl]
   wp_walk
   exact ⟨_,rfl,h⟩
section
variable {prog:Program}{w:World}{A:Around}{E:Value->Shared->Prop}{s:Shared}
theorem vT {l:Addr}{vs:List Value}{Q:List Value->Shared->Prop}(hl:IsTup s.heap l vs.toArray)
  (h:Q vs {s with heap:=(s.heap.push (seqObj "list" #[] 0)).update s.heap.objs.size (Obj.mapSeq (·++vs.toArray))}) (hsz:vs.length<=sizeLine:=by size_fits) :
  wpAny (model prog w) A (collect (.ref l)) Q E s:=by
 obtain ⟨o,ho,hc,n,hd⟩:=id hl
 unfold collect
 refine wpAny_bind (wpAny_runValue (codeAny_builtin entry_proto_collect' ?_))
 show wpAny _ _ (do again (.builtin "list.__iadd__" ⟨[←newList [],.ref l],[]⟩)) _ _ s
 refine wpAny_bind (wpAny_newList (wpAny_pure ⟨Code.quiet_builtin _ (by decide +kernel),codeAny_builtin entry_list_iadd' ?_⟩))
 show wpAny _ _ (Builtin.List.listExtendWith (.ref s.heap.objs.size) (.ref l) (.ref s.heap.objs.size)) _ _ {s with heap:=s.heap.push (seqObj "list" #[] 0)}
 unfold Builtin.List.listExtendWith
 have ho':(s.heap.push (seqObj "list" #[] 0)).get? l=some o:=Heap.get?_push_of_some _ ho
 refine wpAny_bind (wpAny_typeOf (T:="tuple") ⟨o,ho',hc⟩ ?_)
 have ht:(Value.type "tuple" == Value.type "tuple")=true:=by rfl
 rw [if_pos (by rw [ht];simp)]
 refine wpAny_bind (listItems_at ho' hd ?_)
 refine wpAny_bind (listItems_at (xs:=#[]) (n:=0) (Heap.get?_push_size _ rfl) rfl ?_)
 rw [if_neg (by simp)]
 refine wpAny_bind (listUpdate_at (xs:=#[]) (n:=0) (Heap.get?_push_size _ rfl) rfl ?_ (Nat.zero_le _) (by show (#[]++vs.toArray).size<=sizeLine+1;simp only [Array.size_append,List.size_toArray,List.length_nil];omega))
 refine wpAny_pure ?_
 show wpAny (model prog w) A (do
   let o ←load s.heap.objs.size
   match o.data with
   | .seq xs _=>pure xs.toList
   | _=>unsupported "internal:collect") Q E {s with heap:=(s.heap.push (seqObj "list" #[] 0)).update s.heap.objs.size (Obj.mapSeq (·++vs.toArray))}
 refine wpAny_bind (wpAny_load (get?_update_seq (Heap.get?_push_size _ rfl) _) ?_)
 show wpAny _ _ (pure ((#[]:Array Value)++vs.toArray).toList) Q E _
 rw [show ((#[]:Array Value)++vs.toArray).toList=vs by simp]
 exact wpAny_pure h
theorem xX {l:Addr}{vs:List Value}{ns:List Int}{Q:Value->Shared->Prop}(hl:IsTup s.heap l vs.toArray)(hI:IntsAre vs ns)(h64:vs.length < 64)
  (h:∀(out:Array Value) (ns':List Int),IntsAre out.toList ns'->ns'.Perm ns->ns'.Pairwise (·<=·)->Q (.ref (s.heap.objs.size+1)) {s with heap:=sortedAll s.heap vs out}) :
  wpAny (model prog w) A (call (.builtin "sorted") [.ref l]) Q E s:=by
 refine Calls.call_function_entry kind_sorted plain_sorted entry_sorted (args_sorted1 _) ?_
 unfold Builtin.«sorted»
 refine wpAny_bind (m:=checkCount "sorted" 1 1 _) (wpAny_pure ?_)
 refine wpAny_bind (vT hl ?_ (by rw [sizeLine_eq];omega))
 refine wpAny_bind (wpAny_newList ?_)
 have hsz:((s.heap.push (seqObj "list" #[] 0)).update s.heap.objs.size (Obj.mapSeq (·++vs.toArray))).objs.size=s.heap.objs.size+1:=by
  rw [Heap.size_update,size_push']
 have hoL:(((s.heap.push (seqObj "list" #[] 0)).update s.heap.objs.size (Obj.mapSeq (·++vs.toArray))).push (seqObj "list" vs.toArray 0)).get? (s.heap.objs.size+1)=some (seqObj "list" vs.toArray 0):=by
  rw [←hsz];exact Heap.get?_push_size _ rfl
 show wpAny _ _ _ _ _ {s with heap:=((s.heap.push (seqObj "list" #[] 0)).update s.heap.objs.size (Obj.mapSeq (·++vs.toArray))).push (seqObj "list" vs.toArray 0)}
 rw [hsz]
 refine wpAny_bind (wpAny_holding (wpAny_call_entry slot_list_sort ⟨_,hoL,rfl⟩ entry_list_sort (list_sort_tree hoL hI h64 fun out ns' a1 a2 a3=>⟨_,rfl,?_⟩) (args_list_sort _)))
 exact wpAny_pure ⟨_,rfl,h out ns' a1 a2 a3⟩
end
end PySem
namespace L2
open PySem PySem.Spec PyProof.Rows PySem.SeqAt
section
variable {X:Cx}
noncomputable def Hy (K:WA):R2:=fun x y H Q=>∃l k v,x=.ref l/\y=.int k/\SqT K H l [v]/\2<=k/\k<=100/\∀p,H p=none->Q (.ref p) (upd H p (.tup (List.replicate k.toNat v)))
theorem Eg {α:Type}(n:Nat)(x:α):(List.replicate n [x]).flatten=List.replicate n x:=by
 induction n with
 | zero=>rfl
 | succ n ih=>rw [List.replicate_succ,List.replicate_succ,List.flatten_cons,ih];rfl
theorem y9 {v:V}{u:Value}(r:bI v u):∀n,bz (List.replicate n v) (List.replicate n u)
 | 0=>.nil
 | n+1=>.cons r (y9 r n)
theorem FT:OpR X (binaryOp .Mult) (Hy X.K):=by
 intro pins s σ H x y v u Q I rx ry h
 obtain ⟨l,k,z,rfl,rfl,hS,h1,h2,q⟩:=h
 cases rx
 obtain ⟨t,rfl⟩:=ry
 obtain ⟨its,r,ht,hz⟩:=I.tuple hS
 obtain ⟨w,rfl,rw1⟩:=r.one
 obtain ⟨⟨cls,dd,data,sl⟩,ho,hc,n,hd⟩:=id ht
 simp only at hc hd
 subst hc hd
 have e:List.foldl (fun x1 x2=>x1++x2) #[] (List.replicate k.toNat [w].toArray)=(List.replicate k.toNat w).toArray:=by
  have:=wY [w] k.toNat []
  rw [List.nil_append,Eg] at this
  exact this
 refine wpAny_binaryOp_repeat_ref (T:="tuple") (U:="int") (by decide) ⟨_,ho,rfl⟩ (fun s'=>typeIs_int s' k t) rm F.fills_int_mul F.slot_int_rmul xW F.slot_int_index.lookup
  (call_meets F.slot_int_rmul (typeIs_int s k t) F.entry_int_rmul (F.args_int_rmul_2 _ _) (kJ k t l [w].toArray n dd sl)
   ⟨ho,rfl,⟨_,ho,rfl⟩,call_meets F.slot_tuple_mul ⟨_,ho,rfl⟩ F.entry_tuple_mul (F.args_tuple_mul_2 _ _) (Av l [w].toArray n dd sl k t h1 h2 rfl) ⟨ho,?_⟩⟩)
 rw [e]
 refine ⟨.ref s.heap.objs.size,_,I.laid (t':=s.toks) (o:=.tup (List.replicate k.toNat z)) (fun b ob q=>Heap.get?_push_of_some _ q) (Nat.le_refl _) ?_,rfl,q _ (I.hok.fresh (Nat.le_refl _))⟩
 exact ⟨by rw [List.length_replicate,sizeLine_eq];omega,_,y9 rw1 _,hZ.new _ _⟩
noncomputable def BL:V->List V->Hp->VK->Prop:=fun x vs H Q=>∃(l:Addr) (ns:List Int) (k:Int),x=.ref l/\vs=[.int k]/\H l=some (.tup (ns.map V.int))/\k∈ns/\Q (.int (ns.idxOf k:Nat)) H
theorem xj:MtR X "tuple.index" BL:=by
 intro pins s σ H x vs v us Q I rx rv h
 obtain ⟨l,ns,k,rfl,rfl,hq,hk,q⟩:=h
 cases rx
 obtain ⟨u,rfl,t,rfl⟩:=rv.one
 obtain ⟨its,r,pl,hz⟩:=I.tuple (SqT.of hq)
 have hi:IntsAre its ns:=qZ r
 obtain ⟨⟨cls,dd,data,sl⟩,ho,hc,n,hd⟩:=id pl
 simp only at hc hd
 subst hc hd
 have hlen:=hi.length
 have hj:ns.idxOf k < ns.length:=List.idxOf_lt_length_iff.mpr hk
 refine call_meets PySem.F.slot_tuple_index ⟨_,ho,rfl⟩ PySem.F.entry_tuple_index (PySem.F.args_tuple_index_2 _ _)
  (vS l its.toArray n dd sl (.int k t) (isInt k) (ns.idxOf k) (by simpa [hlen] using hj) ?_ ?_) ⟨ho,fun y hy=>(eq_isInt k t hi y (by simpa using hy)).at _ _,?_⟩
 ·show isInt k its[ns.idxOf k]=true
  rw [isInt_at k hi _ (by omega) hj]
  simpa using List.getElem_idxOf hj
 ·intro j hjs hlt
  show isInt k its[j]=false
  rw [isInt_at k hi j (by simpa using hjs) (by omega)]
  exact ne_of_lt_idxOf hlt _
 ·exact ⟨.int (ns.idxOf k:Nat),H,I.tok _,⟨_,rfl⟩,q⟩
noncomputable def Kr (r:V->List V->Hp->VK->Prop)(to:TE)(t:TA):TE:=fun σ H Q=>to σ H fun x H1=>(∃a xs,x=.ref a/\H1 a=some (.tup xs))/\t σ H1 fun xs H2=>r x xs H2 Q
theorem Eh {o e:Expr}{es:List Expr}{to:TE}{t:TA}{name:Str}{apos cpos:Pos}{id:String}{r:V->List V->Hp->VK->Prop}(pa:PlainAttrs "tuple")(slot:Slot "tuple" name id)(hty:typeOf (.builtin id)=pure (.type "method_descriptor"))(hm:MtR X id r)(ho:PE X o to)(ha:PA X (e::es) t)
  (hbase:attributeBase o name X.env (eval o X.env)=eval o X.env:=by rfl)
  (hfew:((backTo cpos (starEach (e::es) X.env)).all (fun x=>!x.1) && (backToKw cpos (keywordEach [] X.env)).all (fun x=>x.1.isSome)
   && decide ((e::es).length+([]:List Keyword).length+(if ([]:List Keyword).isEmpty then 0 else 1) < 30))=true:=by rfl)
  (hline:(apos.endLine == cpos.line)=true:=by rfl) (hs:starEach (e::es) X.env=(false,eval e X.env)::starEach es X.env:=by rfl) (hplain:(backTo cpos (starEach es X.env)).any (·.1)=false:=by rfl) :
  PE X (.Call (.Attribute o name apos) (e::es) [] cpos) (Kr r to t):=by
 intro pins s σ H Q I h
 refine wpAny_Call_method_late hbase hfew hline rfl (thn (ho pins s σ H _ I h) fun v s1 ⟨x,H1,I1,r1,ty,q1⟩=>?_)
 obtain ⟨a,xs,rfl,hH⟩:=ty
 cases r1
 obtain ⟨_,its,_,ob,e1,⟨c1,_⟩,d1⟩:=I1.hok a _ hH
 refine ⟨"tuple",id,pa,slot,hty,⟨ob,e1,c1⟩,fun b eb=>?_,?_⟩
 ·cases eb;exact ⟨ob,e1,d1⟩
 have hA:=ha cpos pins s1 σ H1 _ I1 q1
 rw [hs] at hA ⊢
 refine Calls.callWith_builtin (by show (false || (backTo cpos (starEach es X.env)).any (·.1))=false;rw [hplain]<;>rfl) (Calls.evalArgs_plain ?_)
 exact thn hA fun us s2 ⟨vs,H2,I2,r2,q2⟩=>hm pins s2 σ H2 (.ref a) vs (.ref a) us Q I2 rfl r2 q2
end
section
variable {X:Cx}
noncomputable def Ei (K:WA):List V->Hp->VK->Prop:=fun xs H Q=>∃(a:Addr) (ns:List Int),xs=[.ref a]/\SqT K H a (ns.map V.int)/\ns.length < 64/\∀(l:Addr) (ms:List Int),H l=none->ms.Perm ns->ms.Pairwise (·<=·)->Q (.ref l) (upd H l (.lst (ms.map V.int)))
theorem Aw:fK X (.builtin "sorted") (Ei X.K):=by
 intro pins s σ H xs us Q I r h
 obtain ⟨a,ns,rfl,hS,hn,q⟩:=h
 obtain ⟨u,rfl,ru⟩:=ui r
 cases ru
 obtain ⟨its,rv,pl,hz⟩:=I.tuple hS
 have hI:IntsAre its ns:=qZ rv
 have hlen:its.length=ns.length:=hI.length
 refine xX pl hI (by omega) fun out ms a1 a2 a3=>?_
 obtain ⟨c,hc⟩:=sortedAll_at s.heap its out
 have hml:ms.length=ns.length:=a2.length_eq
 have J:=I.laid (a:=s.heap.objs.size+1) (o:=.lst (ms.map V.int)) (t':=s.toks) (h':=sortedAll s.heap its out) (fun b o e=>sortedAll_old e) (Nat.le_succ _) (show fh X.prog X.w _ _ _ (.lst (ms.map V.int)) from ⟨by rw [WB,hml];exact Nat.le_of_lt (cw (by omega)),out.toList,c,xa a1,by rw [Array.toArray_toList];exact hc⟩)
 exact ⟨.ref (s.heap.objs.size+1),_,J,rfl,q _ ms (I.hok.fresh (Nat.le_succ _)) a2 a3⟩
end
end L2
namespace L2
open PySem PySem.Spec PyProof.Rows
def cJ {α:Type}(P:Addr->α->Prop)(as:List Addr)(xs:List α):Prop:=as.length=xs.length/\∀(i:Nat) a x,as[i]?=some a->xs[i]?=some x->P a x
section
variable {α:Type}{P Q:Addr->α->Prop}{as:List Addr}{xs:List α}{a:Addr}{x:α}
theorem cJ.imp (h:cJ P as xs)(f:∀a x,P a x->Q a x):cJ Q as xs:=⟨h.1,fun i a x e1 e2=>f _ _ (h.2 i a x e1 e2)⟩
theorem cJ.nil:cJ P [] []:=⟨rfl,fun i a r e _=>by simp at e⟩
theorem cJ.push (h:cJ P as xs)(hr:P a x):cJ P (as++[a]) (xs++[x]):=by
 refine ⟨by rw [List.length_append,List.length_append,h.1];rfl,fun i b y e1 e2=>?_⟩
 by_cases hi:i < as.length
 ·rw [List.getElem?_append_left hi] at e1
  rw [List.getElem?_append_left (by rw [←h.1];exact hi)] at e2
  exact h.2 i b y e1 e2
 ·rw [List.getElem?_append_right (by omega)] at e1
  rw [List.getElem?_append_right (by rw [←h.1];omega),←h.1] at e2
  have hz:i - as.length=0:=by
   have:=(List.getElem?_eq_some_iff.mp e1).1
   simp at this
   omega
  rw [hz] at e1 e2
  cases e1
  cases e2
  exact hr
theorem cJ.last (h:cJ P as (xs++[x])):∃as' a,as=as'++[a]/\cJ P as' xs/\P a x:=by
 have hl:=h.1
 rw [List.length_append,List.length_singleton] at hl
 rcases cH as with rfl | ⟨as',a,rfl⟩
 ·cases hl
 ·have hl':as'.length=xs.length:=by rw [List.length_append,List.length_singleton] at hl;omega
  refine ⟨as',a,rfl,⟨hl',fun i b y e1 e2=>?_⟩,?_⟩
  ·have hi:=(List.getElem?_eq_some_iff.mp e1).1
   exact h.2 i b y (by rw [List.getElem?_append_left hi];exact e1) (by rw [List.getElem?_append_left (by omega)];exact e2)
  ·refine h.2 as'.length a x ?_ ?_
   ·rw [List.getElem?_append_right (Nat.le_refl _)];simp
   ·rw [List.getElem?_append_right (by omega),hl'];simp
theorem cJ.get (h:cJ P as xs){i:Nat}{x:α}(e:xs[i]?=some x):∃a,as[i]?=some a/\P a x:=by
 have hi:=(List.getElem?_eq_some_iff.mp e).1
 have hi2:i < as.length:=by rw [h.1];exact hi
 have ha:as[i]?=some as[i]:=List.getElem?_eq_getElem hi2
 exact ⟨_,ha,h.2 i _ _ ha e⟩
end
def gS (K:WA)(H:Hp)(a:Addr)(x:aO×Int):Prop:=∃gt lt ht dt:Addr,SqT K H a [.int x.1.place,.ref gt,.ref lt,.ref ht,.ref dt,.int x.2]/\SqT K H gt (x.1.gates.map V.bl)/\H lt=some (.tup (x.1.ws.map V.int))/\SqT K H ht (kH x.1.e)/\SqT K H dt ((cN x.1.fs).map V.int)
theorem gS.same {K:WA}{H H':Hp}{a:Addr}{x:aO×Int}(h:gS K H a x)(s:av H H'):gS K H' a x:=by
 obtain ⟨gt,lt,ht,dt,h1,h2,h3,h4,h5⟩:=h
 exact ⟨gt,lt,ht,dt,s.tup h1,s.tup h2,s _ _ h3,s.tup h4,s.tup h5⟩
theorem gS.keep {K:WA}{H H':Hp}{a p:Addr}{ys:List V}{x:aO×Int}(h:gS K H a x)(s:aA p H H')(hp:H p=some (.lst ys)):gS K H' a x:=by
 obtain ⟨gt,lt,ht,dt,h1,h2,h3,h4,h5⟩:=h
 exact ⟨gt,lt,ht,dt,h1.keep s hp,h2.keep s hp,s _ _ (fun z=>by rw [z,hp] at h3;cases h3) h3,h4.keep s hp,h5.keep s hp⟩
noncomputable def iu (n0:aO)(rs:List Row):List (aO×Int):=(n0,0)::rs.map fun r=>(r.sn,r.ended)
theorem ou (n0:aO)(rs:List Row)(r:Row):iu n0 (rs++[r])=iu n0 rs++[(r.sn,r.ended)]:=by simp [iu]
theorem Ax (n0:aO)(rs:List Row):(iu n0 rs).getLast?=some (ak n0 rs,cD rs):=by
 rcases cH rs with rfl | ⟨rs',r,rfl⟩
 ·rfl
 ·rw [ou,List.getLast?_concat,jf,nq]
theorem xk (n0:aO)(rs:List Row):(iu n0 rs).length=rs.length+1:=by simp [iu]
theorem Ay {K:WA}{H:Hp}{as:List Addr}{n0:aO}{rs:List Row}(h:cJ (gS K H) as (iu n0 rs)):∃as' a,as=as'++[a]/\gS K H a (ak n0 rs,cD rs):=by
 have hl:=Ax n0 rs
 rcases cH (iu n0 rs) with e | ⟨l,x,e⟩
 ·rw [e] at hl;cases hl
 ·rw [e,List.getLast?_concat] at hl
  cases hl
  rw [e] at h
  obtain ⟨as',a,ea,_,ha⟩:=h.last
  exact ⟨as',a,ea,ha⟩
theorem ny {as:List Addr}{a:Addr}:atI ((as++[a]).map V.ref) (-1)=some (.ref a):=by
 rw [List.map_append]
 exact DF _ _
structure cY (K:WA)(H:Hp)(p dl cl ll:Addr)(g:Cfg)(lds:List Ld):Prop where
 ob:H p=some (.lst [.ref dl,.ref cl,.int g.slow,.int g.fast,.ref ll])
 od:H dl=some (.lst (g.ds.map V.int))
 oc:∃as:List Addr,H cl=some (.lst (as.map V.ref))/\bF cdV K H as g.ls
 ol:∃as:List Addr,H ll=some (.lst (as.map V.ref))/\eC K H as lds
 ek:g.ks=lds.map (·.1)
theorem cY.same {K:WA}{H H':Hp}{p dl cl ll:Addr}{g:Cfg}{lds:List Ld}(h:cY K H p dl cl ll g lds)(s:av H H'):cY K H' p dl cl ll g lds:=by
 obtain ⟨h1,h2,⟨as,h3,h4⟩,⟨bs,h5,h6⟩,h7⟩:=h
 exact ⟨s _ _ h1,s _ _ h2,⟨as,s _ _ h3,h4.same s⟩,⟨bs,s _ _ h5,h6.same s⟩,h7⟩
def bV (a b c:Addr)(H H':Hp):Prop:=∀d o,d≠a->d≠b->d≠c->H d=some o->H' d=some o
theorem bV.of {a b c:Addr}{H H':Hp}(s:av H H'):bV a b c H H':=fun d o _ _ _ e=>s d o e
theorem bV.a {a b c:Addr}{H H':Hp}(s:aA a H H'):bV a b c H H':=fun d o n _ _ e=>s d o n e
theorem bV.b {a b c:Addr}{H H':Hp}(s:aA b H H'):bV a b c H H':=fun d o _ n _ e=>s d o n e
theorem bV.c {a b c:Addr}{H H':Hp}(s:aA c H H'):bV a b c H H':=fun d o _ _ n e=>s d o n e
theorem bV.trans {a b c:Addr}{H H1 H2:Hp}(s:bV a b c H H1)(t:bV a b c H1 H2):bV a b c H H2:=fun d o n m k e=>t d o n m k (s d o n m k e)
theorem av.keeps3 {a b c:Addr}{H H1 H2:Hp}(s:av H H1)(k:bV a b c H1 H2)(ha:H a=none)(hb:H b=none)(hc:H c=none):av H H2:=fun d o e=>k d o (ai e ha) (ai e hb) (ai e hc) (s d o e)
structure ze (C:Cl)(K:WA)(H:Hp)(w bk rl sl wl:Addr)(g:Cfg)(n0:aO)(rs:List Row):Prop where
 wk:WAt C K H w bk rl g n0 rs
 st:∃as:List Addr,H sl=some (.lst (as.map V.ref))/\cJ (gS K H) as (iu n0 rs)
 ro:∃as:List Addr,H wl=some (.lst (as.map V.ref))/\cE K H as rs
 ns:g.N sl
 nw:g.N wl
 ne:sl≠wl
 run:Run g n0 rs
theorem ze.same {C:Cl}{K:WA}{H H':Hp}{w bk rl sl wl:Addr}{g:Cfg}{n0:aO}{rs:List Row}(h:ze C K H w bk rl sl wl g n0 rs)(s:av H H'):ze C K H' w bk rl sl wl g n0 rs:=by
 obtain ⟨h1,⟨as,h2,h3⟩,⟨bs,h4,h5⟩,h6,h7,h8,h9⟩:=h
 exact ⟨h1.same s,⟨as,s _ _ h2,h3.imp fun a x q=>q.same s⟩,⟨bs,s _ _ h4,h5.same s⟩,h6,h7,h8,h9⟩
noncomputable def vU (K:WA)(H:Hp)(n:aO)(t:Int):Dd->V->Prop
 | .rept s,v=>∃(p:Addr) (l r:Int),v=.ref p/\n.e=.wait l r/\SqT K H p [.bl (decide (s=r)),.int r,.int s]
 | _,v=>v=.int t
theorem FU {K:WA}{l:Addr}{ls:List Ld}{te:TE}{cm:List (Option Nat)}{σ:St}{H:Hp}{Q:VK}{j:Nat}(f:Ld->V)(hL:dX K H l ls)(hn:ls.length<=sizeLine)(hj:(cv cm σ)[j]?=some none)
  (he:∀a x,SqT K H a (ldV x)->∀N:VK,N (f x) H->te ((cv cm σ).set j (some (.ref a))) H N)
  (hd:∀p,H p=none->Q (.ref p) (upd H p (.lst (ls.map f)))):pC (Itl K l) (dP j) tF te cm σ Q H:=by
 obtain ⟨as,hS,hlen,hT⟩:=hL
 refine lY ls.length (fun i acc H'=>H'=H/\acc=(ls.take i).map f) ⟨rfl,by simp⟩ ?_ ?_ ?_ ?_
 ·rintro i acc H' hi ⟨rfl,_⟩
  have ha:as[i]?=some as[i]:=List.getElem?_eq_getElem (by omega)
  exact ⟨_,.ref as[i],hS,by rw [List.getElem?_map,ha];rfl⟩
 ·rintro acc H' ⟨rfl,_⟩
  exact ⟨_,hS,by rw [WB];omega⟩
 ·rintro i acc H' hi ⟨rfl,rfl⟩
  have ha:as[i]?=some as[i]:=List.getElem?_eq_getElem (by omega)
  have hx:ls[i]?=some ls[i]:=List.getElem?_eq_getElem hi
  refine ⟨by rw [WB,List.length_take];omega,fun x H2 y M hM=>?_⟩
  obtain ⟨e,y⟩:=y
  subst e
  have hy:=y _ hS
  rw [List.getElem?_map,ha] at hy
  cases hy
  refine ⟨DZ hj,?_⟩
  unfold tF;dsimp only
  split
  ·refine he as[i] ls[i] (hT i _ _ ha hx) _ (hM _ _ ⟨rfl,?_⟩)
   rw [List.take_succ_eq_append_getElem hi,List.map_append];rfl
  ·rename_i z;exact absurd rfl z
 ·rintro acc H' ⟨rfl,rfl⟩ p hp
  rw [List.take_length]
  exact hd p hp
end L2
namespace L2
open PySem PySem.Spec PyProof.Rows PySem.SeqAt
theorem CA (fs:List Bool)(n i:Nat)(v:Bool):(fs.set n v).getD i false=if n=i/\i < fs.length then v else fs.getD i false:=by
 rw [List.getD_eq_getElem?_getD,List.getD_eq_getElem?_getD,List.getElem?_set]
 by_cases e:n=i
 ·subst e
  by_cases h:n < fs.length
  ·rw [if_pos rfl,if_pos h,if_pos ⟨rfl,h⟩];rfl
  ·rw [if_pos rfl,if_neg h,if_neg (fun z=>h z.2),List.getElem?_eq_none (by omega)]
 ·rw [if_neg e,if_neg (fun z=>e z.1)]
theorem CB {fs:List Bool}{l:Int}{ms:List Int}(h0:0<=l)(h1:l < fs.length)(h2:fs.getD l.toNat false=false)(hp:ms.Perm (cN fs++[l]))(hs:ms.Pairwise (·<=·)):ms=cN (fs.set l.toNat true):=by
 have hl:¬l∈cN fs:=fun z=>by rw [(kg.mp z).2.2] at h2;cases h2
 have hnd:(cN fs++[l]).Nodup:=by
  rw [List.nodup_append]
  refine ⟨(yZ fs).imp fun h=>by omega,by simp,fun a ha b hb e=>?_⟩
  rw [List.mem_singleton] at hb
  subst hb e
  exact hl ha
 have hn:ms.Nodup:=hp.nodup_iff.mpr hnd
 have hu:ms.Pairwise (· < ·):=(hs.and hn).imp fun ⟨x,y⟩=>by omega
 refine Ed hu (yZ _) fun k=>?_
 rw [hp.mem_iff,List.mem_append,List.mem_singleton,kg,kg,List.length_set,CA]
 constructor
 ·rintro (⟨a,b,c⟩ | rfl)
  ·refine ⟨a,b,?_⟩
   split
   ·rfl
   ·exact c
  ·exact ⟨h0,h1,by rw [if_pos ⟨rfl,by omega⟩]⟩
 ·rintro ⟨a,b,c⟩
  split at c
  ·rename_i e
   exact .inr (by omega)
  ·exact .inl ⟨a,b,c⟩
theorem rn (fs:List Bool):(cN fs).length<=fs.length:=uz fs fs.length
theorem pH {α:Type}(f:α->V)(xs:List α)(n:Nat)(v:α):(xs.map f).set n (f v)=(xs.set n v).map f:=(List.map_set ..).symm
section
variable {X:Cx}
noncomputable def Hz:R2:=fun x y H Q=>∃a b xs ys,x=.ref a/\y=.ref b/\H a=some (.tup xs)/\H b=some (.tup ys)/\xs.length+ys.length<=1000/\∀p H',av H H'->H' p=some (.tup (xs++ys))->Q (.ref p) H'
theorem FV:OpR X (binaryOp .Add) Hz:=by
 intro pins s σ H x y v u Q I rx ry h
 obtain ⟨a,b,xs,ys,rfl,rfl,ha,hb,hz,q⟩:=h
 by_cases hx:xs=[]
 ·subst hx
  cases rx
  cases ry
  obtain ⟨its,r1,p1,_⟩:=I.tuple (SqT.of ha)
  obtain ⟨its2,r2,p2,_⟩:=I.tuple (SqT.of hb)
  have e1:=r1.zero
  subst e1
  obtain ⟨⟨cls,dd,data,sl⟩,ho,hc,n,hd⟩:=id p1
  obtain ⟨⟨cls2,dd2,data2,sl2⟩,ho2,hc2,n2,hd2⟩:=id p2
  simp only at hc hd hc2 hd2
  subst hc hd hc2 hd2
  exact concat_meets ⟨_,ho,rfl⟩ ⟨_,ho2,rfl⟩ noFill_tuple_add seq_tuple_add PySem.F.slot_tuple_add PySem.F.entry_tuple_add (PySem.F.args_tuple_add_2 _ _)
   (tuple_addW0 a b _ its2.toArray n n2 dd dd2 sl sl2 rfl) ⟨ho,ho2,⟨.ref b,H,I,rfl,q b H (av.refl H) hb⟩⟩
 ·refine Bt pins s σ H _ _ v u Q I rx ry ⟨a,b,xs,ys,rfl,rfl,SqT.of ha,SqT.of hb,hx,by rw [sizeLine_eq];omega,fun e=>q a H (av.refl H) (by rw [e,List.append_nil];exact ha),fun _ p hp=>q p _ ((av.refl H).lay hp) ag⟩
end
end L2
namespace L2
open PySem PySem.Spec PyProof.Rows
def onI (x:V)(P:Int->Prop):Prop:=match x with | .int i=>P i | _=>False
def onB (x:V)(P:Bool->Prop):Prop:=match x with | .bl i=>P i | _=>False
def onR (x:V)(P:Addr->Prop):Prop:=match x with | .ref i=>P i | _=>False
def onO (x:Option (Option V))(P:V->Prop):Prop:=match x with | some (some v)=>P v | _=>False
def onC (xs:List V)(P:V->List V->Prop):Prop:=match xs with | v::r=>P v r | []=>False
def onN (xs:List V)(P:Prop):Prop:=match xs with | []=>P | _=>False
theorem FW (i:Int)(P:Int->Prop):onI (.int i) P=P i:=rfl
theorem Jj (i:Bool)(P:Bool->Prop):onB (.bl i) P=P i:=rfl
theorem FX (i:Addr)(P:Addr->Prop):onR (.ref i) P=P i:=rfl
theorem Ej (v:V)(P:V->Prop):onO (some (some v)) P=P v:=rfl
theorem Ek (v:V)(r:List V)(P:V->List V->Prop):onC (v::r) P=P v r:=rfl
theorem FY (P:Prop):onN [] P=P:=rfl
theorem xY {x:V}{P:Int->Prop}:(∃i,x=.int i/\P i)↔onI x P:=by cases x<;>simp [onI]
theorem BM {x:V}{P:Bool->Prop}:(∃i,x=.bl i/\P i)↔onB x P:=by cases x<;>simp [onB]
theorem tY {x:V}{P:Addr->Prop}:(∃i,x=.ref i/\P i)↔onR x P:=by cases x<;>simp [onR]
theorem dS {x:V}{P:Addr->Prop}(h:onR x P):∃i,x=.ref i/\P i:=tY.mpr h
theorem rp {x:V}{P:Int->Prop}(h:onI x P):∃i,x=.int i/\P i:=xY.mpr h
theorem FZ {x:Option (Option V)}{P:V->Prop}:(∃v,x=some (some v)/\P v)↔onO x P:=by
 rcases x with _ | _ | v<;>simp [onO]
theorem Ga {xs:List V}{P:V->List V->Prop}:(∃v r,xs=v::r/\P v r)↔onC xs P:=by
 cases xs with
 | nil=>exact ⟨fun ⟨_,_,e,_⟩=>(List.cons_ne_nil _ _ e.symm).elim,fun h=>False.elim h⟩
 | cons v r=>exact ⟨fun ⟨_,_,e,h⟩=>by cases e;exact h,fun h=>⟨v,r,rfl,h⟩⟩
theorem Gb {xs:List V}{P:Prop}:(xs=[]/\P)↔onN xs P:=by cases xs<;>simp [onN]
theorem K7 {α β:Type}(f:α->β)(a:α)(l:List α):List.map f (a::l)=f a::List.map f l:=rfl
theorem K8 {α β:Type}(f:α->β):List.map f ([]:List α)=[]:=rfl
theorem K9 {α:Type}(a:α)(l m:List α):(a::l)++m=a::(l++m):=rfl
theorem La {α:Type}(m:List α):([]:List α)++m=m:=rfl
theorem Ks {α:Type}(a:α)(l:List α):(a::l)[0]?=some a:=rfl
theorem Ku {α:Type}(a:α)(l:List α)(n:Nat):(a::l)[n+1]?=l[n]?:=rfl
theorem Kv {α:Type}(a b:α)(l:List α):(a::l).set 0 b=b::l:=rfl
theorem Kw {α:Type}(a b:α)(l:List α)(n:Nat):(a::l).set (n+1) b=a::l.set n b:=rfl
theorem Lb {α:Type}(a:α)(n:Nat):List.replicate (n+1) a=a::List.replicate n a:=rfl
theorem Lc {α:Type}(a:α):List.replicate 0 a=[]:=rfl
theorem Jk (N:List Str)(vs:List V):L2.lJ N vs=vs.map some++List.replicate (N.length - vs.length) none:=rfl
theorem σN (cm:List (Option Nat))(σ:St):cv (none::cm) σ=none::cv cm σ:=rfl
theorem σS (i:Nat)(cm:List (Option Nat))(σ:St):cv (some i::cm) σ=(σ[i]?).getD none::cv cm σ:=rfl
theorem σ0 (σ:St):cv [] σ=[]:=rfl
theorem Kx {α:Type}(a b:α):(some a).getD b=a:=rfl
theorem Le {α:Type}(a:α)(l:List α):(a::l).length=l.length+1:=rfl
theorem Lf {α:Type}:([]:List α).length=0:=rfl
theorem Ky {A B:Prop}:(if true=true then A else B)=A:=rfl
theorem Kz {A B:Prop}:(if false=true then A else B)=B:=rfl
theorem Lg {p:Prop}[Decidable p]{A B:Prop}(h:if p then A else B):if decide p=true then A else B:=by
 by_cases e:p
 ·rw [if_pos e] at h;rw [if_pos (decide_eq_true e)];exact h
 ·rw [if_neg e] at h;rw [if_neg (by simp [e])];exact h
section
variable {α β:Type}
theorem ceq {f g:α->β->Prop}(h:∀x y,f x y↔g x y):f=g:=funext fun x=>funext fun y=>propext (h x y)
noncomputable def El (i:Nat):TE:=fun σ H Q=>onO σ[i]? fun v=>Q v H
theorem Gc (i:Nat):Ii i=El i:=funext fun σ=>funext fun H=>funext fun Q=>propext FZ
noncomputable def tB' (t:TE):TT:=fun σ H Q=>t σ H fun x H1=>onB x fun c=>Q c H1
theorem HM (t:TE):tB t=tB' t:=funext fun σ=>funext fun H=>funext fun Q=>congrArg (t σ H) (ceq fun _ _=>BM)
theorem Em (t:TE):lR t=tB' t:=HM t
noncomputable def Az (g:Int->Int->V):R2:=fun x y H Q=>onI x fun i=>onI y fun j=>Q (g i j) H
theorem two_iff {x y:V}{P:Int->Int->Prop}:(∃i j,x=.int i/\y=.int j/\P i j)↔onI x fun i=>onI y fun j=>P i j:=⟨fun ⟨i,j,e,f,h⟩=>by subst e f;exact h,fun h=>let ⟨i,e,h⟩:=rp h;let ⟨j,f,h⟩:=rp h;⟨i,j,e,f,h⟩⟩
theorem uB (g:Int->Int->V):rI0 g=Az g:=funext fun x=>funext fun y=>ceq fun _ _=>two_iff
noncomputable def rI' (C:Int->Int->Prop)(g:Int->Int->V):R2:=fun x y H Q=>onI x fun i=>onI y fun j=>C i j/\Q (g i j) H
theorem En (C:Int->Int->Prop)(g:Int->Int->V):rI C g=rI' C g:=funext fun x=>funext fun y=>ceq fun _ _=>two_iff
noncomputable def rU' (g:Int->V):V->Hp->VK->Prop:=fun x H Q=>onI x fun i=>Q (g i) H
theorem KA (g:Int->V):rU g=rU' g:=funext fun x=>ceq fun _ _=>xY
def eqP (x y:V)(P:Bool->Prop):Prop:=match x,y with
 | .int i,.int j=>P (decide (i=j))
 | .str i,.str j=>P (decide (i=j))
 | .bl i,.bl j=>P (decide (i=j))
 | x,y=>vM x y=true/\P (decide (x=y))
theorem BN {x y:V}{P:Bool->Prop}:(vM x y=true/\P (decide (x=y)))↔eqP x y P:=by
 cases x<;>cases y<;>simp [eqP,vM]
theorem Gd (i j:Int)(P:Bool->Prop):eqP (.int i) (.int j) P=P (decide (i=j)):=rfl
theorem Ge (i j:Str)(P:Bool->Prop):eqP (.str i) (.str j) P=P (decide (i=j)):=rfl
theorem Jl (i j:Bool)(P:Bool->Prop):eqP (.bl i) (.bl j) P=P (decide (i=j)):=rfl
noncomputable def Jm:R2:=fun x y H Q=>eqP x y fun b=>Q (.bl b) H
theorem Jn:rEq=Jm:=funext fun x=>funext fun y=>ceq fun H Q=>BN (P:=fun b=>Q (.bl b) H)
noncomputable def nF (p:Int->Int->Prop)[d:∀i j,Decidable (p i j)](ta tb:TE):TT:=fun σ H Q=>ta σ H fun x H1=>tb σ H1 fun y H2=>onI x fun i=>onI y fun j=>if p i j then Q true H2 else Q false H2
theorem AA {p:Prop}[Decidable p]{Q:Bool->Prop}:Q (decide p)=if p then Q true else Q false:=by
 by_cases h:p
 ·rw [if_pos h,decide_eq_true h]
 ·rw [if_neg h,decide_eq_false h]
theorem tZ (p:Int->Int->Prop)[d:∀i j,Decidable (p i j)](ta tb:TE):lR (tOp (rI0 fun i j=>.bl (decide (p i j))) ta tb)=nF p ta tb:=by
 funext σ H Q
 refine congrArg (ta σ H) (funext fun x=>funext fun H1=>congrArg (tb σ H1) (ceq fun y H2=>?_))
 cases x<;>cases y<;>simp [rI0,onI,AA (Q:=fun b=>Q b H2)]
theorem Jo (ta tb:TE):lR (tOp (rI0 fun i j=>.bl (decide (i < j))) ta tb)=nF (fun i j=>i < j) ta tb:=tZ _ ta tb
theorem Jp (ta tb:TE):lR (tOp (rI0 fun i j=>.bl (decide (i<=j))) ta tb)=nF (fun i j=>i<=j) ta tb:=tZ _ ta tb
theorem Jq (ta tb:TE):lR (tOp (rI0 fun i j=>.bl (decide (j < i))) ta tb)=nF (fun i j=>j < i) ta tb:=tZ _ ta tb
theorem Jr (ta tb:TE):lR (tOp (rI0 fun i j=>.bl (decide (j<=i))) ta tb)=nF (fun i j=>j<=i) ta tb:=tZ _ ta tb
def eqT (x y:V)(Y N:Prop):Prop:=match x,y with
 | .int i,.int j=>if i=j then Y else N
 | .str i,.str j=>if i=j then Y else N
 | .bl i,.bl j=>if i=j then Y else N
 | x,y=>vM x y=true/\if x=y then Y else N
theorem Gf (i j:Int)(Y N:Prop):eqT (.int i) (.int j) Y N=if i=j then Y else N:=rfl
theorem Gg (i j:Str)(Y N:Prop):eqT (.str i) (.str j) Y N=if i=j then Y else N:=rfl
theorem Js (i j:Bool)(Y N:Prop):eqT (.bl i) (.bl j) Y N=if i=j then Y else N:=rfl
theorem BO {x y:V}{Q:Bool->Prop}:(vM x y=true/\Q (decide (x=y)))↔eqT x y (Q true) (Q false):=by
 rw [AA (Q:=Q)]
 cases x<;>cases y<;>simp [eqT,vM]
def neT (x y:V)(Y N:Prop):Prop:=match x,y with
 | .int i,.int j=>if ¬i=j then Y else N
 | .str i,.str j=>if ¬i=j then Y else N
 | .bl i,.bl j=>if ¬i=j then Y else N
 | x,y=>vM x y=true/\if ¬x=y then Y else N
theorem Gh (i j:Int)(Y N:Prop):neT (.int i) (.int j) Y N=if ¬i=j then Y else N:=rfl
theorem Gi (i j:Str)(Y N:Prop):neT (.str i) (.str j) Y N=if ¬i=j then Y else N:=rfl
theorem Jt (i j:Bool)(Y N:Prop):neT (.bl i) (.bl j) Y N=if ¬i=j then Y else N:=rfl
theorem Gj {x y:V}{Y N:Prop}:eqT x y N Y↔neT x y Y N:=by
 have h:∀(p:Prop) [Decidable p],(if p then N else Y)=if ¬p then Y else N:=fun p _=>by by_cases e:p<;>simp [e]
 cases x<;>cases y<;>first | exact iff_of_eq (h _) | exact and_congr Iff.rfl (iff_of_eq (h _))
noncomputable def Ju (ta tb:TE):TT:=fun σ H Q=>ta σ H fun x H1=>tb σ H1 fun y H2=>eqT x y (Q true H2) (Q false H2)
noncomputable def Jv (ta tb:TE):TT:=fun σ H Q=>ta σ H fun x H1=>tb σ H1 fun y H2=>neT x y (Q true H2) (Q false H2)
theorem Gk (ta tb:TE):lR (tOp rEq ta tb)=Ju ta tb:=by
 funext σ H Q
 refine congrArg (ta σ H) (funext fun x=>funext fun H1=>congrArg (tb σ H1) (ceq fun y H2=>?_))
 refine Iff.trans ?_ (BO (Q:=fun b=>Q b H2))
 exact ⟨fun ⟨a,k,e,q⟩=>⟨a,by cases e;exact q⟩,fun ⟨a,q⟩=>⟨a,_,rfl,q⟩⟩
theorem Gm (ta tb:TE):lR (tOp rNe ta tb)=Jv ta tb:=by
 funext σ H Q
 refine congrArg (ta σ H) (funext fun x=>funext fun H1=>congrArg (tb σ H1) (ceq fun y H2=>?_))
 refine Iff.trans (Iff.trans ?_ (BO (Q:=fun b=>Q (!b) H2))) Gj
 exact ⟨fun ⟨a,k,e,q⟩=>⟨a,by cases e;exact q⟩,fun ⟨a,q⟩=>⟨a,_,rfl,q⟩⟩
noncomputable def nG (K:WA)(n:Nat)(t:TGs):TG:=fun v σ H Q=>onR v fun a=>∃xs,SqT K H a xs/\xs.length=n/\t xs σ H Q
theorem pI {x:V}{γ:Type}{P:Addr->γ->Prop}:(∃a z,x=.ref a/\P a z)↔onR x fun a=>∃z,P a z:=by cases x<;>simp [onR]
theorem BP (K:WA)(n:Nat)(t:TGs):Iq K n t=nG K n t:=funext fun v=>funext fun σ=>ceq fun _ _=>pI
noncomputable def AB (K:WA)(n:Nat)(t:TGs):TG:=fun v σ H Q=>onR v fun a=>∃xs,SqL K H a xs/\xs.length=n/\t xs σ H Q
theorem Eo (K:WA)(n:Nat)(t:TGs):Hv K n t=AB K n t:=funext fun v=>funext fun σ=>ceq fun _ _=>pI
noncomputable def rq (t:TG)(u:TGs):TGs:=fun vs σ H Q=>onC vs fun v r=>t v σ H fun σ' H'=>u r σ' H' Q
theorem pJ (t:TG)(u:TGs):yE t u=rq t u:=funext fun v=>funext fun σ=>ceq fun _ _=>Ga
noncomputable def BQ:TGs:=fun vs σ H Q=>onN vs (Q σ H)
theorem BR:Ip=BQ:=funext fun v=>funext fun σ=>ceq fun _ _=>Gb
noncomputable def BS (K:WA):R2:=fun x y H Q=>onR x fun p=>onI y fun i=>∃xs,SqL K H p xs/\∃v,atI xs i=some v/\Q v H
theorem Gn (K:WA):IH K=BS K:=funext fun x=>funext fun y=>ceq fun H Q=>⟨fun ⟨p,xs,i,v,e,f,h1,h2,h3⟩=>by subst e f;exact ⟨xs,h1,v,h2,h3⟩,fun h=>let ⟨p,e,h⟩:=dS h;let ⟨i,f,xs,h1,v,h2,h3⟩:=rp h;⟨p,xs,i,v,e,f,h1,h2,h3⟩⟩
noncomputable def pK (K:WA):R2:=fun x y H Q=>onR x fun p=>onI y fun i=>∃xs,SqT K H p xs/\∃v,atI xs i=some v/\Q v H
theorem Gp (K:WA):IJ K=pK K:=funext fun x=>funext fun y=>ceq fun H Q=>⟨fun ⟨p,xs,i,v,e,f,h1,h2,h3⟩=>by subst e f;exact ⟨xs,h1,v,h2,h3⟩,fun h=>let ⟨p,e,h⟩:=dS h;let ⟨i,f,xs,h1,v,h2,h3⟩:=rp h;⟨p,xs,i,v,e,f,h1,h2,h3⟩⟩
noncomputable def AD (ta tb:TE):TE:=fun σ H Q=>ta σ H fun x H1=>onB x fun c=>if c=true then tb σ H1 Q else Q (.bl false) H1
theorem Ep (ta tb:TE):Hb ta tb=AD ta tb:=funext fun σ=>funext fun H=>funext fun Q=>congrArg (ta σ H) (ceq fun _ _=>BM)
noncomputable def BU (K:WA)(ta:TE)(f:Str):TE:=fun σ H Q=>ta σ H fun x H1=>onR x fun a=>∃C dx fs,H1 a=some (.ins C dx fs)/\Cls K C/\aW K C f/\∃v,fs.lookup f=some v/\Q v H1
theorem Gq (K:WA)(ta:TE)(f:Str):J3 K ta f=BU K ta f:=funext fun σ=>funext fun H=>funext fun Q=>congrArg (ta σ H) (ceq fun x H1=>by cases x<;>simp [onR])
noncomputable def Er (K:WA)(ta tv:TE)(f:Str):TS:=fun D σ H=>tv σ H fun y H1=>ta σ H1 fun x H2=>onR x fun a=>∃C dx fs,H2 a=some (.ins C dx fs)/\Cls K C/\aW K C f/\fs.length < 1000/\D.nx σ (upd H2 a (.ins C dx (br f y fs)))
theorem Gr (K:WA)(ta tv:TE)(f:Str):J4 K ta tv f=Er K ta tv f:=funext fun D=>funext fun σ=>funext fun H=>congrArg (tv σ H) (funext fun y=>funext fun H1=>congrArg (ta σ H1) (ceq fun x H2=>by cases x<;>simp [onR]))
noncomputable def xZ (C:Addr)(m:Str)(sp:Sp)(dvs:List V)(E:XK)(ta:TE)(t:TA):TE:=fun σ H Q=>ta σ H fun x H1=>onR x fun a=>∃dx fs,H1 a=some (.ins C dx fs)/\fs.lookup m=none/\t σ H1 fun vs H2=>sp (.ref a::(vs++dvs)) H2 Q E
theorem zg (C:Addr)(m:Str)(sp:Sp)(dvs:List V)(E:XK)(ta:TE)(t:TA):yG C m sp dvs E ta t=xZ C m sp dvs E ta t:=funext fun σ=>funext fun H=>funext fun Q=>congrArg (ta σ H) (ceq fun x H1=>by cases x<;>simp [onR])
noncomputable def uC:V->List V->Hp->VK->Prop:=fun x vs H Q=>onR x fun l=>onC vs fun y r=>onN r (∃xs,H l=some (.lst xs)/\xs.length < sizeLine/\Q .non (upd H l (.lst (xs++[y]))))
theorem AE:By=uC:=funext fun x=>funext fun vs=>ceq fun H Q=>⟨fun ⟨l,xs,y,e,f,h⟩=>by subst e f;exact ⟨xs,h⟩,fun h=>by
 obtain ⟨l,rfl,z⟩:=dS h
 match vs,z with
 | [v],⟨xs,z⟩=>exact ⟨l,xs,v,rfl,rfl,z⟩⟩
noncomputable def AF (t:TE):TO:=fun σ H Q=>t σ H fun x H1=>onI x fun i=>Q (some i) H1
theorem Es (t:TE):Hn t=AF t:=funext fun σ=>funext fun H=>funext fun Q=>congrArg (t σ H) (ceq fun _ _=>xY)
noncomputable def AG (K:WA)(tl:TE):TI:=fun σ H R=>tl σ H fun x H1=>onR x fun a=>(∃xs,SqL K H1 a xs)/\R (Itl K a) H1
theorem Et (K:WA)(tl:TE):He K tl=AG K tl:=funext fun σ=>funext fun H=>funext fun R=>congrArg (tl σ H) (ceq fun _ _=>tY)
noncomputable def AH (ta:TA):TI:=fun σ H R=>ta σ H fun vs H1=>onC vs fun v r=>onN r (onI v fun j=>-(2 ^ 62)<=j/\j < 2 ^ 62/\R (Itr 0 j.toNat) H1)
theorem Eu (ta:TA):Hf ta=AH ta:=funext fun σ=>funext fun H=>funext fun R=>congrArg (ta σ H) (ceq fun vs H1=>by
 rcases vs with _ | ⟨y,_ | ⟨z,vs⟩⟩<;>(try cases y)<;>simp [onI,onC,onN])
noncomputable def Ew (K:WA):List V->Hp->VK->Prop:=fun vs H Q=>onC vs fun v r=>onN r (onR v fun p=>∃ys,(SqL K H p ys\/SqT K H p ys)/\Q (.int ys.length) H)
theorem Gs (K:WA)(t:TA):tCB (fun xs H Q=>∃p ys,xs=[.ref p]/\(SqL K H p ys\/SqT K H p ys)/\Q (.int ys.length) H) t=tCB (Ew K) t:=by
 refine congrArg (fun r=>tCB r t) (funext fun vs=>ceq fun H Q=>?_)
 rcases vs with _ | ⟨y,_ | ⟨z,vs⟩⟩<;>(try cases y)<;>simp [Ew,onR,onC,onN]
noncomputable def t6 (K:WA):List V->Hp->VK->Prop:=fun vs H Q=>onC vs fun v r=>onN r (onR v fun p=>∃ys,(SqL K H p ys\/SqT K H p ys)/\∀l,H l=none->Q (.ref l) (upd H l (.lst ys)))
theorem AI (K:WA)(t:TA):tCB (fun xs H Q=>∃p ys,xs=[.ref p]/\(SqL K H p ys\/SqT K H p ys)/\∀l,H l=none->Q (.ref l) (upd H l (.lst ys))) t=tCB (t6 K) t:=by
 refine congrArg (fun r=>tCB r t) (funext fun vs=>ceq fun H Q=>?_)
 rcases vs with _ | ⟨y,_ | ⟨z,vs⟩⟩<;>(try cases y)<;>simp [t6,onR,onC,onN]
noncomputable def AJ:V->V->V->Hp->(Hp->Prop)->Prop:=fun o i v H Q=>onR o fun p=>onI i fun k=>∃xs,H p=some (.lst xs)/\∃j,ixN xs.length k=some j/\Q (upd H p (.lst (xs.set j v)))
theorem Ex:Hq=AJ:=funext fun o=>funext fun i=>funext fun v=>ceq fun H Q=>⟨fun ⟨p,xs,k,j,e,f,h1,h2,h3⟩=>by subst e f;exact ⟨xs,h1,j,h2,h3⟩,fun h=>let ⟨p,e,h⟩:=dS h;let ⟨k,f,xs,h1,j,h2,h3⟩:=rp h;⟨p,xs,k,j,e,f,h1,h2,h3⟩⟩
theorem Lh {p:Prop}[Decidable p]{A B:Prop}(h:if ¬p then A else B):if (!decide p)=true then A else B:=by
 by_cases e:p
 ·rw [if_neg (fun z=>z e)] at h;rw [if_neg (by simp [e])];exact h
 ·rw [if_pos e] at h;rw [if_pos (by simp [e])];exact h
noncomputable def tU1 (f:Int->V)(ta:TE):TE:=fun σ H Q=>ta σ H fun x H1=>onI x fun i=>Q (f i) H1
theorem Ey {k:Int}(hk:0 < k)(ta:TE)(g:Int->Int->V):tOp (rI (fun _ j=>0 < j) g) ta (tC (.int k))=tU1 (fun i=>g i k) ta:=funext fun σ=>funext fun H=>funext fun Q=>congrArg (ta σ H) (ceq fun x H1=>by
 cases x<;>simp [rI,tC,onI,hk])
theorem Ez {k:Int}(h1:0 < k)(h2:k < 1073741824)(ta:TE)(g:Int->Int->V):tOp (rI Du g) ta (tC (.int k))=tU1 (fun i=>g i k) ta:=funext fun σ=>funext fun H=>funext fun Q=>congrArg (ta σ H) (ceq fun x H1=>by
 have hc:∀i,Du i k:=fun i=>by unfold Du;omega
 cases x<;>simp [rI,tC,onI,hc])
theorem EA {k:Int}(h1:-4294967296 < k)(h2:k < 4294967296)(ta:TE)(g:Int->Int->V):tOp (rI uf g) ta (tC (.int k))=tU1 (fun i=>g i k) ta:=funext fun σ=>funext fun H=>funext fun Q=>congrArg (ta σ H) (ceq fun x H1=>by
 have hc:∀i,uf i k:=fun i=>by unfold uf;omega
 cases x<;>simp [rI,tC,onI,hc])
theorem CC {k:Int}(h1:-4294967296 < k)(h2:k < 4294967296)(tb:TE)(g:Int->Int->V):tOp (rI uf g) (tC (.int k)) tb=tU1 (fun i=>g k i) tb:=funext fun σ=>funext fun H=>funext fun Q=>congrArg (tb σ H) (ceq fun x H1=>by
 have hc:∀i,uf k i:=fun i=>by unfold uf;omega
 cases x<;>simp [rI,onI,hc])
noncomputable def EB (K:WA):V->Option Int->Option Int->Hp->VK->Prop:=fun x lo hi H Q=>onR x fun a=>∃xs,SqL K H a xs/\∀p,H p=none->Q (.ref p) (upd H p (.lst (pw xs lo hi)))
theorem Gu (K:WA):Kf K=EB K:=funext fun x=>funext fun lo=>funext fun hi=>ceq fun _ _=>pI
noncomputable def EC (K:WA):V->Option Int->Option Int->Hp->VK->Prop:=fun x lo hi H Q=>onR x fun a=>∃xs,SqT K H a xs/\¬(HT.sIx xs.length 0 lo=0/\HT.sIx xs.length xs.length hi=xs.length)/\∀p,H p=none->Q (.ref p) (upd H p (.tup (pw xs lo hi)))
theorem Gv (K:WA):Kc K=EC K:=funext fun x=>funext fun lo=>funext fun hi=>ceq fun _ _=>pI
noncomputable def ED:R2:=fun x y H Q=>onR x fun l=>onR y fun b=>∃xs,H l=some (.lst xs)/\∃zs,H b=some (.lst zs)/\xs.length+zs.length<=sizeLine/\∀p,H p=none->Q (.ref p) (upd H p (.lst (xs++zs)))
theorem Gw:Kh=ED:=funext fun x=>funext fun y=>ceq fun H Q=>⟨fun ⟨l,b,xs,zs,e,f,h1,h2,h3⟩=>by subst e f;exact ⟨xs,h1,zs,h2,h3⟩,fun h=>let ⟨l,e,h⟩:=dS h;let ⟨b,f,xs,h1,zs,h2,h3⟩:=dS h;⟨l,b,xs,zs,e,f,h1,h2,h3⟩⟩
noncomputable def AK:R2:=fun x y H Q=>onR x fun a=>onR y fun b=>∃xs,H a=some (.tup xs)/\∃ys,H b=some (.tup ys)/\xs.length+ys.length<=1000/\∀p H',av H H'->H' p=some (.tup (xs++ys))->Q (.ref p) H'
theorem EE:Hz=AK:=funext fun x=>funext fun y=>ceq fun H Q=>⟨fun ⟨l,b,xs,zs,e,f,h1,h2,h3⟩=>by subst e f;exact ⟨xs,h1,zs,h2,h3⟩,fun h=>let ⟨l,e,h⟩:=dS h;let ⟨b,f,xs,h1,zs,h2,h3⟩:=dS h;⟨l,b,xs,zs,e,f,h1,h2,h3⟩⟩
noncomputable def AL (K:WA):R2:=fun x y H Q=>onR x fun a=>onR y fun b=>∃xs,SqT K H a xs/\∃ys,SqT K H b ys/\xs.length+ys.length<=1000/\∀p H',av H H'->SqT K H' p (xs++ys)->Q (.ref p) H'
theorem EF (K:WA):Hu K=AL K:=funext fun x=>funext fun y=>ceq fun H Q=>⟨fun ⟨l,b,xs,zs,e,f,h1,h2,h3⟩=>by subst e f;exact ⟨xs,h1,zs,h2,h3⟩,fun h=>let ⟨l,e,h⟩:=dS h;let ⟨b,f,xs,h1,zs,h2,h3⟩:=dS h;⟨l,b,xs,zs,e,f,h1,h2,h3⟩⟩
noncomputable def AM (K:WA)(neg:Bool):R2:=fun x y H Q=>onR y fun p=>∃xs,(SqL K H p xs\/SqT K H p xs)/\bg x=true/\xs.all bg=true/\Q (.bl (if neg=true then !inV x xs else inV x xs)) H
theorem EG (K:WA)(neg:Bool):rIn K neg=AM K neg:=funext fun x=>funext fun y=>ceq fun H Q=>by cases y<;>simp [rIn,AM,onR]
theorem KC {b c:Bool}:(if true=true then b else c)=b:=rfl
theorem KG {b c:Bool}:(if false=true then b else c)=c:=rfl
noncomputable def AN (ta:TA):TI:=fun σ H R=>ta σ H fun vs H1=>onC vs fun v r=>onC r fun u r2=>onN r2 (onI v fun i=>onI u fun j=>(-(2 ^ 62)<=i/\i < 2 ^ 62/\-(2 ^ 62)<=j/\j < 2 ^ 62)/\R (Itr i (j - i).toNat) H1)
theorem xl {vs:List V}{P:Int->Int->Prop}:(∃i j,vs=[.int i,.int j]/\P i j)↔onC vs fun v r=>onC r fun u r2=>onN r2 (onI v fun i=>onI u fun j=>P i j):=by
 constructor
 ·rintro ⟨i,j,rfl,h⟩;exact h
 ·intro h
  rcases vs with _ | ⟨y,_ | ⟨z,_ | ⟨u,vs⟩⟩⟩
  ·exact h.elim
  ·exact h.elim
  ·cases y<;>cases z<;>first | exact ⟨_,_,rfl,h⟩ | exact h.elim
  ·exact h.elim
theorem EH (ta:TA):Hg ta=AN ta:=funext fun σ=>funext fun H=>funext fun R=>congrArg (ta σ H) (ceq fun vs H1=>xl)
noncomputable def EI (K:WA)(tl:TE):TI:=fun σ H R=>tl σ H fun x H1=>onR x fun a=>(∃xs,SqT K H1 a xs)/\R (Itt K a) H1
theorem Gx (K:WA)(tl:TE):JX K tl=EI K tl:=funext fun σ=>funext fun H=>funext fun R=>congrArg (tl σ H) (ceq fun _ _=>tY)
noncomputable def AO (K:WA)(te:TE):TI:=fun σ H R=>te σ H fun x H1=>onR x fun a=>(∃xs,SqL K H1 a xs)/\R (Ite K a) H1
theorem EJ (K:WA)(te:TE):Ht K te=AO K te:=funext fun σ=>funext fun H=>funext fun R=>congrArg (te σ H) (ceq fun _ _=>tY)
noncomputable def EK (K:WA)(ta tb:TE):TI:=fun σ H R=>ta σ H fun x H1=>tb σ H1 fun y H2=>onR x fun a=>onR y fun b=>(∃xs,SqL K H2 a xs)/\(∃ys,SqL K H2 b ys)/\R (Itz K a b) H2
theorem Gy (K:WA)(ta tb:TE):Km K ta tb=EK K ta tb:=funext fun σ=>funext fun H=>funext fun R=>congrArg (ta σ H) (funext fun x=>funext fun H1=>congrArg (tb σ H1) (ceq fun y H2=>⟨fun ⟨a,b,e,f,h⟩=>by subst e f;exact h,fun h=>let ⟨a,e,h⟩:=dS h;let ⟨b,f,h⟩:=dS h;⟨a,b,e,f,h⟩⟩))
noncomputable def BV:V->List V->Hp->VK->Prop:=fun x vs H Q=>onR x fun l=>onN vs (∃xs,H l=some (.lst xs)/\∃y,xs[xs.length - 1]?=some y/\Q y (upd H l (.lst xs.dropLast)))
theorem Gz:IL=BV:=funext fun x=>funext fun vs=>ceq fun H Q=>by cases vs<;>cases x<;>simp [IL,BV,onR,onN]
noncomputable def uD:V->List V->Hp->VK->Prop:=fun x vs H Q=>onR x fun l=>onC vs fun v r=>onN r (onR v fun b=>∃xs,H l=some (.lst xs)/\∃zs,H b=some (.lst zs)/\xs.length+zs.length<=sizeLine/\Q .non (upd H l (.lst (xs++zs))))
theorem AQ:Bz=uD:=funext fun x=>funext fun vs=>ceq fun H Q=>⟨fun ⟨l,b,xs,zs,e,f,h1,h2,h3⟩=>by subst e f;exact ⟨xs,h1,zs,h2,h3⟩,fun h=>by
 obtain ⟨l,rfl,z⟩:=dS h
 match vs,z with
 | [v],z=>
  obtain ⟨b,rfl,xs,h1,zs,h2,h3⟩:=dS (show onR v _ from z)
  exact ⟨l,b,xs,zs,rfl,rfl,h1,h2,h3⟩⟩
noncomputable def GA:List V->Hp->VK->Prop:=fun vs H Q=>onC vs fun v r=>onN r (onI v fun i=>Q (.int (if i < 0 then -i else i)) H)
theorem GB (t:TA):tCB (fun xs H Q=>∃i,xs=[.int i]/\Q (.int (if i < 0 then -i else i)) H) t=tCB GA t:=by
 refine congrArg (fun r=>tCB r t) (funext fun vs=>ceq fun H Q=>?_)
 rcases vs with _ | ⟨y,_ | ⟨z,vs⟩⟩<;>(try cases y)<;>simp [GA,onI,onC,onN]
noncomputable def EL:List V->Hp->VK->Prop:=fun vs H Q=>onC vs fun v r=>onC r fun u r2=>onN r2 (onI v fun i=>onI u fun j=>Q (.int (if j < i then j else i)) H)
theorem EM (t:TA):tCB (fun xs H Q=>∃i j,xs=[.int i,.int j]/\Q (.int (if j < i then j else i)) H) t=tCB EL t:=by
 refine congrArg (fun r=>tCB r t) (funext fun vs=>ceq fun H Q=>?_)
 exact xl
noncomputable def yb (K:WA):List V->Hp->VK->Prop:=fun vs H Q=>onC vs fun v r=>onN r (onR v fun p=>∃ys,(SqL K H p ys/\∀l,H l=none->Q (.ref l) (upd H l (.tup ys)))\/(SqT K H p ys/\Q (.ref p) H))
theorem CD (K:WA)(t:TA):tCB (fun xs H Q=>∃p ys,xs=[.ref p]/\((SqL K H p ys/\∀l,H l=none->Q (.ref l) (upd H l (.tup ys)))\/(SqT K H p ys/\Q (.ref p) H))) t=tCB (yb K) t:=by
 refine congrArg (fun r=>tCB r t) (funext fun vs=>ceq fun H Q=>?_)
 rcases vs with _ | ⟨y,_ | ⟨z,vs⟩⟩<;>(try cases y)<;>simp [yb,onR,onC,onN]
def GC (v:V)(P:Int->Prop):Prop:=match v with | .int i=>P i | .bl k=>P (if k=true then 1 else 0) | _=>False
theorem EN (i:Int)(P:Int->Prop):GC (.int i) P=P i:=rfl
theorem GD (k:Bool)(P:Int->Prop):GC (.bl k) P=P (if k=true then 1 else 0):=rfl
noncomputable def BW:List V->Hp->VK->Prop:=fun vs H Q=>onC vs fun v r=>onN r (GC v fun i=>Q (.int i) H)
theorem EO (t:TA):tCB (fun xs H Q=>(∃i,xs=[.int i]/\Q (.int i) H)\/∃k,xs=[.bl k]/\Q (.int (if k=true then 1 else 0)) H) t=tCB BW t:=by
 refine congrArg (fun r=>tCB r t) (funext fun vs=>ceq fun H Q=>?_)
 rcases vs with _ | ⟨y,_ | ⟨z,vs⟩⟩<;>(try cases y)<;>simp [BW,onC,onN,GC]
noncomputable def ER (ta:TE):TT:=fun σ H Q=>ta σ H fun x H1=>if x=.non then Q true H1 else Q false H1
theorem ES (ta:TE):lR (tOp (fun x y H Q=>y=.non/\Q (.bl (decide (x=.non))) H) ta (tC .non))=ER ta:=funext fun σ=>funext fun H=>funext fun Q=>congrArg (ta σ H) (ceq fun x H1=>by
 refine Iff.trans ?_ (iff_of_eq (AA (p:=x=.non) (Q:=fun b=>Q b H1)))
 exact ⟨fun ⟨_,k,e,q⟩=>by cases e;exact q,fun q=>⟨rfl,_,rfl,q⟩⟩)
noncomputable def AR (ta:TE):TT:=fun σ H Q=>ta σ H fun x H1=>if ¬x=.non then Q true H1 else Q false H1
theorem GF {p:Prop}[Decidable p]{Q:Bool->Prop}:Q (!decide p)=if ¬p then Q true else Q false:=by
 by_cases h:p
 ·rw [if_neg (fun z=>z h),decide_eq_true h];rfl
 ·rw [if_pos h,decide_eq_false h];rfl
theorem CF (ta:TE):lR (tOp (fun x y H Q=>y=.non/\Q (.bl (!decide (x=.non))) H) ta (tC .non))=AR ta:=funext fun σ=>funext fun H=>funext fun Q=>congrArg (ta σ H) (ceq fun x H1=>by
 refine Iff.trans ?_ (iff_of_eq (GF (p:=x=.non) (Q:=fun b=>Q b H1)))
 exact ⟨fun ⟨_,k,e,q⟩=>by cases e;exact q,fun q=>⟨rfl,_,rfl,q⟩⟩)
theorem rz {K:WA}{l:Addr}{ls:List Ld}{te:TE}{cm:List (Option Nat)}{σ:St}{H:Hp}{Q:VK}(f:Ld->V)(hL:dX K H l ls)(hn:ls.length<=sizeLine)(hcm:cv cm σ=[none,none,none])
  (he:∀x∈ls,∀N:VK,N (f x) H->te [some (.str x.1),some (.int x.2.1),some (.int x.2.2)] H N)
  (hd:∀p,H p=none->Q (.ref p) (upd H p (.lst (ls.map f)))):pC (Itl K l) (nG K 3 (rq (dP 0) (rq (dP 1) (rq (dP 2) BQ)))) tF te cm σ Q H:=by
 rw [←BP,←BR,←pJ,←pJ,←pJ]
 exact Eb f hL hn hcm he hd
noncomputable def AS (K:WA):R2:=fun x y H Q=>onR x fun l=>onI y fun k=>∃v,SqT K H l [v]/\2<=k/\k<=100/\∀p,H p=none->Q (.ref p) (upd H p (.tup (List.replicate k.toNat v)))
theorem ET (K:WA):Hy K=AS K:=funext fun x=>funext fun y=>ceq fun H Q=>⟨fun ⟨l,k,v,e,f,h⟩=>by subst e f;exact ⟨v,h⟩,fun h=>let ⟨l,e,h⟩:=dS h;let ⟨k,f,v,h⟩:=rp h;⟨l,k,v,e,f,h⟩⟩
theorem onI.mono {x:V}{P Q:Int->Prop}(h:∀i,P i->Q i)(p:onI x P):onI x Q:=by cases x<;>first | exact h _ p | exact p
theorem onO.mono {x:Option (Option V)}{P Q:V->Prop}(h:∀i,P i->Q i)(p:onO x P):onO x Q:=by
 rcases x with _ | _ | v
 ·exact p
 ·exact p
 ·exact h _ p
end
noncomputable def EU (i j:Nat)(ta:TA):TS:=fun D σ H=>ta σ H fun vs H1=>onC vs fun v r=>onC r fun w r2=>onN r2 (D.nx ((σ.set i (some v)).set j (some w)) H1)
theorem GG {vs:List V}{P:V->V->Prop}:(∃v w,vs=[v,w]/\P v w)↔onC vs fun v r=>onC r fun w r2=>onN r2 (P v w):=by
 constructor
 ·rintro ⟨v,w,rfl,h⟩;exact h
 ·intro h
  rcases vs with _ | ⟨y,_ | ⟨z,_ | ⟨u,vs⟩⟩⟩
  ·exact h.elim
  ·exact h.elim
  ·exact ⟨_,_,rfl,h⟩
  ·exact h.elim
theorem GH (i j:Nat)(ta:TA):JW i j ta=EU i j ta:=funext fun D=>funext fun σ=>funext fun H=>congrArg (ta σ H) (ceq fun vs H1=>GG)
noncomputable def BX (K:WA):R2:=fun x y H Q=>onR x fun a=>onR y fun b=>∃xs,SqL K H a xs/\∃ys,SqL K H b ys/\xs.all bg=true/\ys.all bg=true/\Q (.bl (!eqL xs ys)) H
theorem GI (K:WA):Jh K=BX K:=funext fun x=>funext fun y=>ceq fun H Q=>by cases x<;>cases y<;>simp [Jh,BX,onR]
noncomputable def BY (K:WA):R2:=fun x y H Q=>onR x fun a=>onR y fun b=>∃xs,SqL K H a xs/\∃ys,SqL K H b ys/\xs.all bg=true/\ys.all bg=true/\Q (.bl (eqL xs ys)) H
theorem GJ (K:WA):IZ K=BY K:=funext fun x=>funext fun y=>ceq fun H Q=>by cases x<;>cases y<;>simp [IZ,BY,onR]
theorem BZ {xs:List V}:eqL xs []=decide (xs=[]):=by cases xs<;>simp [eqL]
theorem KH {b:Bool}{A B:Prop}(h:if b=false then A else B):if (!b)=true then A else B:=by cases b<;>exact h
noncomputable def jh (fs:List Bool):List Int:=((List.range fs.length).filter fun j=>!fs.getD j false).map fun (j:Nat)=>(j:Int)
theorem CG {fs:List Bool}{x:Int}(h:x∈jh fs):0<=x/\x < fs.length/\fs.getD x.toNat false=false:=by
 unfold jh at h
 rw [List.mem_map] at h
 obtain ⟨j,hj,rfl⟩:=h
 rw [List.mem_filter,List.mem_range] at hj
 exact ⟨Int.natCast_nonneg _,by omega,by rw [Int.toNat_natCast];simpa using hj.2⟩
theorem CH {g:Cfg}{n:aO}(hs:bX g.ds)(h:∀c,c=0\/c=1->∀l,bG g.ds n.place c=some l->n.gates.getD l.toNat false=false):ir g n=false:=by
 unfold ir
 rw [List.any_eq_false]
 intro x hx
 unfold jg at hx
 rw [List.mem_map] at hx
 obtain ⟨i,hi,rfl⟩:=hx
 rw [List.mem_filter,List.mem_range] at hi
 obtain ⟨h1,h2⟩:=hi
 rw [Bool.not_eq_true]
 rcases of_decide_eq_true h2 with e | e
 ·exact h 0 (.inl rfl) i (by unfold bG;rw [if_pos rfl];exact il hs h1 e)
 ·exact h 1 (.inr rfl) i (by unfold bG;rw [if_neg (by decide)];exact il hs h1 e)
theorem gN.cd {g:Cfg}(hg:gN g){l:Int}(h0:0<=l)(h1:l < g.ds.length):ez (fm g.ls l):=by
 have hl:=hg.lc
 have hi:l.toNat < g.ls.length:=by omega
 unfold fm
 rw [List.getD_eq_getElem?_getD,List.getElem?_eq_getElem hi]
 exact hg.gc _ (List.getElem_mem hi)
theorem dB.code {g:Cfg}{n:aO}(hg:gN g)(hn:dB g n){l r:Int}(h:n.e=.wait l r\/n.e=.armed l r):1<=r/\r<=9:=by
 obtain ⟨h0,h1,h2⟩:=hn.ew l r h
 obtain ⟨⟨a,b⟩,⟨c,d⟩,_⟩:=hg.cd h0 h1
 rcases h2 with rfl | rfl<;>exact ⟨by assumption,by assumption⟩
theorem B0 {x y:V}{b:Bool}:atI [x,y] (if b=true then 1 else 0)=some (if b=true then y else x):=by cases b<;>rfl
theorem ow {g:Cfg}{n:aO}{l:Int}(h0:0<=l)(h1:l < g.ds.length)(h:n.gates.getD l.toNat false=false):eI g n (.opn l)=none:=(if_neg (fun z=>z ⟨h0,h1⟩)).trans (if_neg (by rw [h];decide))
theorem kK {g:Cfg}{n:aO}{l:Int}(h0:0<=l)(h1:l < g.ds.length)(h:n.gates.getD l.toNat false=true):eI g n (.sht l)=none:=(if_neg (fun z=>z ⟨h0,h1⟩)).trans (if_neg (by rw [h];decide))
theorem sk {g:Cfg}{n:aO}{l s:Int}(h0:0<=l)(h1:l < g.ds.length)(h:n.fs.getD l.toNat false=false)(hs:s=(fm g.ls l).1\/s=(fm g.ls l).2):eI g n (.ring l s)=none:=(if_neg (fun z=>z ⟨h0,h1⟩)).trans ((if_neg (by rw [h];decide)).trans (if_pos hs))
theorem zh {g:Cfg}{n:aO}{l:Int}(h0:0<=l)(h1:l < g.ds.length)(h:n.fs.getD l.toNat false=false):eI g n (.fail l)=none:=(if_neg (fun z=>z ⟨h0,h1⟩)).trans (if_neg (by rw [h];decide))
theorem so {g:Cfg}{n:aO}{l r s:Int}(h:n.e=.wait l r)(h1:1<=s)(h2:s<=9):eI g n (.rept s)=none:=by
 simp only [eI,h]
 exact if_pos ⟨h1,h2⟩
theorem sq {g:Cfg}{n:aO}{c l:Int}{k:Str}(h0:0<=l)(h1:l < g.ds.length)(h:ir g n=false)(he:n.e=.armed l (cC g.ls l k)):eI g n (.wind c l k)=none:=(if_neg (fun z=>z ⟨h0,h1⟩)).trans ((if_neg (by rw [h];decide)).trans (if_pos he))
theorem vV {g:Cfg}{n:aO}{c l:Int}(h:10+c∈n.ws)(hl:bG g.ds n.place c=some l)(ho:n.gates.getD l.toNat false=true):eI g n (.unload c)=none:=by
 refine (if_neg (fun z=>z h)).trans ?_
 rw [hl]
 exact if_pos ho
theorem zi {g:Cfg}{n:aO}{k c l:Int}(h0:0<=k)(h1:k < n.ws.length)(hl:bG g.ds n.place c=some l)(hk:n.ws.getD k.toNat 0=l)(hc:¬10+c∈n.ws)(ho:n.gates.getD l.toNat false=true):eI g n (.load k c)=none:=by
 refine (if_neg (fun z=>z ⟨h0,h1⟩)).trans ?_
 rw [hl]
 exact (if_neg (fun z=>z hk)).trans ((if_neg hc).trans (if_pos ho))
theorem HN {pl:Int}{ds:List Int}{c:Int}:(bG ds pl c).getD (-1) < 0->bG ds pl c=none:=by
 intro h
 cases e:bG ds pl c with
 | none=>rfl
 | some l=>rw [e] at h;have:=(eR e).1;simp only [Option.getD_some] at h;omega
theorem EV {pl:Int}{ds:List Int}{c:Int}:¬(bG ds pl c).getD (-1) < 0->∃l,bG ds pl c=some l/\(bG ds pl c).getD (-1)=l:=by
 intro h
 cases e:bG ds pl c with
 | none=>rw [e] at h;exact absurd (by decide) h
 | some l=>exact ⟨l,rfl,rfl⟩
theorem KJ (e:Eng):(∃l r,e=.wait l r)\/(∃l r,e=.armed l r)\/∃(w:Str) (x y z:V),kH e=[.str w,x,y,z]/\¬w="not repeated"/\¬w="armed":=by
 cases e with
 | no=>exact .inr (.inr ⟨_,_,_,_,rfl,by decide,by decide⟩)
 | wait l r=>exact .inl ⟨l,r,rfl⟩
 | armed l r=>exact .inr (.inl ⟨l,r,rfl⟩)
 | other l r s=>exact .inr (.inr ⟨_,_,_,_,rfl,by decide,by decide⟩)
 | used l r=>exact .inr (.inr ⟨_,_,_,_,rfl,by decide,by decide⟩)
theorem EW {ws:List Int}{lv x:Int}(h:x∈iq ws lv):0<=x/\x < ws.length/\ws.getD x.toNat 0=lv:=by
 unfold iq vR at h
 rw [List.mem_map] at h
 obtain ⟨j,hj,rfl⟩:=h
 rw [List.mem_filter,List.mem_range] at hj
 exact ⟨Int.natCast_nonneg _,by omega,by rw [Int.toNat_natCast];exact of_decide_eq_true hj.2⟩
theorem gS.un {K:WA}{H:Hp}{a:Addr}{n:aO}{t:Int}(h:gS K H a (n,t)):∃gt lt ht dt:Addr,SqT K H a [.int n.place,.ref gt,.ref lt,.ref ht,.ref dt,.int t]/\SqT K H gt (n.gates.map V.bl)/\H lt=some (.tup (n.ws.map V.int))/\SqT K H ht (kH n.e)/\SqT K H dt ((cN n.fs).map V.int):=h
structure fI (C:Cl)(K:WA)(H0 H:Hp)(p dl cl ll w bk rl sl wl:Addr)(g:Cfg)(lds:List Ld)(n0:aO)(rs:List Row):Prop where
 su:cY K H0 p dl cl ll g lds
 sa:av H0 H
 fr:H0 rl=none
 fs:H0 sl=none
 fw:H0 wl=none
 da:ze C K H w bk rl sl wl g n0 rs
 cg:gN g
 c0:dB g n0
section
variable {C:Cl}{K:WA}{H0 H H':Hp}{p dl cl ll w bk rl sl wl:Addr}{g:Cfg}{lds:List Ld}{n0:aO}{rs rs':List Row}
theorem fI.same (h:fI C K H0 H p dl cl ll w bk rl sl wl g lds n0 rs)(s:av H H'):fI C K H0 H' p dl cl ll w bk rl sl wl g lds n0 rs:=⟨h.su,h.sa.trans s,h.fr,h.fs,h.fw,h.da.same s,h.cg,h.c0⟩
theorem fI.setup (h:fI C K H0 H p dl cl ll w bk rl sl wl g lds n0 rs):cY K H p dl cl ll g lds:=h.su.same h.sa
theorem fI.snap (h:fI C K H0 H p dl cl ll w bk rl sl wl g lds n0 rs):dB g (ak n0 rs):=h.da.run.snap h.cg h.c0
theorem fI.to (h:fI C K H0 H p dl cl ll w bk rl sl wl g lds n0 rs)(k:bV rl sl wl H H')(d:ze C K H' w bk rl sl wl g n0 rs'):fI C K H0 H' p dl cl ll w bk rl sl wl g lds n0 rs':=⟨h.su,h.sa.keeps3 k h.fr h.fs h.fw,h.fr,h.fs,h.fw,d,h.cg,h.c0⟩
end
theorem yd (d:Dd):∃w:Str,atI (ddV d) 0=some (.str w)/\¬w="take back":=by
 cases d<;>exact ⟨_,rfl,by decide⟩
theorem GK {d:Dd}(h:∀s,d≠.rept s):∃w:Str,atI (ddV d) 0=some (.str w)/\¬w="repeat":=by
 cases d<;>first | exact ⟨_,rfl,by decide⟩ | exact absurd rfl (h _)
theorem vU.int {K:WA}{H:Hp}{n:aO}{t:Int}{d:Dd}{v:V}(h:vU K H n t d v)(hr:∀s,d≠.rept s):v=.int t:=by
 cases d<;>first | exact h | exact absurd rfl (hr _)
theorem vU.same {K:WA}{H H':Hp}{n:aO}{t:Int}{d:Dd}{v:V}(h:vU K H n t d v)(s:av H H'):vU K H' n t d v:=by
 cases d<;>first | exact h | (obtain ⟨p,l,r,e,f,z⟩:=h;exact ⟨p,l,r,e,f,s.tup z⟩)
theorem vU.keep {K:WA}{H H':Hp}{n:aO}{t:Int}{d:Dd}{v:V}{p:Addr}{ys:List V}(h:vU K H n t d v)(s:aA p H H')(hp:H p=some (.lst ys)):vU K H' n t d v:=by
 cases d<;>first | exact h | (obtain ⟨p,l,r,e,f,z⟩:=h;exact ⟨p,l,r,e,f,z.keep s hp⟩)
theorem GL {as:List Addr}{a b:Addr}:atI ((as++[a]++[b]).map V.ref) (-2)=some (.ref a):=by
 have hl:((as++[a]++[b]).map V.ref).length=as.length+2:=by simp
 unfold atI ixN
 rw [hl,if_neg (by omega),if_pos (by omega)]
 rw [show ((-2:Int)+((as.length+2:Nat):Int)).toNat=as.length by omega]
 show ((as++[a]++[b]).map V.ref)[as.length]?=_
 simp
structure pL (ds:List Int)(ls:List Cd)(slow fast:Int)(lds:List Ld):Prop where
 sh:bX ds
 ln:ls.length=ds.length
 gd:∀x∈ls,ez x
 sp:1<=slow/\slow<=fast/\fast<=500
 l30:lds.length<=30
 gl:∀x∈lds,jv (ds.length:Nat) x
theorem pL.cfg {ds:List Int}{ls:List Cd}{slow fast:Int}{lds:List Ld}(h:pL ds ls slow fast lds)(N:Addr->Prop):gN (df ds ls slow fast lds N):=Jf h.sh h.ln h.gd h.sp h.l30
theorem pL.snap {ds:List Int}{ls:List Cd}{slow fast:Int}{lds:List Ld}(h:pL ds ls slow fast lds)(N:Addr->Prop):dB (df ds ls slow fast lds N) (gh ds ls lds):=FR h.sh h.ln h.gl
def HV (ws:List Int)(i:Nat)(c:Int)(x:V):Prop:=(x=.non/\∀j,j < i->ws.getD j 0≠10+c)\/∃j:Nat,j < i/\x=.int (j:Int)/\ws.getD j 0=10+c
theorem HV.nil {ws:List Int}{c:Int}:HV ws 0 c .non:=.inl ⟨rfl,fun j h=>absurd h (Nat.not_lt_zero _)⟩
theorem HV.no {ws:List Int}{i:Nat}{c:Int}{x:V}(h:HV ws i c x)(n:ws.getD i 0≠10+c):HV ws (i+1) c x:=by
 rcases h with ⟨e,h⟩ | ⟨j,hj,e,h⟩
 ·exact .inl ⟨e,fun j hj=>by
   by_cases z:j=i
   ·rw [z];exact n
   ·exact h j (by omega)⟩
 ·exact .inr ⟨j,by omega,e,h⟩
theorem HV.yes {ws:List Int}{i:Nat}{c:Int}(n:ws.getD i 0=10+c):HV ws (i+1) c (.int (i:Int)):=.inr ⟨i,by omega,rfl,n⟩
theorem HV.all {g:Cfg}{n:aO}(hn:dB g n){c:Int}{x:V}(hc:0<=c)(h:HV n.ws n.ws.length c x):x=inC n.ws c:=by
 unfold inC
 rcases h with ⟨e,h⟩ | ⟨j,hj,e,h⟩
 ·rw [if_neg,e]
  intro z
  obtain ⟨h1,h2⟩:=rj z
  exact h _ h1 h2
 ·have hm:10+c∈n.ws:=h▸cM hj
  obtain ⟨h1,h2⟩:=rj hm
  rw [if_pos hm,e,hn.un j _ hj h1 (by omega) (h.trans h2.symm)]
theorem l3 (ws:List Int)(c:Int):bg (inC ws c)=true:=by unfold inC;split<;>rfl
def dN (H:Hp)(ws:List Int)(as:List Addr)(m:Nat):Prop:=as.length=m/\∀(j:Nat) a,as[j]?=some a->H a=some (.lst ((iq ws (j:Int)).map V.int))
theorem dN.same {H H':Hp}{ws:List Int}{as:List Addr}{m:Nat}(h:dN H ws as m)(s:av H H'):dN H' ws as m:=⟨h.1,fun j a e=>s _ _ (h.2 j a e)⟩
theorem dN.nil {H:Hp}{ws:List Int}:dN H ws [] 0:=⟨rfl,fun j a e=>by simp at e⟩
theorem dN.push {H:Hp}{ws:List Int}{as:List Addr}{m:Nat}{a:Addr}(h:dN H ws as m)(e:H a=some (.lst ((iq ws (m:Int)).map V.int))):dN H ws (as++[a]) (m+1):=by
 refine ⟨by rw [List.length_append,h.1];rfl,fun j b hb=>?_⟩
 by_cases hj:j < as.length
 ·rw [List.getElem?_append_left hj] at hb
  exact h.2 j b hb
 ·rw [List.getElem?_append_right (by omega)] at hb
  have hz:j - as.length=0:=by
   have:=(List.getElem?_eq_some_iff.mp hb).1
   simp at this
   omega
  rw [hz] at hb
  cases hb
  have:j=m:=by rw [←h.1];omega
  rw [this]
  exact e
noncomputable def AU (ws:List Int)(m:Nat):Dt:=.lst ((List.range m).map fun (j:Nat)=>.lst (((iq ws (j:Int)).map V.int).map Dt.flat))
theorem xm {K:WA}{H:Hp}{p:Addr}{ws:List Int}{as:List Addr}{m n:Nat}(hp:SqL K H p (as.map V.ref))(h:dN H ws as m)(hm:m<=1000)(hw:ws.length<=1000):Rep K H (n+2) (.ref p) (AU ws m):=by
 refine .lst hp (by rw [WB,h.1];omega) (by rw [WB,WB,List.length_range,h.1]) fun i x y e1 e2=>?_
 rw [List.getElem?_map] at e1 e2
 cases ea:as[i]? with
 | none=>rw [ea] at e1;cases e1
 | some a=>
  cases er:(List.range m)[i]? with
  | none=>rw [er] at e2;cases e2
  | some r=>
   rw [ea] at e1;rw [er] at e2
   cases e1;cases e2
   have hi:=(List.getElem?_eq_some_iff.mp er).1
   rw [List.length_range] at hi
   rw [List.getElem?_range hi] at er
   cases er
   exact ip (SqL.of (h.2 i a ea)) (by have:=yT ws (i:Int) ws.length;unfold iq;omega)
inductive kh (K:WA)(H:Hp)(n:Nat):List V->List Dt->Prop
 | nil:kh K H n [] []
 | cons {x:V} {d:Dt} {xs:List V} {ds:List Dt} (h:Rep K H n x d) (t:kh K H n xs ds):kh K H n (x::xs) (d::ds)
theorem kh.len {K:WA}{H:Hp}{n:Nat}{xs:List V}{ds:List Dt}(h:kh K H n xs ds):xs.length=ds.length:=by
 induction h with
 | nil=>rfl
 | cons h t ih=>rw [List.length_cons,List.length_cons,ih]
theorem kh.get {K:WA}{H:Hp}{n:Nat}{xs:List V}{ds:List Dt}(h:kh K H n xs ds):∀(i:Nat) x d,xs[i]?=some x->ds[i]?=some d->Rep K H n x d:=by
 induction h with
 | nil=>intro i x d e;simp at e
 | cons h t ih=>
  intro i x d e1 e2
  cases i with
  | zero=>cases e1;cases e2;exact h
  | succ i=>exact ih i x d e1 e2
theorem kh.rep {K:WA}{H:Hp}{n:Nat}{a:Addr}{xs:List V}{ds:List Dt}(h:kh K H n xs ds)(hs:SqL K H a xs)(hb:xs.length<=100000):Rep K H (n+1) (.ref a) (.lst ds):=.lst hs hb h.len h.get
theorem kh.same {K:WA}{H H':Hp}{n:Nat}{xs:List V}{ds:List Dt}(h:kh K H n xs ds)(s:av H H'):kh K H' n xs ds:=by
 induction h with
 | nil=>exact .nil
 | cons h t ih=>exact .cons (h.same s) ih
theorem kh.append {K:WA}{H:Hp}{n:Nat}{xs ys:List V}{ds es:List Dt}(h:kh K H n xs ds)(k:kh K H n ys es):kh K H n (xs++ys) (ds++es):=by
 induction h with
 | nil=>exact k
 | cons h t ih=>exact .cons h ih
theorem ja {M:Model}{A:Around}{E:Value->Shared->Prop}{s:Shared}{scope:Scope}{globals:Addr}{closure:List (Str×Addr)}{qual:Str}{func:Option Addr}{code:Value}{outer:Env}{builtins:Addr}{yc:Str}{Q:Env->Shared->Prop}
  (hcs:∀(n:Nat) (cl:List (Str×Addr)),cellsFrom n scope.names cl=(yc,n)::cl) (hpc:∀h:Heap,pushCells h scope.names=h.push {cls:=.type "cell",data:=.cell none})
  (hQ:∀h',h'.Ns s.heap.objs.size (fun _=>none)->(∀b u,s.heap.get? b=some u->h'.get? b=some u)->h'.IsCell (s.heap.objs.size+1) none->
   Q (newEnv scope s.heap.objs.size globals ((yc,s.heap.objs.size+1)::closure) qual func code (some outer) builtins) {s with heap:=h',toks:=s.toks+([]:List (Str×Value)).length}) :
  wpAny M A (newFunctionEnv scope globals closure [] qual func code (some outer) builtins) Q E s:=by
 simp only [newFunctionEnv,Option.isSome_some,if_true]
 refine wpAny_bind (wpAny_alloc ?_)
 refine wpAny_bind (wpAny_layCells _ (fun name kind cells=>by cases hkc:kind == NameKind.cell<;>simp [hkc]) _ _ _ _ ?_)
 rw [hcs,hpc]
 rw [show ({s with heap:=s.heap.push {cls:=.type "dict",data:=.dict #[]}}:Shared).heap.objs.size=s.heap.objs.size+1 from Heap.size_push ..]
 refine wpAny_bind ?_
 rw [List.forIn_nil]
 refine wpAny_pure (wpAny_pure ?_)
 refine hQ ((s.heap.push {cls:=.type "dict",data:=.dict #[]}).push {cls:=.type "cell",data:=.cell none}) ?_ (fun b u e=>Heap.get?_push_of_some _ (Heap.get?_push_of_some _ e)) ⟨{cls:=.type "cell",data:=.cell none},?_,rfl⟩
 ·exact (Heap.Ns.new s.heap (.type "dict")).keeps fun b o e=>Heap.get?_push_of_some _ e
 ·have:=Heap.get?_push_size (s.heap.push {cls:=.type "dict",data:=.dict #[]}) (o:={cls:=.type "cell",data:=.cell none}) rfl
  rw [Heap.size_push] at this
  exact this
noncomputable def CI (X:Cx)(Nc:List Str)(scope:Scope)(yc:Str)(C:Addr)(s₀:Shared)(H₀:Hp)(ex:List Addr):Cx:=
 {X with N:=Nc,s₀:=s₀,H₀:=H₀,env:=compEnvC scope ((yc,C+1)::ig X.env.cells scope.names []) C X.env,outer:=X.stack,ex:=ex,fn:=fun x=>x == yc,pn:=[],xe:=fun _ _=>False}
section
variable {X:Cx}
theorem zj {tg iter elt:Expr}{ifs:List Expr}{scope:Scope}{pos spos py:Pos}{Nc:List Str}{cm:List (Option Nat)}{wi:TI}{g:TG}{tc:TT}{te:TE}{iy:Nat}{y yc:Str}(hcs:∀(n:Nat) (cl:List (Str×Addr)),cellsFrom n scope.names cl=(yc,n)::cl)(hpc:∀h:Heap,pushCells h scope.names=h.push {cls:=.type "cell",data:=.cell none})(hyc:scope.names.lookup yc=some .cell)(hN:X.N.Nodup)(hiy:X.N[iy]?=some y)(hly:X.env.scope.names.lookup y=some .local)
  (hsw:swapsWith (.ListComp elt [⟨tg,iter,ifs,0⟩] scope pos) (some (.Name y py)) spos.line X.env=pure true)
  (hc:X.calm=true) (hi:PI X tg iter wi) (hkind:scope.kind=.function) (hcell:∀z∈scope.names,z.2=.cell->z.1=yc) (hnames:∀y∈scope.names,y.2=.local->scope.names.lookup y.1=some .local)
  (hfree:∀y∈scope.names,y.2=.free->X.env.kindOf y.1=some .cell\/X.env.kindOf y.1=some .free) (hlen:cm.length=Nc.length)
  (hcm:∀(j:Nat) (x:Str) (i:Nat),Nc[j]?=some x->cm[j]?=some (some i)->X.N[i]?=some x/\scope.names.lookup x=some .free/\(X.env.kindOf x=some .cell\/X.env.kindOf x=some .free))
  (hg:∀C s₀ H₀ ex,PG (CI X Nc scope yc C s₀ H₀ ex) tg g) (ht:∀C s₀ H₀ ex,PIf (CI X Nc scope yc C s₀ H₀ ex) ifs tc) (he:∀C s₀ H₀ ex,PE (CI X Nc scope yc C s₀ H₀ ex) elt te)
  (hs:∀x,foldedSetIterable iter X.env x=pure x:=by intro _;rfl):PS X (.Assign [.Name y py] (.ListComp elt [⟨tg,iter,ifs,0⟩] scope pos) spos) (zU (um wi g tc te cm) (dP iy)):=by
 intro pins s σ H D0 I h
 rw [exec_Assign_Name_used _ _ _ _ hsw]
 refine wpAny_bind (wpAny_standAt (wpAny_bind ?_))
 show wpAny _ X.A (do let _ ←comprehension (.ListComp elt [⟨tg,iter,ifs,0⟩] scope pos) scope X.env _ (newList []) false (eval iter X.env) (some (assign (.Name y py) X.env))) _ _ s
 refine wpAny_bind (wpAny_mono (Q:=fun _ s'=>SP X pins D0 .next s') ?_ (fun _ s' hq=>wpAny_pure (wpAny_pure hq)) fun _ _ e=>e)
 have hfr:∀y∈scope.names,y.2=.free->∃c,X.env.cells.lookup y.1=some c:=fun y hy e=>I.ok.has y.1 (hfree y hy e)
 refine wpAny_comprehension_free (use:=some (assign (.Name y py) X.env)) (Q:=fun _ s'=>SP X pins D0 .next s') rfl hs (ij hfr) hkind hnames (thn (hi pins s σ H _ I h) fun v s1 h1=>thn h1 fun itv s2 h2=>?_)
 obtain ⟨it,fp,tn,J,H2,e,I2,T,st2,f2,W,⟨m0,w0⟩,turn⟩:=h2
 subst e
 refine wpAny_newObj_type (ja hcs hpc (fun h₁ hns₁ keepA hcl₁=>?_))
 dsimp only at hns₁ keepA hcl₁ ⊢
 refine qX (yo:=some yc) (QV:=fun x H1=>dP iy x σ H1 D0.nx) hc hkind (fun z hz e=>by rw [hcell z hz e]) (fun _ e=>by cases e;exact hyc) hfr hlen hcm hg ht he I2 T st2 f2 w0 turn hns₁ keepA (fun _ e=>by cases e;exact hcl₁) (fun s6 H5 acc m hm fc J qn _=>?_)
 obtain ⟨fc0,fc1,fc2,fc3,fc4,fc5⟩:=fc
 refine wpAny_assign_Name (qQ (s:=s6) (v:=.ref s2.heap.objs.size) (J s6.heap ⟨rfl,fun _ _=>rfl⟩) hN hiy (.inl hly) rfl (fun s7 J9 hsa=>?_) (.inr hly))
 obtain ⟨aa,hsa,hwh⟩:=hsa
 exact ⟨m,hm.sameBut hsa (by rcases hwh with z | z;rw [z];exact fc1;exact (fc4 _ _ z).symm),fun h7 hs7=>⟨_,_,J9.turned (it:=(s2.heap.push {cls:=.type "list",dict:=none,data:=.seq ([]:List Value).toArray}).objs.size) (t':=s7.toks) (fun b o hb hu=>(hs7.2 b hb).trans hu) fc0 fc1 fc3 fc4 fc5,qn⟩⟩
end
theorem Jw {X:Cx}{tg iter elt:Expr}{ifs:List Expr}{scope:Scope}{pos spos py:Pos}(Nc:List Str)(yc:Str)(cm:List (Option Nat)){wi:TI}{g:TG}{tc:TT}{te:TE}{iy:Nat}{y:Str}(hN:X.N.Nodup)(hiy:X.N[iy]?=some y)(hly:X.env.scope.names.lookup y=some .local)
  (hi:PI X tg iter wi) (hg:∀C s₀ H₀ ex,PG (CI X Nc scope yc C s₀ H₀ ex) tg g) (ht:∀C s₀ H₀ ex,PIf (CI X Nc scope yc C s₀ H₀ ex) ifs tc) (he:∀C s₀ H₀ ex,PE (CI X Nc scope yc C s₀ H₀ ex) elt te)
  (hsw:swapsWith (.ListComp elt [⟨tg,iter,ifs,0⟩] scope pos) (some (.Name y py)) spos.line X.env=pure true:=by rfl)
  (hc:X.calm=true:=by rfl) (hkind:scope.kind=.function:=by rfl) (hcell:∀z∈scope.names,z.2=.cell->z.1=yc:=by decide +kernel) (hcs:∀(n:Nat) (cl:List (Str×Addr)),cellsFrom n scope.names cl=(yc,n)::cl:=by intro _ _;rfl) (hpc:∀h:Heap,pushCells h scope.names=h.push {cls:=.type "cell",data:=.cell none}:=by intro _;rfl) (hyc:scope.names.lookup yc=some .cell:=by rfl) (hnames:∀y∈scope.names,y.2=.local->scope.names.lookup y.1=some .local:=by decide +kernel)
  (hfree:Ao X scope=true:=by rfl) (hlen:cm.length=Nc.length:=by rfl) (hcm:IV X scope Nc cm=true:=by rfl)
  (hs:∀x,foldedSetIterable iter X.env x=pure x:=by intro _;rfl):PS X (.Assign [.Name y py] (.ListComp elt [⟨tg,iter,ifs,0⟩] scope pos) spos) (zU (um wi g tc te cm) (dP iy)):=by
 refine zj hcs hpc hyc hN hiy hly hsw hc hi hkind hcell hnames (fun y hy e=>?_) hlen (fun j x i e1 e2=>?_) hg ht he hs
 ·have h:=List.all_eq_true.mp hfree y hy
  rw [e] at h
  simpa using h
 ·have hj:(Nc.zip cm)[j]?=some (x,some i):=by
   rw [List.getElem?_zip_eq_some];exact ⟨e1,e2⟩
  have h:=List.all_eq_true.mp hcm _ (List.mem_of_getElem? hj)
  simpa using h
theorem fM.calm0 {P:Program}{w:World}{K:WA}{mg:Str->Option Value}{base:Heap}{k:Nat}{f:Addr}{fd:FuncData}{ps:List Str}{sp:Sp}(F:fM P w K mg base (CXf P w) k f fd ps sp):fM P w K mg base CX0 k f fd ps (fun vs H Q _=>sp vs H Q E0):=by
 refine ⟨fun vs H Q E h=>F.len vs H Q E0 h,fun A outer s H args us vs Q E hr he hb hv hs=>?_⟩
 refine codeAny_mono (F.run A outer s H args us vs Q E0 hr he hb hv hs) fun r s' q=>?_
 cases r with
 | ok fl=>cases fl<;>exact q
 | error e=>
  obtain ⟨x,cls,a0,H',B,_,_,_,_,_,_,_,_,_,z⟩:=q
  exact z.elim
def DI (K:WA)(x:Str)(st:Stmt):Prop:=∃f fd,W.nsIn K mainGlobals x=some (some (.ref f))/\Fun K x x st f fd
theorem DI.mk {K:WA}{x:Str}{st:Stmt}{f:Addr}{oc:Value}{od an:Option Addr}{osl:Array (Option Value)}{kV doc pm cdv ct:Value}(a:W.nsIn K mainGlobals x=some (some (.ref f)))(l:K.lookup f=some ⟨oc,od,.func (W.fnOf x x (dA st) (bE st) (aj st) .none kV doc pm an cdv ct),osl⟩)
  (c:W.codeIn K cdv x=true) (k:W.keepIn K (.ref f)=true):DI K x st:=⟨f,_,a,Am l c k⟩
def MI (K:WA)(C:Addr)(m q:Str)(st:Stmt):Prop:=∃f fd,Aa K C m f/\Fun K m q st f fd
theorem MI.mk {K:WA}{C:Addr}{m q:Str}{st:Stmt}{f:Addr}{oc:Value}{od an:Option Addr}{osl:Array (Option Value)}{kV doc pm cdv ct:Value}(a:W.findIn K (.ref C) m=some (some (.ref f)))(fn:W.isFn K (.ref f)=true)(l:K.lookup f=some ⟨oc,od,.func (W.fnOf m q (dA st) (bE st) (aj st) .none kV doc pm an cdv ct),osl⟩)
  (c:W.codeIn K cdv q=true) (k:W.keepIn K (.ref f)=true):MI K C m q st:=⟨f,_,⟨a,fn,k⟩,Am l c k⟩
def II (K:WA)(C:Addr)(q:Str)(st:Stmt):Prop:=∃f fd,Mk K C f/\Fun K "__init__" q st f fd
theorem II.mk {K:WA}{C:Addr}{q:Str}{st:Stmt}{f:Addr}{oc:Value}{od an:Option Addr}{osl:Array (Option Value)}{kV doc pm cdv ct:Value}(a:W.findIn K (.ref C) "__init__"=some (some (.ref f)))(fn:W.isFn K (.ref f)=true)(mk:W.makesIn K C=true)(kc:W.keepIn K (.ref C)=true)(l:K.lookup f=some ⟨oc,od,.func (W.fnOf "__init__" q (dA st) (bE st) (aj st) .none kV doc pm an cdv ct),osl⟩)
  (c:W.codeIn K cdv q=true) (k:W.keepIn K (.ref f)=true):II K C q st:=⟨f,_,⟨mk,a,fn,kc⟩,Am l c k⟩
def C0I (K:WA)(C0:Addr):Prop:=∃(c0 c2:Value) (dd0 d2:Option Addr) (cd0:ClassData) (sl0 sl2:Array (Option Value)) (es0:Array DictEntry) (ep0:Nat),K.lookup C0=some ⟨c0,dd0,.cls cd0,sl0⟩/\K.lookup cd0.ns=some ⟨c2,d2,.dict es0 ep0,sl2⟩/\nj es0=true/\(quietNames.all fun n=>(nsFind es0 n).isNone)=true
theorem C0I.mk {K:WA}{C0 N0:Addr}{c0 c2:Value}{dd0 d2:Option Addr}{cd0:ClassData}{sl0 sl2:Array (Option Value)}{es0:Array DictEntry}{ep0:Nat}(l0:K.lookup C0=some ⟨c0,dd0,.cls cd0,sl0⟩)(e0:cd0.ns=N0)(lN0:K.lookup N0=some ⟨c2,d2,.dict es0 ep0,sl2⟩)(kN0:nj es0=true)(iN0:(quietNames.all fun n=>(nsFind es0 n).isNone)=true):C0I K C0:=
 ⟨c0,c2,dd0,d2,cd0,sl0,sl2,es0,ep0,l0,e0▸lN0,kN0,iN0⟩
def XI (K:WA)(C0 C:Addr):Prop:=C0I K C0->ExI K C
theorem XI.mk {K:WA}{C N C0:Addr}{nm q:Str}{bs:List Value}{hdct:Bool}{sn:List Str}{sub:List Value}{ab:Bool}{col:Option Bool}{dd:Option Addr}{k0 k1 k2 k3 k5:Option Value}{c1:Value}{d1:Option Addr}{es:Array DictEntry}{ep:Nat}{sl1:Array (Option Value)}
  (lC:K.lookup C=some (excClassObj nm q C N bs [.ref C0,.type "ValueError",.type "Exception",.type "BaseException",.type "object"] hdct sn sub ab col dd k0 k1 k2 k3 k5 "ValueError.__new__"))
  (lN:K.lookup N=some ⟨c1,d1,.dict es ep,sl1⟩) (kN:nj es=true) (iN:(quietNames.all fun n=>(nsFind es n).isNone)=true) (ca:W.findIn K (.ref C) "__class__"=some (some (.builtin "object.__class__"))) (mo:W.mroIn K C (.type "object")=some true):XI K C0 C:=by
 rintro ⟨c0,c2,dd0,d2,cd0,sl0,sl2,es0,ep0,l0,lN0,kN0,iN0⟩
 exact ⟨IY lC lN kN iN l0 rfl lN0 kN0 iN0,ca,mo⟩
def NI (K:WA)(x:Str)(a:Addr):Prop:=W.nsIn K mainGlobals x=some (some (.ref a))
def KI (K:WA)(x:Str)(v:Int):Prop:=∃tk,W.nsIn K mainGlobals x=some (some (.int v tk))
theorem KI.mk {K:WA}{x:Str}{v:Int}{tk:Tok}(h:W.nsIn K mainGlobals x=some (some (.int v tk))):KI K x v:=⟨tk,h⟩
theorem KI.txt {K:WA}{h:Heap}{mg:Str->Option Value}{x:Str}{v:Int}(X:K.In h)(G:h.Ns mainGlobals mg)(k:KI K x v):∃u,mg x=some u/\bI (.int v) u:=let ⟨_,k⟩:=k;⟨_,W.mg_of X G k,⟨_,rfl⟩⟩
theorem dE {H H1:Hp}{p:Addr}{o:HO}(e:upd H p o=H1)(h:H p=none):av H H1:=e▸(av.refl H).lay h
theorem cf {H H1:Hp}{p:Addr}{o:HO}(e:upd H p o=H1):H1 p=some o:=e▸ag
theorem seg {X:Cx}{b:List Stmt}{R:TS->Prop}(j:Nat){t:TS}(h:PSs X (b.drop j) t)(k:∀t',PSs X (b.drop j) t'->t'=t->∃u,PSs X b u/\R u):∃u,PSs X b u/\R u:=k t h rfl
theorem kM {t t':TS}(e:t=t'){D:gQ}{σ:St}{H:Hp}(h:t' D σ H):t D σ H:=e▸h
theorem aL {N P:List Str}{sc:Scope}(kind:sc.kind=.function:=by rfl)(co:sc.isCoroutine=false:=by rfl)(gen:sc.isGenerator=false:=by rfl)(nd:N.Nodup:=by decide +kernel)(pre:N.take P.length=P:=by rfl)(par:∀x∈P,sc.names.lookup x=some .local\/sc.names.lookup x=some .cell:=by decide +kernel)(nofree:∀y∈sc.names,y.2≠.free:=by decide +kernel):ay N P sc:=⟨kind,co,gen,nd,pre,par,nofree⟩
section
variable {K:WA}{x qual:Str}{st:Stmt}{f:Addr}{fd:FuncData}{ps:List Str}
theorem Fun.b0 (F:Fun K x qual st f fd)(hl:ps.length=0:=by rfl)(h:∀(kV doc pm:Value) (an:Option Addr) (cdv ct:Value),bindArgs (W.fnOf x qual (dA st) (bE st) (aj st) .none kV doc pm an cdv ct) ⟨[],[]⟩=pure (ps.zip []):=by intros;rfl):dQ K fd ps []:=F.binds fun kV doc pm an cdv ct us e=>match us,e.trans hl with | [],_=>h kV doc pm an cdv ct
theorem Fun.b1 (F:Fun K x qual st f fd)(hl:ps.length=1:=by rfl)(h:∀(kV doc pm:Value) (an:Option Addr) (cdv ct:Value) (a0:Value), bindArgs (W.fnOf x qual (dA st) (bE st) (aj st) .none kV doc pm an cdv ct) ⟨[a0],[]⟩=pure (ps.zip [a0]):=by intros;rfl):dQ K fd ps []:=F.binds fun kV doc pm an cdv ct us e=>match us,e.trans hl with | [a0],_=>h kV doc pm an cdv ct a0
theorem Fun.b2 (F:Fun K x qual st f fd)(hl:ps.length=2:=by rfl)(h:∀(kV doc pm:Value) (an:Option Addr) (cdv ct:Value) (a0 a1:Value), bindArgs (W.fnOf x qual (dA st) (bE st) (aj st) .none kV doc pm an cdv ct) ⟨[a0,a1],[]⟩=pure (ps.zip [a0,a1]):=by intros;rfl):dQ K fd ps []:=F.binds fun kV doc pm an cdv ct us e=>match us,e.trans hl with | [a0,a1],_=>h kV doc pm an cdv ct a0 a1
theorem Fun.b3 (F:Fun K x qual st f fd)(hl:ps.length=3:=by rfl)(h:∀(kV doc pm:Value) (an:Option Addr) (cdv ct:Value) (a0 a1 a2:Value), bindArgs (W.fnOf x qual (dA st) (bE st) (aj st) .none kV doc pm an cdv ct) ⟨[a0,a1,a2],[]⟩=pure (ps.zip [a0,a1,a2]):=by intros;rfl):dQ K fd ps []:=F.binds fun kV doc pm an cdv ct us e=>match us,e.trans hl with | [a0,a1,a2],_=>h kV doc pm an cdv ct a0 a1 a2
theorem Fun.b4 (F:Fun K x qual st f fd)(hl:ps.length=4:=by rfl)(h:∀(kV doc pm:Value) (an:Option Addr) (cdv ct:Value) (a0 a1 a2 a3:Value), bindArgs (W.fnOf x qual (dA st) (bE st) (aj st) .none kV doc pm an cdv ct) ⟨[a0,a1,a2,a3],[]⟩=pure (ps.zip [a0,a1,a2,a3]):=by intros;rfl):dQ K fd ps []:=F.binds fun kV doc pm an cdv ct us e=>match us,e.trans hl with | [a0,a1,a2,a3],_=>h kV doc pm an cdv ct a0 a1 a2 a3
theorem Fun.b5 (F:Fun K x qual st f fd)(hl:ps.length=5:=by rfl)(h:∀(kV doc pm:Value) (an:Option Addr) (cdv ct:Value) (a0 a1 a2 a3 a4:Value), bindArgs (W.fnOf x qual (dA st) (bE st) (aj st) .none kV doc pm an cdv ct) ⟨[a0,a1,a2,a3,a4],[]⟩=pure (ps.zip [a0,a1,a2,a3,a4]):=by intros;rfl):dQ K fd ps []:=F.binds fun kV doc pm an cdv ct us e=>match us,e.trans hl with | [a0,a1,a2,a3,a4],_=>h kV doc pm an cdv ct a0 a1 a2 a3 a4
theorem Fun.b6 (F:Fun K x qual st f fd)(hl:ps.length=6:=by rfl)(h:∀(kV doc pm:Value) (an:Option Addr) (cdv ct:Value) (a0 a1 a2 a3 a4 a5:Value), bindArgs (W.fnOf x qual (dA st) (bE st) (aj st) .none kV doc pm an cdv ct) ⟨[a0,a1,a2,a3,a4,a5],[]⟩=pure (ps.zip [a0,a1,a2,a3,a4,a5]):=by intros;rfl):dQ K fd ps []:=F.binds fun kV doc pm an cdv ct us e=>match us,e.trans hl with | [a0,a1,a2,a3,a4,a5],_=>h kV doc pm an cdv ct a0 a1 a2 a3 a4 a5
end
theorem dz.dn {j k:Nat}{A:Around}(r:dz k A)(h:j<=k:=by decide):dz j A:=r.mono h
theorem ao {X:Cx}{a b:Expr}{ta tb:TE}{pos:Pos}{r:R2}(hr:IxR X r)(ha:PE X a ta)(hb:PE X b tb)(hs:Bw b:=by intro _ _;rfl):PE X (.Subscript a b pos) (tOp r ta tb):=Kd hr ha hb hs
theorem orL {α:Type}{a b:α}{p:Prop}(h:a=b:=by rfl):a=b\/p:=.inl h
noncomputable def AV (n0:aO)(rs:List Row)(k:Nat):aO:=ak n0 (rs.take k)
theorem CJ (n0:aO)(rs:List Row){k:Nat}(hk:k<=rs.length):(iu n0 rs)[k]?=some (AV n0 rs k,cD (rs.take k)):=by
 cases k with
 | zero=>simp [iu,AV,ak,cD]
 | succ k=>
  have hk':k < rs.length:=hk
  unfold AV
  rw [List.take_succ_eq_append_getElem hk',jf,nq]
  show (rs.map _)[k]?=_
  rw [List.getElem?_map,List.getElem?_eq_getElem hk']
  rfl
termination_by rs.length
decreasing_by all_goals (subst_vars;simp)
theorem zk {x y:V}(hx:bg x=true)(hy:bg y=true):∀z∈[x,y],bg z=true:=by
 intro z hz
 simp only [List.mem_cons,List.not_mem_nil,or_false] at hz
 rcases hz with rfl | rfl<;>assumption
theorem Li {A B:Prop}(h:B):if true=false then A else B:=by rw [if_neg (by decide)];exact h
theorem Lj {A B:Prop}(h:A):if false=false then A else B:=by rw [if_pos rfl];exact h
noncomputable def l4 (r:Row)(c:Int):List V:=[inC r.sn.ws c,.int c,.int r.began,.int r.ended]
noncomputable def ff (r:Row)(c:Int):List (List V):=if 10+c∈r.sn.ws then [l4 r c] else []
noncomputable def gp (r:Row):List (List V):=if r.deed.head?=some (.str "wind") then ff r 0++ff r 1 else []
noncomputable def c9 (rs:List Row):List (List V):=rs.flatMap gp
def fN (K:WA)(H:Hp)(as:List Addr)(xs:List (List V)):Prop:=cJ (fun a x=>SqT K H a x) as xs
theorem fN.same {K:WA}{H H':Hp}{as:List Addr}{xs:List (List V)}(h:fN K H as xs)(s:av H H'):fN K H' as xs:=h.imp fun a x q=>s.tup q
theorem cJ.app {α:Type}{P:Addr->α->Prop}{as bs:List Addr}{xs ys:List α}(h:cJ P as xs)(k:cJ P bs ys):cJ P (as++bs) (xs++ys):=by
 refine ⟨by rw [List.length_append,List.length_append,h.1,k.1],fun i a x e1 e2=>?_⟩
 by_cases hi:i < as.length
 ·rw [List.getElem?_append_left hi] at e1
  rw [List.getElem?_append_left (by rw [←h.1];exact hi)] at e2
  exact h.2 i a x e1 e2
 ·rw [List.getElem?_append_right (by omega)] at e1
  rw [List.getElem?_append_right (by rw [←h.1];omega),←h.1] at e2
  exact k.2 _ a x e1 e2
theorem sr (rs:List Row)(r:Row):c9 (rs++[r])=c9 rs++gp r:=by simp [c9]
theorem nA (r:Row)(c:Int):(ff r c).length<=1:=by unfold ff;split<;>simp
theorem uE (r:Row):(gp r).length<=2:=by
 have h1:=nA r 0
 have h2:=nA r 1
 unfold gp
 split
 ·rw [List.length_append];omega
 ·simp
theorem iw:∀rs:List Row,(c9 rs).length<=2 * rs.length
 | []=>by simp [c9]
 | r::rs=>by
  have h1:=uE r
  have h2:=iw rs
  show (gp r++c9 rs).length<=_
  rw [List.length_append,List.length_cons]
  omega
theorem AW (r:Row)(c:Int):∀x∈l4 r c,bg x=true:=by
 intro x hx
 simp only [l4,List.mem_cons,List.not_mem_nil,or_false] at hx
 rcases hx with rfl | rfl | rfl | rfl
 ·exact l3 _ _
 ·rfl
 ·rfl
 ·rfl
theorem uF {rs:List Row}{x:List V}(h:x∈c9 rs):x.length=4/\∀v∈x,bg v=true:=by
 rw [c9,List.mem_flatMap] at h
 obtain ⟨r,_,h⟩:=h
 unfold gp at h
 split at h
 ·have:∀c,x∈ff r c->x.length=4/\∀v∈x,bg v=true:=fun c h=>by
   unfold ff at h
   split at h
   ·rw [List.mem_singleton] at h;subst h;exact ⟨rfl,AW r c⟩
   ·cases h
  rcases List.mem_append.mp h with h | h<;>exact this _ h
 ·cases h
theorem pM {K:WA}{H:Hp}{p:Addr}{as:List Addr}{xs:List (List V)}{n:Nat}(hp:SqL K H p (as.map V.ref))(h:fN K H as xs)(hl:xs.length<=100000)(hx:∀x∈xs,x.length<=100000/\∀v∈x,bg v=true):Rep K H (n+2) (.ref p) (.lst (xs.map fun x=>Dt.tup (x.map Dt.flat))):=by
 refine .lst hp (by rw [WB,h.1];exact hl) (by rw [WB,WB,h.1]) fun i x y e1 e2=>?_
 rw [List.getElem?_map] at e1 e2
 cases ea:as[i]? with
 | none=>rw [ea] at e1;cases e1
 | some a=>
  cases er:xs[i]? with
  | none=>rw [er] at e2;cases e2
  | some r=>
   rw [ea] at e1;rw [er] at e2
   cases e1;cases e2
   have:=hx r (List.mem_of_getElem? er)
   exact dj (h.2 i a r ea er) this.1 this.2
def zl (n0:aO)(rs:List Row):Prop:=∀(k:Nat) r,rs[k]?=some r->r.deed.head?=some (.str "wind")->r.sn.ws=(AV n0 rs k).ws
theorem Run.windSame {g:Cfg}{n0:aO}{rs:List Row}(h:Run g n0 rs):zl n0 rs:=by
 induction h with
 | nil=>intro k r e;simp at e
 | @snoc rs d h ok hr ih=>
  intro k r e hd
  have hk:=(List.getElem?_eq_some_iff.mp e).1
  rw [List.length_append,List.length_singleton] at hk
  by_cases hl:k < rs.length
  ·rw [List.getElem?_append_left hl] at e
   rw [ih k r e hd]
   unfold AV
   rw [List.take_append_of_le_length (by omega)]
  ·have hk':k=rs.length:=by omega
   subst hk'
   rw [List.getElem?_append_right (Nat.le_refl _),Nat.sub_self] at e
   cases e
   unfold AV
   rw [List.take_append_of_le_length (Nat.le_refl _),List.take_length]
   cases d with
   | wind c l k=>rfl
   | _=>cases hd
noncomputable def eJ (r:Row)(c:Int):List (List V):=if r.deed.head?=some (.str "wind") then ff r c else []
theorem AX (r:Row):gp r=eJ r 0++eJ r 1:=by unfold gp eJ;split<;>rfl
theorem CK (r:Row)(c:Int):(eJ r c).length<=1:=by
 unfold eJ
 split
 ·exact nA r c
 ·exact Nat.zero_le _
section
variable (P:Program)(w:World)(K:WA)(mg:Str->Option Value)(base:Heap)(CX:CXT)(k:Nat)
def KD (x:Str)(sp:Sp):Prop:=∃f fd ps,mg x=some (.ref f)/\W.keepIn K (.ref f)=true/\dQ K fd ps []/\fM P w K mg base CX k f fd ps sp
def KM (C:Addr)(m:Str)(sp:Sp):Prop:=∃f fd ps,Cls K C/\Aa K C m f/\dQ K fd ps []/\fM P w K mg base CX k f fd ps sp
def KN (C:Addr)(sp:Sp):Prop:=∃f fd ps,Mk K C f/\dQ K fd ps []/\fM P w K mg base CX k f fd ps sp
def FF (x q:Str)(st:Stmt)(ps:List Str)(sp:Sp):Prop:=∀f fd,Fun K x q st f fd->fM P w K mg base CX k f fd ps sp
end
section
variable {P:Program}{w:World}{K:WA}{mg:Str->Option Value}{base:Heap}{CX:CXT}{k:Nat}{x q m:Str}{st:Stmt}{ps N:List Str}{sp:Sp}{f C:Addr}{fd:FuncData}
theorem KD.mk (b:mg x=some (.ref f))(F:Fun K x q st f fd)(c:dQ K fd ps [])(t:FF P w K mg base CX k x q st ps sp):KD P w K mg base CX k x sp:=⟨f,fd,ps,b,F.kp,c,t f fd F⟩
theorem KM.mk (d:Cls K C)(b:Aa K C m f)(F:Fun K m q st f fd)(c:dQ K fd ps [])(t:FF P w K mg base CX k m q st ps sp):KM P w K mg base CX k C m sp:=⟨f,fd,ps,d,b,c,t f fd F⟩
theorem KN.mk (b:Mk K C f)(F:Fun K "__init__" q st f fd)(c:dQ K fd ps [])(t:FF P w K mg base CX k "__init__" q st ps sp):KN P w K mg base CX k C sp:=⟨f,fd,ps,b,c,t f fd F⟩
theorem fk0 (S:ay N ps (aj st))(h:∀vs H Q E,sp vs H Q E->vs.length=ps.length/\∀(cdv:Value) (A:Around) (outer:List Env) (s:Shared) (f:Addr),dz k (A.deeper (envOfC q (aj st) s.heap.objs.size f cdv))->
   ∃t,PSs (oq CX0 P w K mg base N q (aj st) f cdv A outer s H E).nox (bE st) t/\t {nx:=fun _ H'=>Q .non H',rt:=Q} (lJ N vs) H):FF P w K mg base CX0 (k+1) x q st ps sp:=
 fun f _ F=>F.ok S (fun vs H Q E y=>(h vs H Q E y).1) fun cdv A outer s H vs Q E hr y=>(h vs H Q E y).2 cdv A outer s f hr
theorem fkF (S:ay N ps (aj st))(h:∀vs H Q E,sp vs H Q E->vs.length=ps.length/\∀(cdv:Value) (A:Around) (outer:List Env) (s:Shared) (f:Addr),dz k (A.deeper (envOfC q (aj st) s.heap.objs.size f cdv))->
   ∃t,PSs (cxF P w K mg base N q (aj st) f cdv A outer s H E) (bE st) t/\t {nx:=fun _ H'=>Q .non H',rt:=Q} (lJ N vs) H):FF P w K mg base (CXf P w) (k+1) x q st ps sp:=
 fun f _ F=>F.okF S (fun vs H Q E y=>(h vs H Q E y).1) fun cdv A outer s H vs Q E hr y=>(h vs H Q E y).2 cdv A outer s f hr
theorem FF.calm (F:FF P w K mg base (CXf P w) k x q st ps sp)(h:∀vs H Q E,sp vs H Q E->sp vs H Q E0):FF P w K mg base CX0 k x q st ps sp:=fun f fd y=>(F f fd y).calm h
theorem KM.calm0 (D:KM P w K mg base (CXf P w) k C m sp):KM P w K mg base CX0 k C m (fun vs H Q _=>sp vs H Q E0):=let ⟨f,fd,ps,a,b,c,F⟩:=D;⟨f,fd,ps,a,b,c,F.calm0⟩
end
section
variable {X:Cx}{CX:CXT}{k:Nat}{C:Addr}{sp:Sp}{E:XK}{x m:Str}{p pos apos:Pos}{e o:Expr}{es:List Expr}{ta:TE}{t:TA}
theorem dc (D:KD X.prog X.w X.K X.mg X.base CX k x sp)(hr:dz k X.A)(hx:fi CX X E)(ha:PA X (e::es) t)(hg:Gl X x:=by rfl)(hdb:(x == ("__debug__":Str))=false:=by decide)
  (he:starEach (e::es) X.env=(false,eval e X.env)::starEach es X.env:=by rfl) (hpl:(backTo pos (starEach es X.env)).any (·.1)=false:=by rfl):PE X (.Call (.Name x p) (e::es) [] pos) (Bq sp [] E t):=
 let ⟨_,_,_,a,b,c,F⟩:=D;Fy F hr hg a b c .nil hx ha hdb he hpl
theorem dc0 (D:KD X.prog X.w X.K X.mg X.base CX0 k x sp)(hr:dz k X.A)(ha:PA X (e::es) t)(hg:Gl X x:=by rfl)(hdb:(x == ("__debug__":Str))=false:=by decide)
  (he:starEach (e::es) X.env=(false,eval e X.env)::starEach es X.env:=by rfl) (hpl:(backTo pos (starEach es X.env)).any (·.1)=false:=by rfl):PE X (.Call (.Name x p) (e::es) [] pos) (Bq sp [] E0 t):=dc D hr aU ha hg hdb he hpl
theorem dm {pl:Sem Bool}(he:PE X o ta)(D:KM X.prog X.w X.K X.mg X.base CX k C m sp)(hr:dz k X.A)(hx:fi CX X E)(ha:PA X (e::es) t)
  (hst:starEach (e::es) X.env=(false,eval e X.env)::starEach es X.env:=by rfl) (hpl:(backTo pos (starEach es X.env)).any (·.1)=false:=by rfl)
  (ht:eval (.Call (.Attribute o m apos) (e::es) [] pos) X.env=(do
   let ov ←eval o X.env
   standAt apos.atName
   let (f,first) ←holding [ov] (getMethod ov m pl)
   callWith pos f first (backTo pos (starEach (e::es) X.env)) (backToKw pos (keywordEach [] X.env))):=by rfl) :
  PE X (.Call (.Attribute o m apos) (e::es) [] pos) (yG C m sp [] E ta t):=let ⟨_,_,_,a,b,c,F⟩:=D;Fz he a b F hr c .nil hx ha hst hpl ht
theorem dm0 {pl:Sem Bool}(he:PE X o ta)(D:KM X.prog X.w X.K X.mg X.base CX k C m sp)(hr:dz k X.A)(hx:fi CX X E)
  (ht:eval (.Call (.Attribute o m apos) [] [] pos) X.env=(do
   let ov ←eval o X.env
   standAt apos.atName
   let (f,first) ←holding [ov] (getMethod ov m pl)
   callWith pos f first (backTo pos (starEach [] X.env)) (backToKw pos (keywordEach [] X.env))):=by rfl) :
  PE X (.Call (.Attribute o m apos) [] [] pos) (yG C m sp [] E ta vN):=let ⟨_,_,_,a,b,c,F⟩:=D;DC he a b F hr c .nil hx ht
theorem dn (D:KN X.prog X.w X.K X.mg X.base CX k C sp)(hr:dz (k+1) X.A)(hm:X.mg x=some (.ref C))(hx:fi CX X E)(ha:PA X (e::es) t)(hg:Gl X x:=by rfl)(hdb:(x == ("__debug__":Str))=false:=by decide)
  (he:starEach (e::es) X.env=(false,eval e X.env)::starEach es X.env:=by rfl) (hpl:(backTo pos (starEach es X.env)).any (·.1)=false:=by rfl):PE X (.Call (.Name x p) (e::es) [] pos) (DB C sp [] E t):=
 let ⟨_,_,_,a,c,F⟩:=D;FA a F hr hg hm c .nil hx ha hdb he hpl
variable {pins:List (Addr×Obj)}{E':XT}
end
section
variable {X:Cx}{a b e o l value:Expr}{es qP:List Expr}{ta tb te tl tv:TE}{t:TA}{pos p:Pos}{tg:Expr}{f:Str}
theorem pv' (i:Nat){x:Str}{pos:Pos}(hN:X.N[i]?=some x:=by rfl)(hv:Vis X.env.scope x:=by first | exact Or.inl rfl | exact Or.inr (Or.inl rfl) | exact Or.inr (Or.inr rfl))(hd:(x == ("__debug__":Str))=false:=by decide)
  (hcd:(x == ("__classdict__":Str))=false:=by decide):PE X (.Name x pos) (El i):=Gc i▸pv i hN hv hd hcd
theorem ax (he:PE X e ta)(hb:attributeBase e f X.env (eval e X.env)=eval e X.env:=by rfl):PE X (.Attribute e f pos) (BU X.K ta f):=Gq X.K ta f▸ID he hb
theorem bL {pos':Pos}(ha:PE X o ta)(hv:PE X value tv)(hs:swapsWith value (some (.Attribute o f pos')) pos.line X.env=pure false):PS X (.Assign [.Attribute o f pos'] value pos) (Er X.K ta tv f):=Gr X.K ta tv f▸IE ha hv hs
theorem bf:OpR X (binaryOp .Add) (Az fun i j=>.int (i+j)):=uB _▸Iy
theorem di:OpR X (binaryOp .Sub) (Az fun i j=>.int (i - j)):=uB _▸Iz
theorem ua:OpR X (binaryOp .Mult) (rI' uf fun i j=>.int (i * j)):=En _ _▸zY
theorem CL:OpR X (binaryOp .FloorDiv) (rI' Hr fun i j=>.int (i / j)):=En _ _▸DP
theorem pN:OpR X (binaryOp .Mod) (rI' (fun _ j=>0 < j) fun i j=>.int (i % j)):=En _ _▸Dv
theorem jx:OpR X (compareOp .Eq) (Jm):=Jn▸Hh
theorem Jx:OpR X (compareOp .Lt) (Az fun i j=>.bl (decide (i < j))):=uB _▸Hi
theorem Jy:OpR X (compareOp .LtE) (Az fun i j=>.bl (decide (i<=j))):=uB _▸Hj
theorem EX:OpR X (compareOp .GtE) (Az fun i j=>.bl (decide (j<=i))):=uB _▸Hk
theorem ix:OpR X (compareOp .In) (AM X.K false):=EG _ _▸Cm
theorem jy:OpR X (compareOp .NotIn) (AM X.K true):=EG _ _▸xO
theorem ub:OpR X (binaryOp .Add) (ED):=Gw▸IP
theorem EY:OpR X (binaryOp .Add) (AL X.K):=EF _▸FO
theorem zm:OpR X (binaryOp .Add) (AK):=EE▸FV
theorem EZ:OpR X (binaryOp .Mult) (AS X.K):=ET _▸FT
theorem GN (hu:X.A.units < cLine):OpR X (compareOp .Eq) (BY X.K):=GJ _▸I0 hu
theorem GO (hu:X.A.units < cLine):OpR X (compareOp .NotEq) (BX X.K):=GI _▸Ji hu
theorem dY:UnR X (unaryOp .USub) (rU' fun i=>.int (-i)):=KA _▸IA
theorem au:IxR X (BS X.K):=Gn _▸Bx
theorem aw:IxR X (pK X.K):=Gp _▸DG
theorem E1:SlR X (EB X.K):=Gu _▸FG
theorem B1:SlR X (EC X.K):=Gv _▸IG
theorem g9:Io X AJ:=Ex▸DJ
theorem cO:MtM X "list.append" uC:=AE▸Cn
theorem ye:MtM X "list.pop" BV:=Gz▸IM
theorem AY:MtM X "list.extend" uD:=AQ▸Co
theorem bZ (h:PE X e te)(he:∀bY,isTrue e X.env bY=(do let v ←bY;standAt e.pos;holding [v] (truthy v)):=by intro _;rfl):PT X e (tB' te):=HM te▸Ik h he
theorem dF {op:CmpOp}{r:R2}(ho:OpR X (compareOp op) r)(ha:PE X a ta)(hb:PE X b tb)(hm:behindInMarks op b=false):PT X (.Compare a [op] [b] pos) (tB' (tOp r ta tb)):=Em (tOp r ta tb)▸gR ho ha hb hm
theorem bH (ha:PE X a ta)(hb:PE X b tb)(hm:behindInMarks .Eq b=false:=by exact cu _):PT X (.Compare a [.Eq] [b] pos) (Ju ta tb):=Gk ta tb▸gR Hh ha hb hm
theorem sv (ha:PE X a ta)(hb:PE X b tb)(hm:behindInMarks .NotEq b=false:=by exact cu _):PT X (.Compare a [.NotEq] [b] pos) (Jv ta tb):=Gm ta tb▸gR J0 ha hb hm
theorem pO (ha:PE X a ta)(hb:PE X b tb)(hm:behindInMarks .Lt b=false:=by exact cu _):PT X (.Compare a [.Lt] [b] pos) (nF (fun i j=>i < j) ta tb):=Jo ta tb▸gR Hi ha hb hm
theorem KL (ha:PE X a ta)(hb:PE X b tb)(hm:behindInMarks .LtE b=false:=by exact cu _):PT X (.Compare a [.LtE] [b] pos) (nF (fun i j=>i<=j) ta tb):=Jp ta tb▸gR Hj ha hb hm
theorem zp (ha:PE X a ta)(hb:PE X b tb)(hm:behindInMarks .Gt b=false:=by exact cu _):PT X (.Compare a [.Gt] [b] pos) (nF (fun i j=>j < i) ta tb):=Jq ta tb▸gR J1 ha hb hm
theorem B2 (ha:PE X a ta)(hb:PE X b tb)(hm:behindInMarks .GtE b=false:=by exact cu _):PT X (.Compare a [.GtE] [b] pos) (nF (fun i j=>j<=i) ta tb):=Jr ta tb▸gR Hk ha hb hm
theorem yf (ha:PE X a ta)(hb:PE X b (tC .non))(hm:behindInMarks .Is b=false:=by exact cu _):PT X (.Compare a [.Is] [b] pos) (ER ta):=ES ta▸gR IB ha hb hm
theorem B3 (ha:PE X a ta)(hb:PE X b (tC .non))(hm:behindInMarks .IsNot b=false:=by exact cu _):PT X (.Compare a [.IsNot] [b] pos) (AR ta):=CF ta▸gR Fu ha hb hm
theorem cb {k:Int}(ha:PE X a ta)(hb:PE X b (tC (.int k)))(hk:0 < k:=by decide):PE X (.BinOp a .Mod b pos) (tU1 (fun i=>.int (i % k)) ta):=Ey hk ta (fun i j=>.int (i % j))▸aQ Dv ha hb
theorem gT {k:Int}(ha:PE X a ta)(hb:PE X b (tC (.int k)))(h1:0 < k:=by decide)(h2:k < 1073741824:=by decide):PE X (.BinOp a .FloorDiv b pos) (tU1 (fun i=>.int (i / k)) ta):=Ez h1 h2 ta (fun i j=>.int (i / j))▸aQ Ft ha hb
theorem uc {k:Int}(ha:PE X a ta)(hb:PE X b (tC (.int k)))(h1:-4294967296 < k:=by decide)(h2:k < 4294967296:=by decide):PE X (.BinOp a .Mult b pos) (tU1 (fun i=>.int (i * k)) ta):=EA h1 h2 ta (fun i j=>.int (i * j))▸aQ zY ha hb
theorem l5 {k:Int}(ha:PE X a (tC (.int k)))(hb:PE X b tb)(h1:-4294967296 < k:=by decide)(h2:k < 4294967296:=by decide):PE X (.BinOp a .Mult b pos) (tU1 (fun i=>.int (k * i)) tb):=CC h1 h2 tb (fun i j=>.int (i * j))▸aQ zY ha hb
theorem dZ {k:Nat}{t:TGs}{n:Nat}(hc:X.calm=true)(h:PGs X es t)(hn:(assignEach es X.env).length=n:=by rfl)(hst:(assignEach es X.env).findIdx? (·.1)=none:=by rfl):PG X (.Tuple es k pos) (nG X.K n t):=BP X.K n t▸Ir hc h hn hst
theorem GP {k:Nat}{t:TGs}{n:Nat}(hc:X.calm=true)(h:PGs X es t)(hn:(assignEach es X.env).length=n:=by rfl)(hst:(assignEach es X.env).findIdx? (·.1)=none:=by rfl):PG X (.Tuple es k pos) (AB X.K n t):=Eo X.K n t▸Jg hc h hn hst
theorem aH {t:TG}{u:TGs}(h1:PG X e t)(h2:PGs X es u)(hs:(assignEach (e::es) X.env).map (·.2)=assign e X.env::(assignEach es X.env).map (·.2):=by rfl):PGs X (e::es) (rq t u):=pJ t u▸Dm h1 h2 hs
theorem cZ:PGs X [] BQ:=BR▸Fp
theorem dk (hl:PE X l tl):PI X tg l (AG X.K tl):=Et X.K tl▸Fq hl
theorem GQ (hl:PE X l tl):PI X tg l (EI X.K tl):=Gx X.K tl▸Iv hl
theorem bj (hg:Gl X "range")(hm:X.mg "range"=none)(ha:PA X [a] t)(hs:starEach [a] X.env=[(false,eval a X.env)]:=by rfl):PI X tg (.Call (.Name "range" p) [a] [] pos) (AH t):=Eu t▸Ca hg hm ha hs
theorem uG (hg:Gl X "range")(hm:X.mg "range"=none)(ha:PA X [a,b] t)(hs:starEach [a,b] X.env=[(false,eval a X.env),(false,eval b X.env)]:=by rfl)(hs2:starEach [b] X.env=[(false,eval b X.env)]:=by rfl):PI X tg (.Call (.Name "range" p) [a,b] [] pos) (AN t):=EH t▸Cb hg hm ha hs hs2
theorem uH {tpos:Pos}{elts:List Expr}{x1:Nat}(hg:Gl X "enumerate")(hm:X.mg "enumerate"=none)(hb:bootBuiltins "enumerate"=some (.type "enumerate"))(he:PE X a te)(hs:starEach [a] X.env=[(false,eval a X.env)]:=by rfl):PI X (.Tuple elts x1 tpos) (.Call (.Name "enumerate" p) [a] [] pos) (AO X.K te):=EJ X.K te▸FN hg hm hb he hs
theorem GR {tpos:Pos}{elts:List Expr}{x1:Nat}(hg:Gl X "zip")(hm:X.mg "zip"=none)(hb:bootBuiltins "zip"=some (.type "zip"))(ha:PE X a ta)(hb2:PE X b tb)(hs:starEach [a,b] X.env=[(false,eval a X.env),(false,eval b X.env)]:=by rfl)(hs2:starEach [b] X.env=[(false,eval b X.env)]:=by rfl):PI X (.Tuple elts x1 tpos) (.Call (.Name "zip" p) [a,b] [] pos) (EK X.K ta tb):=Gy X.K ta tb▸I9 hg hm hb ha hb2 hs hs2
theorem ud (ha:PE X a ta)(hb:PE X (.BoolOp .And (b::qP) pos) tb):PE X (.BoolOp .And (a::b::qP) pos) (AD ta tb):=Ep ta tb▸Il ha hb
theorem pP (h:PE X e te):PO X (some e) (AF te):=Es te▸FE h
theorem rA {r r':List V->Hp->VK->Prop}(h:∀t,tCB r t=tCB r' t):r=r':=funext fun vs=>funext fun H=>funext fun Q=>congrFun (congrFun (congrFun (h fun σ H Q=>Q vs H) []) H) Q
theorem az:fK X (.builtin "len") (Ew X.K):=rA (Gs X.K)▸xP
theorem aX:fK X (.type "list") (t6 X.K):=rA (AI X.K)▸xQ
theorem xn:fK X (.builtin "abs") GA:=rA GB▸Dy
theorem ox (hc:X.calm=true):fK X (.builtin "min") EL:=rA EM▸Cf hc
theorem l7:fK X (.type "tuple") (yb X.K):=rA (CD X.K)▸vP
theorem fO:fK X (.type "int") BW:=rA EO▸Cg
theorem dm' {CX:CXT}{k:Nat}{C:Addr}{sp:Sp}{E:XK}{m:Str}{apos:Pos}{pl:Sem Bool}(he:PE X o ta)(D:KM X.prog X.w X.K X.mg X.base CX k C m sp)(hr:dz k X.A)(hx:fi CX X E)(ha:PA X (e::es) t)
  (hst:starEach (e::es) X.env=(false,eval e X.env)::starEach es X.env:=by rfl) (hpl:(backTo pos (starEach es X.env)).any (·.1)=false:=by rfl)
  (ht:eval (.Call (.Attribute o m apos) (e::es) [] pos) X.env=(do
   let ov ←eval o X.env
   standAt apos.atName
   let (f,first) ←holding [ov] (getMethod ov m pl)
   callWith pos f first (backTo pos (starEach (e::es) X.env)) (backToKw pos (keywordEach [] X.env))):=by rfl) :
  PE X (.Call (.Attribute o m apos) (e::es) [] pos) (xZ C m sp [] E ta t):=zg C m sp [] E ta t▸dm he D hr hx ha hst hpl ht
theorem cT {CX:CXT}{k:Nat}{C:Addr}{sp:Sp}{E:XK}{m:Str}{apos:Pos}{pl:Sem Bool}(he:PE X o ta)(D:KM X.prog X.w X.K X.mg X.base CX k C m sp)(hr:dz k X.A)(hx:fi CX X E)
  (ht:eval (.Call (.Attribute o m apos) [] [] pos) X.env=(do
   let ov ←eval o X.env
   standAt apos.atName
   let (f,first) ←holding [ov] (getMethod ov m pl)
   callWith pos f first (backTo pos (starEach [] X.env)) (backToKw pos (keywordEach [] X.env))):=by rfl) :
  PE X (.Call (.Attribute o m apos) [] [] pos) (xZ C m sp [] E ta vN):=zg C m sp [] E ta vN▸dm0 he D hr hx ht
theorem GS {i j:Nat}{x y:Str}{px py pt:Pos}{kt k2 pt2}(hc:X.calm=true)(hN:X.N.Nodup)(hi:X.N[i]?=some x)(hj:X.N[j]?=some y)(hij:i≠j)
  (hx:X.env.scope.names.lookup x=some .local) (hy:X.env.scope.names.lookup y=some .local) (ha:PA X [a,b] t)
  (hw:swappedStores [.Tuple [.Name x px,.Name y py] kt pt] (.Tuple [a,b] k2 pt2) X.env=pure (some [x,y]))
  (hs:swapsWithSole [.Tuple [.Name x px,.Name y py] kt pt] (.Tuple [a,b] k2 pt2) pos.line X.env=pure false:=by rfl) :
  PS X (.Assign [.Tuple [.Name x px,.Name y py] kt pt] (.Tuple [a,b] k2 pt2) pos) (EU i j t):=GH i j t▸Iu hc hN hi hj hij hx hy ha hw hs
variable {e1 e2 e3 e4:Expr}{t1 t2 t3 t4:TE}
theorem pa1 (h1:PE X e1 t1)(s1:starEach [e1] X.env=(false,eval e1 X.env)::starEach [] X.env:=by rfl):PA X [e1] (lI t1 vN):=cQ h1 fL s1
theorem pa2 (h1:PE X e1 t1)(h2:PE X e2 t2)(s1:starEach [e1,e2] X.env=(false,eval e1 X.env)::starEach [e2] X.env:=by rfl)(s2:starEach [e2] X.env=(false,eval e2 X.env)::starEach [] X.env:=by rfl):PA X [e1,e2] (lI t1 (lI t2 vN)):=cQ h1 (pa1 h2 s2) s1
theorem pa3 (h1:PE X e1 t1)(h2:PE X e2 t2)(h3:PE X e3 t3)(s1:starEach [e1,e2,e3] X.env=(false,eval e1 X.env)::starEach [e2,e3] X.env:=by rfl)(s2:starEach [e2,e3] X.env=(false,eval e2 X.env)::starEach [e3] X.env:=by rfl)(s3:starEach [e3] X.env=(false,eval e3 X.env)::starEach [] X.env:=by rfl):PA X [e1,e2,e3] (lI t1 (lI t2 (lI t3 vN))):=cQ h1 (pa2 h2 h3 s2 s3) s1
theorem pa4 (h1:PE X e1 t1)(h2:PE X e2 t2)(h3:PE X e3 t3)(h4:PE X e4 t4)(s1:starEach [e1,e2,e3,e4] X.env=(false,eval e1 X.env)::starEach [e2,e3,e4] X.env:=by rfl)(s2:starEach [e2,e3,e4] X.env=(false,eval e2 X.env)::starEach [e3,e4] X.env:=by rfl)(s3:starEach [e3,e4] X.env=(false,eval e3 X.env)::starEach [e4] X.env:=by rfl)(s4:starEach [e4] X.env=(false,eval e4 X.env)::starEach [] X.env:=by rfl):PA X [e1,e2,e3,e4] (lI t1 (lI t2 (lI t3 (lI t4 vN)))):=cQ h1 (pa3 h2 h3 h4 s2 s3 s4) s1
end
abbrev Xm (K:WA)(a b:Addr)(v:Bool):Prop:=W.exmOne K (.ref a) (.ref b)=some v
abbrev Kt (K:WA)(a b:Addr)(v:Bool):Prop:=W.kitOne K (.ref a) (.ref b)=some v
theorem fgo {K:WA}{H:Hp}{a:Addr}{f:Str}{C:Addr}{dx:Addr}{fs:List (Str×V)}{v:V}{q:V->Prop}(h:H a=some (.ins C dx fs))(c:Cls K C)(n:aW K C f)(l:fs.lookup f=some v)(k:q v) :
  ∃C dx fs,H a=some (.ins C dx fs)/\Cls K C/\aW K C f/\∃v,fs.lookup f=some v/\q v:=⟨_,_,_,h,c,n,_,l,k⟩
theorem mgo {H:Hp}{a C:Addr}{m:Str}{dx:Addr}{fs:List (Str×V)}{q:Prop}(h:H a=some (.ins C dx fs))(l:fs.lookup m=none)(k:q) :
  ∃dx fs,H a=some (.ins C dx fs)/\fs.lookup m=none/\q:=⟨_,_,h,l,k⟩
theorem dz.units1 {k:Nat}{A:Around}(r:dz k A):A.in1.units < cLine:=by
 have:=r.un
 simp only [Around.in1_units]
 omega
section
variable {X:Cx}
noncomputable def HP (K:WA):R2:=fun x y H Q=>onR x fun a=>onR y fun b=>∃(as bs:List Addr) (e:Nat->Bool),SqL K H a (as.map V.ref)/\SqL K H b (bs.map V.ref)/\as.length=bs.length/\(∀j p q,as[j]?=some p->bs[j]?=some q->(p=q->e j=true)/\∃xs ys,SqT K H p xs/\SqT K H q ys/\xs.all bg=true/\ys.all bg=true/\eqL xs ys=e j)/\Q (.bl ((List.range as.length).all e)) H
theorem B4 {as:List Addr}{its:List Value}(r:bz (as.map V.ref) its):its=as.map Value.ref:=by
 refine List.ext_getElem? fun j=>?_
 rw [List.getElem?_map]
 cases ej:as[j]? with
 | none=>
  have:=r.length
  rw [WB] at this
  have:=List.getElem?_eq_none_iff.mp ej
  rw [List.getElem?_eq_none (by omega)];rfl
 | some w=>
  obtain ⟨u,eu,ru⟩:=r.get (show (as.map V.ref)[j]?=some (.ref w) by rw [List.getElem?_map,ej];rfl)
  cases ru
  rw [eu];rfl
theorem GU (hu:X.A.units < cLine)(hu1:X.A.in1.units < cLine):OpR X (compareOp .Eq) (HP X.K):=by
 intro pins s σ H x y u v Q I rx ry h
 obtain ⟨a,rfl,k⟩:=dS h
 obtain ⟨b,rfl,as,bs,e,ha,hb,hl,he,q⟩:=dS k
 cases rx;cases ry
 obtain ⟨ia,ra,pa,za⟩:=I.list ha
 obtain ⟨ib,rb,pb,zb⟩:=I.list hb
 have ea:=B4 ra
 have eb:=B4 rb
 subst ea eb
 refine PySem.SeqAt.eq_listAt (e:=e) pa.isList pb.isList (by simp only [List.size_toArray,WB];exact hl) hu (fun j h1 h2=>?_) ⟨.bl _,H,I,rfl,?_⟩
 ·simp only [List.size_toArray,WB] at h1 h2
  have e1:(as.map Value.ref).toArray[j]'(by simpa using h1)=.ref as[j]:=by simp
  have e2:(bs.map Value.ref).toArray[j]'(by simpa using h2)=.ref bs[j]:=by simp
  rw [e1,e2]
  obtain ⟨k1,xs,ys,hx,hy,fx,fy,ee⟩:=he j _ _ (List.getElem?_eq_getElem h1) (List.getElem?_eq_getElem h2)
  by_cases hpq:as[j]=bs[j]
  ·rw [k1 hpq,hpq]
   exact PySem.SeqAt.EqAt.same _
  ·obtain ⟨ic,rc,pc,zc⟩:=I.tuple hx
   obtain ⟨id,rd,pd,zd⟩:=I.tuple hy
   have lc:=rc.length
   have ld:=rd.length
   have et:((List.range (min ic.toArray.size id.toArray.size)).all (fun j=>eqV (xs.getD j .non) (ys.getD j .non)) && ic.toArray.size == id.toArray.size)=e j:=by
    rw [List.size_toArray,List.size_toArray,←lc,←ld,←ee]
    exact BJ
   rw [←et]
   refine PySem.SeqAt.EqAt.of_refs hpq (PySem.SeqAt.RcAt.tuples pc pd hu1 fun i h3 h4=>?_)
   simp only [List.size_toArray] at h3 h4
   have hx':xs[i]?=some (xs.getD i .non):=by
    rw [List.getD_eq_getElem?_getD,List.getElem?_eq_getElem (by omega)];rfl
   have hy':ys[i]?=some (ys.getD i .non):=by
    rw [List.getD_eq_getElem?_getD,List.getElem?_eq_getElem (by omega)];rfl
   obtain ⟨u,eu,ru⟩:=rc.get hx'
   obtain ⟨v,ev,rv⟩:=rd.get hy'
   have e3:ic.toArray[i]=u:=by
    have:=List.getElem?_eq_some_iff.mp eu
    simpa using this.2
   have e4:id.toArray[i]=v:=by
    have:=List.getElem?_eq_some_iff.mp ev
    simpa using this.2
   rw [e3,e4]
   exact ot ru rv (List.all_eq_true.mp fx _ (List.mem_of_getElem? hx')) (List.all_eq_true.mp fy _ (List.mem_of_getElem? hy'))
 ·rw [show (as.map Value.ref).toArray.size=as.length by simp]
  exact q
end
theorem bV.split {a b c:Addr}{H H':Hp}(k:bV a b c H H'):∃H1 H2 H3,aA a H H1/\H1 a=H' a/\aA b H1 H2/\H2 b=H' b/\aA c H2 H3/\H3 c=H' c/\av H3 H'/\(b≠a->H1 b=H b)/\(c≠a->c≠b->H2 c=H c):=by
 refine ⟨fun d=>if d=a then H' d else H d,fun d=>if d=a\/d=b then H' d else H d,fun d=>if d=a\/d=b\/d=c then H' d else H d,?_,if_pos rfl,?_,if_pos (.inr rfl),?_,if_pos (.inr (.inr rfl)),?_,fun n=>if_neg n,fun n m=>if_neg (fun z=>z.elim n m)⟩
 ·intro d o n e
  show (if d=a then H' d else H d)=_
  rw [if_neg n];exact e
 ·intro d o n e
  show (if d=a\/d=b then H' d else H d)=_
  by_cases h:d=a
  ·rw [if_pos (.inl h)]
   have:(if d=a then H' d else H d)=some o:=e
   rw [if_pos h] at this;exact this
  ·rw [if_neg (fun z=>z.elim h n)]
   have:(if d=a then H' d else H d)=some o:=e
   rw [if_neg h] at this;exact this
 ·intro d o n e
  have:(if d=a\/d=b then H' d else H d)=some o:=e
  show (if d=a\/d=b\/d=c then H' d else H d)=_
  by_cases h:d=a\/d=b
  ·rw [if_pos (h.imp_right .inl)]
   rw [if_pos h] at this;exact this
  ·rw [if_neg (fun z=>by rcases z with z | z | z;exact h (.inl z);exact h (.inr z);exact n z)]
   rw [if_neg h] at this;exact this
 ·intro d o e
  have:(if d=a\/d=b\/d=c then H' d else H d)=some o:=e
  by_cases h:d=a\/d=b\/d=c
  ·rw [if_pos h] at this;exact this
  ·rw [if_neg h] at this
   exact k d o (fun z=>h (.inl z)) (fun z=>h (.inr (.inl z))) (fun z=>h (.inr (.inr z))) this
theorem fI.own1 {C:Cl}{K:WA}{H0 H H':Hp}{p dl cl ll w bk rl sl wl q:Addr}{g:Cfg}{lds:List Ld}{n0:aO}{rs:List Row}{ys zs:List V}(h:fI C K H0 H p dl cl ll w bk rl sl wl g lds n0 rs)(hN:g.N q)(k:aA q H H')(hq:H q=some (.lst ys))(e:H' q=some (.lst zs))(f:H0 q=none)(n1:sl≠q)(n2:wl≠q):fI C K H0 H' p dl cl ll w bk rl sl wl g lds n0 rs:=by
 obtain ⟨as,hs,hA⟩:=h.da.st
 obtain ⟨bs,hw,hB⟩:=h.da.ro
 exact ⟨h.su,h.sa.keeps k f,h.fr,h.fs,h.fw,⟨h.da.wk.own hN k e,⟨as,k _ _ n1 hs,hA.imp fun a x z=>z.keep k hq⟩,⟨bs,k _ _ n2 hw,hB.keep k hq⟩,h.da.ns,h.da.nw,h.da.ne,h.da.run⟩,h.cg,h.c0⟩
theorem fI.own3 {C:Cl}{K:WA}{H0 H H':Hp}{p dl cl ll w bk rl sl wl q1 q2 q3:Addr}{g:Cfg}{lds:List Ld}{n0:aO}{rs:List Row}(h:fI C K H0 H p dl cl ll w bk rl sl wl g lds n0 rs)(k:bV q1 q2 q3 H H')(n12:q2≠q1)(n13:q3≠q1)(n23:q3≠q2)
  (N1:g.N q1) (N2:g.N q2) (N3:g.N q3) (h1:∃ys,H q1=some (.lst ys)) (h2:∃ys,H q2=some (.lst ys)) (h3:∃ys,H q3=some (.lst ys)) (e1:∃ys,H' q1=some (.lst ys)) (e2:∃ys,H' q2=some (.lst ys)) (e3:∃ys,H' q3=some (.lst ys))
  (f1:H0 q1=none) (f2:H0 q2=none) (f3:H0 q3=none) (s1:sl≠q1) (s2:sl≠q2) (s3:sl≠q3) (w1:wl≠q1) (w2:wl≠q2) (w3:wl≠q3):fI C K H0 H' p dl cl ll w bk rl sl wl g lds n0 rs:=by
 obtain ⟨H1,H2,H3,k1,a1,k2,a2,k3,a3,s,b1,b2⟩:=k.split
 obtain ⟨y1,h1⟩:=h1;obtain ⟨y2,h2⟩:=h2;obtain ⟨y3,h3⟩:=h3
 obtain ⟨z1,e1⟩:=e1;obtain ⟨z2,e2⟩:=e2;obtain ⟨z3,e3⟩:=e3
 have d1:=h.own1 N1 k1 h1 (a1.trans e1) f1 s1 w1
 have d2:=d1.own1 N2 k2 ((b1 n12).trans h2) (a2.trans e2) f2 s2 w2
 have d3:=d2.own1 N3 k3 ((b2 n13 n23).trans h3) (a3.trans e3) f3 s3 w3
 exact d3.same s
end L2
namespace K47
open PySem L2
noncomputable abbrev uI:List Str:=["number","many"]
noncomputable abbrev nH:List Str:=["level","many"]
noncomputable abbrev pQ:List Str:=["number","many"]
noncomputable abbrev nI:List Str:=["loads","many"]
noncomputable abbrev sL:List Str:=["self","loads","many"]
noncomputable abbrev sM:List Str:=["self","number","cage"]
noncomputable abbrev uJ:List Str:=["self","cage","level"]
noncomputable abbrev pR:List Str:=["self"]
noncomputable abbrev l8:List Str:=["self","cage"]
noncomputable abbrev lK:List Str:=["self","level"]
noncomputable abbrev ji:List Str:=["self"]
noncomputable abbrev sN:List Str:=["self"]
noncomputable abbrev nJ:List Str:=["number"]
noncomputable abbrev nK:List Str:=["codes","many"]
noncomputable abbrev pS:List Str:=["self","codes"]
noncomputable abbrev pT:List Str:=["self","level","strokes"]
noncomputable abbrev l9:List Str:=["self","strokes"]
noncomputable abbrev ma:List Str:=["self"]
noncomputable abbrev pU:List Str:=["self","level"]
noncomputable abbrev pV:List Str:=["self"]
noncomputable abbrev sO:List Str:=["self","level","kind"]
noncomputable abbrev pW:List Str:=["self"]
noncomputable abbrev md:List Str:=["depths"]
noncomputable abbrev pX:List Str:=["depths"]
noncomputable abbrev nL:List Str:=["depths","place"]
noncomputable abbrev uK:List Str:=["depths","depth"]
noncomputable abbrev nM:List Str:=["depths","cage","level"]
noncomputable abbrev uL:List Str:=["depths","place"]
noncomputable abbrev me:List Str:=["slow","fast"]
noncomputable abbrev pY:List Str:=["way","speed"]
noncomputable abbrev lL:List Str:=["self","place","opened","bells","yard"]
noncomputable abbrev lM:List Str:=["self"]
noncomputable abbrev sP:List Str:=["self","first","most"]
noncomputable abbrev pZ:List Str:=["self","deed","ticks","speed","standing"]
noncomputable abbrev nN:List Str:=["self"]
noncomputable abbrev uM:List Str:=["self"]
noncomputable abbrev nO:List Str:=["self"]
noncomputable abbrev sQ:List Str:=["self"]
noncomputable abbrev p9:List Str:=["self"]
noncomputable abbrev qa:List Str:=["self","depths","codes","slow","fast","loads"]
noncomputable abbrev qc:List Str:=["self","level","strokes"]
noncomputable abbrev mf:List Str:=["self","strokes"]
noncomputable abbrev qd:List Str:=["self","level"]
noncomputable abbrev jj:List Str:=["self","level"]
noncomputable abbrev jk:List Str:=["self","level"]
noncomputable abbrev jl:List Str:=["self","word","level","wanted"]
noncomputable abbrev qf:List Str:=["self","number","cage"]
noncomputable abbrev mh:List Str:=["self","cage"]
noncomputable abbrev qg:List Str:=["self","cage","level","kind"]
noncomputable abbrev jm:List Str:=["self"]
noncomputable abbrev nP:List Str:=["self","deed","ticks","standing"]
noncomputable abbrev iz:List Str:=["self","standing"]
noncomputable abbrev ki:List Str:=["self","cage"]
noncomputable abbrev eK:List Str:=["self","level"]
noncomputable abbrev sR:List Str:=["self"]
noncomputable abbrev qh:List Str:=["self"]
noncomputable abbrev nQ:List Str:=["self"]
noncomputable abbrev mi:List Str:=["self"]
noncomputable abbrev qi:List Str:=["self"]
noncomputable abbrev nR:List Str:=["self"]
noncomputable abbrev nS:List Str:=["self"]
noncomputable abbrev gO:List Str:=["self","place"]
noncomputable abbrev nT:List Str:=["self"]
noncomputable abbrev lO:List Str:=["self","cage"]
noncomputable abbrev kj:List Str:=["self","level"]
noncomputable abbrev E2:List Str:=["_law_script","_law_k"]
noncomputable abbrev zq:List Str:=["_law_cell","_law_k","_law_span"]
noncomputable abbrev xo:List Str:=["_law_script","_law_k"]
noncomputable abbrev qj:List Str:=["_law_found","_law_due"]
noncomputable abbrev uN:List Str:=["_law_cell"]
noncomputable abbrev xp:List Str:=["_law_cell","_law_many"]
noncomputable abbrev xq:List Str:=["_law_cell","_law_many","_law_most"]
noncomputable abbrev xr:List Str:=["_law_script"]
noncomputable abbrev xt:List Str:=["_law_script","_law_most"]
noncomputable abbrev E3:List Str:=["_law_depths_here","_law_cage","_law_place"]
noncomputable abbrev zr:List Str:=["_law_row","_law_k","_law_value"]
noncomputable abbrev xu:List Str:=["_law_way","_law_speed_here"]
noncomputable abbrev xv:List Str:=["_law_setup_here","_law_lying"]
noncomputable abbrev xw:List Str:=["_law_setup_here"]
noncomputable abbrev xx:List Str:=["_law_heard_here","_law_deed"]
noncomputable abbrev zt:List Str:=["_law_setup_here","_law_state","_law_deed"]
noncomputable abbrev zu:List Str:=["_law_works","_law_deed"]
noncomputable abbrev xy:List Str:=["_law_states","_law_rows"]
noncomputable abbrev zw:List Str:=["_law_works","_law_setup_here","_law_states","_law_rows"]
noncomputable abbrev kl:List Str:=["_law_setup_here","_law_state","_law_rest"]
noncomputable abbrev km:List Str:=["_law_setup_here","_law_state","_law_rest"]
noncomputable abbrev nU:List Str:=["_law_setup_here","_law_states","_law_cell"]
noncomputable abbrev zx:List Str:=["_law_works","_law_setup_here","_law_states","_law_rows","_law_deed"]
noncomputable abbrev zy:List Str:=["_law_works","_law_setups","_law_states","_law_rows"]
noncomputable abbrev E4:List Str:=["_law_script"]
noncomputable def top (i:Nat):Stmt:=PySem.Challenge.pw_cagebells_k47_whole_two_works_apart.main.body.getD i (.Pass ⟨0,0,0,0⟩)
noncomputable abbrev oy:Stmt:=top 22
theorem zz:ay ["number","many"] uI (aj oy):=aL
noncomputable abbrev jz:Stmt:=top 23
theorem uO:ay ["level","many"] nH (aj jz):=aL
noncomputable abbrev kO:Stmt:=top 24
theorem vW:ay ["number","many"] pQ (aj kO):=aL
noncomputable abbrev jA:Stmt:=top 29
theorem ft:ay ["loads","many","kind","level","goal"] nI (aj jA):=aL
noncomputable abbrev mj:Stmt:=aN (top 30) 0
theorem yg:ay ["self","loads","many"] sL (aj mj):=aL
noncomputable abbrev ml:Stmt:=aN (top 30) 1
theorem yh:ay ["self","number","cage"] sM (aj ml):=aL
noncomputable abbrev oz:Stmt:=aN (top 30) 2
theorem sS:ay ["self","cage","level","number"] uJ (aj oz):=aL
noncomputable abbrev kP:Stmt:=aN (top 30) 3
theorem vX:ay ["self"] pR (aj kP):=aL
noncomputable abbrev iA:Stmt:=aN (top 30) 4
theorem gq:ay ["self","cage","number","spot"] l8 (aj iA):=aL
noncomputable abbrev gu:Stmt:=aN (top 30) 5
theorem rB:ay ["self","level"] lK (aj gu):=aL
noncomputable abbrev fu:Stmt:=aN (top 30) 6
theorem eS:ay ["self","kind","spot"] ji (aj fu):=aL
noncomputable abbrev mm:Stmt:=aN (top 30) 7
theorem qk:ay ["self","other"] sN (aj mm):=aL
noncomputable abbrev jB:Stmt:=top 34
theorem uP:ay ["number"] nJ (aj jB):=aL
noncomputable abbrev jC:Stmt:=top 35
theorem iB:ay ["codes","many","men","coal"] nK (aj jC):=aL
noncomputable abbrev kQ:Stmt:=aN (top 36) 0
theorem vY:ay ["self","codes"] pS (aj kQ):=aL
noncomputable abbrev kR:Stmt:=aN (top 36) 1
theorem vZ:ay ["self","level","strokes"] pT (aj kR):=aL
noncomputable abbrev iC:Stmt:=aN (top 36) 2
theorem eP:ay ["self","strokes","level","rung","alike"] l9 (aj iC):=aL
noncomputable abbrev iD:Stmt:=aN (top 36) 3
theorem tH:ay ["self"] ma (aj iD):=aL
noncomputable abbrev kS:Stmt:=aN (top 36) 4
theorem v3:ay ["self","level"] pU (aj kS):=aL
noncomputable abbrev kT:Stmt:=aN (top 36) 5
theorem v5:ay ["self"] pV (aj kT):=aL
noncomputable abbrev mn:Stmt:=aN (top 36) 6
theorem ql:ay ["self","level","kind","code"] sO (aj mn):=aL
noncomputable abbrev kU:Stmt:=aN (top 36) 7
theorem nV:ay ["self","other"] pW (aj kU):=aL
noncomputable abbrev iE:Stmt:=top 42
theorem gv:ay ["depths","depth","level"] md (aj iE):=aL
noncomputable abbrev kW:Stmt:=top 43
theorem v8:ay ["depths"] pX (aj kW):=aL
noncomputable abbrev jD:Stmt:=top 44
theorem uQ:ay ["depths","place"] nL (aj jD):=aL
noncomputable abbrev oA:Stmt:=top 45
theorem sU:ay ["depths","depth","level"] uK (aj oA):=aL
noncomputable abbrev jE:Stmt:=top 46
theorem uR:ay ["depths","cage","level"] nM (aj jE):=aL
noncomputable abbrev oB:Stmt:=top 47
theorem sV:ay ["depths","place","stands"] uL (aj oB):=aL
noncomputable abbrev iF:Stmt:=top 50
theorem tI:ay ["slow","fast"] me (aj iF):=aL
noncomputable abbrev kX:Stmt:=top 51
theorem v9:ay ["way","speed"] pY (aj kX):=aL
noncomputable abbrev gw:Stmt:=aN (top 53) 0
theorem rC:ay ["self","place","opened","bells","yard"] lL (aj gw):=aL
noncomputable abbrev gx:Stmt:=aN (top 53) 1
theorem rD:ay ["self"] lM (aj gx):=aL
noncomputable abbrev mq:Stmt:=aN (top 54) 0
theorem yi:ay ["self","first","most"] sP (aj mq):=aL
noncomputable abbrev kY:Stmt:=aN (top 54) 1
theorem nW:ay ["self","deed","ticks","speed","standing","began"] pZ (aj kY):=aL
noncomputable abbrev jF:Stmt:=aN (top 54) 2
theorem uS:ay ["self"] nN (aj jF):=aL
noncomputable abbrev oC:Stmt:=aN (top 54) 3
theorem zB:ay ["self"] uM (aj oC):=aL
noncomputable abbrev jG:Stmt:=aN (top 54) 4
theorem uT:ay ["self"] nO (aj jG):=aL
noncomputable abbrev mr:Stmt:=aN (top 54) 5
theorem yj:ay ["self"] sQ (aj mr):=aL
noncomputable abbrev kZ:Stmt:=aN (top 54) 9
theorem cK:ay ["self","found","began","ended","deed","speed","standing","aboard"] p9 (aj kZ):=aL
noncomputable abbrev k7:Stmt:=aN (top 57) 0
theorem jH:ay ["self","depths","codes","slow","fast","loads","shut","first"] qa (aj k7):=aL
noncomputable abbrev lg:Stmt:=aN (top 57) 1
theorem nX:ay ["self","level","strokes","standing"] qc (aj lg):=aL
noncomputable abbrev iG:Stmt:=aN (top 57) 2
theorem gy:ay ["self","strokes","standing","answer"] mf (aj iG):=aL
noncomputable abbrev lh:Stmt:=aN (top 57) 3
theorem nY:ay ["self","level","standing"] qd (aj lh):=aL
noncomputable abbrev fv:Stmt:=aN (top 57) 4
theorem oE:ay ["self","level"] jj (aj fv):=aL
noncomputable abbrev fz:Stmt:=aN (top 57) 5
theorem oF:ay ["self","level"] jk (aj fz):=aL
noncomputable abbrev fA:Stmt:=aN (top 57) 6
theorem iH:ay ["self","word","level","wanted","standing"] jl (aj fA):=aL
noncomputable abbrev lj:Stmt:=aN (top 57) 7
theorem jI:ay ["self","number","cage","standing","level"] qf (aj lj):=aL
noncomputable abbrev iI:Stmt:=aN (top 57) 8
theorem gz:ay ["self","cage","standing","level"] mh (aj iI):=aL
noncomputable abbrev lp:Stmt:=aN (top 57) 9
theorem eL:ay ["self","cage","level","kind","standing","gate","end","ticks"] qg (aj lp):=aL
noncomputable abbrev fB:Stmt:=aN (top 57) 10
theorem oG:ay ["self"] jm (aj fB):=aL
noncomputable abbrev jJ:Stmt:=aN (top 57) 11
theorem uU:ay ["self","deed","ticks","standing"] nP (aj jJ):=aL
noncomputable abbrev eT:Stmt:=aN (top 57) 12
theorem nD:ay ["self","standing"] iz (aj eT):=aL
noncomputable abbrev fP:Stmt:=aN (top 57) 13
theorem qm:ay ["self","cage"] ki (aj fP):=aL
noncomputable abbrev de:Stmt:=aN (top 57) 14
theorem jb:ay ["self","level"] eK (aj de):=aL
noncomputable abbrev mv:Stmt:=aN (top 57) 15
theorem yk:ay ["self"] sR (aj mv):=aL
noncomputable abbrev lq:Stmt:=aN (top 57) 16
theorem wa:ay ["self"] qh (aj lq):=aL
noncomputable abbrev jK:Stmt:=aN (top 57) 17
theorem uV:ay ["self"] nQ (aj jK):=aL
noncomputable abbrev iJ:Stmt:=aN (top 57) 18
theorem tJ:ay ["self"] mi (aj iJ):=aL
noncomputable abbrev lr:Stmt:=aN (top 57) 19
theorem wc:ay ["self"] qi (aj lr):=aL
noncomputable abbrev jL:Stmt:=aN (top 57) 20
theorem uW:ay ["self"] nR (aj jL):=aL
noncomputable abbrev jM:Stmt:=aN (top 57) 21
theorem uX:ay ["self"] nS (aj jM):=aL
noncomputable abbrev eA:Stmt:=aN (top 57) 23
theorem mx:ay ["self","place"] gO (aj eA):=aL
noncomputable abbrev jN:Stmt:=aN (top 57) 24
theorem uY:ay ["self"] nT (aj jN):=aL
noncomputable abbrev gA:Stmt:=aN (top 57) 26
theorem rE:ay ["self","cage"] lO (aj gA):=aL
noncomputable abbrev fQ:Stmt:=aN (top 57) 27
theorem qo:ay ["self","level"] kj (aj fQ):=aL
noncomputable abbrev AZ:Stmt:=top 59
theorem GV:ay ["_law_script","_law_k"] E2 (aj AZ):=aL
noncomputable abbrev uZ:Stmt:=top 60
theorem ko:ay ["_law_cell","_law_k","_law_span","_law_rest","_law_turn","_law_one"] zq (aj uZ):=aL
noncomputable abbrev rF:Stmt:=top 61
theorem oH:ay ["_law_script","_law_k","_law_cell","_law_one"] xo (aj rF):=aL
noncomputable abbrev my:Stmt:=top 62
theorem rG:ay ["_law_found","_law_due","_law_alike","_law_k"] qj (aj my):=aL
noncomputable abbrev oI:Stmt:=top 63
theorem cL:ay ["_law_cell","_law_many","_law_shape","_law_gap","_law_made","_law_last","_law_k","_law_span"] uN (aj oI):=aL
noncomputable abbrev rH:Stmt:=top 64
theorem lu:ay ["_law_cell","_law_many","_law_made","_law_k","_law_men"] xp (aj rH):=aL
noncomputable abbrev rJ:Stmt:=top 65
theorem iK:ay ["_law_cell","_law_many","_law_most","_law_made","_law_count","_law_k","_law_kind"] xq (aj rJ):=aL
noncomputable abbrev kq:Stmt:=top 66
theorem eU:ay ["_law_script","_law_depths_here","_law_codes_here","_law_cell","_law_slow","_law_fast"] xr (aj kq):=aL
noncomputable abbrev rK:Stmt:=top 67
theorem iL:ay ["_law_script","_law_most","_law_depths_here","_law_codes_here","_law_slow","_law_fast"] xt (aj rK):=aL
noncomputable abbrev A1:Stmt:=top 68
theorem yl:ay ["_law_depths_here","_law_cage","_law_place","_law_deep","_law_k"] E3 (aj A1):=aL
noncomputable abbrev u9:Stmt:=top 69
theorem CM:ay ["_law_row","_law_k","_law_value"] zr (aj u9):=aL
noncomputable abbrev rL:Stmt:=top 70
theorem oJ:ay ["_law_way","_law_speed_here","_law_ticks"] xu (aj rL):=aL
noncomputable abbrev rM:Stmt:=top 71
theorem va:ay ["_law_setup_here","_law_lying","_law_k"] xv (aj rM):=aL
noncomputable abbrev rN:Stmt:=top 72
theorem oK:ay ["_law_setup_here","_law_many","_law_lying"] xw (aj rN):=aL
noncomputable abbrev rO:Stmt:=top 73
theorem vb:ay ["_law_heard_here","_law_deed","_law_word"] xx (aj rO):=aL
noncomputable abbrev vc:Stmt:=top 74
theorem bO:ay ["_law_setup_here","_law_state","_law_deed","_law_place","_law_gates","_law_lying","_law_heard_here","_law_dead","_law_clock","_law_ended","_law_level","_law_deep","_law_goal"] zt (aj vc):=aL
noncomputable abbrev vd:Stmt:=top 75
theorem CN:ay ["_law_works","_law_deed"] zu (aj vd):=aL
noncomputable abbrev rP:Stmt:=top 76
theorem ly:ay ["_law_states","_law_rows","_law_due","_law_k","_law_cage"] xy (aj rP):=aL
noncomputable abbrev iM:Stmt:=top 77
theorem cV:ay ["_law_works","_law_setup_here","_law_states","_law_rows","_law_place","_law_gates","_law_lying","_law_heard_here","_law_dead","_law_clock","_law_held","_law_k","_law_waits","_law_due","_law_found"] zw (aj iM):=aL
noncomputable abbrev fR:Stmt:=top 78
theorem bM:ay ["_law_setup_here","_law_state","_law_rest","_law_depths_here","_law_codes_here","_law_heard_here","_law_live","_law_level","_law_cage","_law_kind"] kl (aj fR):=aL
noncomputable abbrev dq:Stmt:=top 79
theorem cx:ay ["_law_setup_here","_law_state","_law_rest","_law_cage","_law_level","_law_waits"] km (aj dq):=aL
noncomputable abbrev bQ:Stmt:=top 80
theorem fC:ay ["_law_setup_here","_law_states","_law_cell","_law_state","_law_rest","_law_level"] nU (aj bQ):=aL
noncomputable abbrev ve:Stmt:=top 81
theorem rQ:ay ["_law_works","_law_setup_here","_law_states","_law_rows","_law_deed","_law_told","_law_heard_here"] zx (aj ve):=aL
noncomputable abbrev vf:Stmt:=top 82
theorem xA:ay ["_law_works","_law_setups","_law_states","_law_rows","_law_k"] zy (aj vf):=aL
noncomputable abbrev mz:Stmt:=top 83
theorem gB:ay ["_law_script","_law_setup_here","_law_other","_law_setups","_law_handed","_law_works","_law_states","_law_rows","_law_k","_law_cell","_law_side","_law_deed"] E4 (aj mz):=aL
structure Adr where
 ba:Addr
 dU:Addr
 mB:Addr
 iO:Addr
 hG:Addr
 hJ:Addr
 mD:Addr
 kr:Addr
 mE:Addr
 fg:Addr
 fD:Addr
 iP:Addr
 ku:Addr
 kv:Addr
 iQ:Addr
 gj:Addr
 mF:Addr
 iR:Addr
 CO:Addr
 eh:Addr
 bD:Addr
 dG:Addr
 mG:Addr
 aY:Addr
 ym:Addr
 qp:Addr
 B5:Addr
structure Txt (P:Program)(w:World)(K:WA)(mg:Str->Option Value)(base:Heap)(Z:Adr):Prop where
 bR:mg "len"=none
 dC:mg "list"=none
 mH:mg "enumerate"=none
 KO:mg "zip"=none
 cj:mg "range"=none
 HQ:mg "abs"=none
 cF:mg "isinstance"=none
 qr:mg "tuple"=none
 sW:mg "int"=none
 HR:mg "str"=none
 E5:mg "bool"=none
 E6:mg "min"=none
 E7:mg "sorted"=none
 yp:∃u,mg "MOST_LOADS"=some u/\bI (.int 30) u
 rR:∃u,mg "FEWEST_STROKES"=some u/\bI (.int 1) u
 vg:∃u,mg "MOST_STROKES"=some u/\bI (.int 9) u
 tK:∃u,mg "FEWEST_LEVELS"=some u/\bI (.int 2) u
 we:∃u,mg "MOST_LEVELS"=some u/\bI (.int 6) u
 rS:∃u,mg "GREATEST_DEPTH"=some u/\bI (.int 500) u
 rT:∃u,mg "GREATEST_SPEED"=some u/\bI (.int 500) u
 yq:∃u,mg "MOST_DEEDS"=some u/\bI (.int 300) u
 GW:∃u,mg "KINDS"=some u/\bI (.ref Z.ym) u
 GX:∀H,SqT K H Z.ym [.str "men",.str "coal"]
 GY:∃o,K.lookup Z.ym=some o/\o.cls=.type "tuple"/\o.dict=none
 gU:∃u,mg "CAGE_SPOTS"=some u/\bI (.ref Z.qp) u
 gV:∀H,SqT K H Z.qp [.int 10,.int 11]
 GZ:∃u,mg "CAGES"=some u/\bI (.ref Z.B5) u
 qs:∀H,SqT K H Z.B5 [.int 0,.int 1]
 vh:mg "UnknownLevel"=some (.ref Z.ba)
 wg:mg "UnknownLoad"=some (.ref Z.dU)
 vi:mg "BadLoads"=some (.ref Z.mB)
 oM:mg "NotThere"=some (.ref Z.iO)
 zC:mg "CageTaken"=some (.ref Z.hG)
 sX:mg "CageEmpty"=some (.ref Z.hJ)
 oN:mg "BadCodes"=some (.ref Z.mD)
 A2:mg "DeadBell"=some (.ref Z.kr)
 zD:mg "NoCode"=some (.ref Z.mE)
 wj:mg "NothingRung"=some (.ref Z.fg)
 vj:mg "NoChange"=some (.ref Z.fD)
 A3:mg "NotArmed"=some (.ref Z.iP)
 mI:mg "BadDepths"=some (.ref Z.ku)
 zE:mg "BadSpeeds"=some (.ref Z.kv)
 A4:mg "BookFull"=some (.ref Z.iQ)
 wm:mg "NothingDone"=some (.ref Z.gj)
 A5:mg "GateOpen"=some (.ref Z.mF)
 A6:mg "GateShut"=some (.ref Z.iR)
 HS:mg "CageError"=some (.ref Z.CO)
 E8:mg "Yard"=some (.ref Z.eh)
 B6:mg "Bells"=some (.ref Z.bD)
 vk:mg "Standing"=some (.ref Z.dG)
 Jz:mg "Book"=some (.ref Z.mG)
 yr:mg "Works"=some (.ref Z.aY)
 cG:Cls K Z.eh
 fX:aW K Z.eh "kinds"
 bS:aW K Z.eh "where"
 gW:aW K Z.eh "many"
 bx:Cls K Z.bD
 cP:aW K Z.bD "codes"
 cz:aW K Z.bD "failed"
 bB:aW K Z.bD "state"
 aJ:Cls K Z.dG
 cy:aW K Z.dG "place"
 bW:aW K Z.dG "opened"
 bN:aW K Z.dG "bells"
 bq:aW K Z.dG "yard"
 c7:Cls K Z.mG
 nZ:aW K Z.mG "first"
 qt:aW K Z.mG "most"
 bJ:aW K Z.mG "rows"
 aS:Cls K Z.aY
 cA:aW K Z.aY "depths"
 n6:aW K Z.aY "slow"
 n8:aW K Z.aY "fast"
 mJ:aW K Z.aY "goals"
 aP:aW K Z.aY "log"
 vm:ExC K Z.ba
 E9:ExI K Z.ba
 wo:ExC K Z.dU
 Fi:ExI K Z.dU
 vn:ExC K Z.mB
 JA:ExI K Z.mB
 oO:ExC K Z.iO
 JB:ExI K Z.iO
 zF:ExC K Z.hG
 HU:ExI K Z.hG
 sY:ExC K Z.hJ
 HW:ExI K Z.hJ
 oP:ExC K Z.mD
 JC:ExI K Z.mD
 A7:ExC K Z.kr
 JD:ExI K Z.kr
 zG:ExC K Z.mE
 KP:ExI K Z.mE
 wq:ExC K Z.fg
 Fj:ExI K Z.fg
 vo:ExC K Z.fD
 JE:ExI K Z.fD
 A8:ExC K Z.iP
 JF:ExI K Z.iP
 mK:ExC K Z.ku
 HX:ExI K Z.ku
 zH:ExC K Z.kv
 HY:ExI K Z.kv
 A9:ExC K Z.iQ
 JG:ExI K Z.iQ
 wu:ExC K Z.gj
 Fk:ExI K Z.gj
 Ba:ExC K Z.mF
 JH:ExI K Z.mF
 Bb:ExC K Z.iR
 JI:ExI K Z.iR
structure HZ (K:WA)(C0 C1 C2 C3 C4 C5 C6 C7 C8 C9 C10 C11 C12 C13 C14 C15 C16 C17 C18 C19 C20 C21 C22 C23:Addr)(ta_KINDS:Addr)(tk_KINDS_0 tk_KINDS_1:Tok)(tn_KINDS:Nat)(ts_KINDS:Array (Option Value))(ta_CAGE_SPOTS:Addr)(tk_CAGE_SPOTS_0 tk_CAGE_SPOTS_1:Tok)(to_CAGE_SPOTS:Option Addr)(tn_CAGE_SPOTS:Nat)(ts_CAGE_SPOTS:Array (Option Value))(ta_CAGES:Addr)(tk_CAGES_0 tk_CAGES_1:Tok)(to_CAGES:Option Addr)(tn_CAGES:Nat)(ts_CAGES:Array (Option Value)):Prop where
 z_len:W.nsIn K mainGlobals "len"=some none
 z_list:W.nsIn K mainGlobals "list"=some none
 z_enumerate:W.nsIn K mainGlobals "enumerate"=some none
 z_zip:W.nsIn K mainGlobals "zip"=some none
 z_range:W.nsIn K mainGlobals "range"=some none
 z_abs:W.nsIn K mainGlobals "abs"=some none
 z_isinstance:W.nsIn K mainGlobals "isinstance"=some none
 z_tuple:W.nsIn K mainGlobals "tuple"=some none
 z_int:W.nsIn K mainGlobals "int"=some none
 z_str:W.nsIn K mainGlobals "str"=some none
 z_bool:W.nsIn K mainGlobals "bool"=some none
 z_min:W.nsIn K mainGlobals "min"=some none
 z_sorted:W.nsIn K mainGlobals "sorted"=some none
 m0:NI K "UnknownLevel" C0
 m1:NI K "UnknownLoad" C1
 m2:NI K "BadLoads" C2
 m3:NI K "NotThere" C3
 m4:NI K "CageTaken" C4
 m5:NI K "CageEmpty" C5
 m6:NI K "BadCodes" C6
 m7:NI K "DeadBell" C7
 m8:NI K "NoCode" C8
 m9:NI K "NothingRung" C9
 m10:NI K "NoChange" C10
 m11:NI K "NotArmed" C11
 m12:NI K "BadDepths" C12
 m13:NI K "BadSpeeds" C13
 m14:NI K "BookFull" C14
 m15:NI K "NothingDone" C15
 m16:NI K "GateOpen" C16
 m17:NI K "GateShut" C17
 m18:NI K "CageError" C18
 m19:NI K "Yard" C19
 m20:NI K "Bells" C20
 m21:NI K "Standing" C21
 m22:NI K "Book" C22
 m23:NI K "Works" C23
 n_MOST_LOADS:KI K "MOST_LOADS" 30
 n_FEWEST_STROKES:KI K "FEWEST_STROKES" 1
 n_MOST_STROKES:KI K "MOST_STROKES" 9
 n_FEWEST_LEVELS:KI K "FEWEST_LEVELS" 2
 n_MOST_LEVELS:KI K "MOST_LEVELS" 6
 n_GREATEST_DEPTH:KI K "GREATEST_DEPTH" 500
 n_GREATEST_SPEED:KI K "GREATEST_SPEED" 500
 n_MOST_DEEDS:KI K "MOST_DEEDS" 300
 n_KINDS:W.nsIn K mainGlobals "KINDS"=some (some (.ref ta_KINDS))
 lt_KINDS:K.lookup ta_KINDS=some ⟨.type "tuple",none,.seq #[.str "men" tk_KINDS_0,.str "coal" tk_KINDS_1] tn_KINDS,ts_KINDS⟩
 n_CAGE_SPOTS:W.nsIn K mainGlobals "CAGE_SPOTS"=some (some (.ref ta_CAGE_SPOTS))
 lt_CAGE_SPOTS:K.lookup ta_CAGE_SPOTS=some ⟨.type "tuple",to_CAGE_SPOTS,.seq #[.int 10 tk_CAGE_SPOTS_0,.int 11 tk_CAGE_SPOTS_1] tn_CAGE_SPOTS,ts_CAGE_SPOTS⟩
 n_CAGES:W.nsIn K mainGlobals "CAGES"=some (some (.ref ta_CAGES))
 lt_CAGES:K.lookup ta_CAGES=some ⟨.type "tuple",to_CAGES,.seq #[.int 0 tk_CAGES_0,.int 1 tk_CAGES_1] tn_CAGES,ts_CAGES⟩
 cl19:Cls K C19
 na19_kinds:aW K C19 "kinds"
 na19_where:aW K C19 "where"
 na19_many:aW K C19 "many"
 cl20:Cls K C20
 na20_codes:aW K C20 "codes"
 na20_failed:aW K C20 "failed"
 na20_state:aW K C20 "state"
 cl21:Cls K C21
 na21_place:aW K C21 "place"
 na21_opened:aW K C21 "opened"
 na21_bells:aW K C21 "bells"
 na21_yard:aW K C21 "yard"
 cl22:Cls K C22
 na22_first:aW K C22 "first"
 na22_most:aW K C22 "most"
 na22_rows:aW K C22 "rows"
 cl23:Cls K C23
 na23_depths:aW K C23 "depths"
 na23_slow:aW K C23 "slow"
 na23_fast:aW K C23 "fast"
 na23_goals:aW K C23 "goals"
 na23_log:aW K C23 "log"
 l0:C0I K C18
 x0:XI K C18 C0
 x1:XI K C18 C1
 x2:XI K C18 C2
 x3:XI K C18 C3
 x4:XI K C18 C4
 x5:XI K C18 C5
 x6:XI K C18 C6
 x7:XI K C18 C7
 x8:XI K C18 C8
 x9:XI K C18 C9
 x10:XI K C18 C10
 x11:XI K C18 C11
 x12:XI K C18 C12
 x13:XI K C18 C13
 x14:XI K C18 C14
 x15:XI K C18 C15
 x16:XI K C18 C16
 x17:XI K C18 C17
 d0:DI K "is_known" oy
 d1:DI K "check_level" jz
 d2:DI K "check_load" kO
 d3:DI K "check_loads" jA
 d4:II K C19 "Yard.__init__" mj
 d5:MI K C19 "into" "Yard.into" ml
 d6:MI K C19 "out" "Yard.out" oz
 d7:MI K C19 "spots" "Yard.spots" kP
 d8:MI K C19 "in_cage" "Yard.in_cage" iA
 d9:MI K C19 "at_level" "Yard.at_level" gu
 d10:MI K C19 "men_aboard" "Yard.men_aboard" fu
 d11:MI K C19 "twin" "Yard.twin" mm
 d12:DI K "are_strokes" jB
 d13:DI K "check_codes" jC
 d14:II K C20 "Bells.__init__" kQ
 d15:MI K C20 "ring" "Bells.ring" kR
 d16:MI K C20 "repeat" "Bells.repeat" iC
 d17:MI K C20 "engine" "Bells.engine" iD
 d18:MI K C20 "fail" "Bells.fail" kS
 d19:MI K C20 "dead" "Bells.dead" kT
 d20:MI K C20 "use" "Bells.use" mn
 d21:MI K C20 "twin" "Bells.twin" kU
 d22:DI K "check_depths" iE
 d23:DI K "drum_whole" kW
 d24:DI K "other_place" jD
 d25:DI K "level_at" oA
 d26:DI K "wound_place" jE
 d27:DI K "gates_by" oB
 d28:DI K "check_speeds" iF
 d29:DI K "wind_ticks" kX
 d30:II K C21 "Standing.__init__" gw
 d31:MI K C21 "twin" "Standing.twin" gx
 d32:II K C22 "Book.__init__" mq
 d33:MI K C22 "write" "Book.write" kY
 d34:MI K C22 "strike" "Book.strike" jF
 d35:MI K C22 "now" "Book.now" oC
 d36:MI K C22 "latest" "Book.latest" jG
 d37:MI K C22 "told" "Book.told" mr
 d38:MI K C22 "rides" "Book.rides" kZ
 d39:II K C23 "Works.__init__" k7
 d40:MI K C23 "ring" "Works.ring" lg
 d41:MI K C23 "repeat" "Works.repeat" iG
 d42:MI K C23 "fail" "Works.fail" lh
 d43:MI K C23 "open_gate" "Works.open_gate" fv
 d44:MI K C23 "shut_gate" "Works.shut_gate" fz
 d45:MI K C23 "turn_gate" "Works.turn_gate" fA
 d46:MI K C23 "load" "Works.load" lj
 d47:MI K C23 "unload" "Works.unload" iI
 d48:MI K C23 "wind" "Works.wind" lp
 d49:MI K C23 "take_back" "Works.take_back" fB
 d50:MI K C23 "write" "Works.write" jJ
 d51:MI K C23 "speed_with" "Works.speed_with" eT
 d52:MI K C23 "level_of" "Works.level_of" fP
 d53:MI K C23 "refuse_shut_gate" "Works.refuse_shut_gate" de
 d54:MI K C23 "now" "Works.now" mv
 d55:MI K C23 "book" "Works.book" lq
 d56:MI K C23 "rides" "Works.rides" jK
 d57:MI K C23 "engine" "Works.engine" iJ
 d58:MI K C23 "dead" "Works.dead" lr
 d59:MI K C23 "gates" "Works.gates" jL
 d60:MI K C23 "cages" "Works.cages" jM
 d61:MI K C23 "both_places" "Works.both_places" eA
 d62:MI K C23 "spots" "Works.spots" jN
 d63:MI K C23 "in_cage" "Works.in_cage" gA
 d64:MI K C23 "at_level" "Works.at_level" fQ
 d65:DI K "_law_at" AZ
 d66:DI K "_law_draw" uZ
 d67:DI K "_law_mixed" rF
 d68:DI K "_law_same" my
 d69:DI K "_law_depths" oI
 d70:DI K "_law_codes" rH
 d71:DI K "_law_loads" rJ
 d72:DI K "_law_shaft" kq
 d73:DI K "_law_setup" rK
 d74:DI K "_law_by" A1
 d75:DI K "_law_swap" u9
 d76:DI K "_law_lasts" rL
 d77:DI K "_law_speed" rM
 d78:DI K "_law_first" rN
 d79:DI K "_law_heard" rO
 d80:DI K "_law_next" vc
 d81:DI K "_law_call" vd
 d82:DI K "_law_rides" rP
 d83:DI K "_law_view" iM
 d84:DI K "_law_towards_wind" fR
 d85:DI K "_law_towards_load" dq
 d86:DI K "_law_good_deed" bQ
 d87:DI K "_law_done" ve
 d88:DI K "_law_both" vf
 d89:DI K "law" mz
set_option hygiene false in
local macro_rules | `(tactic| walk_at "r0") => `(tactic| ((try dsimp only [JS, JU, tB', tOp, tUn, El, tCB, lI, vN, Bq, Az, rI', rU', Jm, JT, tC, Hc, Hd, zU, dP, nG, AB, rq, BQ, BS, pK, JQ, tOr, JR, AD, tIf, Kb, Ka, tBM, Kr, uC, tSl, Br, AF, EB, EC, ED, AH, AN, AG, EI, FJ, DT, AM, tF, DV, BY, BX, HP, AS, AK, BL, Ei, BU, Er, xZ, DB, AO, EK, uD, BV, AL, Jb, BI, Kn, Kg, JV, AJ, nF, Ju, Jv, tU1, ER, AR, Ew, t6, GA, EL, yb, BW, EU, FW, Jj, FX, Ej, Ek, FY, Gd, Ge, Jl, Gf, Gg, Js, Gh, Gi, Jt, EN, GD, K7, K8, K9, La, Ks, Ku, Kv, Kw, Lb, Lc, Jk, σN, σS, σ0, Kx, Le, Lf, Ky, Kz, KC, KG, IW, Du, uf, K5, Nat.reduceAdd, Nat.reduceSub, Int.reducePow, Int.reduceToNat, Nat.reducePow, Int.reduceNeg, Bool.not_true, Bool.not_false]); (try first | refine L2.Lg ?_ | refine L2.Lh ?_ | refine L2.KH ?_)))
set_option hygiene false in
local macro_rules | `(tactic| k_upd) => `(tactic| (repeat ((first | with_reducible refine L2.Li ?_ | with_reducible refine L2.Lj ?_ | with_reducible refine L2.kM ze1 ?_ | with_reducible refine L2.kM ze2 ?_ | with_reducible refine L2.kM ze3 ?_ | with_reducible refine L2.kM ze4 ?_ | with_reducible refine L2.kM ze5 ?_ | with_reducible refine L2.kM ze6 ?_ | with_reducible refine L2.kM ze7 ?_ | with_reducible refine L2.kM ze8 ?_ | with_reducible refine L2.kM ze9 ?_ | with_reducible refine L2.kM ze10 ?_ | with_reducible refine L2.kM ze11 ?_ | with_reducible refine L2.kM ze12 ?_ | with_reducible refine L2.kM ze13 ?_ | with_reducible refine L2.kM ze14 ?_ | with_reducible refine L2.kM ze15 ?_ | with_reducible refine L2.kM ze16 ?_ | with_reducible refine L2.kM ze17 ?_ | with_reducible refine L2.kM ze18 ?_ | with_reducible refine L2.kM ze19 ?_); walk_at "r0")))
set_option hygiene false in
local macro_rules | `(tactic| k_mem) => `(tactic| (walk_at "r0"; k_upd))
set_option hygiene false in
local macro_rules | `(tactic| k_all) => `(tactic| refine ⟨rfl, fun zv zA zo zs zf hr => ?_⟩)
section
variable {P:Program}{w:World}{K:WA}{mg:Str->Option Value}{base:Heap}{Z:Adr}
variable (T:Txt P w K mg base Z)
inductive mL (K:WA)(Z:Adr)(vs:List V)(H:Hp)(Q:VK)(E:XK):Prop | mk (n m:Int):vs=[.int n,.int m]->(Q (.bl (decide (0<=n/\n < m))) H)->mL K Z vs H Q E
include T in
theorem zI:FF P w K mg base CX0 1 "is_known" "is_known" oy uI (mL K Z):=fk0 zz fun vs H Q E h=>by
 obtain ⟨n,m,rfl,q⟩:=h
 k_all
 refine ⟨_,ah (aB (ud (dJ EX (pv' 0) af (cu _)) (zT (dJ Jx (pv' 0) (pv' 1) (cu _))))),?_⟩
 k_mem
 split
 ·rename_i h0
  rw [show decide (0<=n/\n < m)=decide (n < m) by simp [h0]] at q
  k_upd
  exact q
 ·rename_i h0
  rw [show decide (0<=n/\n < m)=false by simp;omega] at q
  k_upd
  exact q
variable (eV:KD P w K mg base CX0 1 "is_known" (mL K Z))
inductive lz (K:WA)(Z:Adr)(vs:List V)(H:Hp)(Q:VK)(E:XK):Prop | mk (x dx l:Addr) (ls:List Ld) (m:Int):vs=[.ref x,.ref l,.int m]->H x=some (.ins Z.eh dx [])->dX K H l ls->ls.length<=1000->(∀(kn wh:Addr) (H':Hp),H kn=none->H wh=none->kn≠wh->aA x H H'->cS Z.eh H' x kn wh (ls.map (·.1)) (ls.map (·.2.1)) m->Q .non H')->lz K Z vs H Q E
include T in
theorem yt:FF P w K mg base CX0 1 "__init__" "Yard.__init__" mj sL (lz K Z):=fk0 yg fun vs H Q E h=>by
 obtain ⟨x,dx,l,ls,m,rfl,hx,hL,hn,q⟩:=h
 k_all
 refine ⟨_,ae (bL (pv' 0) (ka ["kind","level","goal"] [none,none,none] (dk (pv' 1)) (fun _ _ _ _=>(show PG _ _ (nG K 3 _) from dZ (n:=3) rfl (aH (aD (i:=0) (show (["kind","level","goal"]:List Str).Nodup by decide +kernel) rfl orL) (aH (aD (i:=1) (show (["kind","level","goal"]:List Str).Nodup by decide +kernel) rfl orL) (aH (aD (i:=2) (show (["kind","level","goal"]:List Str).Nodup by decide +kernel) rfl orL) cZ))))) (fun _ _ _ _=>fj) (fun _ _ _ _=>(pv' 0))) rfl) (ae (bL (pv' 0) (ka ["kind","level","goal"] [none,none,none] (dk (pv' 1)) (fun _ _ _ _=>(show PG _ _ (nG K 3 _) from dZ (n:=3) rfl (aH (aD (i:=0) (show (["kind","level","goal"]:List Str).Nodup by decide +kernel) rfl orL) (aH (aD (i:=1) (show (["kind","level","goal"]:List Str).Nodup by decide +kernel) rfl orL) (aH (aD (i:=2) (show (["kind","level","goal"]:List Str).Nodup by decide +kernel) rfl orL) cZ))))) (fun _ _ _ _=>fj) (fun _ _ _ _=>(pv' 1))) rfl) (ah (bL (pv' 0) (pv' 2) rfl))),?_⟩
 k_mem
 obtain ⟨as,hS,hT⟩:=id hL
 refine ⟨⟨_,hS⟩,?_⟩
 refine rz (fun x=>V.str x.1) hL (by rw [sizeLine_eq];omega) rfl (fun x hx N hN=>by k_mem;exact hN) fun kn hkn=>?_
 k_mem
 have k1:L2.aA x H (upd (upd H kn (HO.lst (ls.map fun x=>V.str x.1))) x (HO.ins Z.eh dx (br "kinds" (.ref kn) []))):=(aA.of ((av.refl H).lay hkn)).put
 have hx1:upd (upd H kn (HO.lst (ls.map fun x=>V.str x.1))) x (HO.ins Z.eh dx (br "kinds" (.ref kn) [])) x=some (HO.ins Z.eh dx [("kinds",.ref kn)]):=ag
 have nx:kn≠x:=fun z=>by rw [z,hx] at hkn;cases hkn
 have hk1:upd (upd H kn (HO.lst (ls.map fun x=>V.str x.1))) x (HO.ins Z.eh dx (br "kinds" (.ref kn) [])) kn=some (HO.lst (ls.map fun x=>V.str x.1)):=by rw [aK nx,ag]
 refine ⟨_,_,_,upo hx hkn,T.cG,T.fX,by decide,⟨_,hS.keepI k1 hx⟩,?_⟩
 generalize upd (upd H kn (HO.lst (ls.map fun x=>V.str x.1))) x (HO.ins Z.eh dx (br "kinds" (.ref kn) []))=H1 at *
 refine rz (fun x=>V.int x.2.1) (hL.keepI k1 hx) (by rw [sizeLine_eq];omega) rfl (fun x hx N hN=>by k_mem;exact hN) fun wh hwh=>?_
 have nxw:wh≠x:=fun z=>by rw [z,hx1] at hwh;cases hwh
 have nkw:kn≠wh:=fun z=>by rw [z,hwh] at hk1;cases hk1
 refine ⟨_,_,_,upo hx1 hwh,T.cG,T.bS,by show 1 < 1000;decide,_,_,_,ag,T.cG,T.gW,Nat.lt_of_le_of_lt (lS _ _ _) (by show 2 < 1000;decide),?_⟩
 refine q kn wh _ hkn ?_ nkw (((k1.trans (aA.of ((av.refl H1).lay hwh))).put).put) ⟨⟨dx,?_⟩,?_,?_⟩
 ·cases e:H wh with
  | none=>rfl
  | some o=>have:=k1 wh o nxw e;rw [hwh] at this;cases this
 ·rw [ag];rfl
 ·rw [aK nx,aK nx,aK nkw,hk1,List.map_map];rfl
 ·rw [aK nxw,aK nxw,ag,List.map_map];rfl
variable (jn:KN P w K mg base CX0 1 Z.eh (lz K Z))
inductive jO (K:WA)(Z:Adr)(vs:List V)(H:Hp)(Q:VK)(E:XK):Prop | mk (y kn wh:Addr) (ks:List Str) (ws:List Int) (m:Int):vs=[.ref y]->cS Z.eh H y kn wh ks ws m->(∀p,H p=none->Q (.ref p) (upd H p (.lst (ws.map V.int))))->jO K Z vs H Q E
include T in
theorem wx:FF P w K mg base CX0 1 "spots" "Yard.spots" kP pR (jO K Z):=fk0 vX fun vs H Q E h=>by
 obtain ⟨y,kn,wh,ks,ws,m,rfl,hy,q⟩:=h
 k_all
 refine ⟨_,ah (aB (bc aX (by rfl) T.dC cB (pa1 (ax (pv' 0))))),?_⟩
 obtain ⟨⟨dx,hob⟩,hkn,hwh⟩:=id hy
 k_mem
 refine fgo hob T.cG T.bS rfl ?_
 k_mem
 exact ⟨_,.inl (SqL.of hwh),q⟩
variable (gX:KM P w K mg base CX0 1 Z.eh "spots" (jO K Z))
def G0 (y:Addr)(c:Int)(ws:List Int)(H:Hp)(i:Nat)(σ:St)(H':Hp):Prop:=av H H'/\(∃t u,σ=[some (.ref y),some (.int c),t,u])/\∀j,j < i->ws.getD j 0≠10+c
inductive gC (K:WA)(Z:Adr)(vs:List V)(H:Hp)(Q:VK)(E:XK):Prop | mk (y kn wh:Addr) (ks:List Str) (ws:List Int) (m c:Int):vs=[.ref y,.int c]->cS Z.eh H y kn wh ks ws m->0<=c->c < 2->(∀H',av H H'->Q (inC ws c) H')->gC K Z vs H Q E
include T in
theorem tL:FF P w K mg base CX0 1 "in_cage" "Yard.in_cage" iA l8 (gC K Z):=fk0 gq fun vs H Q E h=>by
 obtain ⟨y,kn,wh,ks,ws,m,c,rfl,hy,h0,h1,q⟩:=h
 k_all
 refine seg 1 (ah (aB dI)) fun zt1 zh1 ze1=>?_
 refine ⟨_,ae (cR PassesOwn.never rfl (uH (by rfl) T.mH kE (ax (pv' 0))) (dZ rfl (aH (aD (i:=2) gq.nd rfl orL) (aH (aD (i:=3) gq.nd rfl orL) cZ))) (ah (aM (bH (pv' 3) (ao aw (cX (by rfl) T.gU) (pv' 1))) (ah (aB (pv' 2))) (aC)))) zh1,?_⟩
 obtain ⟨⟨dx,hob⟩,hkn,hwh⟩:=id hy
 k_mem
 refine fgo hob T.cG T.bS rfl ?_
 k_mem
 refine ⟨⟨_,SqL.of hwh⟩,?_⟩
 k_upd
 refine yM ws.length (G0 y c ws H) ⟨av.refl H,⟨_,_,rfl⟩,fun j hj=>absurd hj (Nat.not_lt_zero _)⟩ ?_ ?_ ?_ ?_
 ·rintro i σ H' hi ⟨s1,_,_⟩
  k_upd
  exact ⟨_,_,s1.seq (SqL.of hwh),by rw [List.getElem?_map,ke hi];rfl⟩
 ·rintro σ H' ⟨s1,_,_⟩
  k_upd
  exact ⟨_,s1.seq (SqL.of hwh),by rw [WB];exact Nat.le_refl _⟩
 ·rintro i σ H' hi ⟨s1,⟨t,u,rfl⟩,hj⟩ x H2 ⟨tp,z,rfl,htp,rfl,hz⟩
  have e:=hz _ (s1.seq (SqL.of hwh))
  rw [List.getElem?_map,ke hi] at e
  cases e
  k_mem
  refine ⟨_,SqT.of ag,rfl,?_⟩
  k_mem
  refine ⟨_,T.gV _,_,xb h0 h1,?_⟩
  k_mem
  split
  ·rename_i h
   have e:=Cv hi h hj
   have q':=q _ (s1.lay (o:=HO.tup [V.int ↑i,V.int (ws.getD i 0)]) htp)
   rw [inC,if_pos (h▸cM hi),e] at q'
   k_upd
   exact q'
  ·rename_i h
   k_upd
   refine ⟨s1.lay htp,⟨_,_,rfl⟩,fun j hj'=>?_⟩
   by_cases e:j=i
   ·rw [e];exact h
   ·exact hj j (by omega)
 ·rintro σ H' ⟨s1,⟨t,u,rfl⟩,hj⟩
  k_mem
  have q':=q _ s1
  rw [inC,if_neg] at q'
  ·k_upd
   exact q'
  ·intro hm
   have hlt:=List.idxOf_lt_length_iff.mpr hm
   refine hj _ hlt ?_
   rw [List.getD_eq_getElem?_getD,List.getElem?_eq_getElem hlt]
   exact List.getElem_idxOf hlt
variable (bT:KM P w K mg base CX0 1 Z.eh "in_cage" (gC K Z))
def Fb (y:Addr)(ks:List Str)(ws:List Int)(H:Hp)(i:Nat)(σ:St)(H':Hp):Prop:=av H H'/\(∃t u,σ=[some (.ref y),t,u])/\∀j k x,j < i->ks[j]?=some k->ws[j]?=some x->(decide (k="men") && decide (x=10\/x=11))=false
inductive eW (K:WA)(Z:Adr)(vs:List V)(H:Hp)(Q:VK)(E:XK):Prop | mk (y kn wh:Addr) (ks:List Str) (ws:List Int) (m:Int):vs=[.ref y]->cS Z.eh H y kn wh ks ws m->ks.length=ws.length->(∀H',av H H'->Q (.bl (yR ks ws)) H')->eW K Z vs H Q E
include T in
theorem oQ:FF P w K mg base CX0 1 "men_aboard" "Yard.men_aboard" fu ji (eW K Z):=fk0 eS fun vs H Q E h=>by
 obtain ⟨y,kn,wh,ks,ws,m,rfl,hy,hlen,q⟩:=h
 k_all
 refine seg 1 (ah (aB fJ)) fun zt1 zh1 ze1=>?_
 refine ⟨_,ae (cR PassesOwn.never rfl (GR (by rfl) T.KO IU (ax (pv' 0)) (ax (pv' 0))) (dZ rfl (aH (aD (i:=1) eS.nd rfl orL) (aH (aD (i:=2) eS.nd rfl orL) cZ))) (ah (aM (ie (bH (pv' 1) aE) (fW (dF ix (pv' 2) (cX (by rfl) T.gU) (by rfl)))).pt (ah (aB fJ)) (aC)))) zh1,?_⟩
 obtain ⟨⟨dx,hob⟩,hkn,hwh⟩:=id hy
 k_mem
 refine fgo hob T.cG T.fX rfl (fgo hob T.cG T.bS rfl ?_)
 k_mem
 refine ⟨⟨_,SqL.of hkn⟩,⟨_,SqL.of hwh⟩,?_⟩
 k_upd
 refine yM ws.length (Fb y ks ws H) ⟨av.refl H,⟨_,_,rfl⟩,fun j _ _ hj=>absurd hj (Nat.not_lt_zero _)⟩ ?_ ?_ ?_ ?_
 ·rintro i σ H' hi ⟨s1,_,_⟩
  have hk:ks[i]?=some ks[i]:=List.getElem?_eq_getElem (by omega)
  k_upd
  exact ⟨_,_,_,_,s1.seq (SqL.of hkn),s1.seq (SqL.of hwh),by rw [List.getElem?_map,hk];rfl,by rw [List.getElem?_map,ke hi];rfl⟩
 ·rintro σ H' ⟨s1,_,_⟩
  k_upd
  exact ⟨_,_,s1.seq (SqL.of hkn),s1.seq (SqL.of hwh),.inr (by rw [WB];exact Nat.le_refl _)⟩
 ·rintro i σ H' hi ⟨s1,⟨t,u,rfl⟩,hj⟩ x H2 ⟨tp,z1,z2,rfl,htp,rfl,hz1,hz2⟩
  have hk:ks[i]?=some ks[i]:=List.getElem?_eq_getElem (by omega)
  have hw:ws[i]?=some ws[i]:=List.getElem?_eq_getElem hi
  have e:=hz1 _ (s1.seq (SqL.of hkn))
  rw [List.getElem?_map,hk] at e
  cases e
  have e:=hz2 _ (s1.seq (SqL.of hwh))
  rw [List.getElem?_map,hw] at e
  cases e
  k_mem
  refine ⟨_,SqT.of ag,rfl,?_⟩
  k_mem
  have no:(decide (ks[i]=Str.ofString "men") && decide (ws[i]=10\/ws[i]=11))=false->Fb y ks ws H (i+1) [some (V.ref y),some (V.str ks[i]),some (V.int ws[i])] (upd H' tp (HO.tup [V.str ks[i],V.int ws[i]])):=fun hn=>by
   refine ⟨s1.lay htp,⟨_,_,rfl⟩,fun j k x hj' e1 e2=>?_⟩
   by_cases e:j=i
   ·subst e
    rw [hk] at e1;rw [hw] at e2
    cases e1;cases e2
    exact hn
   ·exact hj j k x (by omega) e1 e2
  k_upd
  split
  ·rename_i h1
   k_upd
   refine ⟨_,.inr (T.gV _),rfl,rfl,?_⟩
   rw [xg]
   k_mem
   split
   ·rename_i h2
    have q':=q _ (s1.lay (o:=HO.tup [V.str ks[i],V.int ws[i]]) htp)
    rw [yS hk hw h1 h2] at q'
    k_upd
    exact q'
   ·rename_i h2
    exact no (by simp [h2])
  ·rename_i h1
   exact no (by simp [h1])
 ·rintro σ H' ⟨s1,⟨t,u,rfl⟩,hj⟩
  k_mem
  have q':=q _ s1
  rw [xf hj (.inr (Nat.le_refl _))] at q'
  k_upd
  exact q'
variable (jo:KM P w K mg base CX0 1 Z.eh "men_aboard" (eW K Z))
inductive iS (K:WA)(Z:Adr)(vs:List V)(H:Hp)(Q:VK)(E:XK):Prop | mk (n:Int):vs=[.int n]->(Q (.bl (decide (1<=n/\n<=9))) H)->iS K Z vs H Q E
include T in
theorem vp:FF P w K mg base CX0 1 "are_strokes" "are_strokes" jB nJ (iS K Z):=fk0 uP fun vs H Q E h=>by
 obtain ⟨n,rfl,q⟩:=h
 k_all
 refine ⟨_,ah (aB (ud (dJ EX (pv' 0) (cX (by rfl) T.rR) (cu _)) (zT (dJ Jy (pv' 0) (cX (by rfl) T.vg) (cu _))))),?_⟩
 k_mem
 split
 ·rename_i h0
  rw [show decide (1<=n/\n<=9)=decide (n<=9) by simp [h0]] at q
  k_upd
  exact q
 ·rename_i h0
  rw [show decide (1<=n/\n<=9)=false by simp;omega] at q
  k_upd
  exact q
variable (eM:KD P w K mg base CX0 1 "are_strokes" (iS K Z))
inductive jP (K:WA)(Z:Adr)(vs:List V)(H:Hp)(Q:VK)(E:XK):Prop | mk (x dx l:Addr) (ls:List Cd):vs=[.ref x,.ref l]->H x=some (.ins Z.bD dx [])->ik cdV K H l ls->ls.length<=1000->(∀(cs fl st:Addr) (H':Hp),H cs=none->H fl=none->aA x H H'->bA Z.bD K H' x cs fl st ls (ls.map fun _=>false) .no->Q .non H')->jP K Z vs H Q E
include T in
theorem wz:FF P w K mg base CX0 1 "__init__" "Bells.__init__" kQ pS (jP K Z):=fk0 vY fun vs H Q E h=>by
 obtain ⟨x,dx,l,ls,rfl,hx,hL,hn,q⟩:=h
 k_all
 refine seg 2 (ah (bL (pv' 0) (aR (pa4 aE dI dI dI)) rfl)) fun zt2 zh2 ze2=>?_
 refine seg 1 (ae (bL (pv' 0) (ka ["code"] [none] (dk (pv' 1)) (fun _ _ _ _=>(aD (i:=0) (show (["code"]:List Str).Nodup by decide +kernel) rfl orL)) (fun _ _ _ _=>fj) (fun _ _ _ _=>fJ)) rfl) zh2) fun zt1 zh1 ze1=>?_
 refine ⟨_,ae (bL (pv' 0) (bc aX (by rfl) T.dC cB (pa1 (pv' 1))) rfl) zh1,?_⟩
 obtain ⟨as,hS,hT⟩:=id hL
 k_mem
 refine ⟨_,.inl hS,fun cs hcs=>?_⟩
 k_upd
 refine ⟨_,_,_,upo hx hcs,T.bx,T.cP,by decide,?_⟩
 have nx:cs≠x:=fun z=>by rw [z,hx] at hcs;cases hcs
 have k1:L2.aA x H (upd (upd H cs (HO.lst (as.map V.ref))) x (HO.ins Z.bD dx (br "codes" (.ref cs) []))):=(aA.of ((av.refl H).lay hcs)).put
 have hx1:upd (upd H cs (HO.lst (as.map V.ref))) x (HO.ins Z.bD dx (br "codes" (.ref cs) [])) x=some (HO.ins Z.bD dx [("codes",.ref cs)]):=ag
 have hc1:upd (upd H cs (HO.lst (as.map V.ref))) x (HO.ins Z.bD dx (br "codes" (.ref cs) [])) cs=some (HO.lst (as.map V.ref)):=by rw [aK nx,ag]
 generalize upd (upd H cs (HO.lst (as.map V.ref))) x (HO.ins Z.bD dx (br "codes" (.ref cs) []))=H1 at *
 k_upd
 refine ⟨⟨_,hS.keepI k1 hx⟩,?_⟩
 refine sj (fun _=>true) (fun _=>V.bl false) (hS.keepI k1 hx) (by rw [WB,hT.1,sizeLine_eq];omega) rfl (fun y _ N hN=>by k_mem;exact hN) (fun y _ _ N hN=>by k_mem;exact hN) fun fl hfl=>?_
 k_mem
 have ef:((as.map V.ref).filter fun _=>true).map (fun _=>V.bl false)=(ls.map fun _=>false).map V.bl:=by
  rw [List.filter_eq_self.mpr (by simp),List.map_map,List.map_map]
  refine List.ext_getElem (by simp [hT.1]) fun i h1 h2=>by simp
 rw [ef]
 have nfx:fl≠x:=fun z=>by rw [z,hx1] at hfl;cases hfl
 have nfc:cs≠fl:=fun z=>by rw [←z,hc1] at hfl;cases hfl
 k_upd
 refine ⟨_,_,_,upo hx1 hfl,T.bx,T.cz,by show 1 < 1000;decide,?_⟩
 have k2:L2.aA x H1 (upd (upd H1 fl (HO.lst ((ls.map fun _=>false).map V.bl))) x (HO.ins Z.bD dx (br "failed" (.ref fl) [("codes",.ref cs)]))):=(aA.of ((av.refl H1).lay hfl)).put
 have hx2:upd (upd H1 fl (HO.lst ((ls.map fun _=>false).map V.bl))) x (HO.ins Z.bD dx (br "failed" (.ref fl) [("codes",.ref cs)])) x=some (HO.ins Z.bD dx [("codes",.ref cs),("failed",.ref fl)]):=by rw [ag];rfl
 have hf2:upd (upd H1 fl (HO.lst ((ls.map fun _=>false).map V.bl))) x (HO.ins Z.bD dx (br "failed" (.ref fl) [("codes",.ref cs)])) fl=some (HO.lst ((ls.map fun _=>false).map V.bl)):=by rw [aK nfx,ag]
 generalize upd (upd H1 fl (HO.lst ((ls.map fun _=>false).map V.bl))) x (HO.ins Z.bD dx (br "failed" (.ref fl) [("codes",.ref cs)]))=H2 at *
 k_upd
 refine ⟨by decide,fun st hst=>⟨_,_,_,upo hx2 hst,T.bx,T.bB,by show 2 < 1000;decide,?_⟩⟩
 have nsx:st≠x:=fun z=>by rw [z,hx2] at hst;cases hst
 have k3:L2.aA x H2 (upd (upd H2 st (HO.tup [V.str (Str.ofString "not rung"),V.non,V.non,V.non])) x (HO.ins Z.bD dx (br "state" (.ref st) [("codes",.ref cs),("failed",.ref fl)]))):=(aA.of ((av.refl H2).lay hst)).put
 refine q cs fl st _ hcs (k1.free nfx hfl) ((k1.trans k2).trans k3) ⟨⟨dx,by rw [ag];rfl⟩,⟨as,k3 _ _ nx (k2 _ _ nx hc1),?_⟩,k3 _ _ nfx hf2,SqT.of (by rw [aK nsx,ag];rfl),nfc,by rw [WB]⟩
 exact hT.keepI ((k1.trans k2).trans k3) hx
variable (gY:KN P w K mg base CX0 1 Z.bD (jP K Z))
inductive gD (K:WA)(Z:Adr)(vs:List V)(H:Hp)(Q:VK)(E:XK):Prop | mk (b cs fl st:Addr) (ls:List Cd) (fs:List Bool) (e:Eng):vs=[.ref b]->bA Z.bD K H b cs fl st ls fs e->Q (.ref st) H->gD K Z vs H Q E
include T in
theorem tM:FF P w K mg base CX0 1 "engine" "Bells.engine" iD ma (gD K Z):=fk0 tH fun vs H Q E h=>by
 obtain ⟨b,cs,fl,st,ls,fs,e,rfl,hB,q⟩:=h
 k_all
 refine ⟨_,ah (aB (ax (pv' 0))),?_⟩
 obtain ⟨⟨dx,hob⟩,⟨as,hcs,hT⟩,hfl,hst,nn,ln⟩:=id hB
 k_mem
 exact fgo hob T.bx T.bB rfl q
variable (mM:KM P w K mg base CX0 1 Z.bD "engine" (gD K Z))
inductive jQ (K:WA)(Z:Adr)(vs:List V)(H:Hp)(Q:VK)(E:XK):Prop | mk (b cs fl st:Addr) (ls:List Cd) (fs:List Bool) (e:Eng):vs=[.ref b]->bA Z.bD K H b cs fl st ls fs e->fs.length<=1000->(∀p H',H p=none->av H H'->H' p=some (.lst ((cN fs).map V.int))->Q (.ref p) H')->jQ K Z vs H Q E
include T in
theorem wA:FF P w K mg base CX0 1 "dead" "Bells.dead" kT pV (jQ K Z):=fk0 v5 fun vs H Q E h=>by
 obtain ⟨b,cs,fl,st,ls,fs,e,rfl,hB,hlen,q⟩:=h
 k_all
 refine ⟨_,ah (aB (ka ["level","failed"] [none,none] (uH (by rfl) T.mH kE (ax (pv' 0))) (fun _ _ _ _=>(show PG _ _ (nG K 2 _) from dZ (n:=2) rfl (aH (aD (i:=0) (show (["level","failed"]:List Str).Nodup by decide +kernel) rfl orL) (aH (aD (i:=1) (show (["level","failed"]:List Str).Nodup by decide +kernel) rfl orL) cZ)))) (fun _ _ _ _=>(kD (bZ (pv' 1)))) (fun _ _ _ _=>(pv' 0)))),?_⟩
 obtain ⟨⟨dx,hob⟩,⟨as,hcs,hT⟩,hfl,hst,nn,ln⟩:=id hB
 k_mem
 refine fgo hob T.bx T.cz rfl ?_
 k_mem
 refine ⟨⟨_,SqL.of hfl⟩,?_⟩
 have gi:∀i,i < fs.length->(fs.map V.bl)[i]?=some (V.bl (fs.getD i false)):=fun i hi=>by
  rw [List.getElem?_map,List.getD_eq_getElem?_getD,List.getElem?_eq_getElem hi];rfl
 refine lY fs.length (fun i acc H'=>av H H'/\acc=(jw fs i).map V.int) ⟨av.refl H,rfl⟩ ?_ ?_ ?_ ?_
 ·rintro i acc H' hi ⟨s1,_⟩
  k_upd
  exact ⟨_,_,s1.seq (SqL.of hfl),gi i hi⟩
 ·rintro acc H' ⟨s1,_⟩
  k_upd
  exact ⟨_,s1.seq (SqL.of hfl),by rw [WB];exact Nat.le_refl _⟩
 ·rintro i acc H' hi ⟨s1,rfl⟩
  k_upd
  refine ⟨by have:=uz fs i;rw [WB,sizeLine_eq];omega,?_⟩
  rintro x H2 ⟨tp,z,rfl,htp,rfl,hz⟩ M hM
  have e:=hz _ (s1.seq (SqL.of hfl))
  rw [gi i hi] at e
  cases e
  k_mem
  refine ⟨_,SqT.of ag,rfl,?_⟩
  k_mem
  refine ⟨⟨rfl,fun k v e=>?_⟩,?_⟩
  ·match k,e with
   | 0,e=>cases e
   | 1,e=>cases e
   | k+2,e=>simp at e
  ·have gs:=yY fs i
   k_upd
   split
   ·rename_i h
    refine hM _ _ ⟨s1.lay htp,?_⟩
    rw [gs,if_pos h,List.map_append];rfl
   ·rename_i h
    refine hM _ _ ⟨s1.lay htp,?_⟩
    rw [gs,if_neg h,List.append_nil]
 ·rintro acc H' ⟨s1,rfl⟩ p hp
  k_upd
  exact q p _ (s1.free hp) (s1.lay hp) ag
variable (qu:KM P w K mg base CX0 1 Z.bD "dead" (jQ K Z))
def JJ (a:Addr)(ds:List Int)(H:Hp)(i:Nat)(σ:St)(H':Hp):Prop:=H'=H/\(∃t,σ=[some (.ref a),t,none])/\∀j,j < i->0<=ds.getD j 0/\ds.getD j 0<=500
def JK (a:Addr)(ds:List Int)(H:Hp)(i:Nat)(σ:St)(H':Hp):Prop:=H'=H/\(∃t u,σ=[some (.ref a),t,u])/\∀j,j < i->ds.getD j 0 < ds.getD (j+1) 0
inductive gE (K:WA)(Z:Adr)(vs:List V)(H:Hp)(Q:VK)(E:XK):Prop | mk (a:Addr) (ds:List Int):vs=[.ref a]->SqL K H a (ds.map V.int)->ds.length<=100000->((bX ds->Q .non H))->((¬bX ds->E (.ref Z.ku) none H))->gE K Z vs H Q E
include T in
theorem tN:FF P w K mg base (CXf P w) 1 "check_depths" "check_depths" iE md (gE K Z):=fkF gv fun vs H Q E h=>by
 obtain ⟨a,ds,rfl,hS,hl,q1,q2⟩:=h
 k_all
 refine seg 2 (ah (cR yJ rfl (uG (by rfl) T.cj (pa2 af (aG az (by rfl) T.bR bb (pa1 (pv' 0))))) (aD (i:=2) gv.nd rfl orL) (ah (aM (KL (ao au (pv' 0) (pv' 2)) (ao au (pv' 0) (aQ di (pv' 2) af))) (ah (bh T.mK (by rfl) T.mI (pa1 aE))) (aC))))) fun zt2 zh2 ze2=>?_
 refine seg 1 (ae (cR yJ rfl (dk (pv' 0)) (aD (i:=1) gv.nd rfl orL) (ah (aM (pj (pO (pv' 1) af) (lQ (zp (pv' 1) (cX (by rfl) T.rS)))).pt (ah (bh T.mK (by rfl) T.mI (pa1 aE))) (aC)))) zh2) fun zt1 zh1 ze1=>?_
 refine ⟨_,ae (aM (pj (pO (aG az (by rfl) T.bR bb (pa1 (pv' 0))) (cX (by rfl) T.tK)) (lQ (zp (aG az (by rfl) T.bR bb (pa1 (pv' 0))) (cX (by rfl) T.we)))).pt (ah (bh T.mK (by rfl) T.mI (pa1 aE))) (aC)) zh1,?_⟩
 k_mem
 refine ⟨_,.inl hS,?_⟩
 rw [WB]
 k_upd
 split
 ·k_upd
  exact ⟨by decide,q2 fun h=>by have:=h.l2;omega⟩
 ·k_upd
  refine ⟨_,.inl hS,?_⟩
  rw [WB]
  k_upd
  split
  ·k_upd
   exact ⟨by decide,q2 fun h=>by have:=h.l6;omega⟩
  ·k_upd
   refine ⟨⟨_,hS⟩,?_⟩
   k_upd
   refine kb (ds.map V.int) (JJ a ds H) ⟨rfl,⟨_,rfl⟩,fun j h=>absurd h (Nat.not_lt_zero _)⟩ (fun i σ H' _ ⟨e,_⟩=>by rw [e];exact hS) ?_ ?_
   ·rintro i x σ H' hx ⟨rfl,⟨t,rfl⟩,hj⟩
    obtain ⟨d,rfl,hd,hmem⟩:=kG hx
    have hi:i < ds.length:=(List.getElem?_eq_some_iff.mp hd).1
    have hdg:ds.getD i 0=d:=by rw [List.getD_eq_getElem?_getD,hd];rfl
    k_mem
    split
    ·k_upd
     exact ⟨by decide,q2 fun h=>by have:=h.lo d hmem;omega⟩
    ·split
     ·k_upd
      exact ⟨by decide,q2 fun h=>by have:=h.hi d hmem;omega⟩
     ·k_upd
      refine ⟨rfl,⟨_,rfl⟩,fun j hj'=>?_⟩
      by_cases e:j=i
      ·rw [e,hdg];omega
      ·exact hj j (by omega)
   ·rintro σ H' ⟨rfl,⟨t,rfl⟩,hb⟩
    rw [WB] at hb
    k_mem
    refine ⟨_,.inl hS,⟨by decide,by decide,by rw [WB];omega,by rw [WB];omega⟩,?_⟩
    k_upd
    refine bK (JK a ds H') ⟨rfl,⟨_,_,rfl⟩,fun j h=>absurd h (Nat.not_lt_zero _)⟩ ?_ ?_
    ·rintro i σ H' hi ⟨rfl,⟨t,u,rfl⟩,hj⟩
     rw [WB] at hi
     k_mem
     refine ⟨_,hS,_,dh (by omega) (by omega),_,hS,_,dh (by omega) (by omega),?_⟩
     k_mem
     rw [show (1+(i:Int)).toNat=i+1 by omega,show (1+(i:Int) - 1).toNat=i by omega]
     k_upd
     split
     ·k_upd
      refine ⟨by decide,q2 fun h=>?_⟩
      have:=h.lt (i:=i) (j:=i+1) (by omega) (by omega)
      omega
     ·k_upd
      refine ⟨rfl,⟨_,_,rfl⟩,fun j hj'=>?_⟩
      by_cases e:j=i
      ·rw [e];omega
      ·exact hj j (by omega)
    ·rintro σ H' ⟨rfl,⟨t,u,rfl⟩,hu⟩
     rw [WB] at hu
     k_mem
     exact q1 (bX.of (by omega) (by omega) hb fun i hi=>hu i (by omega))
variable (mO:KD P w K mg base (CXf P w) 1 "check_depths" (gE K Z))
inductive jR (K:WA)(Z:Adr)(vs:List V)(H:Hp)(Q:VK)(E:XK):Prop | mk (a:Addr) (ds:List Int):vs=[.ref a]->SqL K H a (ds.map V.int)->0 < ds.length->Q (.int (bY ds)) H->jR K Z vs H Q E
include T in
theorem wB:FF P w K mg base CX0 1 "drum_whole" "drum_whole" kW pX (jR K Z):=fk0 v8 fun vs H Q E h=>by
 obtain ⟨a,ds,rfl,hS,hl,q⟩:=h
 k_all
 refine ⟨_,ah (aB (ao au (pv' 0) (aQ di (aG az (by rfl) T.bR bb (pa1 (pv' 0))) af))),?_⟩
 k_mem
 refine ⟨_,.inl hS,_,hS,_,dh (by rw [WB];omega) (by rw [WB];omega),?_⟩
 rw [WB,show ((ds.length:Int) - 1).toNat=ds.length - 1 by omega]
 k_upd
 exact q
variable (qv:KD P w K mg base CX0 1 "drum_whole" (jR K Z))
def Fc (a:Addr)(ds:List Int)(d:Int)(H:Hp)(i:Nat)(σ:St)(H':Hp):Prop:=H'=H/\(∃t,σ=[some (.ref a),some (.int d),t])/\∀j,j < i->ds.getD j 0≠d
inductive mP (K:WA)(Z:Adr)(vs:List V)(H:Hp)(Q:VK)(E:XK):Prop | mk (a:Addr) (ds:List Int) (d:Int):vs=[.ref a,.int d]->SqL K H a (ds.map V.int)->ds.length<=100000->((∀i:Nat,i < ds.length->ds.getD i 0=d->Q (.int i) H))->(((∀i,i < ds.length->ds.getD i 0≠d)->Q .non H))->mP K Z vs H Q E
include T in
theorem zJ:FF P w K mg base CX0 1 "level_at" "level_at" oA uK (mP K Z):=fk0 sU fun vs H Q E h=>by
 obtain ⟨a,ds,d,rfl,hS,hl,q1,q2⟩:=h
 k_all
 refine seg 1 (ah (aB dI)) fun zt1 zh1 ze1=>?_
 refine ⟨_,ae (cR PassesOwn.never rfl (bj (by rfl) T.cj (pa1 (aG az (by rfl) T.bR bb (pa1 (pv' 0))))) (aD (i:=2) sU.nd rfl orL) (ah (aM (bH (ao au (pv' 0) (pv' 2)) (pv' 1)) (ah (aB (pv' 2))) (aC)))) zh1,?_⟩
 k_mem
 refine ⟨_,.inl hS,by omega,by rw [WB];omega,bK (Fc a ds d H) ⟨rfl,⟨_,rfl⟩,fun _ h=>absurd h (Nat.not_lt_zero _)⟩ ?_ ?_⟩
 ·rintro i σ H' hi ⟨rfl,⟨t,rfl⟩,hj⟩
  rw [WB] at hi
  have hi':i < ds.length:=by omega
  k_mem
  refine ⟨_,hS,_,by rw [Int.zero_add];exact gg hi',?_⟩
  k_mem
  split
  ·rename_i he
   rw [Int.zero_add]
   k_upd
   exact q1 i hi' he
  ·rename_i he
   k_upd
   refine ⟨rfl,⟨_,rfl⟩,fun j hj'=>?_⟩
   by_cases e:j=i
   ·rw [e];exact he
   ·exact hj j (by omega)
 ·rintro σ H' ⟨rfl,⟨t,rfl⟩,hj⟩
  k_mem
  refine q2 fun i hi=>hj i ?_
  rw [WB]
  omega
variable (vq:KD P w K mg base CX0 1 "level_at" (mP K Z))
inductive gF (K:WA)(Z:Adr)(vs:List V)(H:Hp)(Q:VK)(E:XK):Prop | mk (sl fa:Int):vs=[.int sl,.int fa]->(if 1<=sl/\sl<=fa/\fa<=500 then Q .non H else E (.ref Z.kv) none H)->gF K Z vs H Q E
include T in
theorem tO:FF P w K mg base (CXf P w) 1 "check_speeds" "check_speeds" iF me (gF K Z):=fkF tI fun vs H Q E h=>by
 obtain ⟨sl,fa,rfl,q⟩:=h
 k_all
 refine ⟨_,ah (aM (pj (pO (pv' 0) af) (pj (pO (pv' 1) (pv' 0)) (lQ (zp (pv' 1) (cX (by rfl) T.rT))))).pt (ah (bh T.zH (by rfl) T.zE (pa1 aE))) (aC)),?_⟩
 k_mem
 split
 ·rw [if_neg (by omega)] at q
  k_upd
  exact ⟨by decide,q⟩
 ·split
  ·rw [if_neg (by omega)] at q
   k_upd
   exact ⟨by decide,q⟩
  ·split
   ·rw [if_neg (by omega)] at q
    k_upd
    exact ⟨by decide,q⟩
   ·rw [if_pos (by omega)] at q
    k_upd
    exact q
variable (mQ:KD P w K mg base (CXf P w) 1 "check_speeds" (gF K Z))
inductive jS (K:WA)(Z:Adr)(vs:List V)(H:Hp)(Q:VK)(E:XK):Prop | mk (wy sp:Int):vs=[.int wy,.int sp]->0 < sp->sp < 2 ^ 200->Q (.int ((wy+sp - 1) / sp)) H->jS K Z vs H Q E
include T in
theorem wC:FF P w K mg base CX0 1 "wind_ticks" "wind_ticks" kX pY (jS K Z):=fk0 v9 fun vs H Q E h=>by
 obtain ⟨wy,sp,rfl,h0,h1,q⟩:=h
 k_all
 refine ⟨_,ah (aB (aQ CL (aQ di (aQ bf (pv' 0) (pv' 1)) af) (pv' 1))),?_⟩
 k_mem
 exact ⟨⟨h0,h1⟩,q⟩
variable (qw:KD P w K mg base CX0 1 "wind_ticks" (jS K Z))
noncomputable abbrev clZ (Z:Adr):Cl:=⟨Z.bD,Z.eh,Z.dG,Z.mG,Z.aY⟩
inductive fS (K:WA)(Z:Adr)(vs:List V)(H:Hp)(Q:VK)(E:XK):Prop | mk (x dx o b y:Addr) (pl:Int) (gs:List Bool):vs=[.ref x,.int pl,.ref o,.ref b,.ref y]->H x=some (.ins Z.dG dx [])->SqL K H o (gs.map V.bl)->(∀(ol:Addr) (H':Hp),H ol=none->aA x H H'->H' x=some (.ins Z.dG dx [("place",.int pl),("opened",.ref ol),("bells",.ref b),("yard",.ref y)])->H' ol=some (.lst (gs.map V.bl))->Q .non H')->fS K Z vs H Q E
include T in
theorem rV:FF P w K mg base CX0 1 "__init__" "Standing.__init__" gw lL (fS K Z):=fk0 rC fun vs H Q E h=>by
 obtain ⟨x,dx,o,b,y,pl,gs,rfl,hx,hO,q⟩:=h
 k_all
 refine ⟨_,ae (bL (pv' 0) (pv' 1) rfl) (ae (bL (pv' 0) (bc aX (by rfl) T.dC cB (pa1 (pv' 2))) rfl) (ae (bL (pv' 0) (pv' 3) rfl) (ah (bL (pv' 0) (pv' 4) rfl)))),?_⟩
 k_mem
 refine ⟨_,_,_,hx,T.aJ,T.cy,by decide,?_⟩
 have k1:L2.aA x H (upd H x (HO.ins Z.dG dx (br "place" (.int pl) []))):=(aA.of (av.refl H)).put
 refine ⟨_,.inl (hO.keepI k1 hx),fun ol hol=>?_⟩
 have nol:ol≠x:=fun z=>by rw [z,ag] at hol;cases hol
 refine ⟨_,_,_,upo ag hol,T.aJ,T.bW,by show 1 < 1000;decide,_,_,_,ag,T.aJ,T.bN,by show 2 < 1000;decide,_,_,_,ag,T.aJ,T.bq,by show 3 < 1000;decide,?_⟩
 refine q ol _ (k1.free nol hol) (((k1.trans (aA.of ((av.refl _).lay hol))).put).put.put) ?_ ?_
 ·rw [ag];rfl
 ·rw [aK nol,aK nol,aK nol,ag]
variable (eQ:KN P w K mg base CX0 1 Z.dG (fS K Z))
inductive lA (K:WA)(Z:Adr)(vs:List V)(H:Hp)(Q:VK)(E:XK):Prop | mk (x dx f:Addr):vs=[.ref x,.ref f,.int 300]->H x=some (.ins Z.mG dx [])->(∀(rl:Addr) (H':Hp),H rl=none->aA x H H'->H' x=some (.ins Z.mG dx [("first",.ref f),("most",.int 300),("rows",.ref rl)])->H' rl=some (.lst [])->Q .non H')->lA K Z vs H Q E
include T in
theorem yu:FF P w K mg base CX0 1 "__init__" "Book.__init__" mq sP (lA K Z):=fk0 yi fun vs H Q E h=>by
 obtain ⟨x,dx,f0,rfl,hx,q⟩:=h
 k_all
 refine ⟨_,ae (bL (pv' 0) (pv' 1) rfl) (ae (bL (pv' 0) (pv' 2) rfl) (ah (bL (pv' 0) (bw fL) rfl))),?_⟩
 k_mem
 refine ⟨_,_,_,hx,T.c7,T.nZ,by decide,_,_,_,ag,T.c7,T.qt,by show 1 < 1000;decide,by decide,fun rl hrl=>?_⟩
 have k1:L2.aA x H (upd (upd H x (HO.ins Z.mG dx (br "first" (.ref f0) []))) x (HO.ins Z.mG dx (br "most" (.int 300) (br "first" (.ref f0) [])))):=((aA.of (av.refl H)).put).put
 have nrl:rl≠x:=fun z=>by rw [z,ag] at hrl;cases hrl
 refine ⟨_,_,_,upo ag hrl,T.c7,T.bJ,by show 2 < 1000;decide,?_⟩
 refine q rl _ (k1.free nrl hrl) ((k1.trans (aA.of ((av.refl _).lay hrl))).put) ?_ ?_
 ·rw [ag];rfl
 ·rw [aK nrl,ag]
variable (sZ:KN P w K mg base CX0 1 Z.mG (lA K Z))
inductive iT (K:WA)(Z:Adr)(vs:List V)(H:Hp)(Q:VK)(E:XK):Prop | mk (bk rl:Addr) (g:Cfg) (n0:aO) (rs:List Row):vs=[.ref bk]->BAt (clZ Z) K H bk rl g n0 rs->((rs=[]->E (.ref Z.gj) none H))->((∀rs' r,rs=rs'++[r]->∀p H',aA rl H H'->BAt (clZ Z) K H' bk rl g n0 rs'->SqT K H' p r.deed->Q (.ref p) H'))->iT K Z vs H Q E
include T in
theorem vt:FF P w K mg base (CXf P w) 1 "strike" "Book.strike" jF nN (iT K Z):=fkF uS fun vs H Q E h=>by
 obtain ⟨bk,rl,g,n0,rs,rfl,hB,q1,q2⟩:=h
 k_all
 refine seg 1 (ah (aB (ao aw (Ak PySem.F.plainAttrs_list PySem.F.slot_list_pop PySem.F.type_list_pop ye (ax (pv' 0))) af))) fun zt1 zh1 ze1=>?_
 refine ⟨_,ae (aM (dw (uh (ax (pv' 0)) (fun _=>rfl))) (ah (bh T.wu (by rfl) T.wm (pa1 aE))) (aC)) zh1,?_⟩
 obtain ⟨⟨dx,f0,hob,hF⟩,as,hrl,hR⟩:=id hB
 k_mem
 refine fgo hob T.c7 T.bJ rfl ⟨_,.inl ⟨_,SqL.of hrl,rfl⟩,?_⟩
 rcases cH rs with rfl | ⟨rs',r,rfl⟩
 ·have e:as=[]:=List.length_eq_zero_iff.mp hR.1
  subst e
  k_upd
  exact ⟨by decide,q1 rfl⟩
 ·obtain ⟨as',a,rfl,hR',dd,s,hra,hdd,hs⟩:=hR.last
  k_upd
  rw [if_neg (by simp)]
  k_upd
  refine fgo hob T.c7 T.bJ rfl ?_
  k_mem
  refine ⟨.inl ⟨rfl,_,SqL.of hrl⟩,_,hrl,.ref a,by simp,?_⟩
  have k1:L2.aA rl H (upd H rl (HO.lst ((as'++[a]).map V.ref).dropLast)):=(aA.of (av.refl H)).put
  k_mem
  refine ⟨_,hra.keep k1 hrl,_,rfl,?_⟩
  refine q2 rs' r rfl dd _ k1 ⟨⟨dx,f0,k1 _ _ (fun z=>by rw [z,hrl] at hob;cases hob) hob,hF.keep k1 hrl⟩,as',by rw [ag];simp,hR'.keep k1 hrl⟩ (hdd.keep k1 hrl)
variable (n9:KM P w K mg base (CXf P w) 1 Z.mG "strike" (iT K Z))
inductive mR (K:WA)(Z:Adr)(vs:List V)(H:Hp)(Q:VK)(E:XK):Prop | mk (bk rl:Addr) (g:Cfg) (n0:aO) (rs:List Row):vs=[.ref bk]->BAt (clZ Z) K H bk rl g n0 rs->Q (.int (cD rs)) H->mR K Z vs H Q E
include T in
theorem zK:FF P w K mg base CX0 1 "now" "Book.now" oC uM (mR K Z):=fk0 zB fun vs H Q E h=>by
 obtain ⟨bk,rl,g,n0,rs,rfl,hB,q⟩:=h
 k_all
 refine seg 1 (ah (aB (ao aw (ao au (ax (pv' 0)) (aQ di (aG az (by rfl) T.bR bb (pa1 (ax (pv' 0)))) af)) af))) fun zt1 zh1 ze1=>?_
 refine ⟨_,ae (aM (dw (uh (ax (pv' 0)) (fun _=>rfl))) (ah (aB af)) (aC)) zh1,?_⟩
 obtain ⟨⟨dx,f0,hob,hF⟩,as,hrl,hR⟩:=id hB
 k_mem
 refine fgo hob T.c7 T.bJ rfl ⟨_,.inl ⟨_,SqL.of hrl,rfl⟩,?_⟩
 rcases cH rs with rfl | ⟨rs',r,rfl⟩
 ·have e:as=[]:=List.length_eq_zero_iff.mp hR.1
  subst e
  k_upd
  exact q
 ·obtain ⟨as',a,rfl,hR',dd,s,hra,_,_⟩:=hR.last
  k_upd
  rw [if_neg (by simp)]
  k_upd
  refine fgo hob T.c7 T.bJ rfl ?_
  k_mem
  refine fgo hob T.c7 T.bJ rfl ?_
  k_mem
  refine ⟨_,.inl (SqL.of hrl),_,SqL.of hrl,_,xc,?_⟩
  k_mem
  refine ⟨_,hra,_,rfl,?_⟩
  rw [nq] at q
  k_upd
  exact q
variable (lB:KM P w K mg base CX0 1 Z.mG "now" (mR K Z))
inductive iU (K:WA)(Z:Adr)(vs:List V)(H:Hp)(Q:VK)(E:XK):Prop | mk (bk rl:Addr) (g:Cfg) (n0:aO) (rs:List Row):vs=[.ref bk]->BAt (clZ Z) K H bk rl g n0 rs->(∀s,dM (clZ Z) K H rl g s (ak n0 rs)->Q (.ref s) H)->iU K Z vs H Q E
include T in
theorem vv:FF P w K mg base CX0 1 "latest" "Book.latest" jG nO (iU K Z):=fk0 uT fun vs H Q E h=>by
 obtain ⟨bk,rl,g,n0,rs,rfl,hB,q⟩:=h
 k_all
 refine seg 1 (ah (aB (ao aw (ao au (ax (pv' 0)) (aQ di (aG az (by rfl) T.bR bb (pa1 (ax (pv' 0)))) af)) af))) fun zt1 zh1 ze1=>?_
 refine ⟨_,ae (aM (dw (uh (ax (pv' 0)) (fun _=>rfl))) (ah (aB (ax (pv' 0)))) (aC)) zh1,?_⟩
 obtain ⟨⟨dx,f0,hob,hF⟩,as,hrl,hR⟩:=id hB
 k_mem
 refine fgo hob T.c7 T.bJ rfl ⟨_,.inl ⟨_,SqL.of hrl,rfl⟩,?_⟩
 rcases cH rs with rfl | ⟨rs',r,rfl⟩
 ·have e:as=[]:=List.length_eq_zero_iff.mp hR.1
  subst e
  k_upd
  exact fgo hob T.c7 T.nZ rfl (q f0 hF)
 ·obtain ⟨as',a,rfl,hR',dd,s,hra,_,hs⟩:=hR.last
  k_upd
  rw [if_neg (by simp)]
  k_upd
  refine fgo hob T.c7 T.bJ rfl ?_
  k_mem
  refine fgo hob T.c7 T.bJ rfl ?_
  k_mem
  refine ⟨_,.inl (SqL.of hrl),_,SqL.of hrl,_,xc,?_⟩
  k_mem
  refine ⟨_,hra,_,rfl,?_⟩
  rw [jf] at q
  k_upd
  exact q s hs
variable (aI:KM P w K mg base CX0 1 Z.mG "latest" (iU K Z))
inductive lD (K:WA)(Z:Adr)(vs:List V)(H:Hp)(Q:VK)(E:XK):Prop | mk (bk rl:Addr) (g:Cfg) (n0:aO) (rs:List Row):vs=[.ref bk]->BAt (clZ Z) K H bk rl g n0 rs->rs.length<=1000->(∀(p:Addr) (as:List Addr) (H':Hp),H p=none->av H H'->H' p=some (.lst (as.map V.ref))->cE K H' as rs->Q (.ref p) H')->lD K Z vs H Q E
include T in
theorem yv:FF P w K mg base CX0 1 "told" "Book.told" mr sQ (lD K Z):=fk0 yj fun vs H Q E h=>by
 obtain ⟨bk,rl,g,n0,rs,rfl,hB,hn,q⟩:=h
 k_all
 refine ⟨_,ah (aB (ka ["began","ended","deed","speed","standing"] [none,none,none,none,none] (dk (ax (pv' 0))) (fun _ _ _ _=>(show PG _ _ (nG K 5 _) from dZ (n:=5) rfl (aH (aD (i:=0) (show (["began","ended","deed","speed","standing"]:List Str).Nodup by decide +kernel) rfl orL) (aH (aD (i:=1) (show (["began","ended","deed","speed","standing"]:List Str).Nodup by decide +kernel) rfl orL) (aH (aD (i:=2) (show (["began","ended","deed","speed","standing"]:List Str).Nodup by decide +kernel) rfl orL) (aH (aD (i:=3) (show (["began","ended","deed","speed","standing"]:List Str).Nodup by decide +kernel) rfl orL) (aH (aD (i:=4) (show (["began","ended","deed","speed","standing"]:List Str).Nodup by decide +kernel) rfl orL) cZ))))))) (fun _ _ _ _=>fj) (fun _ _ _ _=>(aR (pa3 (pv' 0) (pv' 1) (pv' 2)))))),?_⟩
 obtain ⟨⟨dx,f0,hob,hF⟩,as,hrl,hR⟩:=id hB
 have hl:=hR.1
 k_mem
 refine fgo hob T.c7 T.bJ rfl ?_
 k_mem
 refine ⟨⟨_,SqL.of hrl⟩,?_⟩
 refine lY rs.length (fun i acc H'=>av H H'/\∃bs:List Addr,acc=bs.map V.ref/\cE K H' bs (rs.take i)) ⟨av.refl H,[],rfl,rfl,fun i a r e _=>by simp at e⟩ ?_ ?_ ?_ ?_
 ·rintro i acc H' hi ⟨s1,_⟩
  have hi':i < as.length:=by omega
  k_upd
  exact ⟨_,.ref as[i],SqL.of (s1 _ _ hrl),by rw [List.getElem?_map,List.getElem?_eq_getElem hi'];rfl⟩
 ·rintro acc H' ⟨s1,_⟩
  k_upd
  exact ⟨_,SqL.of (s1 _ _ hrl),by rw [WB];omega⟩
 ·rintro i acc H1 hi ⟨s1,bs,rfl,hb⟩
  have hi':i < as.length:=by omega
  have hbl:=hb.1
  rw [List.length_take] at hbl
  k_upd
  refine ⟨cw (by rw [WB];omega),?_⟩
  rintro x H2 ⟨e2,y⟩ M hM
  subst e2
  have hy:=y _ (SqL.of (s1 _ _ hrl))
  rw [List.getElem?_map,List.getElem?_eq_getElem hi'] at hy
  cases hy
  obtain ⟨dd,s,hra,hdd,_⟩:=hR.2 i _ _ (List.getElem?_eq_getElem hi') (List.getElem?_eq_getElem hi)
  k_mem
  refine ⟨_,s1.tup hra,rfl,?_⟩
  k_mem
  refine ⟨⟨rfl,fun k v e=>?_⟩,?_⟩
  ·match k,e with
   | 0,e=>cases e
   | 1,e=>cases e
   | 2,e=>cases e
   | 3,e=>cases e
   | 4,e=>cases e
   | k+5,e=>simp at e
  ·k_upd
   refine ⟨by decide,fun p hp=>hM _ _ ⟨s1.lay hp,bs++[p],by rw [List.map_append];rfl,?_⟩⟩
   rw [List.take_succ_eq_append_getElem hi]
   exact (hb.same ((av.refl _).lay hp)).push ⟨dd,SqT.of ag,(s1.lay hp).tup hdd⟩
 ·rintro acc H1 ⟨s1,bs,rfl,hb⟩ p hp
  rw [List.take_length] at hb
  k_upd
  exact q p bs _ (s1.free hp) (s1.lay hp) ag (hb.same ((av.refl H1).lay hp))
variable (td:KM P w K mg base CX0 1 Z.mG "told" (lD K Z))
inductive yw (K:WA)(Z:Adr)(vs:List V)(H:Hp)(Q:VK)(E:XK):Prop | mk (a:Addr) (ns:List Int) (k:Int):vs=[.ref a,.int k]->SqL K H a (ns.map V.int)->0<=k->Q (.int (ns.getD k.toNat 0)) H->yw K Z vs H Q E
include T in
theorem G1:FF P w K mg base CX0 1 "_law_at" "_law_at" AZ E2 (yw K Z):=fk0 GV fun vs H Q E h=>by
 obtain ⟨a,ns,k,rfl,hS,hk,q⟩:=h
 k_all
 refine seg 1 (ah (aB af)) fun zt1 zh1 ze1=>?_
 refine ⟨_,ae (aM (pO (pv' 1) (aG az (by rfl) T.bR bb (pa1 (pv' 0)))) (ah (aB (ao au (pv' 0) (pv' 1)))) (aC)) zh1,?_⟩
 k_mem
 refine ⟨_,.inl hS,?_⟩
 rw [WB]
 k_upd
 split
 ·rename_i hlt
  k_upd
  exact ⟨_,hS,_,dh hk hlt,q⟩
 ·rename_i hlt
  rw [DS (by omega)] at q
  k_upd
  exact q
variable (iV:KD P w K mg base CX0 1 "_law_at" (yw K Z))
def G2 (c k n:Int)(H:Hp)(_:Nat)(σ:St)(H':Hp):Prop:=H'=H/\∃r t,σ=[some (.int c),some (.int k),some (.int n),some (.int r),t,none]
inductive rW (K:WA)(Z:Adr)(vs:List V)(H:Hp)(Q:VK)(E:XK):Prop | mk (c k n:Int):vs=[.int c,.int k,.int n]->0<=k->k<=100000->0 < n->(∀r:Int,0<=r->r < n->Q (.int r) H)->rW K Z vs H Q E
include T in
theorem CP:FF P w K mg base CX0 1 "_law_draw" "_law_draw" uZ zq (rW K Z):=fk0 ko fun vs H Q E h=>by
 obtain ⟨c,k,n,rfl,hk0,hk1,hn,q⟩:=h
 k_all
 refine seg 2 (ah (aB (aQ pN (gT (cb (aQ ua (pv' 5) (aQ bf (pv' 5) af)) af) af) (pv' 2)))) fun zt2 zh2 ze2=>?_
 refine seg 1 (ae (aF (i:=5) ko.nd rfl orL (cb (aQ bf (aQ bf (uc (pv' 0) af) (uc (pv' 1) af)) af) af)) zh2) fun zt1 zh1 ze1=>?_
 refine ⟨_,ae (aM (bH (cb (pv' 0) af) af) (ae (aF (i:=3) ko.nd rfl orL (gT (pv' 0) af)) (ae (cR PassesOwn.never rfl (bj (by rfl) T.cj (pa1 (pv' 1))) (aD (i:=4) ko.nd rfl orL) (ah (aF (i:=3) ko.nd rfl orL (gT (pv' 3) af)))) (ah (aB (aQ pN (cb (pv' 3) af) (pv' 2)))))) (aC)) zh1,?_⟩
 k_mem
 split
 ·k_upd
  refine ⟨by omega,by omega,bK (G2 c k n H) ⟨rfl,_,_,rfl⟩ ?_ ?_⟩
  ·rintro i σ H' hi ⟨rfl,r,t,rfl⟩
   k_mem
   exact ⟨rfl,_,_,rfl⟩
  ·rintro σ H' ⟨rfl,r,t,rfl⟩
   k_mem
   exact ⟨hn,q _ (Int.emod_nonneg _ (by omega)) (Int.emod_lt_of_pos _ hn)⟩
 ·k_upd
  refine ⟨.inl ⟨by omega,by omega⟩,hn,q _ (Int.emod_nonneg _ (by omega)) (Int.emod_lt_of_pos _ hn)⟩
variable (bU:KD P w K mg base CX0 1 "_law_draw" (rW K Z))
inductive oR (K:WA)(Z:Adr)(vs:List V)(H:Hp)(Q:VK)(E:XK):Prop | mk (a:Addr) (ns:List Int) (k:Int):vs=[.ref a,.int k]->SqL K H a (ns.map V.int)->0<=k->k < ns.length->(∀n:Int,Q (.int n) H)->oR K Z vs H Q E
include T in
theorem Bc:FF P w K mg base CX0 1 "_law_mixed" "_law_mixed" rF xo (oR K Z):=fk0 oH fun vs H Q E h=>by
 obtain ⟨a,ns,k,rfl,hS,hk0,hk1,q⟩:=h
 k_all
 refine ⟨_,ae (aF (i:=2) oH.nd rfl orL (ao au (pv' 0) (pv' 1))) (ae (aM (bH (cb (ao au (pv' 0) af) af) af) (ah (aB (pv' 2))) (aC)) (ae (aF (i:=3) oH.nd rfl orL (cb (aQ bf (aQ bf (uc (pv' 2) af) (uc (pv' 1) af)) af) af)) (ah (aB (cb (aQ ua (pv' 3) (aQ bf (pv' 3) af)) af))))),?_⟩
 k_mem
 refine ⟨_,hS,_,dh hk0 hk1,_,hS,_,dh (ns:=ns) (k:=0) (by omega) (by omega),?_⟩
 k_mem
 split
 ·exact q _
 ·exact ⟨.inl ⟨by omega,by omega⟩,q _⟩
variable (nB:KD P w K mg base CX0 1 "_law_mixed" (oR K Z))
def KQ (a:Addr)(c pl:Int)(dp:Int)(ds:List Int)(H:Hp)(i:Nat)(σ:St)(H':Hp):Prop:=H'=H/\(∃t,σ=[some (.ref a),some (.int c),some (.int pl),some (.int dp),t])/\∀j,j < i->ds.getD j 0≠dp
theorem two_deep {p q c:Int}(h0:0<=c)(h1:c < 2):atI [V.int p,V.int q] c=some (.int (if c=0 then p else q)):=by
 rcases (by omega:c=0\/c=1) with rfl | rfl<;>rfl
inductive yx (K:WA)(Z:Adr)(vs:List V)(H:Hp)(Q:VK)(E:XK):Prop | mk (a:Addr) (ds:List Int) (c pl:Int):vs=[.ref a,.int c,.int pl]->SqL K H a (ds.map V.int)->bX ds->0<=c->c < 2->(∀H',av H H'->Q (.int ((bG ds pl c).getD (-1))) H')->yx K Z vs H Q E
include T in
theorem G3:FF P w K mg base CX0 1 "_law_by" "_law_by" A1 E3 (yx K Z):=fk0 yl fun vs H Q E h=>by
 obtain ⟨a,ds,c,pl,rfl,hS,hsh,h0,h1,q⟩:=h
 k_all
 refine seg 2 (ah (aB (j8 dY af))) fun zt2 zh2 ze2=>?_
 refine seg 1 (ae (cR PassesOwn.never rfl (bj (by rfl) T.cj (pa1 (aG az (by rfl) T.bR bb (pa1 (pv' 0))))) (aD (i:=4) yl.nd rfl orL) (ah (aM (bH (ao au (pv' 0) (pv' 4)) (pv' 3)) (ah (aB (pv' 4))) (aC)))) zh2) fun zt1 zh1 ze1=>?_
 refine ⟨_,ae (aF (i:=3) yl.nd rfl orL (ao au (bw (pa2 (pv' 2) (aQ di (ao au (pv' 0) (j8 dY af)) (pv' 2)))) (pv' 1))) zh1,?_⟩
 have l6:=hsh.l6
 have l2:=hsh.l2
 k_mem
 refine ⟨_,hS,_,Ap (by omega),?_⟩
 k_mem
 refine ⟨by decide,fun p hp=>⟨_,SqL.of ag,_,two_deep h0 h1,?_⟩⟩
 have s1:=(av.refl H).lay (o:=HO.lst [V.int pl,V.int (bY ds - pl)]) hp
 generalize upd H p (HO.lst [V.int pl,V.int (bY ds - pl)])=H1 at *
 have ec:bG ds pl c=lvl ds (if c=0 then pl else bY ds - pl):=by unfold bG;split<;>rfl
 generalize (if c=0 then pl else bY ds - pl)=dp at *
 k_mem
 refine ⟨_,.inl (s1.seq hS),by omega,by rw [WB];omega,?_⟩
 k_upd
 refine bK (KQ a c pl dp ds H1) ⟨rfl,⟨_,rfl⟩,fun _ h=>absurd h (Nat.not_lt_zero _)⟩ ?_ ?_
 ·rintro i σ H' hi ⟨rfl,⟨t,rfl⟩,hj⟩
  rw [WB] at hi
  have hi':i < ds.length:=by omega
  k_mem
  refine ⟨_,s1.seq hS,_,by rw [Int.zero_add];exact gg hi',?_⟩
  k_mem
  split
  ·rename_i he
   rw [Int.zero_add]
   have q':=q _ s1
   rw [ec,il hsh hi' he] at q'
   k_upd
   exact q'
  ·rename_i he
   k_upd
   refine ⟨rfl,⟨_,rfl⟩,fun j hj'=>?_⟩
   by_cases e:j=i
   ·rw [e];exact he
   ·exact hj j (by omega)
 ·rintro σ H' ⟨rfl,⟨t,rfl⟩,hj⟩
  k_mem
  have q':=q _ s1
  rw [ec,yP (fun i hi=>hj i (by rw [WB];omega))] at q'
  k_upd
  exact q'
variable (oS:KD P w K mg base CX0 1 "_law_by" (yx K Z))
theorem G4 (x:List V)(k:Nat)(h:k < x.length):pw x none (some (k:Int))=x.take k/\¬(HT.sIx x.length 0 none=0/\HT.sIx x.length x.length (some (k:Int))=x.length):=by
 have e:HT.sIx x.length x.length (some (k:Int))=k:=by simp only [HT.sIx];split<;>omega
 refine ⟨?_,fun z=>by rw [e] at z;omega⟩
 unfold pw
 rw [e]
 simp [HT.sIx]
theorem G5 (x:List V)(k:Nat)(h0:0 < k)(h:k<=x.length):pw x (some (k:Int)) none=x.drop k/\¬(HT.sIx x.length 0 (some (k:Int))=0/\HT.sIx x.length x.length none=x.length):=by
 have e:HT.sIx x.length 0 (some (k:Int))=k:=by simp only [HT.sIx];split<;>omega
 refine ⟨?_,fun z=>by rw [e] at z;omega⟩
 unfold pw
 rw [e]
 simp only [HT.sIx]
 exact List.take_of_length_le (by simp)
theorem Fd (x:List V)(k:Nat)(v:V)(h:k < x.length):x.take k++[v]++x.drop (k+1)=x.set k v:=by
 rw [List.set_eq_take_append_cons_drop,if_pos h,List.append_assoc];rfl
inductive rX (K:WA)(Z:Adr)(vs:List V)(H:Hp)(Q:VK)(E:XK):Prop | mk (t:Addr) (x:List V) (k:Int) (s:V):vs=[.ref t,.int k,s]->SqT K H t x->0<=k->k < x.length->x.length<=100->(∀p H',av H H'->H' p=some (.tup (x.set k.toNat s))->Q (.ref p) H')->rX K Z vs H Q E
include T in
theorem CQ:FF P w K mg base CX0 1 "_law_swap" "_law_swap" u9 zr (rX K Z):=fk0 CM fun vs H Q E h=>by
 obtain ⟨t,x,k,s,rfl,hT,h0,h1,hl,q⟩:=h
 k_all
 refine ⟨_,ah (aB (aQ zm (aQ zm (uk B1 (pv' 0) Bs (pP (pv' 1))) (aR (pa1 (pv' 2)))) (uk B1 (pv' 0) (pP (aQ bf (pv' 1) af)) Bs))),?_⟩
 obtain ⟨k,rfl⟩:=Int.eq_ofNat_of_zero_le h0
 rw [Int.toNat_natCast,←Fd x k s (by omega)] at q
 obtain ⟨c1,n1⟩:=G4 x k (by omega)
 obtain ⟨c2,n2⟩:=G5 x (k+1) (by omega) (by omega)
 k_mem
 rw [show ((k:Int)+1)=((k+1:Nat):Int) from rfl]
 k_upd
 refine ⟨_,hT,n1,?_⟩
 rw [c1]
 refine fun p1 h1'=>⟨by decide,fun p2 h2'=>⟨_,upo ag h2',_,ag,(by rw [List.length_take];show _+1<=1000;omega),fun p3 H3 s3 t3=>?_⟩⟩
 have s2:=(((av.refl H).lay h1').lay h2').trans s3
 k_upd
 refine ⟨_,s2.tup hT,n2,?_⟩
 rw [c2]
 refine fun p4 h4=>⟨_,upo t3 h4,_,ag,(by simp only [List.length_append,List.length_take,List.length_drop,List.length_singleton];omega),fun p5 H5 s5 t5=>?_⟩
 k_upd
 exact q p5 H5 ((s2.lay h4).trans s5) t5
variable (qx:KD P w K mg base CX0 1 "_law_swap" (rX K Z))
theorem CS {w s t:Int}(hs:1<=s)(h1:w<=t * s)(h2:t=0\/(t - 1) * s < w)(h0:0<=t)(hw:0<=w):t=xV w s:=by
 have c:=Aq (w:=w) (s:=s) hw (by omega)
 unfold xV
 generalize (w+s - 1) / s=u at *
 obtain ⟨u0,u1,u2,_⟩:=c
 rcases Int.lt_trichotomy t u with h | h | h
 ·exfalso
  have:t<=u - 1:=by omega
  have:=Int.mul_le_mul_of_nonneg_right this (show 0<=s by omega)
  omega
 ·exact h
 ·exfalso
  rcases h2 with rfl | h2
  ·omega
  ·have:u<=t - 1:=by omega
   have:=Int.mul_le_mul_of_nonneg_right this (show 0<=s by omega)
   omega
inductive oT (K:WA)(Z:Adr)(vs:List V)(H:Hp)(Q:VK)(E:XK):Prop | mk (wy sp:Int):vs=[.int wy,.int sp]->0<=wy->wy<=100000->1<=sp->sp<=100000->Q (.int (xV wy sp)) H->oT K Z vs H Q E
include T in
theorem Be:FF P w K mg base CX0 1 "_law_lasts" "_law_lasts" rL xu (oT K Z):=fk0 oJ fun vs H Q E h=>by
 obtain ⟨wy,sp,rfl,h0,h1,h2,h3,q⟩:=h
 k_all
 refine seg 2 (ah (aB (pv' 2))) fun zt2 zh2 ze2=>?_
 refine seg 1 (ae (Dp PassesOwn.never (pO (aQ ua (pv' 2) (pv' 1)) (pv' 0)) (ah (aF (i:=2) oJ.nd rfl orL (aQ bf (pv' 2) af)))) zh2) fun zt1 zh1 ze1=>?_
 refine ⟨_,ae (aF (i:=2) oJ.nd rfl orL af) zh1,?_⟩
 k_mem
 refine Ds (fun σ H'=>H'=H/\∃t:Int,σ=[some (.int wy),some (.int sp),some (.int t)]/\0<=t/\t<=wy/\(t=0\/(t - 1) * sp < wy)) (fun σ H'=>match σ with | [_,_,some (.int t)]=>(wy - t).toNat | _=>0) ⟨rfl,0,rfl,by omega,by omega,.inl rfl⟩ ?_ ?_
 ·rintro σ H' ⟨rfl,t,rfl,t0,t1,t2⟩
  k_mem
  have tm:t * 1<=t * sp:=Int.mul_le_mul_of_nonneg_left h2 t0
  k_upd
  refine ⟨.inl ⟨by omega,by omega⟩,?_⟩
  k_upd
  split
  ·rename_i hlt
   k_upd
   refine ⟨⟨rfl,t+1,rfl,by omega,by omega,.inr (by rw [Int.add_sub_cancel];exact hlt)⟩,?_⟩
   show (wy - (t+1)).toNat < (wy - t).toNat
   omega
  ·rename_i hge
   rw [←CS h2 (by omega) t2 t0 h0] at q
   k_upd
   exact q
 ·intro σ H' R R' hq h
  exact onO.mono (fun v=>onO.mono fun v1=>onI.mono fun i=>onI.mono fun j=>And.imp_right (onO.mono fun v2=>onI.mono fun j2=>onI.mono fun j3 z=>by split at z<;>rename_i c<;>(first | rw [if_pos c] | rw [if_neg c])<;>exact hq _ _ z)) h
variable (xB:KD P w K mg base CX0 1 "_law_lasts" (oT K Z))
def zL (p lt:Addr)(ks:List Str)(ws:List Int)(H:Hp)(i:Nat)(σ:St)(H':Hp):Prop:=H'=H/\(∃t,σ=[some (.ref p),some (.ref lt),t])/\∀j k x,j < i->ks[j]?=some k->ws[j]?=some x->(decide (k="men") && decide (x=10\/x=11))=false
inductive oU (K:WA)(Z:Adr)(vs:List V)(H:Hp)(Q:VK)(E:XK):Prop | mk (p dl cl ll lt:Addr) (g:Cfg) (lds:List Ld) (ws:List Int):vs=[.ref p,.ref lt]->cY K H p dl cl ll g lds->SqT K H lt (ws.map V.int)->ws.length=lds.length->ws.length<=30->((∀x∈ws,x < 10\/x=10\/x=11))->Q (.int (if yR g.ks ws=true then g.slow else g.fast)) H->oU K Z vs H Q E
include T in
theorem Bf:FF P w K mg base CX0 1 "_law_speed" "_law_speed" rM xv (oU K Z):=fk0 va fun vs H Q E h=>by
 obtain ⟨p,dl,cl,ll,lt,g,lds,ws,rfl,hP,hL,hlen,h30,hwr,q⟩:=h
 k_all
 refine seg 1 (ah (aB (ao au (pv' 0) af))) fun zt1 zh1 ze1=>?_
 refine ⟨_,ae (cR PassesOwn.never rfl (bj (by rfl) T.cj (pa1 (aG az (by rfl) T.bR bb (pa1 (pv' 1))))) (aD (i:=2) va.nd rfl orL) (ah (aM (ie (B2 (ao aw (pv' 1) (pv' 2)) af) (fW (bH (ao aw (ao au (ao au (pv' 0) af) (pv' 2)) af) aE))).pt (ah (aB (ao au (pv' 0) af))) (aC)))) zh1,?_⟩
 obtain ⟨hp,_,_,⟨bs,hll,hT2⟩,ek⟩:=id hP
 have hbl:=hT2.1
 k_mem
 refine ⟨_,.inr hL,by omega,by rw [WB];omega,?_⟩
 rw [WB]
 k_upd
 refine bK (zL p lt g.ks ws H) ⟨rfl,⟨_,rfl⟩,fun j _ _ hj=>absurd hj (Nat.not_lt_zero _)⟩ ?_ ?_
 ·rintro i σ H' hi ⟨rfl,⟨t,rfl⟩,hj⟩
  have hi':i < ws.length:=by omega
  have hw:ws[i]?=some (ws.getD i 0):=ke hi'
  have hx:=hwr _ (cM hi')
  have ha:bs[i]?=some (bs[i]'(by omega)):=List.getElem?_eq_getElem (by omega)
  have hld:lds[i]?=some (lds[i]'(by omega)):=List.getElem?_eq_getElem (by omega)
  have hrow:=hT2.2 i _ _ ha hld
  have hk:g.ks[i]?=some (lds[i]'(by omega)).1:=by rw [ek,List.getElem?_map,hld];rfl
  have no:(decide ((lds[i]'(by omega)).1="men") && decide (ws.getD i 0=10\/ws.getD i 0=11))=false->zL p lt g.ks ws H' (i+1) [some (V.ref p),some (V.ref lt),some (V.int (0+(i:Int)))] H':=fun hn=>by
   refine ⟨rfl,⟨_,rfl⟩,fun j k x hj' e1 e2=>?_⟩
   by_cases e:j=i
   ·subst e
    rw [hk] at e1;rw [hw] at e2
    cases e1;cases e2
    exact hn
   ·exact hj j k x (by omega) e1 e2
  k_mem
  refine ⟨_,hL,_,by rw [Int.zero_add];exact gg hi',?_⟩
  k_mem
  split
  ·rename_i h10
   k_upd
   refine ⟨_,SqL.of hp,_,rfl,?_⟩
   k_mem
   refine ⟨_,SqL.of hll,_,by rw [Int.zero_add];exact ju (by rw [List.getElem?_map,ha];rfl),?_⟩
   k_mem
   refine ⟨_,hrow,_,rfl,?_⟩
   k_mem
   split
   ·rename_i hm
    have hm':(lds[i]'(by omega)).1="men":=hm
    rw [yS hk hw hm' (by omega),if_pos rfl] at q
    k_upd
    exact ⟨_,SqL.of hp,_,rfl,q⟩
   ·rename_i hm
    exact no (by rw [decide_eq_false hm];rfl)
  ·rename_i h10
   exact no (by rw [decide_eq_false (p:=ws.getD i 0=10\/ws.getD i 0=11) (by omega),Bool.and_false])
 ·rintro σ H' ⟨rfl,⟨t,rfl⟩,hj⟩
  k_mem
  rw [xf hj (.inr (by omega)),if_neg Bool.false_ne_true] at q
  k_upd
  exact ⟨_,SqL.of hp,_,rfl,q⟩
variable (xC:KD P w K mg base CX0 1 "_law_speed" (oU K Z))
theorem CT (ls:List Cd):cN (ls.map fun _=>false)=[]:=by
 unfold cN jw
 rw [List.filter_eq_nil_iff.mpr]
 ·rfl
 ·intro j _
  rw [Jd]
  exact Bool.false_ne_true
inductive oV (K:WA)(Z:Adr)(vs:List V)(H:Hp)(Q:VK)(E:XK):Prop | mk (p dl cl ll:Addr) (ds:List Int) (ls:List Cd) (slow fast:Int) (lds:List Ld) (N0:Addr->Prop):vs=[.ref p]->cY K H p dl cl ll (df ds ls slow fast lds N0) lds->2<=ds.length->ds.length<=6->lds.length<=30->(∀a H',av H H'->gS K H' a (gh ds ls lds,0)->Q (.ref a) H')->oV K Z vs H Q E
include T in
theorem Bg:FF P w K mg base CX0 1 "_law_first" "_law_first" rN xw (oV K Z):=fk0 oK fun vs H Q E h=>by
 obtain ⟨p,dl,cl,ll,ds,ls,slow,fast,lds,N0,rfl,hP,l2,l6,h30,q⟩:=h
 k_all
 refine seg 2 (ah (aB (aR (cQ (ao au (ao au (pv' 0) af) af) (cQ (aQ EZ (aR (pa1 fJ)) (pv' 1)) (pa4 (pv' 2) (aR (pa4 aE dI dI dI)) (aR fL) af)))))) fun zt2 zh2 ze2=>?_
 refine seg 1 (ae (aF (i:=2) oK.nd rfl orL (bc l7 (by rfl) T.qr lX (pa1 (ka ["_law_one"] [none] (dk (ao au (pv' 0) af)) (fun _ _ _ _=>(aD (i:=0) (show (["_law_one"]:List Str).Nodup by decide +kernel) rfl orL)) (fun _ _ _ _=>fj) (fun _ _ _ _=>(ao (show IxR _ (pK K) from aw) (pv' 0) af)))))) zh2) fun zt1 zh1 ze1=>?_
 refine ⟨_,ae (aF (i:=1) oK.nd rfl orL (aG az (by rfl) T.bR bb (pa1 (ao au (pv' 0) af)))) zh1,?_⟩
 obtain ⟨hp,hdl,_,⟨bs,hll,hT2⟩,_⟩:=id hP
 replace hdl:H dl=some (HO.lst (ds.map V.int)):=hdl
 replace hp:H p=some (HO.lst [V.ref dl,V.ref cl,V.int slow,V.int fast,V.ref ll]):=hp
 have hbl:=hT2.1
 k_mem
 refine ⟨_,SqL.of hp,_,rfl,?_⟩
 k_mem
 refine ⟨_,.inl (SqL.of hdl),?_⟩
 rw [WB]
 k_upd
 refine ⟨_,SqL.of hp,_,rfl,?_⟩
 k_mem
 refine ⟨⟨_,SqL.of hll⟩,?_⟩
 refine FU (fun x=>.int x.2.1) ⟨bs,SqL.of hll,hT2⟩ (by rw [sizeLine_eq];omega) rfl (fun b x hb N hN=>by k_mem;exact ⟨_,hb,_,rfl,hN⟩) fun l1 hl1=>?_
 have s1:=(av.refl H).lay (o:=HO.lst (lds.map fun x=>V.int x.2.1)) hl1
 k_mem
 refine ⟨_,.inl ⟨SqL.of ag,fun lt hlt=>?_⟩⟩
 have s2:=s1.lay (o:=HO.tup (lds.map fun x=>V.int x.2.1)) hlt
 have ht2:upd (upd H l1 (HO.lst (lds.map fun x=>V.int x.2.1))) lt (HO.tup (lds.map fun x=>V.int x.2.1)) lt=some (HO.tup ((lds.map (·.2.1)).map V.int)):=by rw [ag,List.map_map];rfl
 generalize upd (upd H l1 (HO.lst (lds.map fun x=>V.int x.2.1))) lt (HO.tup (lds.map fun x=>V.int x.2.1))=H2 at *
 k_upd
 refine ⟨_,SqL.of (s2 _ _ hp),_,rfl,?_⟩
 k_mem
 refine ⟨_,SqL.of (s2 _ _ hdl),_,dh (k:=0) (by omega) (by omega),by decide,fun p1 hp1=>⟨_,SqT.of ag,by omega,by omega,fun gt hgt=>⟨by decide,fun ht hht=>⟨by decide,fun dt hdt=>⟨by decide,fun a ha=>?_⟩⟩⟩⟩⟩
 have eg:List.replicate ((ds.length:Nat):Int).toNat (V.bl false)=(ds.map fun _=>false).map V.bl:=by
  rw [List.map_map,Int.toNat_natCast]
  exact (List.map_const' (l:=ds) (b:=V.bl false)).symm
 refine q a _ (((((s2.lay hp1).lay hgt).lay hht).lay hdt).lay ha) ⟨gt,lt,ht,dt,SqT.of ag,SqT.of ?_,upo (upo (upo (upo (upo ht2 hp1) hgt) hht) hdt) ha,SqT.of (upo (upo ag hdt) ha),SqT.of ?_⟩
 ·rw [upo (upo (upo ag hht) hdt) ha,eg];rfl
 ·rw [upo ag ha]
  show _=some (HO.tup ((cN (ls.map fun _=>false)).map V.int))
  rw [CT];rfl
variable (kx:KD P w K mg base CX0 1 "_law_first" (oV K Z))
inductive oW (K:WA)(Z:Adr)(vs:List V)(H:Hp)(Q:VK)(E:XK):Prop | mk (ht dd:Addr) (g:Cfg) (n:aO) (d:Dd):vs=[.ref ht,.ref dd]->SqT K H ht (kH n.e)->SqT K H dd (ddV d)->eI g n d=none->(∀h H',av H H'->SqT K H' h (kH (uv g n d))->Q (.ref h) H')->oW K Z vs H Q E
include T in
theorem Bh:FF P w K mg base CX0 1 "_law_heard" "_law_heard" rO xx (oW K Z):=fk0 vb fun vs H Q E h=>by
 obtain ⟨ht,dd,g,n,d,rfl,hH,hD,hr,q⟩:=h
 k_all
 refine seg 3 (ah (aB (pv' 0))) fun zt3 zh3 ze3=>?_
 refine seg 2 (ae (aM (bH (ao aw (pv' 1) af) aE) (ah (aB (aR (pa4 aE (ao aw (pv' 0) af) (ao aw (pv' 0) af) (ao aw (pv' 0) af))))) (aC)) zh3) fun zt2 zh2 ze2=>?_
 refine seg 1 (ae (aM (bH (ao aw (pv' 1) af) aE) (ae (aF (i:=2) vb.nd rfl orL (ao au (bw (pa2 aE aE)) (bc fO (by rfl) T.sW lW (pa1 (dJ jx (ao aw (pv' 1) af) (ao aw (pv' 0) af) (cu _)))))) (ah (aB (aR (pa4 (pv' 2) (ao aw (pv' 0) af) (ao aw (pv' 0) af) (ao aw (pv' 1) af)))))) (aC)) zh2) fun zt1 zh1 ze1=>?_
 refine ⟨_,ae (aM (bH (ao aw (pv' 1) af) aE) (ah (aB (aR (pa4 aE (ao aw (pv' 1) af) (ao aw (pv' 1) af) dI)))) (aC)) zh1,?_⟩
 have q0:uv g n d=n.e->Q (.ref ht) H:=fun e=>q ht H (av.refl H) (by rw [e];exact hH)
 cases d with
 | ring l s=>
  k_mem
  refine ⟨_,hD,_,rfl,?_⟩
  k_mem
  rw [if_pos rfl]
  k_upd
  refine ⟨_,hD,_,rfl,_,hD,_,rfl,by decide,fun p hp=>?_⟩
  k_upd
  exact q p _ ((av.refl H).lay hp) (SqT.of ag)
 | rept s=>
  obtain ⟨l,r,e,_⟩:=yW hr
  have ee:uv g n (.rept s)=if s=r then .armed l r else .other l r s:=by simp only [uv,e]
  rw [e] at hH
  rw [ee] at q
  k_mem
  refine ⟨_,hD,_,rfl,?_⟩
  k_mem
  rw [if_neg (by decide)]
  k_upd
  refine ⟨_,hD,_,rfl,?_⟩
  k_mem
  rw [if_pos rfl]
  k_upd
  refine ⟨by decide,fun p1 hp1=>⟨_,((av.refl H).lay hp1).tup hD,_,rfl,_,((av.refl H).lay hp1).tup hH,_,rfl,?_⟩⟩
  k_mem
  have s1:=(av.refl H).lay (o:=HO.lst [V.str (Str.ofString "repeated otherwise"),V.str (Str.ofString "armed")]) hp1
  k_upd
  refine ⟨_,SqL.of ag,.str (if s=r then "armed" else "repeated otherwise"),?_,_,s1.tup hH,_,rfl,_,s1.tup hH,_,rfl,_,s1.tup hD,_,rfl,by decide,fun p hp=>?_⟩
  ·by_cases h:s=r
   ·simp only [h,decide_true,if_true];rfl
   ·simp only [h,decide_false,if_false,Bool.false_eq_true];rfl
  ·refine q p _ (s1.lay hp) (SqT.of ?_)
   rw [ag]
   by_cases h:s=r
   ·subst h;simp only [if_true];rfl
   ·rw [if_neg h,if_neg h];rfl
 | wind c l k=>
  obtain ⟨_,_,e⟩:=uy hr
  rw [e] at hH
  k_mem
  refine ⟨_,hD,_,rfl,?_⟩
  k_mem
  rw [if_neg (by decide)]
  k_upd
  refine ⟨_,hD,_,rfl,?_⟩
  k_mem
  rw [if_neg (by decide)]
  k_upd
  refine ⟨_,hD,_,rfl,?_⟩
  k_mem
  rw [if_pos rfl]
  k_upd
  refine ⟨_,hH,_,rfl,_,hH,_,rfl,_,hH,_,rfl,by decide,fun p hp=>?_⟩
  k_upd
  exact q p _ ((av.refl H).lay hp) (SqT.of ag)
 | _=>
  k_mem
  refine ⟨_,hD,_,rfl,?_⟩
  k_mem
  rw [if_neg (by decide)]
  k_upd
  refine ⟨_,hD,_,rfl,?_⟩
  k_mem
  rw [if_neg (by decide)]
  k_upd
  refine ⟨_,hD,_,rfl,?_⟩
  k_mem
  rw [if_neg (by decide)]
  k_upd
  exact q0 rfl
variable (xD:KD P w K mg base CX0 1 "_law_heard" (oW K Z))
def KR (H:Hp)(K:WA)(rs:List Row)(x0 x1:V)(i:Nat)(σ:St)(H':Hp):Prop:=av H H'/\∃p cs a b,σ=[some x0,some x1,some (.ref p),a,b]/\H p=none/\H' p=some (.lst (cs.map V.ref))/\fN K H' cs (c9 (rs.take i))
def Ia (H:Hp)(K:WA)(L:List (List V))(r:Row)(x0 x1 x3:V)(j:Nat)(σ:St)(H':Hp):Prop:=av H H'/\∃p cs b,σ=[some x0,some x1,some (.ref p),some x3,b]/\H p=none/\H' p=some (.lst (cs.map V.ref))/\fN K H' cs (L++((List.range j).flatMap fun (c:Nat)=>eJ r c))
inductive oX (K:WA)(Z:Adr)(vs:List V)(H:Hp)(Q:VK)(E:XK):Prop | mk (K0:Unit) (sl wl:Addr) (as bs:List Addr) (n0:aO) (rs:List Row):vs=[.ref sl,.ref wl]->H sl=some (.lst (as.map V.ref))->cJ (gS K H) as (iu n0 rs)->H wl=some (.lst (bs.map V.ref))->cE K H bs rs->((∀r∈rs,∃d,r.deed=ddV d))->zl n0 rs->rs.length<=300->(∀(p:Addr) (cs:List Addr) (H':Hp),av H H'->H' p=some (.lst (cs.map V.ref))->fN K H' cs (c9 rs)->Q (.ref p) H')->oX K Z vs H Q E
include T in
theorem Bi:FF P w K mg base CX0 1 "_law_rides" "_law_rides" rP xy (oX K Z):=fk0 ly fun vs H Q E h=>by
 obtain ⟨_,sl,wl,as,bs,n0,rs,rfl,hsl,hA,hwl,hB,hd,hw,hlen,q⟩:=h
 k_all
 refine seg 2 (ah (aB (pv' 2))) fun zt2 zh2 ze2=>?_
 refine seg 1 (ae (cR PassesOwn.never rfl (bj (by rfl) T.cj (pa1 (aG az (by rfl) T.bR bb (pa1 (pv' 1))))) (aD (i:=3) ly.nd rfl orL) (ah (cR PassesOwn.never rfl (bj (by rfl) T.cj (pa1 af)) (aD (i:=4) ly.nd rfl orL) (ah (aM (ie (bH (ao aw (ao aw (ao au (pv' 1) (pv' 3)) af) af) aE) (fW (dF ix (aQ bf af (pv' 4)) (ao aw (ao au (pv' 0) (pv' 3)) af) (by rfl)))).pt (ah (aZ (j9 PySem.F.plainAttrs_list PySem.F.slot_list_append PySem.F.type_list_append cO (pv' 2) (pa1 (aR (pa4 (Eh PySem.F.plainAttrs_tuple PySem.F.slot_tuple_index PySem.F.type_tuple_index xj (ao aw (ao au (pv' 0) (pv' 3)) af) (pa1 (aQ bf af (pv' 4)))) (pv' 4) (ao aw (ao au (pv' 1) (pv' 3)) af) (ao aw (ao au (pv' 1) (pv' 3)) af))))))) (aC)))))) zh2) fun zt1 zh1 ze1=>?_
 refine ⟨_,ae (aF (i:=2) ly.nd rfl orL (bw fL)) zh1,?_⟩
 have hbl:=hB.1
 k_mem
 refine ⟨by decide,fun p hp=>?_⟩
 (generalize hE:upd H p _=H1 at *;have s1:=dE hE hp;have e1:=cf hE;clear hE)
 k_mem
 refine ⟨_,.inl (SqL.of (s1 _ _ hwl)),by rw [WB];omega,by rw [WB];omega,?_⟩
 rw [WB]
 k_upd
 refine bK (KR H K rs (.ref sl) (.ref wl)) ⟨s1,p,[],_,_,rfl,hp,e1,cJ.nil⟩ ?_ ?_
 ·rintro i σ H2 hi ⟨s2,p2,cs,a1,a2,rfl,hp2,ep2,hT2⟩
  have hi':i < rs.length:=by omega
  have ib:i < bs.length:=by omega
  have eb:bs[i]?=some bs[i]:=List.getElem?_eq_getElem ib
  have er:rs[i]?=some rs[i]:=List.getElem?_eq_getElem hi'
  obtain ⟨dd,hrow,hdd⟩:=hB.2 i _ _ eb er
  obtain ⟨d,ed⟩:=hd _ (List.getElem_mem hi')
  obtain ⟨wd,ew,_⟩:=yd d
  rw [ed] at hdd
  have hh:rs[i].deed.head?=some (.str wd):=by rw [ed];cases d<;>exact ew
  have rw0:atI (bs.map V.ref) (0+(i:Int))=some (.ref bs[i]):=by rw [Int.zero_add];exact ju (by rw [List.getElem?_map,eb];rfl)
  obtain ⟨sa1,esa1,hst1⟩:=hA.get (CJ n0 rs (k:=i) (by omega))
  obtain ⟨gt1,lt1,ht1',dt1,u1,u2,u3,u4,u5⟩:=hst1.un
  have at1:atI (as.map V.ref) (0+(i:Int))=some (.ref sa1):=by rw [Int.zero_add];exact ju (by rw [List.getElem?_map,esa1];rfl)
  have hrl:=iw (rs.take i)
  rw [List.length_take] at hrl
  k_mem
  refine ⟨by decide,by decide,?_⟩
  k_upd
  refine bK (Ia H K (c9 (rs.take i)) rs[i] (.ref sl) (.ref wl) (.int (0+(i:Int)))) ⟨s2,p2,cs,_,rfl,hp2,ep2,by show fN K H2 cs (_++[]);rw [List.append_nil];exact hT2⟩ ?_ ?_
  ·rintro j σ H3 hj ⟨s3,p3,ds,a3,rfl,hp3,ep3,hT3⟩
   have hdl:=hT3.1
   k_mem
   refine ⟨_,SqL.of (s3 _ _ hwl),_,rw0,?_⟩
   k_mem
   have ecc:(0:Int)+(j:Int)=(j:Int):=by omega
   rw [ecc]
   have hdd3:=s3.tup hdd
   k_upd
   refine ⟨_,s3.tup hrow,_,rfl,?_⟩
   k_mem
   refine ⟨_,hdd3,_,ew,?_⟩
   k_mem
   have erc:∀X,eJ rs[i] (j:Int)=X->c9 (rs.take i)++(List.range (j+1)).flatMap (fun (c:Nat)=>eJ rs[i] c)=(c9 (rs.take i)++(List.range j).flatMap (fun (c:Nat)=>eJ rs[i] c))++X:=fun X h=>by
    rw [List.range_succ,List.flatMap_append,←List.append_assoc]
    congr 1
    show eJ rs[i] (j:Int)++[]=X
    rw [List.append_nil,h]
   have skip:eJ rs[i] (j:Int)=[]->Ia H K (c9 (rs.take i)) rs[i] (.ref sl) (.ref wl) (.int (0+(i:Int))) (j+1) [some (V.ref sl),some (V.ref wl),some (V.ref p3),some (V.int (0+(i:Int))),some (V.int (j:Int))] H3:=fun h=>by
    refine ⟨s3,p3,ds,_,rfl,hp3,ep3,?_⟩
    rw [erc [] h,List.append_nil]
    exact hT3
   k_upd
   split
   ·rename_i hb
    subst hb
    have hws:=hw i _ er hh
    k_upd
    refine ⟨_,SqL.of (s3 _ _ hsl),_,at1,?_⟩
    k_mem
    refine ⟨_,s3.tup u1,_,rfl,?_⟩
    k_mem
    refine ⟨_,.inr (SqT.of (s3 _ _ u3)),rfl,by simp [bg],?_⟩
    rw [ni]
    k_upd
    split
    ·rename_i hin
     have hin':10+(j:Int)∈(AV n0 rs i).ws:=by simpa using hin
     k_upd
     refine ⟨.inl ⟨rfl,_,SqL.of ep3⟩,_,SqL.of (s3 _ _ hsl),_,at1,?_⟩
     k_mem
     refine ⟨_,s3.tup u1,_,rfl,?_⟩
     k_mem
     refine ⟨⟨_,_,rfl,s3 _ _ u3⟩,_,_,_,rfl,rfl,s3 _ _ u3,hin',_,SqL.of (s3 _ _ hwl),_,rw0,?_⟩
     k_mem
     refine ⟨_,s3.tup hrow,_,rfl,_,SqL.of (s3 _ _ hwl),_,rw0,?_⟩
     k_mem
     refine ⟨_,s3.tup hrow,_,rfl,by decide,fun p5 hp5=>?_⟩
     (generalize hE:upd H3 p5 _=H5 at *;have s5:=dE hE hp5;have e5:=cf hE;clear hE)
     have ep5:=s5 _ _ ep3
     have hrl3:((List.range j).flatMap fun (c:Nat)=>eJ rs[i] c).length<=2:=by
      rcases (by omega:j=0\/j=1) with rfl | rfl
      ·exact Nat.zero_le _
      ·show (eJ rs[i] 0++[]).length<=2
       have:=CK rs[i] 0
       rw [List.append_nil];omega
     k_upd
     refine ⟨_,ep5,by rw [WB,hdl,List.length_append,sizeLine_eq];omega,?_⟩
     have kp:L2.aA p3 H5 (upd H5 p3 (HO.lst (ds.map V.ref++[V.ref p5]))):=(aA.of (av.refl H5)).put
     k_upd
     refine ⟨(s3.trans s5).rewr hp3,p3,ds++[p5],_,rfl,hp3,by rw [ag,List.map_append];rfl,?_⟩
     rw [erc [l4 rs[i] j] (by rw [eJ,if_pos hh,ff,if_pos (by rw [hws];exact hin')])]
     refine cJ.push ((hT3.same s5).imp fun a x z=>z.keep kp ep5) ?_
     have e5':SqT K H5 p5 (l4 rs[i] j):=by
      rw [l4,inC,if_pos (by rw [hws];exact hin'),hws]
      exact SqT.of e5
     exact e5'.keep kp ep5
    ·rename_i hin
     refine skip ?_
     rw [eJ,if_pos hh,ff,if_neg (by rw [hws];simpa using hin)]
   ·rename_i hb
    refine skip ?_
    rw [eJ,if_neg (by rw [hh];intro z;cases z;exact hb rfl)]
  ·rintro σ H3 ⟨s3,p3,ds,a3,rfl,hp3,ep3,hT3⟩
   k_upd
   refine ⟨s3,p3,ds,_,_,rfl,hp3,ep3,?_⟩
   rw [List.take_succ_eq_append_getElem hi',sr,AX]
   have e2:(List.range 2).flatMap (fun (c:Nat)=>eJ rs[i] c)=eJ rs[i] 0++eJ rs[i] 1:=by
    show eJ rs[i] 0++(eJ rs[i] 1++[])=_
    rw [List.append_nil]
   rw [←e2]
   exact hT3
 ·rintro σ H2 ⟨s2,p2,cs,a1,a2,rfl,hp2,ep2,hT2⟩
  k_mem
  rw [show ((bs.length:Int)).toNat=rs.length by omega,List.take_length] at hT2
  k_upd
  exact q p2 cs H2 s2 ep2 hT2
variable (xE:KD P w K mg base CX0 1 "_law_rides" (oX K Z))
inductive iW (K:WA)(Z:Adr)(vs:List V)(H:Hp)(Q:VK)(E:XK):Prop | mk (lv m:Int):vs=[.int lv,.int m]->((0<=lv/\lv < m->Q .non H)/\(¬(0<=lv/\lv < m)->E (.ref Z.ba) none H))->iW K Z vs H Q E
include T eV in
theorem vw:FF P w K mg base (CXf P w) 2 "check_level" "check_level" jz nH (iW K Z):=fkF uO fun vs H Q E h=>by
 obtain ⟨lv,m,rfl,q1,q2⟩:=h
 k_all
 refine ⟨_,ah (aM (dw (bZ (dc0 eV hr.dn (pa2 (pv' 0) (pv' 1))))) (ah (bh T.vm (by rfl) T.vh (pa1 aE))) (aC)),?_⟩
 k_mem
 refine ⟨_,_,rfl,?_⟩
 k_mem
 split
 ·rename_i h
  k_upd
  exact ⟨by decide,q2 h⟩
 ·rename_i h
  k_upd
  exact q1 (by simpa using h)
variable (bt:KD P w K mg base (CXf P w) 2 "check_level" (iW K Z))
inductive jT (K:WA)(Z:Adr)(vs:List V)(H:Hp)(Q:VK)(E:XK):Prop | mk (n m:Int):vs=[.int n,.int m]->((0<=n/\n < m->Q .non H)/\(¬(0<=n/\n < m)->E (.ref Z.dU) none H))->jT K Z vs H Q E
include T eV in
theorem wD:FF P w K mg base (CXf P w) 2 "check_load" "check_load" kO pQ (jT K Z):=fkF vW fun vs H Q E h=>by
 obtain ⟨n,m,rfl,q1,q2⟩:=h
 k_all
 refine ⟨_,ah (aM (dw (bZ (dc0 eV hr.dn (pa2 (pv' 0) (pv' 1))))) (ah (bh T.wo (by rfl) T.wg (pa1 aE))) (aC)),?_⟩
 k_mem
 refine ⟨_,_,rfl,?_⟩
 k_mem
 split
 ·rename_i h
  k_upd
  exact ⟨by decide,q2 h⟩
 ·rename_i h
  k_upd
  exact q1 (by simpa using h)
variable (gZ:KD P w K mg base (CXf P w) 2 "check_load" (jT K Z))
def KS (l:Addr)(m:Int)(ls:List Ld)(H:Hp)(i:Nat)(σ:St)(H':Hp):Prop:=H'=H/\(∃t u v,σ=[some (.ref l),some (.int m),t,u,v])/\∀(j:Nat) x,j < i->ls[j]?=some x->jv m x
inductive iX (K:WA)(Z:Adr)(vs:List V)(H:Hp)(Q:VK)(E:XK):Prop | mk (l:Addr) (ls:List Ld) (m:Int):vs=[.ref l,.int m]->dX K H l ls->(((ls.length<=30/\∀x∈ls,jv m x)->Q .non H))->((¬(ls.length<=30/\∀x∈ls,jv m x)->E (.ref Z.mB) none H))->iX K Z vs H Q E
include T eV in
theorem vx:FF P w K mg base (CXf P w) 2 "check_loads" "check_loads" jA nI (iX K Z):=fkF ft fun vs H Q E h=>by
 obtain ⟨l,ls,m,rfl,hL,q1,q2⟩:=h
 k_all
 refine seg 1 (ah (cR yJ rfl (dk (pv' 0)) (dZ rfl (aH (aD (i:=2) ft.nd rfl orL) (aH (aD (i:=3) ft.nd rfl orL) (aH (aD (i:=4) ft.nd rfl orL) cZ)))) (ah (aM (pj (dw (bZ (dc0 eV hr.dn (pa2 (pv' 3) (pv' 1))))) (lQ (dw (bZ (dc0 eV hr.dn (pa2 (pv' 4) (pv' 1))))))).pt (ah (bh T.vn (by rfl) T.vi (pa1 aE))) (aC))))) fun zt1 zh1 ze1=>?_
 refine ⟨_,ae (aM (zp (aG az (by rfl) T.bR bb (pa1 (pv' 0))) (cX (by rfl) T.yp)) (ah (bh T.vn (by rfl) T.vi (pa1 aE))) (aC)) zh1,?_⟩
 obtain ⟨as,hS,hlen,hT⟩:=id hL
 k_mem
 refine ⟨_,.inl hS,?_⟩
 rw [WB]
 k_upd
 split
 ·k_upd
  exact ⟨by decide,q2 fun h=>by omega⟩
 ·k_upd
  refine ⟨⟨_,hS⟩,?_⟩
  k_upd
  refine kb (as.map V.ref) (KS l m ls H) ⟨rfl,⟨_,_,_,rfl⟩,fun j x h=>absurd h (Nat.not_lt_zero _)⟩ (fun i σ H' _ ⟨e,_⟩=>by rw [e];exact hS) ?_ ?_
  ·rintro i x σ H' hx ⟨rfl,⟨t,u,v,rfl⟩,hj⟩
   rw [List.getElem?_map] at hx
   obtain ⟨a,ea,rfl⟩:=Option.map_eq_some_iff.mp hx
   have hi:i < as.length:=(List.getElem?_eq_some_iff.mp ea).1
   have el:ls[i]?=some ls[i]:=List.getElem?_eq_getElem (by omega)
   have hm:ls[i]∈ls:=List.getElem_mem _
   k_mem
   refine ⟨_,hT i a _ ea el,rfl,?_⟩
   k_mem
   refine ⟨_,_,rfl,?_⟩
   k_mem
   split
   ·rename_i h1
    k_upd
    exact ⟨by decide,q2 fun h=>h1 (h.2 _ hm).1⟩
   ·rename_i h1
    k_upd
    refine ⟨_,_,rfl,?_⟩
    k_mem
    split
    ·rename_i h2
     k_upd
     exact ⟨by decide,q2 fun h=>h2 (h.2 _ hm).2⟩
    ·rename_i h2
     k_upd
     refine ⟨rfl,⟨_,_,_,rfl⟩,fun j x hj' hx=>?_⟩
     by_cases e:j=i
     ·rw [e,el] at hx
      cases hx
      k_upd
      exact ⟨by omega,by omega⟩
     ·exact hj j x (by omega) hx
  ·rintro σ H' ⟨rfl,⟨t,u,v,rfl⟩,hj⟩
   k_mem
   refine q1 ⟨by omega,fun x hx=>?_⟩
   obtain ⟨j,hj1,rfl⟩:=List.getElem_of_mem hx
   rw [WB] at hj
   exact hj j _ (by omega) (List.getElem?_eq_getElem hj1)
variable (oa:KD P w K mg base (CXf P w) 2 "check_loads" (iX K Z))
def KU (l:Addr)(m:Int)(ls:List Cd)(H:Hp)(i:Nat)(σ:St)(H':Hp):Prop:=H'=H/\(∃t u,σ=[some (.ref l),some (.int m),t,u])/\∀(j:Nat) x,j < i->ls[j]?=some x->ez x
inductive iY (K:WA)(Z:Adr)(vs:List V)(H:Hp)(Q:VK)(E:XK):Prop | mk (l:Addr) (ls:List Cd) (m:Int):vs=[.ref l,.int m]->ik cdV K H l ls->((((ls.length:Int)=m/\∀x∈ls,ez x)->Q .non H))->((¬((ls.length:Int)=m/\∀x∈ls,ez x)->E (.ref Z.mD) none H))->iY K Z vs H Q E
include T eM in
theorem vy:FF P w K mg base (CXf P w) 2 "check_codes" "check_codes" jC nK (iY K Z):=fkF iB fun vs H Q E h=>by
 obtain ⟨l,ls,m,rfl,hL,q1,q2⟩:=h
 k_all
 refine seg 1 (ah (cR yJ rfl (dk (pv' 0)) (dZ rfl (aH (aD (i:=2) iB.nd rfl orL) (aH (aD (i:=3) iB.nd rfl orL) cZ))) (ae (aM (pj (dw (bZ (dc0 eM hr.dn (pa1 (pv' 2))))) (lQ (dw (bZ (dc0 eM hr.dn (pa1 (pv' 3))))))).pt (ah (bh T.oP (by rfl) T.oN (pa1 aE))) (aC)) (ah (aM (bH (pv' 2) (pv' 3)) (ah (bh T.oP (by rfl) T.oN (pa1 aE))) (aC)))))) fun zt1 zh1 ze1=>?_
 refine ⟨_,ae (aM (sv (aG az (by rfl) T.bR bb (pa1 (pv' 0))) (pv' 1)) (ah (bh T.oP (by rfl) T.oN (pa1 aE))) (aC)) zh1,?_⟩
 obtain ⟨as,hS,hlen,hT⟩:=id hL
 k_mem
 refine ⟨_,.inl hS,?_⟩
 rw [WB]
 k_upd
 split
 ·k_upd
  exact ⟨by decide,q2 fun h=>by omega⟩
 ·k_upd
  refine ⟨⟨_,hS⟩,?_⟩
  k_upd
  refine kb (as.map V.ref) (KU l m ls H) ⟨rfl,⟨_,_,rfl⟩,fun j x h=>absurd h (Nat.not_lt_zero _)⟩ (fun i σ H' _ ⟨e,_⟩=>by rw [e];exact hS) ?_ ?_
  ·rintro i x σ H' hx ⟨rfl,⟨t,u,rfl⟩,hj⟩
   rw [List.getElem?_map] at hx
   obtain ⟨a,ea,rfl⟩:=Option.map_eq_some_iff.mp hx
   have hi:i < as.length:=(List.getElem?_eq_some_iff.mp ea).1
   have el:ls[i]?=some ls[i]:=List.getElem?_eq_getElem (by omega)
   have hm:ls[i]∈ls:=List.getElem_mem _
   k_mem
   refine ⟨_,hT i a _ ea el,rfl,?_⟩
   k_mem
   refine ⟨_,rfl,?_⟩
   k_mem
   split
   ·rename_i h1
    k_upd
    exact ⟨by decide,q2 fun h=>h1 (h.2 _ hm).1⟩
   ·rename_i h1
    k_upd
    refine ⟨_,rfl,?_⟩
    k_mem
    split
    ·rename_i h2
     k_upd
     exact ⟨by decide,q2 fun h=>h2 (h.2 _ hm).2.1⟩
    ·rename_i h2
     k_upd
     split
     ·rename_i h3
      k_upd
      exact ⟨by decide,q2 fun h=>(h.2 _ hm).2.2 h3⟩
     ·rename_i h3
      k_upd
      refine ⟨rfl,⟨_,_,rfl⟩,fun j x hj' hx=>?_⟩
      by_cases e:j=i
      ·rw [e,el] at hx
       cases hx
       k_upd
       exact ⟨by omega,by omega,h3⟩
      ·exact hj j x (by omega) hx
  ·rintro σ H' ⟨rfl,⟨t,u,rfl⟩,hj⟩
   k_mem
   refine q1 ⟨by omega,fun x hx=>?_⟩
   obtain ⟨j,hj1,rfl⟩:=List.getElem_of_mem hx
   exact hj j _ (by rw [WB];omega) (List.getElem?_eq_getElem hj1)
variable (oe:KD P w K mg base (CXf P w) 2 "check_codes" (iY K Z))
inductive gG (K:WA)(Z:Adr)(vs:List V)(H:Hp)(Q:VK)(E:XK):Prop | mk (b cs fl st:Addr) (ls:List Cd) (fs:List Bool) (e:Eng) (s:Int):vs=[.ref b,.int s]->bA Z.bD K H b cs fl st ls fs e->(((∀l r,e≠.wait l r)->E (.ref Z.fg) none H))->((∀l r,e=.wait l r->¬(1<=s/\s<=9)->E (.ref Z.mE) none H))->((∀l r,e=.wait l r->(1<=s/\s<=9)->∀st' p H',H p=none->aA b H H'->bA Z.bD K H' b cs fl st' ls fs (if s=r then .armed l r else .other l r s)->SqT K H' p [.bl (decide (s=r)),.int r,.int s]->Q (.ref p) H'))->gG K Z vs H Q E
include T eM in
theorem tP:FF P w K mg base (CXf P w) 2 "repeat" "Bells.repeat" iC l9 (gG K Z):=fkF eP fun vs H Q E h=>by
 obtain ⟨b,cs,fl,st,ls,fs,e,s,rfl,hB,q1,q2,q3⟩:=h
 k_all
 refine ⟨_,ae (aM (sv (ao aw (ax (pv' 0)) af) aE) (ah (bh T.wq (by rfl) T.wj (pa1 aE))) (aC)) (ae (aM (dw (bZ (dc0 eM hr.dn (pa1 (pv' 1))))) (ah (bh T.zG (by rfl) T.zD (pa1 aE))) (aC)) (ae (aF (i:=2) eP.nd rfl orL (ao aw (ax (pv' 0)) af)) (ae (aF (i:=3) eP.nd rfl orL (ao aw (ax (pv' 0)) af)) (ae (aF (i:=4) eP.nd rfl orL (dJ jx (pv' 1) (pv' 3) (cu _))) (ae (bL (pv' 0) (aR (pa4 (yD (bZ (pv' 4)) aE aE) (pv' 2) (pv' 3) (pv' 1))) rfl) (ah (aB (aR (pa3 (pv' 4) (pv' 3) (pv' 1)))))))))),?_⟩
 obtain ⟨⟨dx,hob⟩,⟨as,hcs,hT⟩,hfl,hst,nn,ln⟩:=id hB
 k_mem
 refine fgo hob T.bx T.bB rfl ?_
 k_mem
 cases e with
 | wait l r=>
  refine ⟨_,hst,_,rfl,?_⟩
  k_mem
  refine ⟨_,rfl,?_⟩
  k_mem
  split
  ·rename_i h
   exact ⟨by decide,q2 l r rfl h⟩
  ·rename_i h
   have hs:1<=s/\s<=9:=by simpa using h
   refine fgo hob T.bx T.bB rfl ?_
   k_mem
   refine ⟨_,hst,_,rfl,?_⟩
   k_mem
   refine fgo hob T.bx T.bB rfl ?_
   k_mem
   refine ⟨_,hst,_,rfl,?_⟩
   k_mem
   split
   ·rename_i hr
    refine ⟨by decide,fun st' hst'=>⟨_,_,_,upo hob hst',T.bx,T.bB,by show 3 < 1000;decide,by decide,fun p hp=>?_⟩⟩
    have nsx:st'≠b:=fun z=>by rw [z,hob] at hst';cases hst'
    have hpn:=upn (aA.free (H':=upd (upd H st' (HO.tup [V.str (Str.ofString "armed"),V.int l,V.int r,V.int s])) b (HO.ins Z.bD dx (br "state" (.ref st') [("codes",V.ref cs),("failed",V.ref fl),("state",V.ref st)]))) (p:=b) ((aA.of (av.refl _)).put) (fun z=>by rw [z,ag] at hp;cases hp) hp)
    have k:=((aA.of ((av.refl H).lay (o:=HO.tup [V.str (Str.ofString "armed"),V.int l,V.int r,V.int s]) hst')).put (o:=HO.ins Z.bD dx (br "state" (.ref st') [("codes",V.ref cs),("failed",V.ref fl),("state",V.ref st)])) (p:=b))
    refine q3 l r rfl hs st' p _ hpn (k.trans (aA.of ((av.refl _).lay hp))) ?_ (SqT.of ?_)
    ·refine (hB.state k (dx:=dx) (by rw [ag];rfl) (SqT.of (xs:=kH (if s=r then .armed l r else .other l r s)) ?_)).same ((av.refl _).lay hp)
     rw [aK nsx,ag,if_pos hr,hr];rfl
    ·rw [ag]
   ·rename_i hr
    refine ⟨by decide,fun st' hst'=>⟨_,_,_,upo hob hst',T.bx,T.bB,by show 3 < 1000;decide,by decide,fun p hp=>?_⟩⟩
    have nsx:st'≠b:=fun z=>by rw [z,hob] at hst';cases hst'
    have hpn:=upn (aA.free (H':=upd (upd H st' (HO.tup [V.str (Str.ofString "repeated otherwise"),V.int l,V.int r,V.int s])) b (HO.ins Z.bD dx (br "state" (.ref st') [("codes",V.ref cs),("failed",V.ref fl),("state",V.ref st)]))) (p:=b) ((aA.of (av.refl _)).put) (fun z=>by rw [z,ag] at hp;cases hp) hp)
    have k:=((aA.of ((av.refl H).lay (o:=HO.tup [V.str (Str.ofString "repeated otherwise"),V.int l,V.int r,V.int s]) hst')).put (o:=HO.ins Z.bD dx (br "state" (.ref st') [("codes",V.ref cs),("failed",V.ref fl),("state",V.ref st)])) (p:=b))
    refine q3 l r rfl hs st' p _ hpn (k.trans (aA.of ((av.refl _).lay hp))) ?_ (SqT.of ?_)
    ·refine (hB.state k (dx:=dx) (by rw [ag];rfl) (SqT.of (xs:=kH (if s=r then .armed l r else .other l r s)) ?_)).same ((av.refl _).lay hp)
     rw [aK nsx,ag,if_neg hr];rfl
    ·rw [ag]
 | _=>
  refine ⟨_,hst,_,rfl,?_⟩
  k_mem
  first
  | rw [if_pos (by decide)]
  | skip
  exact ⟨by decide,q1 fun l r z=>Eng.noConfusion z⟩
variable (mS:KM P w K mg base (CXf P w) 2 Z.bD "repeat" (gG K Z))
inductive iZ (K:WA)(Z:Adr)(vs:List V)(H:Hp)(Q:VK)(E:XK):Prop | mk (a:Addr) (ds:List Int) (p:Int):vs=[.ref a,.int p]->SqL K H a (ds.map V.int)->0 < ds.length->Q (.int (bY ds - p)) H->iZ K Z vs H Q E
include T qv in
theorem vz:FF P w K mg base CX0 2 "other_place" "other_place" jD nL (iZ K Z):=fk0 uQ fun vs H Q E h=>by
 obtain ⟨a,ds,p,rfl,hS,hl,q⟩:=h
 k_all
 refine ⟨_,ah (aB (aQ di (dc0 qv hr.dn (pa1 (pv' 0))) (pv' 1))),?_⟩
 k_mem
 refine ⟨a,ds,rfl,hS,hl,?_⟩
 k_mem
 exact q
variable (dH:KD P w K mg base CX0 2 "other_place" (iZ K Z))
inductive jU (K:WA)(Z:Adr)(vs:List V)(H:Hp)(Q:VK)(E:XK):Prop | mk (bk rl dd s:Addr) (g:Cfg) (n0 n:aO) (rs:List Row) (tk sp:Int) (dv:List V):vs=[.ref bk,.ref dd,.int tk,.int sp,.ref s]->BAt (clZ Z) K H bk rl g n0 rs->SqT K H dd dv->dM (clZ Z) K H rl g s n->((300<=rs.length->E (.ref Z.iQ) none H))->((rs.length < 300->∀H',aA rl H H'->BAt (clZ Z) K H' bk rl g n0 (rs++[⟨cD rs,cD rs+tk,dv,sp,n⟩])->Q .non H'))->jU K Z vs H Q E
include T lB in
theorem wF:FF P w K mg base (CXf P w) 2 "write" "Book.write" kY pZ (jU K Z):=fkF nW fun vs H Q E h=>by
 obtain ⟨bk,rl,dd,s0,g,n0,n,rs,tk,sp,dv,rfl,hB,hD,hS,q1,q2⟩:=h
 k_all
 refine seg 2 (ah (aZ (j9 PySem.F.plainAttrs_list PySem.F.slot_list_append PySem.F.type_list_append cO (ax (pv' 0)) (pa1 (aR (cQ (pv' 5) (pa4 (aQ bf (pv' 5) (pv' 2)) (pv' 1) (pv' 3) (pv' 4)))))))) fun zt2 zh2 ze2=>?_
 refine seg 1 (ae (aF (i:=5) nW.nd rfl orL (cT (pv' 0) lB hr.dn aU)) zh2) fun zt1 zh1 ze1=>?_
 refine ⟨_,ae (aM (B2 (aG az (by rfl) T.bR bb (pa1 (ax (pv' 0)))) (ax (pv' 0))) (ah (bh T.A9 (by rfl) T.A4 (pa1 aE))) (aC)) zh1,?_⟩
 obtain ⟨⟨dx,f0,hob,hF⟩,as,hrl,hR⟩:=id hB
 have hl:=hR.1
 k_mem
 refine fgo hob T.c7 T.bJ rfl ?_
 k_mem
 refine ⟨_,.inl (SqL.of hrl),_,_,_,hob,T.c7,T.qt,_,rfl,?_⟩
 k_mem
 rw [WB]
 k_upd
 split
 ·k_upd
  exact ⟨by decide,q1 (by omega)⟩
 ·rename_i hlt
  k_upd
  refine mgo hob rfl ⟨_,_,_,_,_,rfl,hB,?_⟩
  k_mem
  refine fgo hob T.c7 T.bJ rfl ?_
  k_mem
  refine ⟨.inl ⟨rfl,_,SqL.of hrl⟩,by decide,fun p hp=>⟨_,upo hrl hp,cw (by rw [WB];omega),?_⟩⟩
  have s1:=(av.refl H).lay (o:=HO.tup [V.int (cD rs),V.int (cD rs+tk),V.ref dd,V.int sp,V.ref s0]) hp
  have hrl1:=upo (o:=HO.tup [V.int (cD rs),V.int (cD rs+tk),V.ref dd,V.int sp,V.ref s0]) hrl hp
  have k1:L2.aA rl H (upd (upd H p (HO.tup [V.int (cD rs),V.int (cD rs+tk),V.ref dd,V.int sp,V.ref s0])) rl (HO.lst (as.map V.ref++[V.ref p]))):=(aA.of s1).put
  refine q2 (by omega) _ k1 ⟨⟨dx,f0,k1 _ _ (fun z=>by rw [z,hrl] at hob;cases hob) hob,hF.keep k1 hrl⟩,as++[p],by rw [ag,List.map_append];rfl,?_⟩
  exact (hR.keep k1 hrl).push ⟨dd,s0,(SqT.of ag).rew hrl1,hD.keep k1 hrl,hS.keep k1 hrl⟩
variable (qy:KM P w K mg base (CXf P w) 2 Z.mG "write" (jU K Z))
def Fe (H:Hp)(K:WA)(rs:List Row)(x0:V)(i:Nat)(σ:St)(H':Hp):Prop:=av H H'/\∃p cs a b c d e f,σ=[some x0,some (.ref p),a,b,c,d,e,f]/\H p=none/\H' p=some (.lst (cs.map V.ref))/\fN K H' cs (c9 (rs.take i))
inductive jV (K:WA)(Z:Adr)(vs:List V)(H:Hp)(Q:VK)(E:XK):Prop | mk (bk rl:Addr) (g:Cfg) (n0:aO) (rs:List Row):vs=[.ref bk]->BAt (clZ Z) K H bk rl g n0 rs->((∀r∈rs,∃d,r.deed=ddV d))->rs.length<=1000->(∀(p:Addr) (as:List Addr) (H':Hp),H p=none->av H H'->H' p=some (.lst (as.map V.ref))->fN K H' as (c9 rs)->Q (.ref p) H')->jV K Z vs H Q E
include T bT in
theorem wG:FF P w K mg base CX0 2 "rides" "Book.rides" kZ p9 (jV K Z):=fk0 cK fun vs H Q E h=>by
 obtain ⟨bk,rl,g,n0,rs,rfl,hB,hd,hn,q⟩:=h
 k_all
 refine seg 2 (ah (aB (pv' 1))) fun zt2 zh2 ze2=>?_
 refine seg 1 (ae (cR PassesOwn.never rfl (dk (ax (pv' 0))) (dZ rfl (aH (aD (i:=2) cK.nd rfl (Or.inr rfl)) (aH (aD (i:=3) cK.nd rfl (Or.inr rfl)) (aH (aD (i:=4) cK.nd rfl orL) (aH (aD (i:=5) cK.nd rfl orL) (aH (aD (i:=6) cK.nd rfl (Or.inr rfl)) cZ)))))) (ah (aM (bH (ao aw (pv' 4) af) aE) (ae (BH ["cage","standing","began","ended"] [none,some 6,some 2,some 3] (iy:=7) cK.nd rfl rfl (GQ (cX (by rfl) T.GZ)) (fun _ _ _ _=>(aD (i:=0) (show (["cage","standing","began","ended"]:List Str).Nodup by decide +kernel) rfl orL)) (fun _ _ _ _=>fj) (fun _ _ _ _=>(aR (pa4 (dm' (show PE _ _ (BU K _ _) from ax (pv' 1)) bT hr.dn aU (pa1 (pv' 0))) (pv' 0) (pv' 2) (pv' 3))))) (ah (aZ (j9 PySem.F.plainAttrs_list PySem.F.slot_list_extend PySem.F.type_list_extend AY (pv' 1) (pa1 (ka ["ride"] [none] (dk (pv' 7)) (fun _ _ _ _=>(aD (i:=0) (show (["ride"]:List Str).Nodup by decide +kernel) rfl orL)) (fun _ _ _ _=>(kD (B3 (ao (show IxR _ (pK K) from aw) (pv' 0) af) dI))) (fun _ _ _ _=>(pv' 0)))))))) (aC)))) zh2) fun zt1 zh1 ze1=>?_
 refine ⟨_,ae (aF (i:=1) cK.nd rfl orL (bw fL)) zh1,?_⟩
 obtain ⟨⟨dx,f0,hob,hF⟩,as,hrl,hR⟩:=id hB
 have hl:=hR.1
 k_mem
 refine ⟨by decide,fun p hp=>?_⟩
 (generalize hE:upd H p _=H1 at *;have s1:=dE hE hp;have e1:=cf hE;clear hE)
 k_mem
 refine fgo (s1 _ _ hob) T.c7 T.bJ rfl ?_
 k_mem
 refine ⟨⟨_,SqL.of (s1 _ _ hrl)⟩,?_⟩
 k_upd
 refine kb (as.map V.ref) (Fe H K rs (.ref bk)) ⟨s1,p,[],_,_,_,_,_,_,rfl,hp,e1,cJ.nil⟩ (fun i σ H' _ h=>SqL.of (h.1 _ _ hrl)) ?_ ?_
 ·rintro i x σ H2 hx ⟨s2,p2,cs,a1,a2,a3,a4,a5,a6,rfl,hp2,ep2,hT2⟩
  rw [List.getElem?_map] at hx
  obtain ⟨a,ea,rfl⟩:=Option.map_eq_some_iff.mp hx
  have hi:i < as.length:=(List.getElem?_eq_some_iff.mp ea).1
  have hi':i < rs.length:=by omega
  obtain ⟨dd,s,hra,hdd,A,hA⟩:=hR.2 i a _ ea (List.getElem?_eq_getElem hi')
  have et:c9 (rs.take (i+1))=c9 (rs.take i)++gp rs[i]:=by rw [List.take_succ_eq_append_getElem hi',sr]
  obtain ⟨d,ed⟩:=hd _ (List.getElem_mem hi')
  obtain ⟨wd,ew,_⟩:=yd d
  rw [ed] at hdd
  have hh:rs[i].deed.head?=some (.str wd):=by rw [ed];cases d<;>exact ew
  k_mem
  refine ⟨_,s2.tup hra,rfl,?_⟩
  k_mem
  refine ⟨_,s2.tup hdd,_,ew,?_⟩
  k_mem
  split
  ·rename_i hb
   subst hb
   have hA2:=hA.same s2
   obtain ⟨dy,hyb⟩:=hA2.ya.ob
   k_upd
   refine ⟨⟨_,T.qs _⟩,?_⟩
   refine lY 2 (fun j acc H'=>av H2 H'/\∃bs:List Addr,acc=bs.map V.ref/\fN K H' bs (([0,1]:List Int).take j |>.map (l4 rs[i]))) ⟨av.refl _,[],rfl,cJ.nil⟩ ?_ ?_ ?_ ?_
   ·rintro j acc H' hj ⟨s3,_⟩
    rcases (by omega:j=0\/j=1) with rfl | rfl
    ·k_upd
     exact ⟨_,_,T.qs _,rfl⟩
    ·k_upd
     exact ⟨_,_,T.qs _,rfl⟩
   ·rintro acc H' ⟨s3,_⟩
    k_upd
    exact ⟨_,T.qs _,Nat.le_refl _⟩
   ·rintro j acc H3 hj ⟨s3,bs,rfl,hb⟩
    have hbl:bs.length<=2:=by have:=hb.1;rw [this,WB,List.length_take];omega
    k_upd
    refine ⟨cw (by rw [WB];omega),?_⟩
    rintro x H4 ⟨e2,y⟩ M hM
    subst e2
    have hy:=y _ (T.qs _)
    obtain ⟨c,rfl,hc0,hc1,hcj⟩:∃c:Int,x=.int c/\0<=c/\c < 2/\([0,1]:List Int).take (j+1)=([0,1]:List Int).take j++[c]:=by
     rcases (by omega:j=0\/j=1) with rfl | rfl
     ·cases hy;exact ⟨0,rfl,by decide,by decide,rfl⟩
     ·cases hy;exact ⟨1,rfl,by decide,by decide,rfl⟩
    have hA3:=hA2.same s3
    k_mem
    refine ⟨⟨rfl,fun k v e=>?_⟩,_,_,_,hA3.ob,T.aJ,T.bq,_,rfl,?_⟩
    ·match k,e with
     | 0,e=>cases e
     | 1,e=>exact e
     | 2,e=>exact e
     | 3,e=>exact e
     | k+4,e=>simp at e
    k_mem
    refine mgo (s3 _ _ hyb) rfl ⟨_,_,_,_,_,_,_,rfl,hA3.ya,hc0,hc1,fun H5 s5=>?_⟩
    k_upd
    refine ⟨by decide,fun p6 hp6=>hM _ _ ⟨(s3.trans s5).lay hp6,bs++[p6],by rw [List.map_append];rfl,?_⟩⟩
    rw [hcj,List.map_append]
    exact (hb.same (s5.lay hp6)).push (SqT.of ag)
   ·rintro acc H3 ⟨s3,bs,rfl,hb⟩ p7 hp7
    (generalize hE:upd H3 p7 _=H4 at *;have s4:=dE hE hp7;have e4:=cf hE;clear hE)
    have hb4:=hb.same s4
    have s24:=s3.trans s4
    obtain ⟨b0,b1,rfl,t0,t1⟩:∃b0 b1,bs=[b0,b1]/\SqT K H4 b0 (l4 rs[i] 0)/\SqT K H4 b1 (l4 rs[i] 1):=by
     have hl2:=hb4.1
     match bs,hl2 with
     | [b0,b1],_=>exact ⟨b0,b1,rfl,hb4.2 0 b0 _ rfl rfl,hb4.2 1 b1 _ rfl rfl⟩
    k_mem
    refine ⟨.inl ⟨rfl,_,SqL.of (s24 _ _ ep2)⟩,⟨_,SqL.of e4⟩,?_⟩
    refine lY 2 (fun j acc H'=>H'=H4/\∃ds:List Addr,acc=ds.map V.ref/\fN K H4 ds (([0,1]:List Int).take j |>.flatMap (ff rs[i]))) ⟨rfl,[],rfl,cJ.nil⟩ ?_ ?_ ?_ ?_
    ·rintro j acc H' hj ⟨rfl,_⟩
     rcases (by omega:j=0\/j=1) with rfl | rfl
     ·k_upd
      exact ⟨_,_,SqL.of e4,rfl⟩
     ·k_upd
      exact ⟨_,_,SqL.of e4,rfl⟩
    ·rintro acc H' ⟨rfl,_⟩
     k_upd
     exact ⟨_,SqL.of e4,Nat.le_refl _⟩
    ·rintro j acc H' hj ⟨rfl,ds,rfl,hds⟩
     have hdl:ds.length<=2:=by
      rw [hds.1]
      have h0:=nA rs[i] 0
      rcases (by omega:j=0\/j=1) with rfl | rfl
      ·exact Nat.zero_le _
      ·show (ff rs[i] 0++[]).length<=2;rw [List.append_nil];omega
     k_upd
     refine ⟨cw (by rw [WB];omega),?_⟩
     rintro x H5 ⟨e2,y⟩ M hM
     subst e2
     have hy:=y _ (SqL.of e4)
     obtain ⟨c,b,rfl,hb,hcj⟩:∃(c:Int) (b:Addr),x=.ref b/\SqT K H5 b (l4 rs[i] c)/\([0,1]:List Int).take (j+1)=([0,1]:List Int).take j++[c]:=by
      rcases (by omega:j=0\/j=1) with rfl | rfl
      ·cases hy;exact ⟨0,b0,rfl,t0,rfl⟩
      ·cases hy;exact ⟨1,b1,rfl,t1,rfl⟩
     k_mem
     refine ⟨⟨rfl,fun k v e=>?_⟩,_,hb,_,rfl,?_⟩
     ·match k,e with
      | 0,e=>cases e
      | k+1,e=>simp at e
     rw [hcj,List.flatMap_append] at hM
     by_cases hin:10+c∈rs[i].sn.ws
     ·have er:List.flatMap (ff rs[i]) [c]=[l4 rs[i] c]:=by
       show ff rs[i] c++[]=_
       rw [List.append_nil,ff,if_pos hin]
      rw [er] at hM
      k_upd
      rw [if_pos (by rw [inC,if_pos hin];exact fun z=>V.noConfusion z)]
      exact hM _ _ ⟨rfl,ds++[b],by rw [List.map_append];rfl,hds.push hb⟩
     ·have er:List.flatMap (ff rs[i]) [c]=[]:=by
       show ff rs[i] c++[]=_
       rw [List.append_nil,ff,if_neg hin]
      rw [er,List.append_nil] at hM
      k_upd
      rw [if_neg (by rw [inC,if_neg hin];exact fun z=>z rfl)]
      exact hM _ _ ⟨rfl,ds,rfl,hds⟩
    ·rintro acc H' ⟨rfl,ds,rfl,hds⟩ p8 hp8
     (generalize hE:upd H' p8 _=H9 at *;have s9:=dE hE hp8;have e9:=cf hE;clear hE)
     have s29:=s24.trans s9
     have hcl:=hT2.1
     have hrl2:=iw (rs.take i)
     have hrl3:=uE rs[i]
     have ehr:gp rs[i]=List.flatMap (ff rs[i]) (List.take 2 [0,1]):=by
      rw [gp,if_pos hh]
      show _=ff rs[i] 0++(ff rs[i] 1++[])
      rw [List.append_nil]
     rw [←ehr] at hds
     have hdl:=hds.1
     rw [List.length_take] at hrl2
     k_upd
     refine ⟨_,s29 _ _ ep2,_,e9,by rw [WB,WB,sizeLine_eq];omega,?_⟩
     have ne8:p8≠p2:=(ai (s24 _ _ ep2) hp8).symm
     k_upd
     refine ⟨(s2.trans s29).rewr hp2,p2,cs++ds,_,_,_,_,_,_,rfl,hp2,by rw [ag,List.map_append],?_⟩
     rw [et]
     have kp:aA p2 H9 (upd H9 p2 (HO.lst (cs.map V.ref++ds.map V.ref))):=(aA.of (av.refl H9)).put
     exact ((hT2.same s29).imp fun a x z=>z.keep kp (s29 _ _ ep2)).app ((hds.same s9).imp fun a x z=>z.keep kp (s29 _ _ ep2))
  ·rename_i hb
   k_upd
   refine ⟨s2,p2,cs,_,_,_,_,_,_,rfl,hp2,ep2,?_⟩
   rw [et,show gp rs[i]=[] from if_neg (by rw [hh];intro z;cases z;exact hb rfl),List.append_nil]
   exact hT2
 ·rintro σ H' ⟨s2,p2,cs,a1,a2,a3,a4,a5,a6,rfl,hp2,ep2,hT2⟩
  k_mem
  rw [WB,hl,List.take_length] at hT2
  k_upd
  exact q p2 cs H' hp2 s2 ep2 hT2
variable (qz:KM P w K mg base CX0 2 Z.mG "rides" (jV K Z))
inductive eX (K:WA)(Z:Adr)(vs:List V)(H:Hp)(Q:VK)(E:XK):Prop | mk (w bk rl:Addr) (g:Cfg) (n0:aO) (rs:List Row):vs=[.ref w]->WAt (clZ Z) K H w bk rl g n0 rs->((rs=[]->E (.ref Z.gj) none H))->((∀rs' r,rs=rs'++[r]->∀p H',aA rl H H'->WAt (clZ Z) K H' w bk rl g n0 rs'->SqT K H' p r.deed->Q (.ref p) H'))->eX K Z vs H Q E
include T n9 in
theorem oY:FF P w K mg base (CXf P w) 2 "take_back" "Works.take_back" fB jm (eX K Z):=fkF oG fun vs H Q E h=>by
 obtain ⟨w,bk,rl,g,n0,rs,rfl,hW,q1,q2⟩:=h
 k_all
 refine ⟨_,ah (aB (cT (ax (pv' 0)) n9 hr.dn bC)),?_⟩
 obtain ⟨⟨dx,dl,gl,hob,hdl,hgl,n1,n2⟩,hB⟩:=id hW
 obtain ⟨⟨db,f0,hbo,hF⟩,as,hrl,hR⟩:=id hB
 k_mem
 refine fgo hob T.aS T.aP rfl ?_
 k_mem
 exact mgo hbo rfl ⟨_,_,_,_,_,rfl,hB,q1,fun rs2 r e p H' k hB2 hp=>q2 rs2 r e p H' k (hW.keep k hrl hB2) hp⟩
variable (jq:KM P w K mg base (CXf P w) 2 Z.aY "take_back" (eX K Z))
inductive eB (K:WA)(Z:Adr)(vs:List V)(H:Hp)(Q:VK)(E:XK):Prop | mk (w bk rl:Addr) (g:Cfg) (n0:aO) (rs:List Row) (s:Addr) (n:aO):vs=[.ref w,.ref s]->WAt (clZ Z) K H w bk rl g n0 rs->dM (clZ Z) K H rl g s n->g.ks.length=n.ws.length->(∀H',av H H'->Q (.int (fq g n)) H')->eB K Z vs H Q E
include T jo in
theorem nE:FF P w K mg base CX0 2 "speed_with" "Works.speed_with" eT iz (eB K Z):=fk0 nD fun vs H Q E h=>by
 obtain ⟨w,bk,rl,g,n0,rs,s0,n,rfl,hW,hS,hl,q⟩:=h
 k_all
 refine ⟨_,ah (aB (yD (bZ (cT (ax (pv' 1)) jo hr.dn aU)) (ax (pv' 0)) (ax (pv' 0)))),?_⟩
 obtain ⟨⟨dx,dl,gl,hob,hdl,hgl,n1,n2⟩,hB⟩:=id hW
 obtain ⟨⟨db,f0,hbo,hF⟩,as,hrl,hR⟩:=id hB
 k_mem
 obtain ⟨A,hA⟩:=id hS
 k_upd
 refine fgo hA.ob T.aJ T.bq rfl ?_
 k_mem
 obtain ⟨dy,hyb⟩:=hA.ya.ob
 k_upd
 refine ⟨_,_,hyb,rfl,_,_,_,_,_,_,rfl,hA.ya,hl,fun H' s1=>?_⟩
 k_mem
 have q':=q H' s1
 unfold fq at q'
 k_upd
 split
 ·rename_i h
  k_upd
  rw [if_pos h] at q'
  k_upd
  exact fgo (s1 _ _ hob) T.aS T.n6 rfl q'
 ·rename_i h
  k_upd
  rw [if_neg h] at q'
  k_upd
  exact fgo (s1 _ _ hob) T.aS T.n8 rfl q'
variable (dD:KM P w K mg base CX0 2 Z.aY "speed_with" (eB K Z))
inductive cU (K:WA)(Z:Adr)(vs:List V)(H:Hp)(Q:VK)(E:XK):Prop | mk (w bk rl:Addr) (g:Cfg) (n0:aO) (rs:List Row) (lv:Int):vs=[.ref w,.int lv]->WAt (clZ Z) K H w bk rl g n0 rs->0<=lv->lv < (ak n0 rs).gates.length->(((ak n0 rs).gates.getD lv.toNat false=true->Q .non H))->(((ak n0 rs).gates.getD lv.toNat false=false->E (.ref Z.iR) none H))->cU K Z vs H Q E
include T aI in
theorem jc:FF P w K mg base (CXf P w) 2 "refuse_shut_gate" "Works.refuse_shut_gate" de eK (cU K Z):=fkF jb fun vs H Q E h=>by
 obtain ⟨w,bk,rl,g,n0,rs,lv,rfl,hW,h0,h1,q1,q2⟩:=h
 k_all
 refine ⟨_,ah (aM (dw (bZ (ao au (ax (cT (ax (pv' 0)) aI hr.dn aU)) (pv' 1)))) (ah (bh T.Bb (by rfl) T.A6 (pa1 aE))) (aC)),?_⟩
 obtain ⟨⟨dx,dl,gl,hob,hdl,hgl,n1,n2⟩,hB⟩:=id hW
 obtain ⟨⟨db,f0,hbo,hF⟩,as,hrl,hR⟩:=id hB
 k_mem
 refine fgo hob T.aS T.aP rfl ?_
 k_mem
 refine mgo hbo rfl ⟨_,_,_,_,_,rfl,hB,fun s0 ⟨A,hA⟩=>?_⟩
 k_mem
 refine fgo hA.ob T.aJ T.bW rfl ?_
 k_mem
 refine ⟨_,SqL.of hA.go,_,kI h0 h1,?_⟩
 k_mem
 split
 ·rename_i h
  k_upd
  exact ⟨by decide,q2 (by simpa using h)⟩
 ·rename_i h
  k_upd
  exact q1 (by simpa using h)
variable (cq:KM P w K mg base (CXf P w) 2 Z.aY "refuse_shut_gate" (cU K Z))
inductive lE (K:WA)(Z:Adr)(vs:List V)(H:Hp)(Q:VK)(E:XK):Prop | mk (w bk rl:Addr) (g:Cfg) (n0:aO) (rs:List Row):vs=[.ref w]->WAt (clZ Z) K H w bk rl g n0 rs->Q (.int (cD rs)) H->lE K Z vs H Q E
include T lB in
theorem yy:FF P w K mg base CX0 2 "now" "Works.now" mv sR (lE K Z):=fk0 yk fun vs H Q E h=>by
 obtain ⟨w,bk,rl,g,n0,rs,rfl,hW,q⟩:=h
 k_all
 refine ⟨_,ah (aB (cT (ax (pv' 0)) lB hr.dn aU)),?_⟩
 obtain ⟨⟨dx,dl,gl,hob,hdl,hgl,n1,n2⟩,hB⟩:=id hW
 obtain ⟨⟨db,f0,hbo,hF⟩,as,hrl,hR⟩:=id hB
 k_mem
 refine fgo hob T.aS T.aP rfl ?_
 k_mem
 exact mgo hbo rfl ⟨_,_,_,_,_,rfl,hB,q⟩
variable (jr:KM P w K mg base CX0 2 Z.aY "now" (lE K Z))
inductive jW (K:WA)(Z:Adr)(vs:List V)(H:Hp)(Q:VK)(E:XK):Prop | mk (w bk rl:Addr) (g:Cfg) (n0:aO) (rs:List Row):vs=[.ref w]->WAt (clZ Z) K H w bk rl g n0 rs->rs.length<=1000->(∀(p:Addr) (as:List Addr) (H':Hp),H p=none->av H H'->H' p=some (.lst (as.map V.ref))->cE K H' as rs->Q (.ref p) H')->jW K Z vs H Q E
include T td in
theorem wH:FF P w K mg base CX0 2 "book" "Works.book" lq qh (jW K Z):=fk0 wa fun vs H Q E h=>by
 obtain ⟨w,bk,rl,g,n0,rs,rfl,hW,hn,q⟩:=h
 k_all
 refine ⟨_,ah (aB (cT (ax (pv' 0)) td hr.dn aU)),?_⟩
 obtain ⟨⟨dx,dl,gl,hob,hdl,hgl,n1,n2⟩,hB⟩:=id hW
 obtain ⟨⟨db,f0,hbo,hF⟩,as,hrl,hR⟩:=id hB
 k_mem
 refine fgo hob T.aS T.aP rfl ?_
 k_mem
 exact mgo hbo rfl ⟨_,_,_,_,_,rfl,hB,hn,q⟩
variable (qA:KM P w K mg base CX0 2 Z.aY "book" (jW K Z))
inductive gH (K:WA)(Z:Adr)(vs:List V)(H:Hp)(Q:VK)(E:XK):Prop | mk (w bk rl:Addr) (g:Cfg) (n0:aO) (rs:List Row):vs=[.ref w]->WAt (clZ Z) K H w bk rl g n0 rs->(∀st,SqT K H st (kH (ak n0 rs).e)->Q (.ref st) H)->gH K Z vs H Q E
include T mM aI in
theorem tQ:FF P w K mg base CX0 2 "engine" "Works.engine" iJ mi (gH K Z):=fk0 tJ fun vs H Q E h=>by
 obtain ⟨w,bk,rl,g,n0,rs,rfl,hW,q⟩:=h
 k_all
 refine ⟨_,ah (aB (cT (ax (cT (ax (pv' 0)) aI hr.dn aU)) mM hr.dn aU)),?_⟩
 obtain ⟨⟨dx,dl,gl,hob,hdl,hgl,n1,n2⟩,hB⟩:=id hW
 obtain ⟨⟨db,f0,hbo,hF⟩,as,hrl,hR⟩:=id hB
 k_mem
 refine fgo hob T.aS T.aP rfl ?_
 k_mem
 refine mgo hbo rfl ⟨_,_,_,_,_,rfl,hB,fun s0 ⟨A,hA⟩=>?_⟩
 k_mem
 refine fgo hA.ob T.aJ T.bN rfl ?_
 k_mem
 obtain ⟨db2,hbb⟩:=hA.be.ob
 k_upd
 exact mgo hbb rfl ⟨_,_,_,_,_,_,_,rfl,hA.be,q _ hA.be.os⟩
variable (mT:KM P w K mg base CX0 2 Z.aY "engine" (gH K Z))
inductive jX (K:WA)(Z:Adr)(vs:List V)(H:Hp)(Q:VK)(E:XK):Prop | mk (w bk rl:Addr) (g:Cfg) (n0:aO) (rs:List Row):vs=[.ref w]->WAt (clZ Z) K H w bk rl g n0 rs->(ak n0 rs).fs.length<=1000->(∀p H',H p=none->av H H'->H' p=some (.lst ((cN (ak n0 rs).fs).map V.int))->Q (.ref p) H')->jX K Z vs H Q E
include T qu aI in
theorem wI:FF P w K mg base CX0 2 "dead" "Works.dead" lr qi (jX K Z):=fk0 wc fun vs H Q E h=>by
 obtain ⟨w,bk,rl,g,n0,rs,rfl,hW,hn,q⟩:=h
 k_all
 refine ⟨_,ah (aB (cT (ax (cT (ax (pv' 0)) aI hr.dn aU)) qu hr.dn aU)),?_⟩
 obtain ⟨⟨dx,dl,gl,hob,hdl,hgl,n1,n2⟩,hB⟩:=id hW
 obtain ⟨⟨db,f0,hbo,hF⟩,as,hrl,hR⟩:=id hB
 k_mem
 refine fgo hob T.aS T.aP rfl ?_
 k_mem
 refine mgo hbo rfl ⟨_,_,_,_,_,rfl,hB,fun s0 ⟨A,hA⟩=>?_⟩
 k_mem
 refine fgo hA.ob T.aJ T.bN rfl ?_
 k_mem
 obtain ⟨db2,hbb⟩:=hA.be.ob
 k_upd
 exact mgo hbb rfl ⟨_,_,_,_,_,_,_,rfl,hA.be,hn,q⟩
variable (qB:KM P w K mg base CX0 2 Z.aY "dead" (jX K Z))
inductive i3 (K:WA)(Z:Adr)(vs:List V)(H:Hp)(Q:VK)(E:XK):Prop | mk (w bk rl:Addr) (g:Cfg) (n0:aO) (rs:List Row):vs=[.ref w]->WAt (clZ Z) K H w bk rl g n0 rs->(∀p,H p=none->Q (.ref p) (upd H p (.lst ((ak n0 rs).gates.map V.bl))))->i3 K Z vs H Q E
include T aI in
theorem vA:FF P w K mg base CX0 2 "gates" "Works.gates" jL nR (i3 K Z):=fk0 uW fun vs H Q E h=>by
 obtain ⟨w,bk,rl,g,n0,rs,rfl,hW,q⟩:=h
 k_all
 refine ⟨_,ah (aB (bc aX (by rfl) T.dC cB (pa1 (ax (cT (ax (pv' 0)) aI hr.dn aU))))),?_⟩
 obtain ⟨⟨dx,dl,gl,hob,hdl,hgl,n1,n2⟩,hB⟩:=id hW
 obtain ⟨⟨db,f0,hbo,hF⟩,as,hrl,hR⟩:=id hB
 k_mem
 refine fgo hob T.aS T.aP rfl ?_
 k_mem
 refine mgo hbo rfl ⟨_,_,_,_,_,rfl,hB,fun s0 ⟨A,hA⟩=>?_⟩
 k_mem
 refine fgo hA.ob T.aJ T.bW rfl ?_
 k_mem
 exact ⟨_,.inl (SqL.of hA.go),q⟩
variable (og:KM P w K mg base CX0 2 Z.aY "gates" (i3 K Z))
inductive i4 (K:WA)(Z:Adr)(vs:List V)(H:Hp)(Q:VK)(E:XK):Prop | mk (w bk rl:Addr) (g:Cfg) (n0:aO) (rs:List Row):vs=[.ref w]->WAt (clZ Z) K H w bk rl g n0 rs->(∀p,H p=none->Q (.ref p) (upd H p (.lst ((ak n0 rs).ws.map V.int))))->i4 K Z vs H Q E
include T gX aI in
theorem vB:FF P w K mg base CX0 2 "spots" "Works.spots" jN nT (i4 K Z):=fk0 uY fun vs H Q E h=>by
 obtain ⟨w,bk,rl,g,n0,rs,rfl,hW,q⟩:=h
 k_all
 refine ⟨_,ah (aB (cT (ax (cT (ax (pv' 0)) aI hr.dn aU)) gX hr.dn aU)),?_⟩
 obtain ⟨⟨dx,dl,gl,hob,hdl,hgl,n1,n2⟩,hB⟩:=id hW
 obtain ⟨⟨db,f0,hbo,hF⟩,as,hrl,hR⟩:=id hB
 k_mem
 refine fgo hob T.aS T.aP rfl ?_
 k_mem
 refine mgo hbo rfl ⟨_,_,_,_,_,rfl,hB,fun s0 ⟨A,hA⟩=>?_⟩
 k_mem
 refine fgo hA.ob T.aJ T.bq rfl ?_
 k_mem
 obtain ⟨dy,hyb⟩:=hA.ya.ob
 k_upd
 exact ⟨_,_,hyb,rfl,_,_,_,_,_,_,rfl,hA.ya,q⟩
variable (oh:KM P w K mg base CX0 2 Z.aY "spots" (i4 K Z))
inductive fT (K:WA)(Z:Adr)(vs:List V)(H:Hp)(Q:VK)(E:XK):Prop | mk (w bk rl:Addr) (g:Cfg) (n0:aO) (rs:List Row) (c:Int):vs=[.ref w,.int c]->WAt (clZ Z) K H w bk rl g n0 rs->0<=c->c < 2->(∀H',av H H'->Q (inC (ak n0 rs).ws c) H')->fT K Z vs H Q E
include T bT aI in
theorem rY:FF P w K mg base CX0 2 "in_cage" "Works.in_cage" gA lO (fT K Z):=fk0 rE fun vs H Q E h=>by
 obtain ⟨w,bk,rl,g,n0,rs,c,rfl,hW,h0,h1,q⟩:=h
 k_all
 refine ⟨_,ah (aB (dm' (ax (cT (ax (pv' 0)) aI hr.dn aU)) bT hr.dn aU (pa1 (pv' 1)))),?_⟩
 obtain ⟨⟨dx,dl,gl,hob,hdl,hgl,n1,n2⟩,hB⟩:=id hW
 obtain ⟨⟨db,f0,hbo,hF⟩,as,hrl,hR⟩:=id hB
 k_mem
 refine fgo hob T.aS T.aP rfl ?_
 k_mem
 refine mgo hbo rfl ⟨_,_,_,_,_,rfl,hB,fun s0 ⟨A,hA⟩=>?_⟩
 k_mem
 refine fgo hA.ob T.aJ T.bq rfl ?_
 k_mem
 obtain ⟨dy,hyb⟩:=hA.ya.ob
 k_upd
 exact ⟨_,_,hyb,rfl,_,_,_,_,_,_,_,rfl,hA.ya,h0,h1,q⟩
variable (gI:KM P w K mg base CX0 2 Z.aY "in_cage" (fT K Z))
def CU (c r0 sh:Int)(l:Addr)(H:Hp)(i:Nat)(σ:St)(H':Hp):Prop:=∃(ds:List Int) (last:Int) (t u:Option V),σ=[some (.int c),some (.int (2+r0)),some (.int sh),none,some (.ref l),some (.int last),t,u]/\kF ds last/\last<=500 - (2+r0)+i/\ds.length=i/\H'=upd H l (.lst (ds.map V.int))
inductive mU (K:WA)(Z:Adr)(vs:List V)(H:Hp)(Q:VK)(E:XK):Prop | mk (c:Int):vs=[.int c]->(∀(l:Addr) (ds:List Int) (H':Hp),H l=none->av H H'->H' l=some (.lst (ds.map V.int))->bX ds->Q (.ref l) H')->mU K Z vs H Q E
include T bU in
theorem zM:FF P w K mg base CX0 2 "_law_depths" "_law_depths" oI uN (mU K Z):=fk0 cL fun vs H Q E h=>by
 obtain ⟨c,rfl,q⟩:=h
 k_all
 refine ⟨_,ae (aF (i:=1) cL.nd rfl orL (aQ bf af (dc0 bU hr.dn (pa3 (pv' 0) af af)))) (ae (aF (i:=2) cL.nd rfl orL (dc0 bU hr.dn (pa3 (pv' 0) af af))) (ae (aM (bH (pv' 2) af) (ae (aF (i:=3) cL.nd rfl (Or.inr rfl) (aQ bf af (dc0 bU hr.dn (pa3 (pv' 0) af af)))) (ah (aB (ka ["_law_k","_law_gap"] [none,some 3] (bj (by rfl) T.cj (pa1 (pv' 1))) (fun _ _ _ _=>(aD (i:=0) (show (["_law_k","_law_gap"]:List Str).Nodup by decide +kernel) rfl orL)) (fun _ _ _ _=>fj) (fun _ _ _ _=>(aQ ua (pv' 1) (pv' 0))))))) (aC)) (ae (aF (i:=4) cL.nd rfl orL (bw fL)) (ae (aF (i:=5) cL.nd rfl orL (j8 dY af)) (ae (cR PassesOwn.never rfl (bj (by rfl) T.cj (pa1 (pv' 1))) (aD (i:=6) cL.nd rfl orL) (ae (aF (i:=7) cL.nd rfl orL (aQ di (aQ bf (aQ di af (pv' 1)) (pv' 6)) (pv' 5))) (ae (aM (bH (pv' 2) af) (ah (aF (i:=7) cL.nd rfl orL (aG (ox rfl) (by rfl) T.E6 An (pa2 (pv' 7) af)))) (aC)) (ae (aF (i:=5) cL.nd rfl orL (aQ bf (aQ bf (pv' 5) af) (dc0 bU hr.dn (pa3 (pv' 0) (aQ bf af (pv' 6)) (pv' 7))))) (ah (aZ (j9 PySem.F.plainAttrs_list PySem.F.slot_list_append PySem.F.type_list_append cO (pv' 4) (pa1 (pv' 5))))))))) (ae (aM (ie (bH (pv' 2) af) (fW (bH (dc0 bU hr.dn (pa3 (pv' 0) af af)) af))).pt (ah (aB (aQ ub (aQ ub (bw (pa1 af)) (uk E1 (pv' 4) (pP af) (pP (j8 dY af)))) (bw (pa1 af))))) (aC)) (ah (aB (pv' 4))))))))),?_⟩
 k_mem
 refine ⟨c,0,5,rfl,by omega,by omega,by omega,fun r0 h0 h0'=>?_⟩
 k_mem
 refine ⟨c,1,4,rfl,by omega,by omega,by omega,fun sh h1 h1'=>?_⟩
 k_mem
 split
 ·refine ⟨c,2,100,rfl,by omega,by omega,by omega,fun r2 h2 h2'=>?_⟩
  k_mem
  refine ⟨by omega,by omega,xR (fun i=>V.int ((1+r2) * (i:Int))) (Nat.le_trans (by omega:(2+r0).toNat<=1000) (by decide)) rfl (fun i hi N q=>?_) (fun p hp=>?_)⟩
  ·k_mem
   rw [Int.zero_add]
   exact ⟨.inl ⟨by omega,by omega⟩,q⟩
  ·refine q p ((List.range (2+r0).toNat).map fun (i:Nat)=>(1+r2) * (i:Int)) _ hp (fun b o e=>?_) ?_ (bX.even (by omega) (by omega) (by omega) (by omega))
   ·rw [aK (ai e hp)];exact e
   ·rw [ag,List.map_map];rfl
 ·refine ⟨by decide,fun l hln=>⟨by omega,by omega,bK (CU c r0 sh l H) ⟨[],-1,_,_,rfl,kF.nil,by omega,rfl,rfl⟩ ?_ ?_⟩⟩
  ·rintro i σ H' hi ⟨ds,last,t,u,rfl,hR,hla,hlen,rfl⟩
   have l0:=hR.l0
   k_mem
   split
   all_goals
    refine ⟨c,_,_,rfl,by omega,by omega,by (try split)<;>omega,fun r hr0 hr1=>?_⟩
    k_mem
    refine ⟨.inl ⟨rfl,_,SqL.of ag⟩,_,ag,cw (by rw [WB];omega),ds++[last+1+r],last+1+r,_,_,rfl,hR.snoc hr0,?_,by rw [List.length_append,hlen];rfl,?_⟩
    ·(try split at hr1)<;>omega
    ·rw [Fl,List.map_append];rfl
  ·rintro σ H' ⟨ds,last,t,u,rfl,hR,hla,hlen,rfl⟩
   have hsh:=hR.shaft (by omega) (by omega) (by omega)
   have hQ0:Q (V.ref l) (upd H l (HO.lst (List.map V.int ds))):=q l ds _ hln ((av.refl H).lay hln) ag hsh
   k_mem
   split
   ·refine ⟨c,8,4,rfl,by omega,by omega,by omega,fun r hr0 hr1=>?_⟩
    k_mem
    split
    ·refine ⟨by decide,fun p1 hp1=>⟨_,SqL.of (upo ag hp1),fun p2 hp2=>⟨_,upo ag hp2,_,ag,?_,fun p3 hp3=>⟨by decide,fun p4 hp4=>⟨_,upo ag hp4,_,ag,?_,fun p5 hp5=>?_⟩⟩⟩⟩⟩
     ·have:=jd (List.map V.int ds) (some 1) (some (-1))
      rw [WB] at this
      exact Nat.le_of_lt (cw (by rw [List.length_singleton];omega))
     ·have:=jd (List.map V.int ds) (some 1) (some (-1))
      rw [WB] at this
      exact Nat.le_of_lt (cw (by rw [List.length_append,List.length_singleton,List.length_singleton];omega))
     ·refine q p5 ([0]++(ds.drop 1).take (ds.length - 1 - 1)++[500]) _ (upn (upn (upn (upn (upn hp5))))) ((((((av.refl H).lay hln).lay hp1).lay hp2).lay hp3).lay hp4 |>.lay hp5) ?_ hsh.ends
      rw [ag,DU ds hsh.l2,List.map_append,List.map_append]
      rfl
    ·exact hQ0
   ·exact hQ0
variable (vC:KD P w K mg base CX0 2 "_law_depths" (mU K Z))
def Ff (K:WA)(c m:Int)(l:Addr)(H:Hp)(i:Nat)(σ:St)(H':Hp):Prop:=av H H'/\∃(as:List Addr) (ls:List Cd) (t u:Option V),σ=[some (.int c),some (.int m),some (.ref l),t,u]/\H' l=some (.lst (as.map V.ref))/\bF cdV K H' as ls/\ls.length=i/\∀x∈ls,ez x
inductive oZ (K:WA)(Z:Adr)(vs:List V)(H:Hp)(Q:VK)(E:XK):Prop | mk (c m:Int):vs=[.int c,.int m]->0<=m->m<=500->(∀(l:Addr) (as:List Addr) (ls:List Cd) (H':Hp),H l=none->av H H'->H' l=some (.lst (as.map V.ref))->bF cdV K H' as ls->(ls.length:Int)=m->(∀x∈ls,ez x)->Q (.ref l) H')->oZ K Z vs H Q E
include T bU in
theorem Bj:FF P w K mg base CX0 2 "_law_codes" "_law_codes" rH xp (oZ K Z):=fk0 lu fun vs H Q E h=>by
 obtain ⟨c,m,rfl,h0,h1,q⟩:=h
 k_all
 refine ⟨_,ae (aF (i:=2) lu.nd rfl orL (bw fL)) (ae (cR PassesOwn.never rfl (bj (by rfl) T.cj (pa1 (pv' 1))) (aD (i:=3) lu.nd rfl orL) (ae (aF (i:=4) lu.nd rfl orL (aQ bf af (dc0 bU hr.dn (pa3 (pv' 0) (l5 af (pv' 3)) af)))) (ah (aZ (j9 PySem.F.plainAttrs_list PySem.F.slot_list_append PySem.F.type_list_append cO (pv' 2) (pa1 (aR (pa2 (pv' 4) (aQ bf af (cb (aQ bf (pv' 4) (dc0 bU hr.dn (pa3 (pv' 0) (aQ bf (l5 af (pv' 3)) af) af))) af)))))))))) (ah (aB (pv' 2)))),?_⟩
 k_mem
 refine ⟨by decide,fun l hl=>⟨by omega,by omega,?_⟩⟩
 refine bK (Ff K c m l H) ⟨(av.refl H).lay hl,[],[],_,_,rfl,ag,bF.nil,rfl,fun x hx=>by cases hx⟩ ?_ ?_
 ·rintro i σ H' hi ⟨s1,as,ls,t,u,rfl,hl',hT,hlen,hg⟩
  k_mem
  refine ⟨c,2 * (0 + ↑i),9,rfl,by omega,by omega,by omega,fun r1 h2 h3=>?_⟩
  k_mem
  refine ⟨.inl ⟨rfl,_,SqL.of hl'⟩,c,2 * (0 + ↑i)+1,8,rfl,by omega,by omega,by omega,fun r2 h4 h5=>?_⟩
  k_mem
  refine ⟨by decide,fun p2 hp2=>⟨_,upo hl' hp2,cw (by rw [WB,hT.1];omega),?_⟩⟩
  have hl2:=upo (o:=HO.tup [V.int (1+r1),V.int (1+(1+r1+r2) % 9)]) hl' hp2
  refine ⟨(s1.lay hp2).rewr hl,as++[p2],ls++[(1+r1,1+(1+r1+r2) % 9)],_,_,rfl,?_,?_,by rw [List.length_append,hlen];rfl,?_⟩
  ·rw [ag,List.map_append];rfl
  ·exact ((hT.same ((av.refl H').lay hp2)).app (bF.one (SqT.of ag))).rew hl2
  ·intro x hx
   rcases List.mem_append.mp hx with hx | hx
   ·exact hg x hx
   ·rw [List.mem_singleton] at hx
    subst hx
    refine ⟨⟨?_,?_⟩,⟨?_,?_⟩,?_⟩
    ·show 1<=1+r1;omega
    ·show 1+r1<=9;omega
    ·show 1<=1+(1+r1+r2) % 9;omega
    ·show 1+(1+r1+r2) % 9<=9;omega
    ·show 1+r1≠1+(1+r1+r2) % 9;omega
 ·rintro σ H' ⟨s1,as,ls,t,u,rfl,hl',hT,hlen,hg⟩
  k_mem
  exact q l as ls H' hl s1 hl' hT (by omega) hg
variable (hV:KD P w K mg base CX0 2 "_law_codes" (oZ K Z))
def Fg (K:WA)(c m mo:Int)(cn:V)(l:Addr)(H:Hp)(i:Nat)(σ:St)(H':Hp):Prop:=av H H'/\∃(as:List Addr) (ls:List Ld) (t u:Option V),σ=[some (.int c),some (.int m),some (.int mo),some (.ref l),some cn,t,u]/\H' l=some (.lst (as.map V.ref))/\eC K H' as ls/\ls.length=i/\(∀x∈ls,jv m x/\Ar x)
theorem two_of {r2 r1 mo:Int}(h0:0<=r1)(h1:r1 < mo+1):∃n:Int,atI [V.int r1,V.int mo] (if decide (r2=3)=true then 1 else 0)=some (V.int n)/\0<=n/\n<=mo:=by
 split
 ·exact ⟨mo,rfl,by omega,by omega⟩
 ·exact ⟨r1,rfl,by omega,by omega⟩
inductive o6 (K:WA)(Z:Adr)(vs:List V)(H:Hp)(Q:VK)(E:XK):Prop | mk (c m mo:Int):vs=[.int c,.int m,.int mo]->0 < m->0<=mo->mo<=500->(∀(l:Addr) (as:List Addr) (ls:List Ld) (H':Hp),H l=none->av H H'->H' l=some (.lst (as.map V.ref))->eC K H' as ls->(ls.length:Int)<=mo->(∀x∈ls,jv m x/\Ar x)->Q (.ref l) H')->o6 K Z vs H Q E
include T bU in
theorem Bk:FF P w K mg base CX0 2 "_law_loads" "_law_loads" rJ xq (o6 K Z):=fk0 iK fun vs H Q E h=>by
 obtain ⟨c,m,mo,rfl,hm,h0,h1,q⟩:=h
 k_all
 refine seg 3 (ah (aB (pv' 3))) fun zt3 zh3 ze3=>?_
 refine seg 2 (ae (cR PassesOwn.never rfl (bj (by rfl) T.cj (pa1 (pv' 4))) (aD (i:=5) iK.nd rfl orL) (ae (aF (i:=6) iK.nd rfl orL (ao au (bw (pa2 aE aE)) (dc0 bU hr.dn (pa3 (pv' 0) (aQ bf (l5 af (pv' 5)) af) af)))) (ah (aZ (j9 PySem.F.plainAttrs_list PySem.F.slot_list_append PySem.F.type_list_append cO (pv' 3) (pa1 (aR (pa3 (pv' 6) (dc0 bU hr.dn (pa3 (pv' 0) (aQ bf (l5 af (pv' 5)) af) (pv' 1))) (dc0 bU hr.dn (pa3 (pv' 0) (aQ bf (l5 af (pv' 5)) af) (pv' 1))))))))))) zh3) fun zt2 zh2 ze2=>?_
 refine seg 1 (ae (aF (i:=4) iK.nd rfl orL (ao au (bw (pa2 (dc0 bU hr.dn (pa3 (pv' 0) af (aQ bf (pv' 2) af))) (pv' 2))) (bc fO (by rfl) T.sW lW (pa1 (dJ jx (dc0 bU hr.dn (pa3 (pv' 0) af af)) af (cu _)))))) zh2) fun zt1 zh1 ze1=>?_
 refine ⟨_,ae (aF (i:=3) iK.nd rfl orL (bw fL)) zh1,?_⟩
 k_mem
 refine ⟨by decide,fun l hl=>?_⟩
 k_upd
 refine ⟨c,0,mo+1,rfl,by omega,by omega,by omega,fun r1 h2 h3=>⟨by decide,fun p hp=>⟨c,94,4,rfl,by omega,by omega,by omega,fun r2 h4 h5=>⟨_,SqL.of ag,?_⟩⟩⟩⟩
 obtain ⟨n,e,hn0,hn1⟩:=two_of (r2:=r2) h2 h3
 k_upd
 refine ⟨_,e,?_⟩
 k_mem
 refine ⟨by omega,by omega,?_⟩
 k_upd
 refine bK (Fg K c m mo (.int n) l H) ⟨(av.refl H).lay hl |>.lay hp,[],[],none,none,rfl,upo ag hp,eC.nil,rfl,fun x hx=>by cases hx⟩ ?_ ?_
 ·rintro i σ H' hi ⟨s1,as,ls,t,u,rfl,hl',hT,hlen,hg⟩
  k_mem
  refine ⟨by decide,fun p1 hp1=>?_⟩
  k_upd
  refine ⟨c,3 * (0 + ↑i)+1,2,rfl,by omega,by omega,by omega,fun r3 h6 h7=>?_⟩
  obtain ⟨kd,hk,ek⟩:=DY h6 h7
  k_mem
  refine ⟨_,SqL.of ag,_,ek,?_⟩
  k_mem
  refine ⟨.inl ⟨rfl,_,SqL.of (upo hl' hp1)⟩,c,3 * (0 + ↑i)+2,m,rfl,by omega,by omega,by omega,fun r4 h8 h9=>?_⟩
  k_upd
  refine ⟨c,3 * (0 + ↑i)+3,m,rfl,by omega,by omega,by omega,fun r5 h10 h11=>?_⟩
  k_mem
  refine ⟨by decide,fun p2 hp2=>⟨_,upo (upo hl' hp1) hp2,cw (by rw [WB,hT.1];omega),?_⟩⟩
  have hl2:=upo (o:=HO.tup [V.str kd,V.int r4,V.int r5]) (upo (o:=HO.lst [V.str (Str.ofString "men"),V.str (Str.ofString "coal")]) hl' hp1) hp2
  k_upd
  refine ⟨(s1.lay hp1 |>.lay hp2).rewr hl,as++[p2],ls++[(kd,r4,r5)],_,_,rfl,?_,?_,by rw [List.length_append,hlen];rfl,?_⟩
  ·rw [ag,List.map_append];rfl
  ·exact ((hT.same ((av.refl H').lay hp1 |>.lay hp2)).app (eC.one (SqT.of ag))).rew hl2
  ·intro x hx
   rcases List.mem_append.mp hx with hx | hx
   ·exact hg x hx
   ·rw [List.mem_singleton] at hx
    subst hx
    k_upd
    exact ⟨⟨⟨h8,h9⟩,⟨h10,h11⟩⟩,hk⟩
 ·rintro σ H' ⟨s1,as,ls,t,u,rfl,hl',hT,hlen,hg⟩
  k_mem
  exact q l as ls H' hl s1 hl' hT (by omega) hg
variable (xF:KD P w K mg base CX0 2 "_law_loads" (o6 K Z))
inductive rZ (K:WA)(Z:Adr)(vs:List V)(H:Hp)(Q:VK)(E:XK):Prop | mk (p dl cl ll a dd:Addr) (g:Cfg) (lds:List Ld) (n:aO) (t:Int) (d:Dd):vs=[.ref p,.ref a,.ref dd]->cY K H p dl cl ll g lds->gN g->dB g n->gS K H a (n,t)->SqT K H dd (ddV d)->xU d->eI g n d=none->(∀b H',av H H'->gS K H' b (cI g n d,t+rh g n d)->Q (.ref b) H')->rZ K Z vs H Q E
include T oS qx xB xC xD in
theorem CV:FF P w K mg base CX0 2 "_law_next" "_law_next" vc zt (rZ K Z):=fk0 bO fun vs H Q E h=>by
 obtain ⟨p,dl,cl,ll,a,dd,g,lds,n,t,d,rfl,hP,hg,hn,hSt,hD,ok,hrf,q⟩:=h
 k_all
 refine seg 8 (ah (aB (aR (cQ (pv' 3) (cQ (pv' 4) (pa4 (pv' 5) (pv' 6) (pv' 7) (pv' 9))))))) fun zt8 zh8 ze8=>?_
 refine seg 7 (ae (aM (bH (ao aw (pv' 2) af) aE) (ae (aF (i:=11) bO.nd rfl orL (ao au (ao au (pv' 0) af) (ao aw (pv' 2) af))) (ae (aF (i:=12) bO.nd rfl orL (ao au (bw (pa2 (pv' 11) (aQ di (ao au (ao au (pv' 0) af) (j8 dY af)) (pv' 11)))) (ao aw (pv' 2) af))) (ae (aF (i:=9) bO.nd rfl orL (aQ bf (pv' 8) (dc0 xB hr.dn (pa2 (aG xn (by rfl) T.HQ DQ (pa1 (aQ di (pv' 12) (pv' 3)))) (dc0 xC hr.dn (pa2 (pv' 0) (pv' 5))))))) (ah (aF (i:=3) bO.nd rfl orL (pv' 12)))))) (aC)) zh8) fun zt7 zh7 ze7=>?_
 refine seg 6 (ae (aM (bH (ao aw (pv' 2) af) aE) (ah (aF (i:=7) bO.nd rfl orL (bc l7 (by rfl) T.qr lX (pa1 (aG Aw (by rfl) T.E7 Cs (pa1 (aQ EY (pv' 7) (aR (pa1 (ao aw (pv' 2) af)))))))))) (aC)) zh7) fun zt6 zh6 ze6=>?_
 refine seg 5 (ae (aM (bH (ao aw (pv' 2) af) aE) (ae (aF (i:=10) bO.nd rfl orL (dc0 oS hr.dn (pa3 (ao au (pv' 0) af) (ao aw (pv' 2) af) (pv' 3)))) (ah (aF (i:=5) bO.nd rfl orL (dc0 qx hr.dn (pa3 (pv' 5) (Eh PySem.F.plainAttrs_tuple PySem.F.slot_tuple_index PySem.F.type_tuple_index xj (pv' 5) (pa1 (aQ bf af (ao aw (pv' 2) af)))) (pv' 10)))))) (aC)) zh6) fun zt5 zh5 ze5=>?_
 refine seg 4 (ae (aM (bH (ao aw (pv' 2) af) aE) (ah (aF (i:=5) bO.nd rfl orL (dc0 qx hr.dn (pa3 (pv' 5) (ao aw (pv' 2) af) (aQ bf af (ao aw (pv' 2) af)))))) (aC)) zh5) fun zt4 zh4 ze4=>?_
 refine seg 3 (ae (aM (pj (bH (ao aw (pv' 2) af) aE) (lQ (bH (ao aw (pv' 2) af) aE))).pt (ah (aF (i:=4) bO.nd rfl orL (dc0 qx hr.dn (pa3 (pv' 4) (ao aw (pv' 2) af) (dJ jx (ao aw (pv' 2) af) aE (cu _)))))) (aC)) zh4) fun zt3 zh3 ze3=>?_
 refine seg 2 (ae (aF (i:=9) bO.nd rfl orL (aQ bf (pv' 8) af)) zh3) fun zt2 zh2 ze2=>?_
 refine seg 1 (ae (aF (i:=6) bO.nd rfl orL (dc0 xD hr.dn (pa2 (pv' 6) (pv' 2)))) zh2) fun zt1 zh1 ze1=>?_
 refine ⟨_,ae (kB (pv' 1) (dZ rfl (aH (aD (i:=3) bO.nd rfl orL) (aH (aD (i:=4) bO.nd rfl orL) (aH (aD (i:=5) bO.nd rfl orL) (aH (aD (i:=6) bO.nd rfl orL) (aH (aD (i:=7) bO.nd rfl orL) (aH (aD (i:=8) bO.nd rfl orL) cZ)))))))) zh1,?_⟩
 obtain ⟨gt,lt,ht,dt,h1,h2,h3,h4,h5⟩:=hSt
 obtain ⟨hp,hdl,_,⟨bs,hll,hT2⟩,ek⟩:=id hP
 have l2:=hg.sh.l2
 have l6:=hg.sh.l6
 have gl:=hn.gl
 have wl:=hn.wl
 have k30:=hg.k30
 have ekl:lds.length=g.ks.length:=by rw [ek,WB]
 k_mem
 refine ⟨_,h1,rfl,?_⟩
 k_mem
 refine ⟨ht,dd,g,n,d,rfl,h4,hD,hrf,fun hh H1 s1 hH=>?_⟩
 have hD1:=s1.tup hD
 k_mem
 cases d with
 | ring l s=>
  refine ⟨_,hD1,_,rfl,?_⟩
  k_mem
  rw [if_neg (by decide)]
  k_upd
  refine ⟨_,hD1,_,rfl,?_⟩
  k_mem
  rw [if_neg (by decide)]
  k_upd
  refine ⟨_,hD1,_,rfl,?_⟩
  k_mem
  rw [if_neg (by decide)]
  k_upd
  refine ⟨_,hD1,_,rfl,?_⟩
  k_mem
  rw [if_neg (by decide)]
  k_upd
  refine ⟨_,hD1,_,rfl,?_⟩
  k_mem
  rw [if_neg (by decide)]
  k_upd
  refine ⟨_,hD1,_,rfl,?_⟩
  k_mem
  rw [if_neg (by decide)]
  k_upd
  refine ⟨by decide,fun b hb=>q b _ ((s1).lay hb) ⟨gt,lt,hh,dt,SqT.of ag,?_,?_,?_,?_⟩⟩
  ·exact (s1.lay hb).tup h2
  ·exact upo (s1 _ _ h3) hb
  ·exact ((av.refl H1).lay hb).tup hH
  ·exact (s1.lay hb).tup h5
 | rept s=>
  refine ⟨_,hD1,_,rfl,?_⟩
  k_mem
  rw [if_neg (by decide)]
  k_upd
  refine ⟨_,hD1,_,rfl,?_⟩
  k_mem
  rw [if_neg (by decide)]
  k_upd
  refine ⟨_,hD1,_,rfl,?_⟩
  k_mem
  rw [if_neg (by decide)]
  k_upd
  refine ⟨_,hD1,_,rfl,?_⟩
  k_mem
  rw [if_neg (by decide)]
  k_upd
  refine ⟨_,hD1,_,rfl,?_⟩
  k_mem
  rw [if_neg (by decide)]
  k_upd
  refine ⟨_,hD1,_,rfl,?_⟩
  k_mem
  rw [if_neg (by decide)]
  k_upd
  refine ⟨by decide,fun b hb=>q b _ ((s1).lay hb) ⟨gt,lt,hh,dt,SqT.of ag,?_,?_,?_,?_⟩⟩
  ·exact (s1.lay hb).tup h2
  ·exact upo (s1 _ _ h3) hb
  ·exact ((av.refl H1).lay hb).tup hH
  ·exact (s1.lay hb).tup h5
 | opn l=>
  obtain ⟨hl,_⟩:=FP hrf
  k_upd
  refine ⟨_,hD1,_,rfl,?_⟩
  k_mem
  rw [if_pos rfl]
  k_upd
  refine ⟨_,hD1,_,rfl,_,hD1,_,rfl,?_⟩
  k_mem
  refine ⟨gt,n.gates.map V.bl,l,.bl true,?_,s1.tup h2,hl.1,by rw [WB];omega,by rw [WB];omega,fun g2 H2 s2 hg2=>?_⟩
  ·rfl
  have s12:=s1.trans s2
  have hD2:=s2.tup hD1
  k_mem
  refine ⟨_,hD2,_,rfl,?_⟩
  k_mem
  rw [if_neg (by decide)]
  k_upd
  refine ⟨_,hD2,_,rfl,?_⟩
  k_mem
  rw [if_neg (by decide)]
  k_upd
  refine ⟨_,hD2,_,rfl,?_⟩
  k_mem
  rw [if_neg (by decide)]
  k_upd
  refine ⟨_,hD2,_,rfl,?_⟩
  k_mem
  rw [if_neg (by decide)]
  k_upd
  refine ⟨by decide,fun b hb=>q b _ ((s12).lay hb) ⟨g2,lt,hh,dt,SqT.of ag,?_,?_,?_,?_⟩⟩
  ·exact SqT.of (by rw [upo hg2 hb,pH];rfl)
  ·exact upo (s12 _ _ h3) hb
  ·exact (s2.lay hb).tup hH
  ·exact (s12.lay hb).tup h5
 | sht l=>
  obtain ⟨hl,_⟩:=FQ hrf
  k_upd
  refine ⟨_,hD1,_,rfl,?_⟩
  k_mem
  rw [if_neg (by decide)]
  k_upd
  refine ⟨_,hD1,_,rfl,?_⟩
  k_mem
  rw [if_pos rfl]
  k_upd
  refine ⟨_,hD1,_,rfl,_,hD1,_,rfl,?_⟩
  k_mem
  refine ⟨gt,n.gates.map V.bl,l,.bl false,?_,s1.tup h2,hl.1,by rw [WB];omega,by rw [WB];omega,fun g2 H2 s2 hg2=>?_⟩
  ·rfl
  have s12:=s1.trans s2
  have hD2:=s2.tup hD1
  k_mem
  refine ⟨_,hD2,_,rfl,?_⟩
  k_mem
  rw [if_neg (by decide)]
  k_upd
  refine ⟨_,hD2,_,rfl,?_⟩
  k_mem
  rw [if_neg (by decide)]
  k_upd
  refine ⟨_,hD2,_,rfl,?_⟩
  k_mem
  rw [if_neg (by decide)]
  k_upd
  refine ⟨_,hD2,_,rfl,?_⟩
  k_mem
  rw [if_neg (by decide)]
  k_upd
  refine ⟨by decide,fun b hb=>q b _ ((s12).lay hb) ⟨g2,lt,hh,dt,SqT.of ag,?_,?_,?_,?_⟩⟩
  ·exact SqT.of (by rw [upo hg2 hb,pH];rfl)
  ·exact upo (s12 _ _ h3) hb
  ·exact (s2.lay hb).tup hH
  ·exact (s12.lay hb).tup h5
 | load k c=>
  obtain ⟨hk,l,hl,_,_,_⟩:=yX hrf
  k_upd
  refine ⟨_,hD1,_,rfl,?_⟩
  k_mem
  rw [if_neg (by decide)]
  k_upd
  refine ⟨_,hD1,_,rfl,?_⟩
  k_mem
  rw [if_neg (by decide)]
  k_upd
  refine ⟨_,hD1,_,rfl,?_⟩
  k_mem
  rw [if_pos rfl]
  k_upd
  refine ⟨_,hD1,_,rfl,_,hD1,_,rfl,?_⟩
  k_mem
  refine ⟨lt,n.ws.map V.int,k,.int (10+c),rfl,SqT.of (s1 _ _ h3),hk.1,by rw [WB];omega,by rw [WB];omega,fun w2 H2 s2 hw2=>?_⟩
  have s12:=s1.trans s2
  have hD2:=s2.tup hD1
  k_mem
  refine ⟨_,hD2,_,rfl,?_⟩
  k_mem
  rw [if_neg (by decide)]
  k_upd
  refine ⟨_,hD2,_,rfl,?_⟩
  k_mem
  rw [if_neg (by decide)]
  k_upd
  refine ⟨_,hD2,_,rfl,?_⟩
  k_mem
  rw [if_neg (by decide)]
  k_upd
  refine ⟨by decide,fun b hb=>q b _ ((s12).lay hb) ⟨gt,w2,hh,dt,SqT.of ag,?_,?_,?_,?_⟩⟩
  ·exact (s12.lay hb).tup h2
  ·rw [upo hw2 hb,pH];rfl
  ·exact (s2.lay hb).tup hH
  ·exact (s12.lay hb).tup h5
 | unload c=>
  obtain ⟨hin,l,hl,_⟩:=ux hrf
  have hix:=rj hin
  k_upd
  refine ⟨_,hD1,_,rfl,?_⟩
  k_mem
  rw [if_neg (by decide)]
  k_upd
  refine ⟨_,hD1,_,rfl,?_⟩
  k_mem
  rw [if_neg (by decide)]
  k_upd
  refine ⟨_,hD1,_,rfl,?_⟩
  k_mem
  rw [if_neg (by decide)]
  k_upd
  refine ⟨_,hD1,_,rfl,?_⟩
  k_mem
  rw [if_pos rfl]
  k_upd
  refine ⟨_,SqL.of (s1 _ _ hp),_,rfl,_,hD1,_,rfl,?_⟩
  k_mem
  refine ⟨dl,g.ds,c,n.place,rfl,SqL.of (s1 _ _ hdl),hg.sh,ok.1,ok.2,fun H2 s2=>?_⟩
  have s12:=s1.trans s2
  have hD2:=s2.tup hD1
  k_mem
  refine ⟨⟨_,_,rfl,s12 _ _ h3⟩,_,hD2,_,rfl,?_⟩
  k_mem
  refine ⟨_,n.ws,_,rfl,rfl,s12 _ _ h3,hin,?_⟩
  k_mem
  refine ⟨lt,n.ws.map V.int,_,.int ((bG g.ds n.place c).getD (-1)),rfl,SqT.of (s12 _ _ h3),Int.natCast_nonneg _,by rw [WB];omega,by rw [WB];omega,fun w2 H3 s3 hw2=>?_⟩
  have s13:=s12.trans s3
  have hD3:=s3.tup hD2
  k_mem
  refine ⟨_,hD3,_,rfl,?_⟩
  k_mem
  rw [if_neg (by decide)]
  k_upd
  refine ⟨_,hD3,_,rfl,?_⟩
  k_mem
  rw [if_neg (by decide)]
  k_upd
  refine ⟨by decide,fun b hb=>q b _ ((s13).lay hb) ⟨gt,w2,hh,dt,SqT.of ag,?_,?_,?_,?_⟩⟩
  ·exact (s13.lay hb).tup h2
  ·rw [upo hw2 hb,Int.toNat_natCast,pH];rfl
  ·exact ((s2.trans s3).lay hb).tup hH
  ·exact (s13.lay hb).tup h5
 | fail l=>
  obtain ⟨hl,hf⟩:=Ef hrf
  have fl:=hn.fl
  have dlen:=rn n.fs
  k_upd
  refine ⟨_,hD1,_,rfl,?_⟩
  k_mem
  rw [if_neg (by decide)]
  k_upd
  refine ⟨_,hD1,_,rfl,?_⟩
  k_mem
  rw [if_neg (by decide)]
  k_upd
  refine ⟨_,hD1,_,rfl,?_⟩
  k_mem
  rw [if_neg (by decide)]
  k_upd
  refine ⟨_,hD1,_,rfl,?_⟩
  k_mem
  rw [if_neg (by decide)]
  k_upd
  refine ⟨_,hD1,_,rfl,?_⟩
  k_mem
  rw [if_pos rfl]
  k_upd
  refine ⟨_,hD1,_,rfl,?_⟩
  k_mem
  refine ⟨by decide,fun p1 hp1=>⟨_,(s1.lay hp1).tup h5,_,SqT.of ag,by rw [WB];show (cN n.fs).length+1<=1000;omega,fun p2 H2 s2 hc=>?_⟩⟩
  have s12:=(s1.lay (o:=HO.tup [V.int l]) hp1).trans s2
  have f12:=((av.refl H1).lay (o:=HO.tup [V.int l]) hp1).trans s2
  k_upd
  refine ⟨p2,cN n.fs++[l],rfl,by rw [List.map_append];exact hc,by rw [List.length_append,List.length_singleton];omega,fun l1 ms hl1 hpm hpw=>?_⟩
  rw [CB hl.1 (by omega) hf hpm hpw]
  k_mem
  refine ⟨_,.inl ⟨SqL.of ag,fun d2 hd2=>?_⟩⟩
  have s13:=(s12.lay (o:=HO.lst ((cN (n.fs.set l.toNat true)).map V.int)) hl1).lay (o:=HO.tup ((cN (n.fs.set l.toNat true)).map V.int)) hd2
  have f13:=(f12.lay (o:=HO.lst ((cN (n.fs.set l.toNat true)).map V.int)) hl1).lay (o:=HO.tup ((cN (n.fs.set l.toNat true)).map V.int)) hd2
  have hd3:upd (upd H2 l1 (HO.lst ((cN (n.fs.set l.toNat true)).map V.int))) d2 (HO.tup ((cN (n.fs.set l.toNat true)).map V.int)) d2=some (HO.tup ((cN (n.fs.set l.toNat true)).map V.int)):=ag
  generalize upd (upd H2 l1 (HO.lst ((cN (n.fs.set l.toNat true)).map V.int))) d2 (HO.tup ((cN (n.fs.set l.toNat true)).map V.int))=H3 at *
  have hD3:=f13.tup hD1
  k_mem
  refine ⟨_,hD3,_,rfl,?_⟩
  k_mem
  rw [if_neg (by decide)]
  k_upd
  refine ⟨by decide,fun b hb=>q b _ ((s13).lay hb) ⟨gt,lt,hh,d2,SqT.of ag,?_,?_,?_,?_⟩⟩
  ·exact (s13.lay hb).tup h2
  ·exact upo (s13 _ _ h3) hb
  ·exact (f13.lay hb).tup hH
  ·exact SqT.of (upo hd3 hb)
 | wind c l k=>
  obtain ⟨hl,_,harm⟩:=uy hrf
  have okc:0<=c/\c < 2:=ok.1
  k_upd
  refine ⟨_,hD1,_,rfl,?_⟩
  k_mem
  rw [if_neg (by decide)]
  k_upd
  refine ⟨_,hD1,_,rfl,?_⟩
  k_mem
  rw [if_neg (by decide)]
  k_upd
  refine ⟨_,hD1,_,rfl,?_⟩
  k_mem
  rw [if_neg (by decide)]
  k_upd
  refine ⟨_,hD1,_,rfl,?_⟩
  k_mem
  rw [if_neg (by decide)]
  k_upd
  refine ⟨_,hD1,_,rfl,?_⟩
  k_mem
  rw [if_neg (by decide)]
  k_upd
  refine ⟨_,hD1,_,rfl,?_⟩
  k_mem
  rw [if_pos rfl]
  k_upd
  refine ⟨_,SqL.of (s1 _ _ hp),_,rfl,?_⟩
  k_mem
  refine ⟨_,hD1,_,rfl,?_⟩
  k_mem
  refine ⟨_,SqL.of (s1 _ _ hdl),_,dh hl.1 hl.2,?_⟩
  k_mem
  refine ⟨_,SqL.of (s1 _ _ hp),_,rfl,?_⟩
  k_mem
  refine ⟨_,SqL.of (s1 _ _ hdl),_,Ap (by omega),?_⟩
  k_mem
  refine ⟨by decide,fun p1 hp1=>⟨_,((av.refl H1).lay hp1).tup hD1,_,rfl,?_⟩⟩
  k_mem
  refine ⟨_,SqL.of ag,_,two_deep okc.1 okc.2,?_⟩
  have f2:=(av.refl H1).lay (o:=HO.lst [V.int (g.ds.getD l.toNat 0),V.int (bY g.ds - g.ds.getD l.toNat 0)]) hp1
  have s2:=s1.lay (o:=HO.lst [V.int (g.ds.getD l.toNat 0),V.int (bY g.ds - g.ds.getD l.toNat 0)]) hp1
  generalize upd H1 p1 (HO.lst [V.int (g.ds.getD l.toNat 0),V.int (bY g.ds - g.ds.getD l.toNat 0)])=H2 at *
  rw [show (if c=0 then g.ds.getD l.toNat 0 else bY g.ds - g.ds.getD l.toNat 0)=gn g.ds c l from rfl]
  k_mem
  refine ⟨p,dl,cl,ll,lt,g,lds,n.ws,rfl,hP.same s2,SqT.of (s2 _ _ h3),by omega,by omega,fun x hx=>by have:=hn.wr x hx;omega,?_⟩
  k_mem
  have sp:=hg.speed n
  have pl:=hn.place hg
  have hm:g.ds.getD l.toNat 0∈g.ds:=cM (by omega)
  have m0:=hg.sh.lo _ hm
  have m5:=hg.sh.hi _ hm
  have mw:=hg.sh.le_whole hm
  have w5:=hg.sh.hi _ hg.sh.whole_mem
  have wb:0<=gn g.ds c l/\gn g.ds c l<=500:=by unfold gn;split<;>omega
  rw [show (if yR g.ks n.ws=true then g.slow else g.fast)=fq g n from rfl]
  k_upd
  refine ⟨_,_,rfl,by split<;>omega,by split<;>omega,by omega,by omega,?_⟩
  k_mem
  refine ⟨by decide,fun b hb=>q b _ ((s2).lay hb) ⟨gt,lt,hh,dt,SqT.of ag,?_,?_,?_,?_⟩⟩
  ·exact (s2.lay hb).tup h2
  ·exact upo (s2 _ _ h3) hb
  ·exact (f2.lay hb).tup hH
  ·exact (s2.lay hb).tup h5
variable (zN:KD P w K mg base CX0 2 "_law_next" (rZ K Z))
def KW (H:Hp)(p a dl cl ht lv:Addr)(r:Int)(g:Cfg)(n:aO)(i:Nat)(σ:St)(H':Hp):Prop:=av H H'/\(∃t u v,σ=[some (.ref p),some (.ref a),some (.int r),some (.ref dl),some (.ref cl),some (.ref ht),some (.ref lv),t,u,v])/\∀c:Int,0<=c->c < i->∀l,bG g.ds n.place c=some l->n.gates.getD l.toNat false=false
inductive fE (K:WA)(Z:Adr)(vs:List V)(H:Hp)(Q:VK)(E:XK):Prop | mk (p dl cl ll a:Addr) (g:Cfg) (lds:List Ld) (n:aO) (t r:Int):vs=[.ref p,.ref a,.int r]->cY K H p dl cl ll g lds->gN g->dB g n->gS K H a (n,t)->(∀dd d H',av H H'->SqT K H' dd (ddV d)->xU d->eI g n d=none->Q (.ref dd) H')->fE K Z vs H Q E
include T oS in
theorem qC:FF P w K mg base CX0 2 "_law_towards_wind" "_law_towards_wind" fR kl (fE K Z):=fk0 bM fun vs H Q E h=>by
 obtain ⟨p,dl,cl,ll,a,g,lds,n,t,r,rfl,hP,hg,hn,hSt,q⟩:=h
 k_all
 refine seg 8 (ah (aB (aR (pa4 aE (cb (pv' 2) af) (ao aw (pv' 5) af) (pv' 9))))) fun zt8 zh8 ze8=>?_
 refine seg 7 (ae (aF (i:=9) bM.nd rfl orL (ao au (bw (pa2 aE aE)) (bc fO (by rfl) T.sW lW (pa1 (dJ jx (ao aw (ao au (pv' 4) (ao aw (pv' 5) af)) af) (ao aw (pv' 5) af) (cu _)))))) zh8) fun zt7 zh7 ze7=>?_
 refine seg 6 (ae (cR PassesOwn.never rfl (bj (by rfl) T.cj (pa1 af)) (aD (i:=8) bM.nd rfl orL) (ae (aF (i:=7) bM.nd rfl orL (dc0 oS hr.dn (pa3 (pv' 3) (pv' 8) (ao aw (pv' 1) af)))) (ah (aM (ie (B2 (pv' 7) af) (fW (bZ (ao aw (ao aw (pv' 1) af) (pv' 7))))).pt (ah (aB (aR (pa2 aE (pv' 7))))) (aC))))) zh7) fun zt6 zh6 ze6=>?_
 refine seg 5 (ae (aM (sv (ao aw (pv' 5) af) aE) (ah (aB (ao au (bw (pa2 (aR (pa2 aE af)) (aR (pa2 aE af)))) (bc fO (by rfl) T.sW lW (pa1 (ao aw (ao aw (pv' 1) af) af)))))) (aC)) zh6) fun zt5 zh5 ze5=>?_
 refine seg 4 (ae (aM (ie (sv (ao aw (pv' 5) af) aE) (fW (dF (GO hr.units0) (pv' 6) (bw fL) (cu _)))).pt (ae (aF (i:=7) bM.nd rfl orL (ao au (pv' 6) (aQ pN (pv' 2) (aG az (by rfl) T.bR bb (pa1 (pv' 6)))))) (ah (aB (aR (pa3 aE (pv' 7) (ao aw (ao au (pv' 4) (pv' 7)) (cb (gT (pv' 2) af) af))))))) (aC)) zh5) fun zt4 zh4 ze4=>?_
 refine seg 3 (ae (aM (bH (ao aw (pv' 5) af) aE) (ah (aB (aR (pa2 aE (ao aw (pv' 5) af))))) (aC)) zh4) fun zt3 zh3 ze3=>?_
 refine seg 2 (ae (BH ["_law_k","_law_state"] [none,some 1] (iy:=6) bM.nd rfl rfl (bj (by rfl) T.cj (pa1 (aG az (by rfl) T.bR bb (pa1 (pv' 3))))) (fun _ _ _ _=>(aD (i:=0) (show (["_law_k","_law_state"]:List Str).Nodup by decide +kernel) rfl orL)) (fun _ _ _ _=>(kD (dF (show OpR _ _ (AM K true) from jy) (pv' 0) (ao (show IxR _ (pK K) from aw) (pv' 1) af) (by rfl)))) (fun _ _ _ _=>(pv' 0))) zh3) fun zt2 zh2 ze2=>?_
 refine seg 1 (ae (aF (i:=5) bM.nd rfl orL (ao aw (pv' 1) af)) zh2) fun zt1 zh1 ze1=>?_
 refine ⟨_,ae (GS (i:=3) (j:=4) rfl bM.nd rfl rfl (by decide) rfl rfl (pa2 (ao au (pv' 0) af) (ao au (pv' 0) af)) (by rfl)) zh1,?_⟩
 obtain ⟨gt,lt,ht,dt,h1,h2,h3,h4,h5⟩:=hSt
 obtain ⟨hp,hdl,⟨as,hcl,hT⟩,_,ek⟩:=id hP
 have l2:=hg.sh.l2
 have l6:=hg.sh.l6
 have gl:=hn.gl
 have fl:=hn.fl
 k_mem
 refine ⟨_,SqL.of hp,_,rfl,_,SqL.of hp,_,rfl,?_⟩
 k_mem
 refine ⟨_,h1,_,rfl,?_⟩
 k_mem
 refine ⟨_,.inl (SqL.of hdl),by omega,by rw [WB];omega,?_⟩
 rw [WB,Int.toNat_natCast,←fl]
 refine eO (fun j=>!n.fs.getD j false) (fun (j:Nat)=>.int (j:Int)) (by rw [sizeLine_eq];omega) rfl (fun i hi N hN=>?_) (fun i hi _ N hN=>?_) fun lv hlv=>?_
 ·k_mem
  k_upd
  refine ⟨_,h1,_,rfl,?_⟩
  k_mem
  refine ⟨_,.inr h5,rfl,by simp [bg],?_⟩
  rw [ni]
  have:(!decide (0+(i:Int)∈cN n.fs))=!n.fs.getD i false:=by
   congr 1
   rw [Bool.eq_iff_iff,decide_eq_true_eq,kg,Int.zero_add,Int.toNat_natCast]
   k_upd
   exact ⟨fun z=>z.2.2,fun z=>⟨Int.natCast_nonneg _,by omega,z⟩⟩
  rw [this]
  exact hN
 ·k_mem
  rw [Int.zero_add]
  exact hN
 rw [show List.map (fun (j:Nat)=>V.int (j:Int)) (List.filter (fun j=>!n.fs.getD j false) (List.range n.fs.length))=(jh n.fs).map V.int by unfold jh;rw [List.map_map];rfl] at *
 (generalize hE:upd H lv _=H1 at *;have s1:=dE hE hlv;have hlv1:=cf hE;clear hE)
 k_mem
 have h41:=s1.tup h4
 rcases KJ n.e with ⟨l,rr,he⟩ | ⟨l,rr,he⟩ | ⟨w1,w2,w3,w4,he,na,nb⟩
 ·simp only [he] at h41
  have hr:=hn.code hg (.inl he)
  k_upd
  refine ⟨_,h41,_,rfl,?_⟩
  k_mem
  rw [if_pos rfl]
  k_upd
  refine ⟨_,h41,_,rfl,by decide,fun dd hdd=>?_⟩
  k_upd
  exact q dd (.rept rr) _ (s1.lay hdd) (SqT.of ag) trivial (so he hr.1 hr.2)
 ·simp only [he] at h41
  obtain ⟨el0,el1,erc⟩:=hn.ew l rr (.inr he)
  k_upd
  refine ⟨_,h41,_,rfl,?_⟩
  k_mem
  rw [if_neg (by decide)]
  k_upd
  refine ⟨_,h41,_,rfl,?_⟩
  k_mem
  rw [if_neg (by decide)]
  k_upd
  refine ⟨_,h41,_,rfl,?_⟩
  k_mem
  rw [if_neg (by decide)]
  k_upd
  refine ⟨by decide,by decide,?_⟩
  k_upd
  refine bK (KW H1 p a dl cl ht lv r g n) ⟨av.refl H1,⟨_,_,_,rfl⟩,fun c h0 h=>by omega⟩ ?_ ?_
  ·rintro i σ H2 hi ⟨s2,⟨t1,t2,t3,rfl⟩,hj⟩
   have s12:=s1.trans s2
   have hi2:i < 2:=hi
   k_mem
   refine ⟨_,s12.tup h1,_,rfl,?_⟩
   k_mem
   refine ⟨dl,g.ds,0+(i:Int),n.place,rfl,SqL.of (s12 _ _ hdl),hg.sh,by omega,by omega,fun H3 s3=>?_⟩
   have s13:=s12.trans s3
   k_mem
   split
   ·rename_i hge
    obtain ⟨l',e1,e2⟩:=EV (by omega:¬(bG g.ds n.place (0+(i:Int))).getD (-1) < 0)
    obtain ⟨c0,c1,_⟩:=eR e1
    rw [e2] at *
    k_upd
    refine ⟨_,s13.tup h1,_,rfl,?_⟩
    k_mem
    refine ⟨_,s13.tup h2,_,kI c0 (by show l' < (n.gates.length:Int);omega),?_⟩
    k_mem
    split
    ·rename_i ho
     k_upd
     refine ⟨by decide,fun dd hdd=>?_⟩
     k_upd
     exact q dd (.sht l') _ (s13.lay hdd) (SqT.of ag) trivial (kK c0 c1 ho)
    ·rename_i ho
     k_upd
     refine ⟨s2.trans s3,⟨_,_,_,rfl⟩,fun c h0 h l2 el=>?_⟩
     by_cases ec:c=(i:Int)
     ·subst ec
      rw [Int.zero_add] at e1
      rw [e1] at el
      cases el
      simpa using ho
     ·exact hj c h0 (by omega) l2 el
   ·rename_i hge
    have e1:=HN (by omega:(bG g.ds n.place (0+(i:Int))).getD (-1) < 0)
    k_upd
    refine ⟨s2.trans s3,⟨_,_,_,rfl⟩,fun c h0 h l2 el=>?_⟩
    by_cases ec:c=(i:Int)
    ·subst ec
     rw [Int.zero_add] at e1
     rw [e1] at el
     cases el
    ·exact hj c h0 (by omega) l2 el
  ·rintro σ H2 ⟨s2,⟨t1,t2,t3,rfl⟩,hj⟩
   have s12:=s1.trans s2
   have ho:ir g n=false:=CH hg.sh fun c hc l' el=>hj c (by omega) (by show c < ((2:Nat):Int);omega) l' el
   have h42:=s2.tup h41
   obtain ⟨ra,era,hra⟩:=pE (hT.same s12) el0 (by rw [hg.lc];exact el1)
   k_mem
   refine ⟨by decide,fun p1 hp1=>?_⟩
   have f1:=(av.refl H2).lay (o:=HO.lst [V.str (Str.ofString "coal"),V.str (Str.ofString "men")]) hp1
   have hp1':upd H2 p1 (HO.lst [V.str (Str.ofString "coal"),V.str (Str.ofString "men")]) p1=some (HO.lst [V.str (Str.ofString "coal"),V.str (Str.ofString "men")]):=ag
   generalize upd H2 p1 (HO.lst [V.str (Str.ofString "coal"),V.str (Str.ofString "men")])=H3 at *
   have s13:=s12.trans f1
   have h43:=f1.tup h42
   k_upd
   refine ⟨_,h43,_,rfl,?_⟩
   k_mem
   refine ⟨_,SqL.of (s13 _ _ hcl),_,era,?_⟩
   k_mem
   refine ⟨_,f1.tup hra,_,rfl,?_⟩
   k_mem
   refine ⟨_,h43,_,rfl,?_⟩
   k_mem
   refine ⟨_,SqL.of hp1',_,B0,?_⟩
   k_mem
   refine ⟨_,h43,_,rfl,by decide,fun dd hdd=>?_⟩
   by_cases e:(fm g.ls l).1=rr
   ·refine q dd (.wind (r % 2) l "men") _ (s13.lay hdd) (SqT.of (by rw [ag];simp only [e,decide_true,if_true];rfl)) ⟨⟨by omega,by omega⟩,.inl rfl⟩ (sq el0 el1 ho ?_)
    rw [he,cC,if_pos rfl,e]
   ·refine q dd (.wind (r % 2) l "coal") _ (s13.lay hdd) (SqT.of (by rw [ag];simp only [e,decide_false,Bool.false_eq_true,if_false];rfl)) ⟨⟨by omega,by omega⟩,.inr rfl⟩ (sq el0 el1 ho ?_)
    rw [he,cC,if_neg (by decide)]
    rcases erc with h | h
    ·exact absurd h.symm e
    ·rw [h]
 ·simp only [he] at h41
  k_upd
  refine ⟨_,h41,_,rfl,?_⟩
  k_mem
  rw [if_neg na]
  k_upd
  refine ⟨_,h41,_,rfl,?_⟩
  k_mem
  rw [if_pos nb]
  k_upd
  refine ⟨by decide,fun p1 hp1=>?_⟩
  have f1:=(av.refl H1).lay (o:=HO.lst []) hp1
  have hp1':upd H1 p1 (HO.lst []) p1=some (HO.lst []):=ag
  generalize upd H1 p1 (HO.lst [])=H2 at *
  have s12:=s1.trans f1
  have h42:=f1.tup h41
  k_mem
  refine ⟨_,SqL.of (f1 _ _ hlv1),_,SqL.of hp1',by simp [bg],rfl,?_⟩
  rw [BZ]
  k_mem
  by_cases hz:(jh n.fs).map V.int=[]
  ·rw [if_neg (fun z=>z hz)]
   k_upd
   refine ⟨_,h42,_,rfl,?_⟩
   k_mem
   rw [if_pos nb]
   k_upd
   refine ⟨by decide,fun p2 hp2=>⟨by decide,fun p3 hp3=>⟨by decide,fun p4 hp4=>?_⟩⟩⟩
   have f4:=(((av.refl H2).lay (o:=HO.tup [V.str (Str.ofString "open"),V.int 0]) hp2).lay (o:=HO.tup [V.str (Str.ofString "shut"),V.int 0]) hp3).lay (o:=HO.lst [V.ref p2,V.ref p3]) hp4
   have e2:upd (upd (upd H2 p2 (HO.tup [V.str (Str.ofString "open"),V.int 0])) p3 (HO.tup [V.str (Str.ofString "shut"),V.int 0])) p4 (HO.lst [V.ref p2,V.ref p3]) p2=some (HO.tup [V.str (Str.ofString "open"),V.int 0]):=upo (upo ag hp3) hp4
   have e3:upd (upd (upd H2 p2 (HO.tup [V.str (Str.ofString "open"),V.int 0])) p3 (HO.tup [V.str (Str.ofString "shut"),V.int 0])) p4 (HO.lst [V.ref p2,V.ref p3]) p3=some (HO.tup [V.str (Str.ofString "shut"),V.int 0]):=upo ag hp4
   have e4:upd (upd (upd H2 p2 (HO.tup [V.str (Str.ofString "open"),V.int 0])) p3 (HO.tup [V.str (Str.ofString "shut"),V.int 0])) p4 (HO.lst [V.ref p2,V.ref p3]) p4=some (HO.lst [V.ref p2,V.ref p3]):=ag
   generalize upd (upd (upd H2 p2 (HO.tup [V.str (Str.ofString "open"),V.int 0])) p3 (HO.tup [V.str (Str.ofString "shut"),V.int 0])) p4 (HO.lst [V.ref p2,V.ref p3])=H3 at *
   have s13:=s12.trans f4
   k_upd
   refine ⟨_,s13.tup h1,_,rfl,?_⟩
   k_mem
   refine ⟨_,s13.tup h2,_,kI (l:=0) (by omega) (by show (0:Int) < (n.gates.length:Int);omega),?_⟩
   k_mem
   refine ⟨_,SqL.of e4,_,B0,?_⟩
   by_cases hb:n.gates.getD 0 false=true
   ·rw [if_pos hb]
    k_upd
    exact q p3 (.sht 0) _ s13 (SqT.of e3) trivial (kK (by omega) (by omega) hb)
   ·rw [if_neg hb]
    k_upd
    exact q p2 (.opn 0) _ s13 (SqT.of e2) trivial (ow (by omega) (by omega) (by simpa using hb))
  ·rw [if_pos hz]
   have hlen:0 < (jh n.fs).length:=by
    rcases Nat.eq_zero_or_pos (jh n.fs).length with z | z
    ·exact absurd (by rw [List.eq_nil_of_length_eq_zero z];rfl) hz
    ·exact z
   have hm0:0<=r % ((jh n.fs).length:Int):=Int.emod_nonneg _ (by omega)
   have hm1:r % ((jh n.fs).length:Int) < ((jh n.fs).length:Int):=Int.emod_lt_of_pos _ (by omega)
   obtain ⟨v0,v1,v2⟩:=CG (cM (ds:=jh n.fs) (i:=(r % ((jh n.fs).length:Int)).toNat) (by omega))
   k_upd
   refine ⟨_,.inl (SqL.of (f1 _ _ hlv1)),by rw [WB];omega,_,SqL.of (f1 _ _ hlv1),_,by rw [WB];exact dh hm0 hm1,?_⟩
   generalize (jh n.fs).getD (r % ((jh n.fs).length:Int)).toNat 0=lx at *
   obtain ⟨ra,era,hra⟩:=pE (hT.same s12) v0 (by rw [hg.lc];omega)
   k_mem
   refine ⟨_,SqL.of (s12 _ _ hcl),_,era,?_⟩
   k_mem
   refine ⟨_,hra,_,two_deep (by omega) (by omega),by decide,fun dd hdd=>?_⟩
   refine q dd (.ring lx _) _ (s12.lay hdd) (SqT.of ag) trivial (sk v0 (by omega) v2 ?_)
   k_upd
   split
   ·exact .inl rfl
   ·exact .inr rfl
variable (ky:KD P w K mg base CX0 2 "_law_towards_wind" (fE K Z))
inductive fF (K:WA)(Z:Adr)(vs:List V)(H:Hp)(Q:VK)(E:XK):Prop | mk (p dl cl ll a:Addr) (g:Cfg) (lds:List Ld) (n:aO) (t r:Int):vs=[.ref p,.ref a,.int r]->cY K H p dl cl ll g lds->gN g->dB g n->gS K H a (n,t)->(∀dd d H',av H H'->SqT K H' dd (ddV d)->xU d->eI g n d=none->Q (.ref dd) H')->fF K Z vs H Q E
include T oS in
theorem qD:FF P w K mg base CX0 2 "_law_towards_load" "_law_towards_load" dq km (fF K Z):=fk0 cx fun vs H Q E h=>by
 obtain ⟨p,dl,cl,ll,a,g,lds,n,t,r,rfl,hP,hg,hn,hSt,q⟩:=h
 k_all
 obtain ⟨t1,h1,k1⟩:∃t,PSs (oq CX0 P w K mg base ["_law_setup_here","_law_state","_law_rest","_law_cage","_law_level","_law_waits"] "_law_towards_load" (aj dq) zf zv zA zo zs H E).nox ((bE dq).drop 3) t/\∀(c l:Int) (H1:Hp),av H H1->0<=c->c < 2->bG g.ds n.place c=some l->t ({nx:=fun _ H2=>Q .non H2,rt:=Q}:gQ) [some (.ref p),some (.ref a),some (.int r),some (.int c),some (.int l),none] H1:=by
  refine seg 4 (ah (aB (aR (pa3 aE (ao au (pv' 5) (aQ pN (gT (pv' 2) af) (aG az (by rfl) T.bR bb (pa1 (pv' 5))))) (pv' 3))))) fun zt4 zh4 ze4=>?_
  refine seg 3 (ae (aM (dF (GN hr.units0) (pv' 5) (bw fL) (cu _)) (ah (aB (aR (pa2 aE (pv' 4))))) (aC)) zh4) fun zt3 zh3 ze3=>?_
  refine seg 2 (ae (BH ["_law_k","_law_state","_law_level"] [none,some 1,some 4] (iy:=5) cx.nd rfl rfl (bj (by rfl) T.cj (pa1 (aG az (by rfl) T.bR bb (pa1 (ao aw (pv' 1) af))))) (fun _ _ _ _=>(aD (i:=0) (show (["_law_k","_law_state","_law_level"]:List Str).Nodup by decide +kernel) rfl orL)) (fun _ _ _ _=>(kD (bH (ao (show IxR _ (pK K) from aw) (ao (show IxR _ (pK K) from aw) (pv' 1) af) (pv' 0)) (pv' 2)))) (fun _ _ _ _=>(pv' 0))) zh3) fun zt2 zh2 ze2=>?_
  refine seg 1 (ae (aM (dF ix (aQ bf af (pv' 3)) (ao aw (pv' 1) af) (by rfl)) (ah (aB (aR (pa2 aE (pv' 3))))) (aC)) zh2) fun zt1 zh1 ze1=>?_
  refine ⟨_,ae (aM (dw (bZ (ao aw (ao aw (pv' 1) af) (pv' 4)))) (ah (aB (aR (pa2 aE (pv' 4))))) (aC)) zh1,?_⟩
  intro c l H1 s1 c0 c1 hl
  obtain ⟨gt,lt,ht,dt,h1,h2,h3,h4,h5⟩:=(hSt.same s1).un
  obtain ⟨l0,l1,_⟩:=eR hl
  have gl:=hn.gl
  have wl:=hn.wl
  have k30:=hg.k30
  k_mem
  refine ⟨_,h1,_,rfl,?_⟩
  k_mem
  refine ⟨_,h2,_,kI l0 (by show l < (n.gates.length:Int);omega),?_⟩
  k_mem
  split
  ·rename_i ho
   k_upd
   refine ⟨by decide,fun dd hdd=>?_⟩
   k_upd
   exact q dd (.opn l) _ (s1.lay hdd) (SqT.of ag) trivial (ow l0 l1 ho)
  rename_i ho
  have ho':n.gates.getD l.toNat false=true:=by simpa using ho
  k_upd
  refine ⟨_,h1,_,rfl,?_⟩
  k_mem
  refine ⟨_,.inr (SqT.of h3),rfl,by simp [bg],?_⟩
  rw [ni]
  k_mem
  split
  ·rename_i hin
   k_upd
   refine ⟨by decide,fun dd hdd=>?_⟩
   k_upd
   exact q dd (.unload c) _ (s1.lay hdd) (SqT.of ag) ⟨c0,c1⟩ (vV hin hl ho')
  rename_i hin
  k_upd
  refine ⟨_,h1,_,rfl,?_⟩
  k_mem
  refine ⟨_,.inr (SqT.of h3),by omega,by rw [WB];omega,?_⟩
  rw [WB,Int.toNat_natCast]
  refine eO (fun j=>decide (n.ws.getD j 0=l)) (fun (j:Nat)=>.int (j:Int)) (by rw [sizeLine_eq];omega) rfl (fun i hi N hN=>?_) (fun i hi _ N hN=>?_) fun lv hlv=>?_
  ·k_mem
   k_upd
   refine ⟨_,h1,_,rfl,?_⟩
   k_mem
   refine ⟨_,SqT.of h3,_,by rw [Int.zero_add];exact gg hi,?_⟩
   k_mem
   by_cases e:n.ws.getD i 0=l
   ·rw [if_pos e];rw [decide_eq_true e] at hN;exact hN
   ·rw [if_neg e];rw [decide_eq_false e] at hN;exact hN
  ·k_mem
   rw [Int.zero_add]
   exact hN
  rw [show List.map (fun (j:Nat)=>V.int (j:Int)) (List.filter (fun j=>decide (n.ws.getD j 0=l)) (List.range n.ws.length))=(iq n.ws l).map V.int by unfold iq vR;rw [List.map_map];rfl] at *
  have s2:=s1.lay (o:=HO.lst ((iq n.ws l).map V.int)) hlv
  have hlv1:upd H1 lv (HO.lst ((iq n.ws l).map V.int)) lv=some (HO.lst ((iq n.ws l).map V.int)):=ag
  generalize upd H1 lv (HO.lst ((iq n.ws l).map V.int))=H2 at *
  k_mem
  refine ⟨by decide,fun p1 hp1=>?_⟩
  have f1:=(av.refl H2).lay (o:=HO.lst []) hp1
  have hp1':upd H2 p1 (HO.lst []) p1=some (HO.lst []):=ag
  generalize upd H2 p1 (HO.lst [])=H3 at *
  have s3:=s2.trans f1
  k_upd
  refine ⟨_,SqL.of (f1 _ _ hlv1),_,SqL.of hp1',by simp [bg],rfl,?_⟩
  rw [BZ]
  k_mem
  by_cases hz:(iq n.ws l).map V.int=[]
  ·rw [if_pos hz]
   k_upd
   refine ⟨by decide,fun dd hdd=>?_⟩
   k_upd
   exact q dd (.sht l) _ (s3.lay hdd) (SqT.of ag) trivial (kK l0 l1 ho')
  ·rw [if_neg hz]
   have hlen:0 < (iq n.ws l).length:=by
    rcases Nat.eq_zero_or_pos (iq n.ws l).length with z | z
    ·exact absurd (by rw [List.eq_nil_of_length_eq_zero z];rfl) hz
    ·exact z
   have hm0:0<=r / 2 % ((iq n.ws l).length:Int):=Int.emod_nonneg _ (by omega)
   have hm1:r / 2 % ((iq n.ws l).length:Int) < ((iq n.ws l).length:Int):=Int.emod_lt_of_pos _ (by omega)
   obtain ⟨v0,v1,v2⟩:=EW (cM (ds:=iq n.ws l) (i:=(r / 2 % ((iq n.ws l).length:Int)).toNat) (by omega))
   k_upd
   refine ⟨_,.inl (SqL.of (f1 _ _ hlv1)),by rw [WB];omega,_,SqL.of (f1 _ _ hlv1),_,by rw [WB];exact dh hm0 hm1,by decide,fun dd hdd=>?_⟩
   k_upd
   exact q dd (.load _ c) _ (s3.lay hdd) (SqT.of ag) ⟨c0,c1⟩ (zi v0 v1 hl v2 hin ho')
 refine seg 2 (ae (aM (pO (pv' 4) af) (ae (aF (i:=3) cx.nd rfl orL (aQ di af (pv' 3))) (ah (aF (i:=4) cx.nd rfl (Or.inr rfl) (dc0 oS hr.dn (pa3 (ao au (pv' 0) af) (pv' 3) (ao aw (pv' 1) af)))))) (aC)) h1) fun zt2 zh2 ze2=>?_
 refine seg 1 (ae (aF (i:=4) cx.nd rfl (Or.inr rfl) (dc0 oS hr.dn (pa3 (ao au (pv' 0) af) (pv' 3) (ao aw (pv' 1) af)))) zh2) fun zt1 zh1 ze1=>?_
 refine ⟨_,ae (aF (i:=3) cx.nd rfl orL (cb (pv' 2) af)) zh1,?_⟩
 obtain ⟨gt,lt,ht,dt,h1,h2,h3,h4,h5⟩:=hSt.un
 obtain ⟨hp,hdl,_,_,_⟩:=id hP
 k_mem
 refine ⟨_,SqL.of hp,_,rfl,_,h1,_,rfl,?_⟩
 k_mem
 refine ⟨dl,g.ds,r % 2,n.place,rfl,SqL.of hdl,hg.sh,by omega,by omega,fun H1 s1=>?_⟩
 k_mem
 split
 ·rename_i hlt
  have e0:=HN hlt
  k_upd
  refine ⟨_,SqL.of (s1 _ _ hp),_,rfl,_,s1.tup h1,_,rfl,?_⟩
  k_mem
  refine ⟨dl,g.ds,1 - r % 2,n.place,rfl,SqL.of (s1 _ _ hdl),hg.sh,by omega,by omega,fun H2 s2=>?_⟩
  k_mem
  obtain ⟨c,hc,l,hl⟩:=hn.st
  have ec:c=1 - r % 2:=by
   rcases (by omega:c=r % 2\/c=1 - r % 2) with e | e
   ·rw [←e,hl] at e0;cases e0
   ·exact e
  rw [ec] at hl
  rw [hl]
  exact k1 _ l _ (s1.trans s2) (by omega) (by omega) hl
 ·rename_i hlt
  obtain ⟨l,hl,el⟩:=EV hlt
  rw [el]
  exact k1 _ l _ s1 (by omega) (by omega) hl
variable (kz:KD P w K mg base CX0 2 "_law_towards_load" (fF K Z))
inductive lF (K:WA)(Z:Adr)(vs:List V)(H:Hp)(Q:VK)(E:XK):Prop | mk (y kn wh:Addr) (ks:List Str) (ws:List Int) (m n c:Int):vs=[.ref y,.int n,.int c]->cS Z.eh H y kn wh ks ws m->0<=c->c < 2->((¬(0<=n/\n < ws.length)->E (.ref Z.dU) none H))->((0<=n->n < ws.length->(ws.getD n.toNat 0=10\/ws.getD n.toNat 0=11)->E (.ref Z.iO) none H))->((0<=n->n < ws.length->¬(ws.getD n.toNat 0=10\/ws.getD n.toNat 0=11)->10+c∈ws->∀H',av H H'->E (.ref Z.hG) none H'))->((0<=n->n < ws.length->¬(ws.getD n.toNat 0=10\/ws.getD n.toNat 0=11)->¬10+c∈ws->∀H',aA wh H H'->H' wh=some (.lst ((ws.set n.toNat (10+c)).map V.int))->Q .non H'))->lF K Z vs H Q E
include T bT gZ in
theorem yz:FF P w K mg base (CXf P w) 3 "into" "Yard.into" ml sM (lF K Z):=fkF yh fun vs H Q E h=>by
 obtain ⟨y,kn,wh,ks,ws,m,n,c,rfl,hy,h0,h1,q1,q2,q3,q4⟩:=h
 k_all
 refine seg 3 (ah (kB (ao aw (cX (by rfl) T.gU) (pv' 2)) (qR (ax (pv' 0)) (pv' 1) g9))) fun zt3 zh3 ze3=>?_
 refine seg 2 (ae (aM (B3 (dm' (pv' 0) bT hr.dn aU (pa1 (pv' 2))) dI) (ah (bh T.zF (by rfl) T.zC (pa1 aE))) (aC)) zh3) fun zt2 zh2 ze2=>?_
 refine seg 1 (ae (aM (dF ix (ao au (ax (pv' 0)) (pv' 1)) (cX (by rfl) T.gU) (by rfl)) (ah (bh T.oO (by rfl) T.oM (pa1 aE))) (aC)) zh2) fun zt1 zh1 ze1=>?_
 refine ⟨_,ae (aZ (dc gZ hr.dn bC (pa2 (pv' 1) (aG az (by rfl) T.bR bb (pa1 (ax (pv' 0))))))) zh1,?_⟩
 obtain ⟨⟨dx,hob⟩,hkn,hwh⟩:=id hy
 k_mem
 refine fgo hob T.cG T.bS rfl ?_
 k_mem
 refine ⟨_,.inl (SqL.of hwh),_,_,rfl,?_⟩
 rw [WB]
 k_upd
 refine ⟨fun hn=>?_,q1⟩
 ·k_mem
  k_upd
  refine fgo hob T.cG T.bS rfl ?_
  k_mem
  refine ⟨_,SqL.of hwh,_,dh hn.1 hn.2,_,.inr (T.gV _),rfl,rfl,?_⟩
  rw [xg]
  k_mem
  split
  ·rename_i h2
   k_upd
   exact ⟨by decide,q2 hn.1 hn.2 h2⟩
  ·rename_i h2
   k_upd
   refine mgo hob rfl ⟨_,_,_,_,_,_,_,rfl,hy,h0,h1,fun H' s1=>?_⟩
   k_mem
   by_cases hm:10+c∈ws
   ·rw [inC,if_pos hm,if_pos (show ¬(V.int _=V.non) from fun z=>V.noConfusion z)]
    k_upd
    exact ⟨by decide,q3 hn.1 hn.2 h2 hm H' s1⟩
   ·rw [inC,if_neg hm,if_neg (fun z=>z rfl)]
    k_upd
    refine ⟨_,T.gV _,_,xb h0 h1,_,_,_,s1 _ _ hob,T.cG,T.bS,_,rfl,?_⟩
    k_mem
    refine ⟨_,s1 _ _ hwh,_,ur hn.1 (by rw [WB];exact hn.2),?_⟩
    refine q4 hn.1 hn.2 h2 hm _ (aA.put (aA.of s1)) ?_
    rw [ag,List.map_set]
variable (tf:KM P w K mg base (CXf P w) 3 Z.eh "into" (lF K Z))
inductive mV (K:WA)(Z:Adr)(vs:List V)(H:Hp)(Q:VK)(E:XK):Prop | mk (y kn wh:Addr) (ks:List Str) (ws:List Int) (m c lv:Int):vs=[.ref y,.int c,.int lv]->cS Z.eh H y kn wh ks ws m->0<=c->c < 2->((¬(0<=lv/\lv < m)->E (.ref Z.ba) none H))->((0<=lv->lv < m->¬10+c∈ws->∀H',av H H'->E (.ref Z.hJ) none H'))->((0<=lv->lv < m->10+c∈ws->∀H',aA wh H H'->H' wh=some (.lst ((ws.set (ws.idxOf (10+c)) lv).map V.int))->Q .non H'))->mV K Z vs H Q E
include T bT bt in
theorem zO:FF P w K mg base (CXf P w) 3 "out" "Yard.out" oz uJ (mV K Z):=fkF sS fun vs H Q E h=>by
 obtain ⟨y,kn,wh,ks,ws,m,c,lv,rfl,hy,h0,h1,q1,q2,q3⟩:=h
 k_all
 refine seg 3 (ah (kB (pv' 2) (qR (ax (pv' 0)) (pv' 3) g9))) fun zt3 zh3 ze3=>?_
 refine seg 2 (ae (aM (yf (pv' 3) dI) (ah (bh T.sY (by rfl) T.sX (pa1 aE))) (aC)) zh3) fun zt2 zh2 ze2=>?_
 refine seg 1 (ae (aF (i:=3) sS.nd rfl orL (dm' (pv' 0) bT hr.dn aU (pa1 (pv' 1)))) zh2) fun zt1 zh1 ze1=>?_
 refine ⟨_,ae (aZ (dc bt hr.dn bC (pa2 (pv' 2) (ax (pv' 0))))) zh1,?_⟩
 obtain ⟨⟨dx,hob⟩,hkn,hwh⟩:=id hy
 k_mem
 refine fgo hob T.cG T.gW rfl ?_
 k_mem
 refine ⟨_,_,rfl,fun hlv=>?_,q1⟩
 k_mem
 refine mgo hob rfl ⟨_,_,_,_,_,_,_,rfl,hy,h0,h1,fun H' s1=>?_⟩
 k_mem
 by_cases hm:10+c∈ws
 ·rw [inC,if_pos hm,if_neg (show ¬(V.int _=V.non) from fun z=>V.noConfusion z)]
  have hlt:ws.idxOf (10+c) < ws.length:=List.idxOf_lt_length_iff.mpr hm
  k_mem
  refine fgo (s1 _ _ hob) T.cG T.bS rfl ?_
  k_mem
  refine ⟨_,s1 _ _ hwh,_,ur (Int.natCast_nonneg _) (by rw [WB];omega),?_⟩
  refine q3 hlv.1 hlv.2 hm _ (aA.put (aA.of s1)) ?_
  rw [ag,List.map_set];rfl
 ·rw [inC,if_neg hm,if_pos rfl]
  k_upd
  exact ⟨by decide,q2 hlv.1 hlv.2 hm H' s1⟩
variable (vD:KM P w K mg base (CXf P w) 3 Z.eh "out" (mV K Z))
inductive fU (K:WA)(Z:Adr)(vs:List V)(H:Hp)(Q:VK)(E:XK):Prop | mk (y kn wh:Addr) (ks:List Str) (ws:List Int) (m lv:Int):vs=[.ref y,.int lv]->cS Z.eh H y kn wh ks ws m->ws.length<=1000->((0<=lv/\lv < m->∀p H',H p=none->av H H'->H' p=some (.lst ((iq ws lv).map V.int))->Q (.ref p) H'))->((¬(0<=lv/\lv < m)->E (.ref Z.ba) none H))->fU K Z vs H Q E
include T bt in
theorem r6:FF P w K mg base (CXf P w) 3 "at_level" "Yard.at_level" gu lK (fU K Z):=fkF rB fun vs H Q E h=>by
 obtain ⟨y,kn,wh,ks,ws,m,lv,rfl,hy,hlen,q1,q2⟩:=h
 k_all
 refine seg 1 (ah (aB (ka ["number","spot","level"] [none,none,some 1] (uH (by rfl) T.mH kE (ax (pv' 0))) (fun _ _ _ _=>(show PG _ _ (nG K 2 _) from dZ (n:=2) rfl (aH (aD (i:=0) (show (["number","spot","level"]:List Str).Nodup by decide +kernel) rfl orL) (aH (aD (i:=1) (show (["number","spot","level"]:List Str).Nodup by decide +kernel) rfl orL) cZ)))) (fun _ _ _ _=>(kD (bH (pv' 1) (pv' 2)))) (fun _ _ _ _=>(pv' 0))))) fun zt1 zh1 ze1=>?_
 refine ⟨_,ae (aZ (dc bt hr.dn bC (pa2 (pv' 1) (ax (pv' 0))))) zh1,?_⟩
 obtain ⟨⟨dx,hob⟩,hkn,hwh⟩:=id hy
 k_mem
 refine fgo hob T.cG T.gW rfl ?_
 k_mem
 refine ⟨_,_,rfl,fun hlv=>?_,q2⟩
 k_mem
 refine fgo hob T.cG T.bS rfl ?_
 k_mem
 refine ⟨⟨_,SqL.of hwh⟩,?_⟩
 refine lY ws.length (fun i acc H'=>av H H'/\acc=(vR ws lv i).map V.int) ⟨av.refl H,rfl⟩ ?_ ?_ ?_ ?_
 ·rintro i acc H' hi ⟨s1,_⟩
  k_upd
  exact ⟨_,_,s1.seq (SqL.of hwh),by rw [List.getElem?_map,ke hi];rfl⟩
 ·rintro acc H' ⟨s1,_⟩
  k_upd
  exact ⟨_,s1.seq (SqL.of hwh),by rw [WB];exact Nat.le_refl _⟩
 ·rintro i acc H' hi ⟨s1,rfl⟩
  k_upd
  refine ⟨by have:=yT ws lv i;rw [WB,sizeLine_eq];omega,?_⟩
  rintro x H2 ⟨tp,z,rfl,htp,rfl,hz⟩ M hM
  have e:=hz _ (s1.seq (SqL.of hwh))
  rw [List.getElem?_map,ke hi] at e
  cases e
  k_mem
  refine ⟨_,SqT.of ag,rfl,?_⟩
  k_mem
  refine ⟨⟨rfl,fun k v e=>?_⟩,?_⟩
  ·match k,e with
   | 0,e=>cases e
   | 1,e=>cases e
   | 2,e=>exact e
  ·have gs:=Cy ws lv i
   k_upd
   split
   ·rename_i h
    refine hM _ _ ⟨s1.lay htp,?_⟩
    rw [gs,if_pos h,List.map_append];rfl
   ·rename_i h
    refine hM _ _ ⟨s1.lay htp,?_⟩
    rw [gs,if_neg h,List.append_nil]
 ·rintro acc H' ⟨s1,rfl⟩ p hp
  k_upd
  exact q1 hlv p _ (s1.free hp) (s1.lay hp) ag
variable (lP:KM P w K mg base (CXf P w) 3 Z.eh "at_level" (fU K Z))
inductive lG (K:WA)(Z:Adr)(vs:List V)(H:Hp)(Q:VK)(E:XK):Prop | mk (y kn wh:Addr) (ks:List Str) (ws:List Int) (m:Int):vs=[.ref y]->cS Z.eh H y kn wh ks ws m->(∀(y' kn' wh':Addr) (H':Hp),H y'=none->H kn'=none->H wh'=none->kn'≠wh'->av H H'->cS Z.eh H' y' kn' wh' ks ws m->Q (.ref y') H')->lG K Z vs H Q E
include T jn in
theorem yA:FF P w K mg base CX0 3 "twin" "Yard.twin" mm sN (lG K Z):=fk0 qk fun vs H Q E h=>by
 obtain ⟨y,kn,wh,ks,ws,m,rfl,hy,q⟩:=h
 k_all
 refine ⟨_,ae (aF (i:=1) qk.nd rfl orL (dn jn hr.dn T.E8 aU (pa2 (bw fL) (ax (pv' 0))))) (ae (bL (pv' 1) (bc aX (by rfl) T.dC cB (pa1 (ax (pv' 0)))) rfl) (ae (bL (pv' 1) (bc aX (by rfl) T.dC cB (pa1 (ax (pv' 0)))) rfl) (ah (aB (pv' 1))))),?_⟩
 obtain ⟨⟨dy,hob⟩,hkn,hwh⟩:=id hy
 k_mem
 refine ⟨by decide,fun p0 hp0=>⟨_,_,_,upo hob hp0,T.cG,T.gW,_,rfl,?_⟩⟩
 refine fun x dx hx hdx nxd=>?_
 have s0:=(av.refl H).lay (o:=HO.lst []) hp0
 have hx':upd (upd H p0 (HO.lst [])) dx (.own x) x=none:=by rw [aK (Ne.symm nxd)];exact hx
 refine ⟨x,dx,p0,[],m,rfl,ag,⟨[],SqL.of (upo (upo ag hdx) hx'),eC.nil⟩,by decide,fun kn0 wh0 H1 hkn0 hwh0 nkw kp hy1=>⟨rfl,?_⟩⟩
 have s1:=s0.trans (eD hx hdx kp)
 obtain ⟨⟨dx1,hob1⟩,hkn1,hwh1⟩:=id hy1
 have hxn:H x=none:=s0.free hx
 clear kp hy1
 k_mem
 refine fgo (s1 _ _ hob) T.cG T.fX rfl ?_
 k_mem
 refine ⟨_,.inl (SqL.of (s1 _ _ hkn)),fun k1 hk1=>⟨_,_,_,upo hob1 hk1,T.cG,T.fX,by show 3 < 1000;decide,?_⟩⟩
 have nk1:k1≠x:=fun z=>by rw [z,hob1] at hk1;cases hk1
 have s2:av H (upd (upd H1 k1 (HO.lst (ks.map V.str))) x (HO.ins Z.eh dx1 (br "kinds" (.ref k1) [("kinds",V.ref kn0),("where",V.ref wh0),("many",V.int m)]))):=(s1.lay hk1).rewr hxn
 have hob2:upd (upd H1 k1 (HO.lst (ks.map V.str))) x (HO.ins Z.eh dx1 (br "kinds" (.ref k1) [("kinds",V.ref kn0),("where",V.ref wh0),("many",V.int m)])) x=some (HO.ins Z.eh dx1 [("kinds",V.ref k1),("where",V.ref wh0),("many",V.int m)]):=by rw [ag];rfl
 have hk2:upd (upd H1 k1 (HO.lst (ks.map V.str))) x (HO.ins Z.eh dx1 (br "kinds" (.ref k1) [("kinds",V.ref kn0),("where",V.ref wh0),("many",V.int m)])) k1=some (HO.lst (ks.map V.str)):=by rw [aK nk1,ag]
 generalize upd (upd H1 k1 (HO.lst (ks.map V.str))) x (HO.ins Z.eh dx1 (br "kinds" (.ref k1) [("kinds",V.ref kn0),("where",V.ref wh0),("many",V.int m)]))=H2 at *
 refine fgo (s2 _ _ hob) T.cG T.bS rfl ?_
 k_mem
 refine ⟨_,.inl (SqL.of (s2 _ _ hwh)),fun w1 hw1=>⟨_,_,_,upo hob2 hw1,T.cG,T.bS,by show 3 < 1000;decide,?_⟩⟩
 have nw1:w1≠x:=fun z=>by rw [z,hob2] at hw1;cases hw1
 have nkw1:k1≠w1:=ai hk2 hw1
 refine q x k1 w1 _ hxn (s1.free hk1) (s2.free hw1) nkw1 ((s2.lay hw1).rewr hxn) ⟨⟨dx1,by rw [ag];rfl⟩,?_,?_⟩
 ·rw [aK nk1,aK nkw1];exact hk2
 ·rw [aK nw1,ag]
variable (tj:KM P w K mg base CX0 3 Z.eh "twin" (lG K Z))
theorem JL (s:Int)(x:Cd):inV (.int s) (cdV x)=decide (s=x.1\/s=x.2):=BC s x.1 x.2
inductive jY (K:WA)(Z:Adr)(vs:List V)(H:Hp)(Q:VK)(E:XK):Prop | mk (b cs fl st:Addr) (ls:List Cd) (fs:List Bool) (e:Eng) (lv s:Int):vs=[.ref b,.int lv,.int s]->bA Z.bD K H b cs fl st ls fs e->((¬(0<=lv/\lv < ls.length)->E (.ref Z.ba) none H))->((0<=lv->lv < ls.length->fs.getD lv.toNat false=true->E (.ref Z.kr) none H))->((0<=lv->lv < ls.length->fs.getD lv.toNat false=false->¬(s=(fm ls lv).1\/s=(fm ls lv).2)->E (.ref Z.mE) none H))->((0<=lv->lv < ls.length->fs.getD lv.toNat false=false->(s=(fm ls lv).1\/s=(fm ls lv).2)->∀st' H',aA b H H'->bA Z.bD K H' b cs fl st' ls fs (.wait lv s)->Q .non H'))->jY K Z vs H Q E
include T bt in
theorem wJ:FF P w K mg base (CXf P w) 3 "ring" "Bells.ring" kR pT (jY K Z):=fkF vZ fun vs H Q E h=>by
 obtain ⟨b,cs,fl,st,ls,fs,e,lv,s,rfl,hB,q1,q2,q3,q4⟩:=h
 k_all
 refine seg 3 (ah (bL (pv' 0) (aR (pa4 aE (pv' 1) (pv' 2) dI)) rfl)) fun zt3 zh3 ze3=>?_
 refine seg 2 (ae (aM (dF jy (pv' 2) (ao au (ax (pv' 0)) (pv' 1)) (by rfl)) (ah (bh T.zG (by rfl) T.zD (pa1 aE))) (aC)) zh3) fun zt2 zh2 ze2=>?_
 refine seg 1 (ae (aM (bZ (ao au (ax (pv' 0)) (pv' 1))) (ah (bh T.A7 (by rfl) T.A2 (pa1 aE))) (aC)) zh2) fun zt1 zh1 ze1=>?_
 refine ⟨_,ae (aZ (dc bt hr.dn bC (pa2 (pv' 1) (aG az (by rfl) T.bR bb (pa1 (ax (pv' 0))))))) zh1,?_⟩
 obtain ⟨⟨dx,hob⟩,⟨as,hcs,hT⟩,hfl,hst,nn,ln⟩:=id hB
 k_mem
 refine fgo hob T.bx T.cP rfl ?_
 k_mem
 refine ⟨_,.inl (SqL.of hcs),_,_,rfl,?_⟩
 rw [WB,hT.1]
 k_upd
 refine ⟨fun hlv=>?_,q1⟩
 k_mem
 refine fgo hob T.bx T.cz rfl ?_
 k_mem
 refine ⟨_,SqL.of hfl,_,kI hlv.1 (by omega),?_⟩
 k_mem
 split
 ·rename_i h
  k_upd
  exact ⟨by decide,q2 hlv.1 hlv.2 h⟩
 ·rename_i h
  k_upd
  refine fgo hob T.bx T.cP rfl ?_
  k_mem
  obtain ⟨ar,ea,hr⟩:=pE hT hlv.1 hlv.2
  k_upd
  refine ⟨_,SqL.of hcs,_,ea,?_⟩
  k_mem
  refine ⟨_,.inr hr,rfl,rfl,?_⟩
  rw [JL]
  k_mem
  split
  ·rename_i h2
   k_upd
   exact ⟨by decide,q3 hlv.1 hlv.2 (by simpa using h) h2⟩
  ·rename_i h2
   k_upd
   refine ⟨by decide,fun st' hst'=>⟨_,_,_,upo hob hst',T.bx,T.bB,by show 3 < 1000;decide,?_⟩⟩
   have nsx:st'≠b:=fun z=>by rw [z,hob] at hst';cases hst'
   refine q4 hlv.1 hlv.2 (by simpa using h) (Decidable.not_not.mp h2) st' _ ((aA.of ((av.refl H).lay hst')).put) (hB.state ((aA.of ((av.refl H).lay hst')).put) (dx:=dx) (by rw [ag];rfl) (SqT.of ?_))
   rw [aK nsx,ag];rfl
variable (qF:KM P w K mg base (CXf P w) 3 Z.bD "ring" (jY K Z))
inductive jZ (K:WA)(Z:Adr)(vs:List V)(H:Hp)(Q:VK)(E:XK):Prop | mk (b cs fl st:Addr) (ls:List Cd) (fs:List Bool) (e:Eng) (lv:Int):vs=[.ref b,.int lv]->bA Z.bD K H b cs fl st ls fs e->((¬(0<=lv/\lv < ls.length)->E (.ref Z.ba) none H))->((0<=lv->lv < ls.length->fs.getD lv.toNat false=true->E (.ref Z.fD) none H))->((0<=lv->lv < ls.length->fs.getD lv.toNat false=false->∀H',aA fl H H'->H' fl=some (.lst ((fs.set lv.toNat true).map V.bl))->Q .non H'))->jZ K Z vs H Q E
include T bt in
theorem wK:FF P w K mg base (CXf P w) 3 "fail" "Bells.fail" kS pU (jZ K Z):=fkF v3 fun vs H Q E h=>by
 obtain ⟨b,cs,fl,st,ls,fs,e,lv,rfl,hB,q1,q2,q3⟩:=h
 k_all
 refine seg 2 (ah (kB fJ (qR (ax (pv' 0)) (pv' 1) g9))) fun zt2 zh2 ze2=>?_
 refine seg 1 (ae (aM (bZ (ao au (ax (pv' 0)) (pv' 1))) (ah (bh T.vo (by rfl) T.vj (pa1 aE))) (aC)) zh2) fun zt1 zh1 ze1=>?_
 refine ⟨_,ae (aZ (dc bt hr.dn bC (pa2 (pv' 1) (aG az (by rfl) T.bR bb (pa1 (ax (pv' 0))))))) zh1,?_⟩
 obtain ⟨⟨dx,hob⟩,⟨as,hcs,hT⟩,hfl,hst,nn,ln⟩:=id hB
 k_mem
 refine fgo hob T.bx T.cP rfl ?_
 k_mem
 refine ⟨_,.inl (SqL.of hcs),_,_,rfl,?_⟩
 rw [WB,hT.1]
 k_upd
 refine ⟨fun hlv=>?_,q1⟩
 k_mem
 refine fgo hob T.bx T.cz rfl ?_
 k_mem
 refine ⟨_,SqL.of hfl,_,kI hlv.1 (by omega),?_⟩
 k_mem
 split
 ·rename_i h
  k_upd
  exact ⟨by decide,q2 hlv.1 hlv.2 h⟩
 ·rename_i h
  k_upd
  refine fgo hob T.bx T.cz rfl ?_
  k_mem
  refine ⟨_,hfl,_,ur hlv.1 (by rw [WB];omega),?_⟩
  k_upd
  exact q3 hlv.1 hlv.2 (by simpa using h) _ ((aA.of (av.refl H)).put) (by rw [ag,List.map_set])
variable (qG:KM P w K mg base (CXf P w) 3 Z.bD "fail" (jZ K Z))
theorem JM (e:Eng)(lv c:Int):eqL (kH e) [V.str "armed",V.int lv,V.int c,V.int c]=match e with | .armed l' r=>decide (l'=lv/\r=c) | _=>false:=by
 cases e with
 | armed l r=>
  simp only [kH,eqL,xS,Bool.and_true]
  have:eqV (V.str "armed") (V.str "armed")=true:=rfl
  rw [this]
  by_cases h1:l=lv<;>by_cases h2:r=c<;>simp [h1,h2]
 | _=>rfl
theorem G6 {k:Str}(hk:k="men"\/k="coal"):∃i:Int,(if eqV (V.str "men") (V.str k)=true then (0:Int) else 1)=i/\(eqV (V.str "men") (V.str k) || eqV (V.str "coal") (V.str k))=true/\∀x:Cd,atI (cdV x) i=some (.int (if k="men" then x.1 else x.2)):=by
 rcases hk with rfl | rfl
 ·exact ⟨0,rfl,rfl,fun x=>rfl⟩
 ·exact ⟨1,rfl,rfl,fun x=>rfl⟩
inductive lH (K:WA)(Z:Adr)(vs:List V)(H:Hp)(Q:VK)(E:XK):Prop | mk (b cs fl st:Addr) (ls:List Cd) (fs:List Bool) (e:Eng) (lv:Int) (k:Str):vs=[.ref b,.int lv,.str k]->bA Z.bD K H b cs fl st ls fs e->((k="men"\/k="coal"))->((¬(0<=lv/\lv < ls.length)->E (.ref Z.ba) none H))->((0<=lv->lv < ls.length->e≠.armed lv (cC ls lv k)->∀H',av H H'->E (.ref Z.iP) none H'))->((0<=lv->lv < ls.length->e=.armed lv (cC ls lv k)->∀st' H',aA b H H'->bA Z.bD K H' b cs fl st' ls fs (.used lv (cC ls lv k))->Q .non H'))->lH K Z vs H Q E
include T bt in
theorem yB:FF P w K mg base (CXf P w) 3 "use" "Bells.use" mn sO (lH K Z):=fkF ql fun vs H Q E h=>by
 obtain ⟨b,cs,fl,st,ls,fs,e,lv,k,rfl,hB,hk,q1,q2,q3⟩:=h
 k_all
 refine seg 3 (ah (bL (pv' 0) (aR (pa4 aE (pv' 1) (pv' 3) (pv' 3))) rfl)) fun zt3 zh3 ze3=>?_
 refine seg 2 (ae (aM (dF (Jc hr.units0) (ax (pv' 0)) (aR (pa4 aE (pv' 1) (pv' 3) (pv' 3))) (cu _)) (ah (bh T.A8 (by rfl) T.A3 (pa1 aE))) (aC)) zh3) fun zt2 zh2 ze2=>?_
 refine seg 1 (ae (aF (i:=3) ql.nd rfl orL (ao aw (ao au (ax (pv' 0)) (pv' 1)) (j9 PySem.F.plainAttrs_tuple PySem.F.slot_tuple_index PySem.F.type_tuple_index Cw (cX (by rfl) T.GW) (pa1 (pv' 2))))) zh2) fun zt1 zh1 ze1=>?_
 refine ⟨_,ae (aZ (dc bt hr.dn bC (pa2 (pv' 1) (aG az (by rfl) T.bR bb (pa1 (ax (pv' 0))))))) zh1,?_⟩
 obtain ⟨⟨dx,hob⟩,⟨as,hcs,hT⟩,hfl,hst,nn,ln⟩:=id hB
 k_mem
 refine fgo hob T.bx T.cP rfl ?_
 k_mem
 refine ⟨_,.inl (SqL.of hcs),_,_,rfl,?_⟩
 rw [WB,hT.1]
 k_upd
 refine ⟨fun hlv=>?_,q1⟩
 k_mem
 obtain ⟨ar,ea,hr⟩:=pE hT hlv.1 hlv.2
 obtain ⟨i,ei,ek,ex⟩:=G6 hk
 k_upd
 refine fgo hob T.bx T.cP rfl ?_
 k_mem
 refine ⟨_,SqL.of hcs,_,ea,.inr (.inl ⟨rfl,T.GY⟩),_,_,_,_,rfl,rfl,T.GX _,rfl,rfl,rfl,ek,?_⟩
 rw [ei]
 k_mem
 refine ⟨_,hr,_,ex _,?_⟩
 k_mem
 have ec:(if k=Str.ofString "men" then (fm ls lv).1 else (fm ls lv).2)=cC ls lv k:=rfl
 rw [ec]
 k_upd
 refine fgo hob T.bx T.bB rfl ⟨by decide,fun tp htp=>?_⟩
 k_mem
 refine ⟨_,_,_,_,rfl,rfl,((av.refl H).lay htp).tup hst,SqT.of ag,List.all_eq_true.mpr (rf e),rfl,?_⟩
 have s0:=(av.refl H).lay (o:=HO.tup [V.str (Str.ofString "armed"),V.int lv,V.int (cC ls lv k),V.int (cC ls lv k)]) htp
 have e2:eqL (kH e) [V.str (Str.ofString "armed"),V.int lv,V.int (cC ls lv k),V.int (cC ls lv k)]=_:=JM e lv (cC ls lv k)
 rw [e2]
 have hob0:=s0 _ _ hob
 generalize upd H tp (HO.tup [V.str (Str.ofString "armed"),V.int lv,V.int (cC ls lv k),V.int (cC ls lv k)])=H0 at *
 have no:e≠.armed lv (cC ls lv k)->E (.ref Z.iP) none H0:=fun z=>q2 hlv.1 hlv.2 z H0 s0
 cases e with
 | armed l' r=>
  k_mem
  by_cases hh:l'=lv/\r=cC ls lv k
  ·rw [if_neg (by simp [hh])]
   k_mem
   refine ⟨by decide,fun st' hst'=>⟨_,_,_,upo hob0 hst',T.bx,T.bB,by show 3 < 1000;decide,?_⟩⟩
   have nsx:st'≠b:=fun z=>by rw [z,hob0] at hst';cases hst'
   have k0:=((aA.of (s0.lay (o:=HO.tup [V.str (Str.ofString "used up"),V.int lv,V.int (cC ls lv k),V.int (cC ls lv k)]) hst')).put (o:=HO.ins Z.bD dx (br "state" (.ref st') [("codes",V.ref cs),("failed",V.ref fl),("state",V.ref st)])) (p:=b))
   refine q3 hlv.1 hlv.2 (by rw [hh.1,hh.2]) st' _ k0 (hB.state k0 (dx:=dx) (by rw [ag];rfl) (SqT.of ?_))
   rw [aK nsx,ag];rfl
  ·rw [if_pos (by simp;intro z1 z2;exact hh ⟨z1,z2⟩)]
   k_mem
   exact ⟨by decide,no fun z=>by injection z with z1 z2;exact hh ⟨z1,z2⟩⟩
 | _=>
  k_mem
  exact ⟨by decide,no fun z=>Eng.noConfusion z⟩
variable (tu:KM P w K mg base (CXf P w) 3 Z.bD "use" (lH K Z))
inductive j0 (K:WA)(Z:Adr)(vs:List V)(H:Hp)(Q:VK)(E:XK):Prop | mk (b cs fl st:Addr) (ls:List Cd) (fs:List Bool) (e:Eng):vs=[.ref b]->bA Z.bD K H b cs fl st ls fs e->ls.length<=1000->(∀(b' cs' fl':Addr) (H':Hp),H b'=none->H cs'=none->H fl'=none->av H H'->bA Z.bD K H' b' cs' fl' st ls fs e->Q (.ref b') H')->j0 K Z vs H Q E
include T gY in
theorem wL:FF P w K mg base CX0 3 "twin" "Bells.twin" kU pW (j0 K Z):=fk0 nV fun vs H Q E h=>by
 obtain ⟨b,cs,fl,st,ls,fs,e,rfl,hB,hn,q⟩:=h
 k_all
 refine ⟨_,ae (aF (i:=1) nV.nd rfl orL (dn gY hr.dn T.B6 aU (pa1 (ax (pv' 0))))) (ae (bL (pv' 1) (bc aX (by rfl) T.dC cB (pa1 (ax (pv' 0)))) rfl) (ae (bL (pv' 1) (ax (pv' 0)) rfl) (ah (aB (pv' 1))))),?_⟩
 obtain ⟨⟨db,hob⟩,⟨as,hcs,hT⟩,hfl,hst,nn,ln⟩:=id hB
 k_mem
 refine fgo hob T.bx T.cP rfl ?_
 refine fun x dx hx hdx nxd=>?_
 have hx':upd H dx (.own x) x=none:=by rw [aK (Ne.symm nxd)];exact hx
 refine ⟨x,dx,cs,ls,rfl,ag,hB.rows.same (((av.refl H).lay hdx).lay hx'),hn,fun cs1 fl1 st1 H1 hcs1 hfl1 kp hB1=>⟨rfl,?_⟩⟩
 have s1:=eD hx hdx kp
 obtain ⟨⟨dx1,hob1⟩,⟨as1,hc1,hT1⟩,hf1,_,nn1,ln1⟩:=id hB1
 clear kp
 k_mem
 refine fgo (s1 _ _ hob) T.bx T.cz rfl ?_
 k_mem
 refine ⟨_,.inl (SqL.of (s1 _ _ hfl)),fun f2 hf2=>⟨_,_,_,upo hob1 hf2,T.bx,T.cz,by show 3 < 1000;decide,?_⟩⟩
 have nf2:f2≠x:=fun z=>by rw [z,hob1] at hf2;cases hf2
 have ncf:cs1≠f2:=ai hc1 hf2
 have ncx:cs1≠x:=fun z=>by rw [z,hob1] at hc1;cases hc1
 have s2:av H (upd (upd H1 f2 (HO.lst (fs.map V.bl))) x (HO.ins Z.bD dx1 (br "failed" (.ref f2) [("codes",V.ref cs1),("failed",V.ref fl1),("state",V.ref st1)]))):=(s1.lay hf2).rewr hx
 have k2:L2.aA x H1 (upd (upd H1 f2 (HO.lst (fs.map V.bl))) x (HO.ins Z.bD dx1 (br "failed" (.ref f2) [("codes",V.ref cs1),("failed",V.ref fl1),("state",V.ref st1)]))):=(aA.of ((av.refl H1).lay hf2)).put
 have hob2:upd (upd H1 f2 (HO.lst (fs.map V.bl))) x (HO.ins Z.bD dx1 (br "failed" (.ref f2) [("codes",V.ref cs1),("failed",V.ref fl1),("state",V.ref st1)])) x=some (HO.ins Z.bD dx1 [("codes",V.ref cs1),("failed",V.ref f2),("state",V.ref st1)]):=by rw [ag];rfl
 have hff:upd (upd H1 f2 (HO.lst (fs.map V.bl))) x (HO.ins Z.bD dx1 (br "failed" (.ref f2) [("codes",V.ref cs1),("failed",V.ref fl1),("state",V.ref st1)])) f2=some (HO.lst (fs.map V.bl)):=by rw [aK nf2,ag]
 generalize upd (upd H1 f2 (HO.lst (fs.map V.bl))) x (HO.ins Z.bD dx1 (br "failed" (.ref f2) [("codes",V.ref cs1),("failed",V.ref fl1),("state",V.ref st1)]))=H2 at *
 refine fgo (s2 _ _ hob) T.bx T.bB rfl ?_
 k_mem
 refine ⟨_,_,_,hob2,T.bx,T.bB,by show 3 < 1000;decide,?_⟩
 have k3:L2.aA x H2 (upd H2 x (HO.ins Z.bD dx1 (br "state" (.ref st) [("codes",V.ref cs1),("failed",V.ref f2),("state",V.ref st1)]))):=(aA.of (av.refl H2)).put
 refine q x cs1 f2 _ hx (dR hcs1) (s1.free hf2) (s2.rewr hx) ⟨⟨dx1,by rw [ag];rfl⟩,⟨as1,k3 _ _ ncx (k2 _ _ ncx hc1),(hT1.keepI k2 hob1).keepI k3 hob2⟩,k3 _ _ nf2 hff,(s2.rewr hx).tup hst,ncf,ln⟩
variable (qH:KM P w K mg base CX0 3 Z.bD "twin" (j0 K Z))
inductive i5 (K:WA)(Z:Adr)(vs:List V)(H:Hp)(Q:VK)(E:XK):Prop | mk (a:Addr) (ds:List Int) (c lv:Int):vs=[.ref a,.int c,.int lv]->SqL K H a (ds.map V.int)->0<=lv->lv < ds.length->Q (.int (if c=0 then ds.getD lv.toNat 0 else bY ds - ds.getD lv.toNat 0)) H->i5 K Z vs H Q E
include T dH in
theorem vE:FF P w K mg base CX0 3 "wound_place" "wound_place" jE nM (i5 K Z):=fk0 uR fun vs H Q E h=>by
 obtain ⟨a,ds,c,lv,rfl,hS,h0,h1,q⟩:=h
 k_all
 refine seg 1 (ah (aB (dc0 dH hr.dn (pa2 (pv' 0) (ao au (pv' 0) (pv' 2)))))) fun zt1 zh1 ze1=>?_
 refine ⟨_,ae (aM (bH (pv' 1) af) (ah (aB (ao au (pv' 0) (pv' 2)))) (aC)) zh1,?_⟩
 k_mem
 split
 ·rename_i hc
  k_upd
  rw [if_pos hc] at q
  k_upd
  exact ⟨_,hS,_,dh h0 h1,q⟩
 ·rename_i hc
  k_upd
  rw [if_neg hc] at q
  k_upd
  refine ⟨_,hS,_,dh h0 h1,?_⟩
  k_mem
  exact ⟨a,ds,_,rfl,hS,by omega,q⟩
variable (oi:KD P w K mg base CX0 3 "wound_place" (i5 K Z))
inductive mW (K:WA)(Z:Adr)(vs:List V)(H:Hp)(Q:VK)(E:XK):Prop | mk (a:Addr) (ds:List Int) (pl:Int):vs=[.ref a,.int pl]->SqL K H a (ds.map V.int)->0 < ds.length->ds.length<=1000->(∀(b:Addr) (H':Hp),H b=none->av H H'->H' b=some (.lst ((jg ds pl).map V.int))->Q (.ref b) H')->mW K Z vs H Q E
include T dH in
theorem zP:FF P w K mg base CX0 3 "gates_by" "gates_by" oB uL (mW K Z):=fk0 sV fun vs H Q E h=>by
 obtain ⟨a,ds,pl,rfl,hS,h0,h1,q⟩:=h
 k_all
 refine ⟨_,ae (aF (i:=2) sV.nd rfl (Or.inr rfl) (aR (pa2 (pv' 1) (dc0 dH hr.dn (pa2 (pv' 0) (pv' 1)))))) (ah (aB (ka ["level","depths","stands"] [none,some 0,some 2] (bj (by rfl) T.cj (pa1 (aG az (by rfl) T.bR bb (pa1 (pv' 0))))) (fun _ _ _ _=>(aD (i:=0) (show (["level","depths","stands"]:List Str).Nodup by decide +kernel) rfl orL)) (fun _ _ _ _=>(kD (dF (show OpR _ _ (AM K false) from ix) (ao (show IxR _ (BS K) from au) (pv' 1) (pv' 0)) (pv' 2) (by rfl)))) (fun _ _ _ _=>(pv' 0))))),?_⟩
 k_mem
 refine ⟨a,ds,pl,rfl,hS,h0,?_⟩
 k_mem
 refine ⟨by decide,fun t ht=>⟨_,.inl (((av.refl H).lay ht).seq hS),by omega,by rw [WB];omega,?_⟩⟩
 refine eO (fun i=>decide (ds.getD i 0=pl\/ds.getD i 0=bY ds - pl)) (fun i=>V.int (i:Int)) (Nat.le_of_lt (cw (by rw [WB];omega))) rfl (fun i hi N q=>?_) (fun i hi _ N q=>?_) (fun b hb=>?_)
 ·rw [WB] at hi
  k_mem
  refine ⟨_,((av.refl H).lay ht).seq hS,_,by rw [Int.zero_add];exact gg (by omega),_,.inr (SqT.of ag),rfl,rfl,?_⟩
  rw [BC]
  exact q
 ·k_mem
  rw [Int.zero_add]
  exact q
 ·refine q b _ (upn hb) (((av.refl H).lay ht).lay hb) ?_
  rw [ag]
  unfold jg
  rw [List.map_map,WB]
  rfl
variable (vF:KD P w K mg base CX0 3 "gates_by" (mW K Z))
inductive j1 (K:WA)(Z:Adr)(vs:List V)(H:Hp)(Q:VK)(E:XK):Prop | mk (x dx d c l:Addr) (ds:List Int) (ls:List Cd) (lds:List Ld) (slow fast:Int) (N:Addr->Prop):vs=[.ref x,.ref d,.ref c,.int slow,.int fast,.ref l]->H x=some (.ins Z.aY dx [])->SqL K H d (ds.map V.int)->ik cdV K H c ls->dX K H l lds->ds.length<=1000->ls.length<=1000->lds.length<=1000->((∀p,N p->∃ys,H p=some (.lst ys)))->((¬bX ds->E (.ref Z.ku) none H))->((bX ds->¬((ls.length:Int)=(ds.length:Nat)/\∀x∈ls,ez x)->E (.ref Z.mD) none H))->((bX ds->((ls.length:Int)=(ds.length:Nat)/\∀x∈ls,ez x)->¬(1<=slow/\slow<=fast/\fast<=500)->E (.ref Z.kv) none H))->((bX ds->((ls.length:Int)=(ds.length:Nat)/\∀x∈ls,ez x)->(1<=slow/\slow<=fast/\fast<=500)->¬(lds.length<=30/\∀x∈lds,jv (ds.length:Nat) x)->E (.ref Z.mB) none H))->((bX ds->((ls.length:Int)=(ds.length:Nat)/\∀x∈ls,ez x)->(1<=slow/\slow<=fast/\fast<=500)->(lds.length<=30/\∀x∈lds,jv (ds.length:Nat) x)->∀bk rl H',aA x H H'->H rl=none->WAt (clZ Z) K H' x bk rl (df ds ls slow fast lds N) (gh ds ls lds) []->Q .non H'))->j1 K Z vs H Q E
include T jn gY mO mQ eQ sZ oa oe in
theorem wM:FF P w K mg base (CXf P w) 3 "__init__" "Works.__init__" k7 qa (j1 K Z):=fkF jH fun vs H Q E h=>by
 obtain ⟨x,dx,d,c,l,ds,ls,lds,slow,fast,N,rfl,hx,hD,hC,hL,n1,n2,n3,hN,q1,q2,q3,q4,q5⟩:=h
 k_all
 refine ⟨_,ae (aZ (dc mO hr.dn bC (pa1 (pv' 1)))) (ae (aZ (dc oe hr.dn bC (pa2 (pv' 2) (aG az (by rfl) T.bR bb (pa1 (pv' 1)))))) (ae (aZ (dc mQ hr.dn bC (pa2 (pv' 3) (pv' 4)))) (ae (aZ (dc oa hr.dn bC (pa2 (pv' 5) (aG az (by rfl) T.bR bb (pa1 (pv' 1)))))) (ae (bL (pv' 0) (bc aX (by rfl) T.dC cB (pa1 (pv' 1))) rfl) (ae (bL (pv' 0) (pv' 3) rfl) (ae (bL (pv' 0) (pv' 4) rfl) (ae (bL (pv' 0) (ka ["kind","level","goal"] [none,none,none] (dk (pv' 5)) (fun _ _ _ _=>(show PG _ _ (nG K 3 _) from dZ (n:=3) rfl (aH (aD (i:=0) (show (["kind","level","goal"]:List Str).Nodup by decide +kernel) rfl orL) (aH (aD (i:=1) (show (["kind","level","goal"]:List Str).Nodup by decide +kernel) rfl orL) (aH (aD (i:=2) (show (["kind","level","goal"]:List Str).Nodup by decide +kernel) rfl orL) cZ))))) (fun _ _ _ _=>fj) (fun _ _ _ _=>(pv' 2))) rfl) (ae (BH ["depth"] [none] (iy:=6) jH.nd rfl rfl (dk (pv' 1)) (fun _ _ _ _=>(aD (i:=0) (show (["depth"]:List Str).Nodup by decide +kernel) rfl orL)) (fun _ _ _ _=>fj) (fun _ _ _ _=>fJ)) (ae (aF (i:=7) jH.nd rfl orL (dn eQ hr.dn T.vk aU (pa4 (ao au (pv' 1) af) (pv' 6) (dn gY hr.dn T.B6 aU (pa1 (pv' 2))) (dn jn hr.dn T.E8 aU (pa2 (pv' 5) (aG az (by rfl) T.bR bb (pa1 (pv' 1)))))))) (ah (bL (pv' 0) (dn sZ hr.dn T.Jz aU (pa2 (pv' 7) (cX (by rfl) T.yq))) rfl))))))))))),?_⟩
 k_mem
 refine ⟨d,ds,rfl,hD,by omega,fun sh=>?_,q1⟩
 k_mem
 refine ⟨_,.inl hD,?_⟩
 rw [WB]
 refine ⟨c,ls,_,rfl,hC,fun h2=>?_,q2 sh⟩
 k_mem
 refine ⟨_,_,rfl,?_⟩
 by_cases h3:1<=slow/\slow<=fast/\fast<=500
 case neg=>rw [if_neg h3];exact q3 sh h2 h3
 rw [if_pos h3]
 k_mem
 refine ⟨_,.inl hD,?_⟩
 rw [WB]
 refine ⟨l,lds,_,rfl,hL,fun h4=>?_,q4 sh h2 h3⟩
 replace q5:=q5 sh h2 h3 h4
 clear q1 q2 q3 q4
 k_mem
 refine ⟨_,.inl hD,fun dl hdl=>⟨_,_,_,upo hx hdl,T.aS,T.cA,by decide,_,_,_,ag,T.aS,T.n6,by show 1 < 1000;decide,_,_,_,ag,T.aS,T.n8,by show 2 < 1000;decide,?_⟩⟩
 have ndx:dl≠x:=fun z=>by rw [z,hx] at hdl;cases hdl
 have k1:L2.aA x H (upd (upd (upd (upd H dl (HO.lst (ds.map V.int))) x (HO.ins Z.aY dx (br "depths" (.ref dl) []))) x (HO.ins Z.aY dx (br "slow" (.int slow) (br "depths" (.ref dl) [])))) x (HO.ins Z.aY dx (br "fast" (.int fast) (br "slow" (.int slow) (br "depths" (.ref dl) []))))):=(((aA.of ((av.refl H).lay hdl)).put).put).put
 have hx1:upd (upd (upd (upd H dl (HO.lst (ds.map V.int))) x (HO.ins Z.aY dx (br "depths" (.ref dl) []))) x (HO.ins Z.aY dx (br "slow" (.int slow) (br "depths" (.ref dl) [])))) x (HO.ins Z.aY dx (br "fast" (.int fast) (br "slow" (.int slow) (br "depths" (.ref dl) [])))) x=some (HO.ins Z.aY dx [("depths",.ref dl),("slow",.int slow),("fast",.int fast)]):=by rw [ag];rfl
 have hd1:upd (upd (upd (upd H dl (HO.lst (ds.map V.int))) x (HO.ins Z.aY dx (br "depths" (.ref dl) []))) x (HO.ins Z.aY dx (br "slow" (.int slow) (br "depths" (.ref dl) [])))) x (HO.ins Z.aY dx (br "fast" (.int fast) (br "slow" (.int slow) (br "depths" (.ref dl) [])))) dl=some (HO.lst (ds.map V.int)):=by rw [aK ndx,aK ndx,aK ndx,ag]
 generalize upd (upd (upd (upd H dl (HO.lst (ds.map V.int))) x (HO.ins Z.aY dx (br "depths" (.ref dl) []))) x (HO.ins Z.aY dx (br "slow" (.int slow) (br "depths" (.ref dl) [])))) x (HO.ins Z.aY dx (br "fast" (.int fast) (br "slow" (.int slow) (br "depths" (.ref dl) []))))=H1 at *
 obtain ⟨asL,hLs,hLt⟩:=id hL
 refine ⟨⟨_,hLs.keepI k1 hx⟩,rz (fun y=>.int y.2.2) (hL.keepI k1 hx) (by rw [sizeLine_eq];omega) rfl (fun y _ M hM=>by k_mem;exact hM) fun gl hgl=>?_⟩
 k_mem
 refine ⟨_,_,_,upo hx1 hgl,T.aS,T.mJ,by show 3 < 1000;decide,?_⟩
 have ngx:gl≠x:=fun z=>by rw [z,hx1] at hgl;cases hgl
 have ngd:dl≠gl:=ai hd1 hgl
 have k2:L2.aA x H1 (upd (upd H1 gl (HO.lst (lds.map fun y=>V.int y.2.2))) x (HO.ins Z.aY dx (br "goals" (.ref gl) [("depths",.ref dl),("slow",.int slow),("fast",.int fast)]))):=(aA.of ((av.refl H1).lay hgl)).put
 have hx2:upd (upd H1 gl (HO.lst (lds.map fun y=>V.int y.2.2))) x (HO.ins Z.aY dx (br "goals" (.ref gl) [("depths",.ref dl),("slow",.int slow),("fast",.int fast)])) x=some (HO.ins Z.aY dx [("depths",.ref dl),("slow",.int slow),("fast",.int fast),("goals",.ref gl)]):=by rw [ag];rfl
 have hg2:upd (upd H1 gl (HO.lst (lds.map fun y=>V.int y.2.2))) x (HO.ins Z.aY dx (br "goals" (.ref gl) [("depths",.ref dl),("slow",.int slow),("fast",.int fast)])) gl=some (HO.lst ((lds.map (·.2.2)).map V.int)):=by rw [aK ngx,ag,List.map_map];rfl
 generalize upd (upd H1 gl (HO.lst (lds.map fun y=>V.int y.2.2))) x (HO.ins Z.aY dx (br "goals" (.ref gl) [("depths",.ref dl),("slow",.int slow),("fast",.int fast)]))=H2 at *
 have k12:=k1.trans k2
 have hd2:=k2 _ _ ndx hd1
 refine ⟨⟨_,hD.keepI k12 hx⟩,?_⟩
 refine sj (fun _=>true) (fun _=>V.bl false) (hD.keepI k12 hx) (by rw [WB,sizeLine_eq];omega) rfl (fun y _ M hM=>by k_mem;exact hM) (fun y _ _ M hM=>by k_mem;exact hM) fun sh1 hsh1=>?_
 have es:((ds.map V.int).filter fun _=>true).map (fun _=>V.bl false)=(ds.map fun _=>false).map V.bl:=by
  rw [List.filter_eq_self.mpr (by simp),List.map_map,List.map_map];rfl
 rw [es]
 have f3:=(av.refl H2).lay (o:=HO.lst ((ds.map fun _=>false).map V.bl)) hsh1
 have hs3:upd H2 sh1 (HO.lst ((ds.map fun _=>false).map V.bl)) sh1=some (HO.lst ((ds.map fun _=>false).map V.bl)):=ag
 generalize upd H2 sh1 (HO.lst ((ds.map fun _=>false).map V.bl))=H3 at *
 have k13:L2.aA x H H3:=k12.trans (aA.of f3)
 have sl2:=sh.l2
 k_mem
 refine ⟨_,hD.keepI k13 hx,_,dh (k:=0) (by omega) (by omega),?_⟩
 k_mem
 refine fun b db hb hdb nbd=>?_
 have hb':upd H3 db (.own b) b=none:=by rw [aK (Ne.symm nbd)];exact hb
 refine ⟨b,db,c,ls,rfl,ag,(hC.keepI k13 hx).same (((av.refl H3).lay hdb).lay hb'),n2,fun cs fl st H4 hcs hfl kp hB=>⟨rfl,?_⟩⟩
 have f4:=eD hb hdb kp
 have fcs:=dR hcs
 have ffl:=dR hfl
 clear kp hcs hfl
 have f34:=f3.trans f4
 have k14:L2.aA x H H4:=k13.trans (aA.of f4)
 k_mem
 refine ⟨_,.inl (hD.keepI k14 hx),?_⟩
 rw [WB]
 refine fun y dy hy hdy nyd=>?_
 have hy':upd H4 dy (.own y) y=none:=by rw [aK (Ne.symm nyd)];exact hy
 refine ⟨y,dy,l,lds,_,rfl,ag,(hL.keepI k14 hx).same (((av.refl H4).lay hdy).lay hy'),n3,fun kn wh H5 hkn hwh nkw kp hY=>⟨rfl,?_⟩⟩
 have f5:=eD hy hdy kp
 have fkn:=dR hkn
 have fwh:=dR hwh
 clear kp hkn hwh
 k_mem
 refine fun s ds1 hs hds1 nsd=>?_
 have hs':upd H5 ds1 (.own s) s=none:=by rw [aK (Ne.symm nsd)];exact hs
 refine ⟨s,ds1,sh1,b,y,ds.getD 0 0,ds.map fun _=>false,rfl,ag,(((av.refl H5).lay hds1).lay hs').seq (SqL.of (f5 _ _ (f4 _ _ hs3))),fun ol H6 hol kp hob6 hol6=>⟨rfl,?_⟩⟩
 have f6:=eD hs hds1 kp
 have fol:=dR hol
 clear kp hol
 k_mem
 refine fun bk dbk hbk hdbk nbk=>?_
 refine ⟨bk,dbk,s,rfl,ag,fun rl H7 hrl kp hob7 hrl7=>⟨rfl,?_⟩⟩
 have f7:=eD hbk hdbk kp
 have frl:=dR hrl
 clear kp hrl
 have f26:=(f3.trans f4).trans (f5.trans f6)
 have f27:=f26.trans f7
 have hx7:=f27 _ _ hx2
 k_mem
 refine ⟨_,_,_,hx7,T.aS,T.aP,by show 4 < 1000;decide,?_⟩
 have k8:L2.aA x H7 (upd H7 x (HO.ins Z.aY dx (br "log" (.ref bk) [("depths",.ref dl),("slow",.int slow),("fast",.int fast),("goals",.ref gl)]))):=(aA.of (av.refl H7)).put
 have hx8:upd H7 x (HO.ins Z.aY dx (br "log" (.ref bk) [("depths",.ref dl),("slow",.int slow),("fast",.int fast),("goals",.ref gl)])) x=some (HO.ins Z.aY dx [("depths",.ref dl),("slow",.int slow),("fast",.int fast),("goals",.ref gl),("log",.ref bk)]):=by rw [ag];rfl
 generalize upd H7 x (HO.ins Z.aY dx (br "log" (.ref bk) [("depths",.ref dl),("slow",.int slow),("fast",.int fast),("goals",.ref gl)]))=H8 at *
 have frx:∀z,H6 z=none->H z=none:=fun z hz=>by
  by_cases e:z=x
  ·subst e;rw [f26 _ _ hx2] at hz;cases hz
  ·exact k12.free e (f26.free hz)
 obtain ⟨_,⟨asc,oc4,_⟩,of4,_,ncf,_⟩:=id hB
 obtain ⟨_,okn5,owh5⟩:=id hY
 have hsx:s≠x:=fun z=>by rw [z] at hs;rw [f5 _ _ (f34 _ _ hx2)] at hs;cases hs
 have hbx:b≠x:=fun z=>by rw [z] at hb;rw [f3 _ _ hx2] at hb;cases hb
 have hyx:y≠x:=fun z=>by rw [z] at hy;rw [f34 _ _ hx2] at hy;cases hy
 have hbkx:bk≠x:=fun z=>by rw [z] at hbk;rw [f26 _ _ hx2] at hbk;cases hbk
 have f46:=f5.trans f6
 have hN6:∀p,N p->∃ys,H6 p=some (.lst ys):=fun p hp=>by
  obtain ⟨ys,e⟩:=hN p hp
  exact ⟨ys,f26 _ _ (k12 _ _ (fun z=>by rw [z,hx] at e;cases e) e)⟩
 have hNn:∀p,N p->∀z,H z=none->z≠p:=fun p hp z hz e=>by
  obtain ⟨ys,e'⟩:=hN p hp
  rw [←e,hz] at e';cases e'
 have fr3:∀z,z≠x->H3 z=none->H z=none:=fun z e hz=>k13.free e hz
 have nx3:∀z,H3 z=none->z≠x:=fun z hz e=>by rw [e,f3 _ _ hx2] at hz;cases hz
 have gcs:=fr3 cs (nx3 cs fcs) fcs
 have gfl:=fr3 fl (nx3 fl ffl) ffl
 have gkn:=fr3 kn (nx3 kn (f4.free fkn)) (f4.free fkn)
 have gwh:=fr3 wh (nx3 wh (f4.free fwh)) (f4.free fwh)
 have gol:=fr3 ol (nx3 ol (f4.free (f5.free fol))) (f4.free (f5.free fol))
 have cs5:=f5 _ _ oc4
 have fl5:=f5 _ _ of4
 have hst:aT (clZ Z) K H7 rl (df ds ls slow fast lds N) s ⟨ds1,ol,b,cs,fl,st,y,kn,wh⟩ (gh ds ls lds):=
  ⟨f7 _ _ hob6,f7 _ _ hol6,((hB.same f5).same f6).same f7,(hY.same f6).same f7,
   ⟨ai hol6 frl,ai (f6 _ _ cs5) frl,ai (f6 _ _ fl5) frl,ai (f6 _ _ okn5) frl,ai (f6 _ _ owh5) frl,
   ai cs5 fol,ai fl5 fol,ai okn5 fol,ai owh5 fol,
   (ai fl5 fol).symm,(ai of4 fkn).symm,(ai of4 fwh).symm,
   (ai owh5 fol).symm,ai oc4 fwh,ai of4 fwh,nkw⟩,
   ⟨fun p hp=>by obtain ⟨ys,e⟩:=hN6 p hp;exact ⟨ys,f7 _ _ e⟩,fun p hp=>hNn p hp rl (frx rl frl),fun p hp=>hNn p hp ol gol,fun p hp=>hNn p hp cs gcs,fun p hp=>hNn p hp fl gfl,fun p hp=>hNn p hp kn gkn,fun p hp=>hNn p hp wh gwh⟩⟩
 have hst8:=hst.keepI k8 hx7 hsx hbx hyx
 have nrx:rl≠x:=fun z=>by rw [z] at frl;rw [f26 _ _ hx2] at frl;cases frl
 refine q5 bk rl H8 ((k12.trans (aA.of f27)).trans k8) (frx rl frl) ⟨⟨dx,dl,gl,hx8,k8 _ _ ndx (f27 _ _ hd2),k8 _ _ ngx (f27 _ _ hg2),ai (f26 _ _ hd2) frl,ai (f26 _ _ hg2) frl,fun p hp=>hNn p hp dl hdl,fun p hp=>hNn p hp gl (k1.free ngx hgl)⟩,⟨dbk,s,k8 _ _ hbkx hob7,hst8.at⟩,[],k8 _ _ nrx hrl7,rfl,fun i a r e=>by simp at e⟩
variable (en:KN P w K mg base (CXf P w) 3 Z.aY (j1 K Z))
def tx (Z:Adr)(K:WA)(H:Hp)(w bk rl:Addr)(g:Cfg)(n0:aO)(rs:List Row)(d:Dd)(Q:VK)(E:XK):Prop:=
 (300<=rs.length->∀H',av H H'->E (.ref Z.iQ) none H')/\(rs.length < 300->∀H',aA rl H H'->WAt (clZ Z) K H' w bk rl g n0 (rs++[uw g n0 rs d])->Q (.int (cD rs+rh g (ak n0 rs) d)) H')
inductive i6 (K:WA)(Z:Adr)(vs:List V)(H:Hp)(Q:VK)(E:XK):Prop | mk (w bk rl:Addr) (g:Cfg) (n0:aO) (rs:List Row) (dd s:Addr) (tk:Int) (dv:List V) (n:aO):vs=[.ref w,.ref dd,.int tk,.ref s]->WAt (clZ Z) K H w bk rl g n0 rs->SqT K H dd dv->dM (clZ Z) K H rl g s n->g.ks.length=n.ws.length->((300<=rs.length->∀H',av H H'->E (.ref Z.iQ) none H'))->((rs.length < 300->∀H',aA rl H H'->WAt (clZ Z) K H' w bk rl g n0 (rs++[⟨cD rs,cD rs+tk,dv,fq g n,n⟩])->Q (.int (cD rs+tk)) H'))->i6 K Z vs H Q E
include T qy dD jr in
theorem vG:FF P w K mg base (CXf P w) 3 "write" "Works.write" jJ nP (i6 K Z):=fkF uU fun vs H Q E h=>by
 obtain ⟨w,bk,rl,g,n0,rs,dd,s0,tk,dv,n,rfl,hW,hD,hS,hl,q1,q2⟩:=h
 k_all
 refine seg 1 (ah (aB (cT (pv' 0) jr hr.dn aU))) fun zt1 zh1 ze1=>?_
 refine ⟨_,ae (aZ (dm' (ax (pv' 0)) qy hr.dn bC (pa4 (pv' 1) (pv' 2) (dm' (pv' 0) dD hr.dn aU (pa1 (pv' 3))) (pv' 3)))) zh1,?_⟩
 obtain ⟨⟨dx,dl,gl,hob,hdl,hgl,n1,n2⟩,hB⟩:=id hW
 obtain ⟨⟨db,f0,hbo,hF⟩,as,hrl,hR⟩:=id hB
 k_mem
 refine fgo hob T.aS T.aP rfl ?_
 k_mem
 refine mgo hbo rfl (mgo hob rfl ⟨_,_,_,_,_,_,_,_,rfl,hW,hS,hl,fun H1 s1=>?_⟩)
 k_mem
 refine ⟨bk,rl,dd,s0,g,n0,n,rs,tk,fq g n,dv,rfl,hB.same s1,s1.tup hD,hS.same s1,fun h=>q1 h H1 s1,fun h H2 k2 hB2=>?_⟩
 k_mem
 have k1:L2.aA rl H H2:=(aA.of s1).trans k2
 have hW2:WAt (clZ Z) K H2 w bk rl g n0 _:=(hW.same s1).keep k2 (s1 _ _ hrl) hB2
 obtain ⟨dx2,_,_,hob2,_⟩:=id hW2.ob
 k_upd
 refine mgo hob2 rfl ⟨_,_,_,_,_,_,rfl,hW2,?_⟩
 rw [nq]
 k_upd
 exact q2 h H2 k1 hW2
variable (bu:KM P w K mg base (CXf P w) 3 Z.aY "write" (i6 K Z))
inductive i7 (K:WA)(Z:Adr)(vs:List V)(H:Hp)(Q:VK)(E:XK):Prop | mk (w bk rl:Addr) (g:Cfg) (n0:aO) (rs:List Row):vs=[.ref w]->WAt (clZ Z) K H w bk rl g n0 rs->((∀r∈rs,∃d,r.deed=ddV d))->rs.length<=1000->(∀(p:Addr) (as:List Addr) (H':Hp),H p=none->av H H'->H' p=some (.lst (as.map V.ref))->fN K H' as (c9 rs)->Q (.ref p) H')->i7 K Z vs H Q E
include T qz in
theorem vH:FF P w K mg base CX0 3 "rides" "Works.rides" jK nQ (i7 K Z):=fk0 uV fun vs H Q E h=>by
 obtain ⟨w,bk,rl,g,n0,rs,rfl,hW,hd,hn,q⟩:=h
 k_all
 refine ⟨_,ah (aB (cT (ax (pv' 0)) qz hr.dn aU)),?_⟩
 obtain ⟨⟨dx,dl,gl,hob,hdl,hgl,n1,n2⟩,hB⟩:=id hW
 obtain ⟨⟨db,f0,hbo,hF⟩,as,hrl,hR⟩:=id hB
 k_mem
 refine fgo hob T.aS T.aP rfl ?_
 k_mem
 exact mgo hbo rfl ⟨_,_,_,_,_,rfl,hB,hd,hn,q⟩
variable (oj:KM P w K mg base CX0 3 Z.aY "rides" (i7 K Z))
inductive dW (K:WA)(Z:Adr)(vs:List V)(H:Hp)(Q:VK)(E:XK):Prop | mk (w bk rl:Addr) (g:Cfg) (n0:aO) (rs:List Row) (pl:Int):vs=[.ref w,.int pl]->WAt (clZ Z) K H w bk rl g n0 rs->0 < g.ds.length->(∀p,H p=none->Q (.ref p) (upd H p (.tup [.int pl,.int (bY g.ds - pl)])))->dW K Z vs H Q E
include T dH in
theorem mX:FF P w K mg base CX0 3 "both_places" "Works.both_places" eA gO (dW K Z):=fk0 mx fun vs H Q E h=>by
 obtain ⟨w,bk,rl,g,n0,rs,pl,rfl,hW,hn,q⟩:=h
 k_all
 refine ⟨_,ah (aB (aR (pa2 (pv' 1) (dc0 dH hr.dn (pa2 (ax (pv' 0)) (pv' 1)))))),?_⟩
 obtain ⟨⟨dx,dl,gl,hob,hdl,hgl,n1,n2⟩,hB⟩:=id hW
 obtain ⟨⟨db,f0,hbo,hF⟩,as,hrl,hR⟩:=id hB
 k_mem
 refine fgo hob T.aS T.cA rfl ?_
 k_mem
 refine ⟨_,_,_,rfl,SqL.of hdl,hn,?_⟩
 k_mem
 exact ⟨by decide,q⟩
variable (gP:KM P w K mg base CX0 3 Z.aY "both_places" (dW K Z))
theorem CW {x y z i:Int}(h0:0<=i)(h2:i<=2):atI [V.int x,V.int y,V.int z] i=some (.int (if i=0 then x else if i=1 then y else z)):=by
 rcases (by omega:i=0\/i=1\/i=2) with rfl | rfl | rfl<;>rfl
inductive o7 (K:WA)(Z:Adr)(vs:List V)(H:Hp)(Q:VK)(E:XK):Prop | mk (a:Addr) (ns:List Int):vs=[.ref a]->SqL K H a (ns.map V.int)->(∀(p dl cl:Addr) (ds:List Int) (as:List Addr) (ls:List Cd) (slow fast:Int) (H':Hp),av H H'->H p=none->H dl=none->H cl=none->dl≠cl->H' p=some (.lst [.ref dl,.ref cl,.int slow,.int fast])->H' dl=some (.lst (ds.map V.int))->bX ds->H' cl=some (.lst (as.map V.ref))->bF cdV K H' as ls->ls.length=ds.length->(∀x∈ls,ez x)->(1<=slow/\slow<=fast/\fast<=500)->Q (.ref p) H')->o7 K Z vs H Q E
include T iV bU vC hV in
theorem Bl:FF P w K mg base CX0 3 "_law_shaft" "_law_shaft" kq xr (o7 K Z):=fk0 eU fun vs H Q E h=>by
 obtain ⟨a,ns,rfl,hS,q⟩:=h
 k_all
 obtain ⟨t1,h1,k1⟩:∃t,PSs (oq CX0 P w K mg base ["_law_script","_law_depths_here","_law_codes_here","_law_cell","_law_slow","_law_fast"] "_law_shaft" (aj kq) zf zv zA zo zs H E).nox ((bE kq).drop 4) t/\∀(dl cl:Addr) (ds:List Int) (as:List Addr) (ls:List Cd) (c slow:Int) (H1:Hp),av H H1->H dl=none->H cl=none->dl≠cl->H1 dl=some (.lst (ds.map V.int))->bX ds->H1 cl=some (.lst (as.map V.ref))->bF cdV K H1 as ls->ls.length=ds.length->(∀x∈ls,ez x)->1<=slow->slow<=500->t ({nx:=fun _ H2=>Q .non H2,rt:=Q}:gQ) [some (.ref a),some (.ref dl),some (.ref cl),some (.int c),some (.int slow),none] H1:=by
  refine ⟨_,ae (aM (bH (dc0 bU hr.dn (pa3 (pv' 3) af af)) af) (ah (aF (i:=4) eU.nd rfl orL af)) (aC)) (ae (aF (i:=5) eU.nd rfl orL (ao au (bw (pa3 (pv' 4) af (aQ bf (pv' 4) (dc0 bU hr.dn (pa3 (pv' 3) af (aQ di af (pv' 4))))))) (aG (ox rfl) (by rfl) T.E6 An (pa2 af (dc0 bU hr.dn (pa3 (pv' 3) af af)))))) (ah (aB (bw (pa4 (pv' 1) (pv' 2) (pv' 4) (pv' 5)))))),?_⟩
  intro dl cl ds as ls c slow H1 s1 fd fc ndc hdl hsh hcl hT hlen hg h1 h5
  k_mem
  refine ⟨c,4,16,rfl,by omega,by omega,by omega,fun r4 h40 h41=>?_⟩
  k_mem
  split
  all_goals
   refine ⟨c,2,_,rfl,by omega,by omega,by omega,fun r2 h20 h21=>⟨by decide,fun p1 hp1=>⟨c,3,8,rfl,by omega,by omega,by omega,fun r3 h30 h31=>?_⟩⟩⟩
   k_mem
   refine ⟨_,SqL.of ag,_,CW (by split<;>omega) (by split<;>omega),by decide,fun p2 hp2=>?_⟩
   refine q p2 dl cl ds as ls _ _ _ (s1.trans (((av.refl H1).lay hp1).lay hp2)) (s1.free (upn hp2)) fd fc ndc ag (upo (upo hdl hp1) hp2) hsh (upo (upo hcl hp1) hp2) (hT.same (((av.refl H1).lay hp1).lay hp2)) hlen hg ⟨by omega,?_,?_⟩
   ·(repeat' split)<;>omega
   ·(repeat' split)<;>omega
 refine ⟨_,ae (aF (i:=1) eU.nd rfl orL (dc0 vC hr.dn (pa1 (dc0 iV hr.dn (pa2 (pv' 0) af))))) (ae (aF (i:=2) eU.nd rfl orL (dc0 hV hr.dn (pa2 (dc0 iV hr.dn (pa2 (pv' 0) af)) (aG az (by rfl) T.bR bb (pa1 (pv' 1)))))) (ae (aF (i:=3) eU.nd rfl orL (dc0 iV hr.dn (pa2 (pv' 0) af))) (ae (aF (i:=4) eU.nd rfl orL (aQ bf af (dc0 bU hr.dn (pa3 (pv' 3) af (ao au (bw (pa2 af af)) (dc0 bU hr.dn (pa3 (pv' 3) af af))))))) h1))),?_⟩
 k_mem
 refine ⟨a,ns,1,rfl,hS,by omega,?_⟩
 k_mem
 refine ⟨_,rfl,fun dl ds H1 hdn s1 hdl hsh=>?_⟩
 have l2:=hsh.l2
 have l6:=hsh.l6
 k_mem
 refine ⟨a,ns,2,rfl,s1.seq hS,by omega,?_⟩
 k_mem
 refine ⟨_,.inl (SqL.of hdl),?_⟩
 rw [WB]
 refine ⟨_,_,rfl,by omega,by omega,fun cl as ls H2 hcn s2 hcl hT hlen hg=>?_⟩
 have ndc:dl≠cl:=ai hdl hcn
 k_mem
 refine ⟨a,ns,3,rfl,(s1.trans s2).seq hS,by omega,?_⟩
 k_mem
 refine ⟨by decide,fun p hp=>⟨_,0,2,rfl,by omega,by omega,by omega,fun r0 h00 h01=>?_⟩⟩
 have e0:∃m:Int,(m=30\/m=500)/\atI [V.int 30,V.int 500] r0=some (.int m):=FL (x:=30) (y:=500) (by omega)
 obtain ⟨m,hm,em⟩:=e0
 k_mem
 refine ⟨_,SqL.of ag,_,em,_,1,m,rfl,by omega,by omega,by omega,fun r1 h10 h11=>?_⟩
 k_mem
 have sx:=(av.refl H2).lay (o:=HO.lst [V.int 30,V.int 500]) hp
 exact k1 dl cl ds as ls _ _ _ ((s1.trans s2).trans sx) hdn (s1.free hcn) ndc (sx _ _ (s2 _ _ hdl)) hsh (sx _ _ hcl) (hT.same sx) (by omega) hg (by omega) (by omega)
variable (xG:KD P w K mg base CX0 3 "_law_shaft" (o7 K Z))
inductive i8 (K:WA)(Z:Adr)(vs:List V)(H:Hp)(Q:VK)(E:XK):Prop | mk (p dl cl ll sl:Addr) (g:Cfg) (lds:List Ld) (n0:aO) (rs:List Row) (c:Int):vs=[.ref p,.ref sl,.int c]->cY K H p dl cl ll g lds->gN g->dB g (ak n0 rs)->((∃as:List Addr,H sl=some (.lst (as.map V.ref))/\cJ (gS K H) as (iu n0 rs)))->((∀dd d H',av H H'->SqT K H' dd (ddV d)->xU d->eI g (ak n0 rs) d=none->Q (.ref dd) H'))->((rs≠[]->∀dd H',av H H'->SqT K H' dd [.str "take back"]->Q (.ref dd) H'))->i8 K Z vs H Q E
include T ky kz in
theorem vI:FF P w K mg base CX0 3 "_law_good_deed" "_law_good_deed" bQ nU (i8 K Z):=fk0 fC fun vs H Q E h=>by
 obtain ⟨p,dl,cl,ll,sl,g,lds,n0,rs,c,rfl,hP,hg,hn,⟨as,hsl,hA⟩,q,qb⟩:=h
 k_all
 obtain ⟨t4,h4,k4⟩:∃t,PSs (oq CX0 P w K mg base ["_law_setup_here","_law_states","_law_cell","_law_state","_law_rest","_law_level"] "_law_good_deed" (aj bQ) zf zv zA zo zs H E).nox ((bE bQ).drop 8) t/\∀(a:Addr) (lv:Int),gS K H a (ak n0 rs,cD rs)->0<=lv->lv < g.ds.length->t ({nx:=fun _ H2=>Q .non H2,rt:=Q}:gQ) [some (.ref p),some (.ref sl),some (.int c),some (.ref a),some (.int (c / 12)),some (.int lv)] H:=by
  refine ⟨_,ah (aB (ao au (bw (pa2 (aR (pa2 aE (pv' 5))) (aR (pa2 aE (pv' 5))))) (bc fO (by rfl) T.sW lW (pa1 (ao aw (ao aw (pv' 3) af) (pv' 5)))))),?_⟩
  intro a lv hSt v0 v1
  obtain ⟨gt,lt,ht,dt,h1,h2,h3,h4,h5⟩:=hSt.un
  have gl:=hn.gl
  k_mem
  refine ⟨by decide,fun p2 hp2=>⟨by decide,fun p3 hp3=>⟨by decide,fun p4 hp4=>?_⟩⟩⟩
  have f4:=(((av.refl H).lay (o:=HO.tup [V.str (Str.ofString "open"),V.int lv]) hp2).lay (o:=HO.tup [V.str (Str.ofString "shut"),V.int lv]) hp3).lay (o:=HO.lst [V.ref p2,V.ref p3]) hp4
  have e2:upd (upd (upd H p2 (HO.tup [V.str (Str.ofString "open"),V.int lv])) p3 (HO.tup [V.str (Str.ofString "shut"),V.int lv])) p4 (HO.lst [V.ref p2,V.ref p3]) p2=some (HO.tup [V.str (Str.ofString "open"),V.int lv]):=upo (upo ag hp3) hp4
  have e3:upd (upd (upd H p2 (HO.tup [V.str (Str.ofString "open"),V.int lv])) p3 (HO.tup [V.str (Str.ofString "shut"),V.int lv])) p4 (HO.lst [V.ref p2,V.ref p3]) p3=some (HO.tup [V.str (Str.ofString "shut"),V.int lv]):=upo ag hp4
  have e4:upd (upd (upd H p2 (HO.tup [V.str (Str.ofString "open"),V.int lv])) p3 (HO.tup [V.str (Str.ofString "shut"),V.int lv])) p4 (HO.lst [V.ref p2,V.ref p3]) p4=some (HO.lst [V.ref p2,V.ref p3]):=ag
  generalize upd (upd (upd H p2 (HO.tup [V.str (Str.ofString "open"),V.int lv])) p3 (HO.tup [V.str (Str.ofString "shut"),V.int lv])) p4 (HO.lst [V.ref p2,V.ref p3])=H3 at *
  k_upd
  refine ⟨_,f4.tup h1,_,rfl,?_⟩
  k_mem
  refine ⟨_,f4.tup h2,_,kI v0 (by omega),?_⟩
  k_mem
  refine ⟨_,SqL.of e4,_,B0,?_⟩
  by_cases hb:(ak n0 rs).gates.getD lv.toNat false=true
  ·rw [if_pos hb]
   k_upd
   exact q p3 (.sht lv) _ f4 (SqT.of e3) trivial (kK v0 v1 hb)
  ·rw [if_neg hb]
   k_upd
   exact q p2 (.opn lv) _ f4 (SqT.of e2) trivial (ow v0 v1 (by simpa using hb))
 obtain ⟨t3,h3,k3⟩:∃t,PSs (oq CX0 P w K mg base ["_law_setup_here","_law_states","_law_cell","_law_state","_law_rest","_law_level"] "_law_good_deed" (aj bQ) zf zv zA zo zs H E).nox ((bE bQ).drop 7) t/\∀(a:Addr) (lv:Int),gS K H a (ak n0 rs,cD rs)->0<=lv->lv < g.ds.length->t ({nx:=fun _ H2=>Q .non H2,rt:=Q}:gQ) [some (.ref p),some (.ref sl),some (.int c),some (.ref a),some (.int (c / 12)),some (.int lv)] H:=by
  refine ⟨_,ae (aM (ie (bH (cb (pv' 2) af) af) (ie (bH (cb (pv' 4) af) af) (fW (zp (aG az (by rfl) T.bR bb (pa1 (pv' 1))) af)))).pt (ah (aB (aR (pa1 aE)))) (aC)) h4,?_⟩
  intro a lv hSt v0 v1
  obtain ⟨gt,lt,ht,dt,h1,h2,h3,h4,h5⟩:=hSt.un
  have hlen:=hA.1
  rw [xk] at hlen
  k_mem
  split
  ·split
   ·k_upd
    refine ⟨_,.inl (SqL.of hsl),?_⟩
    rw [WB]
    k_mem
    split
    ·rename_i hgt
     k_upd
     refine ⟨by decide,fun dd hdd=>?_⟩
     k_upd
     exact qb (fun z=>by rw [z] at hlen;simp only [List.length_nil] at hlen;omega) dd _ ((av.refl H).lay hdd) (SqT.of ag)
    ·exact k4 a lv hSt v0 v1
   ·exact k4 a lv hSt v0 v1
  ·exact k4 a lv hSt v0 v1
 obtain ⟨t2,h2,k2⟩:∃t,PSs (oq CX0 P w K mg base ["_law_setup_here","_law_states","_law_cell","_law_state","_law_rest","_law_level"] "_law_good_deed" (aj bQ) zf zv zA zo zs H E).nox ((bE bQ).drop 6) t/\∀(a:Addr) (lv:Int),gS K H a (ak n0 rs,cD rs)->0<=lv->lv < g.ds.length->t ({nx:=fun _ H2=>Q .non H2,rt:=Q}:gQ) [some (.ref p),some (.ref sl),some (.int c),some (.ref a),some (.int (c / 12)),some (.int lv)] H:=by
  refine ⟨_,ae (aM (ie (bH (cb (pv' 2) af) af) (fW (bH (ao aw (ao aw (pv' 3) af) af) aE))).pt (ah (aB (aR (pa2 aE (aQ bf af (cb (pv' 4) af)))))) (aC)) h3,?_⟩
  intro a lv hSt v0 v1
  obtain ⟨gt,lt,ht,dt,h1,h2,h3,h4,h5⟩:=hSt.un
  k_mem
  split
  ·k_upd
   refine ⟨_,h1,_,rfl,?_⟩
   k_mem
   rcases KJ (ak n0 rs).e with ⟨l,rr,he⟩ | ⟨l,rr,he⟩ | ⟨w1,w2,w3,w4,he,na,nb⟩
   ·rw [he] at h4
    k_upd
    refine ⟨_,h4,_,rfl,?_⟩
    k_mem
    rw [if_pos rfl]
    k_upd
    refine ⟨by decide,fun dd hdd=>?_⟩
    k_upd
    exact q dd (.rept _) _ ((av.refl H).lay hdd) (SqT.of ag) trivial (so he (by omega) (by omega))
   ·rw [he] at h4
    k_upd
    refine ⟨_,h4,_,rfl,?_⟩
    k_mem
    rw [if_neg (by decide)]
    exact k3 a lv hSt v0 v1
   ·rw [he] at h4
    k_upd
    refine ⟨_,h4,_,rfl,?_⟩
    k_mem
    rw [if_neg na]
    exact k3 a lv hSt v0 v1
  ·exact k3 a lv hSt v0 v1
 obtain ⟨t1,h1,k1⟩:∃t,PSs (oq CX0 P w K mg base ["_law_setup_here","_law_states","_law_cell","_law_state","_law_rest","_law_level"] "_law_good_deed" (aj bQ) zf zv zA zo zs H E).nox ((bE bQ).drop 5) t/\∀(a:Addr) (lv:Int),gS K H a (ak n0 rs,cD rs)->0<=lv->lv < g.ds.length->t ({nx:=fun _ H2=>Q .non H2,rt:=Q}:gQ) [some (.ref p),some (.ref sl),some (.int c),some (.ref a),some (.int (c / 12)),some (.int lv)] H:=by
  refine ⟨_,ae (aM (ie (bH (cb (pv' 2) af) af) (fW (dF jy (pv' 5) (ao aw (pv' 3) af) (by rfl)))).pt (ah (aB (ao au (bw (pa2 (aR (pa3 aE (pv' 5) (ao aw (ao au (ao au (pv' 0) af) (pv' 5)) (cb (gT (pv' 4) af) af)))) (aR (pa2 aE (pv' 5))))) (bc fO (by rfl) T.sW lW (pa1 (dJ jx (cb (pv' 4) af) af (cu _))))))) (aC)) h2,?_⟩
  intro a lv hSt v0 v1
  obtain ⟨gt,lt,ht,dt,h1,h2,h3,h4,h5⟩:=hSt.un
  obtain ⟨hp,hdl,⟨bs,hcl,hT⟩,_,_⟩:=id hP
  have gl:=hn.gl
  have fl:=hn.fl
  have ed:inV (V.int lv) ((cN (ak n0 rs).fs).map V.int)=(ak n0 rs).fs.getD lv.toNat false:=by
   rw [ni,Bool.eq_iff_iff,decide_eq_true_eq,kg]
   k_upd
   exact ⟨fun z=>z.2.2,fun z=>⟨v0,by omega,z⟩⟩
  k_mem
  split
  ·k_upd
   refine ⟨_,h1,_,rfl,?_⟩
   k_mem
   refine ⟨_,.inr h5,rfl,by simp [bg],?_⟩
   rw [ed]
   k_mem
   split
   ·rename_i hf
    obtain ⟨ra,era,hra⟩:=pE hT v0 (by rw [hg.lc];exact v1)
    k_upd
    refine ⟨_,SqL.of hp,_,rfl,?_⟩
    k_mem
    refine ⟨_,SqL.of hcl,_,era,?_⟩
    k_mem
    refine ⟨_,hra,_,two_deep (by omega) (by omega),?_⟩
    generalize hcd:(if c / 12 / 6 % 2=0 then (fm g.ls lv).fst else (fm g.ls lv).snd)=cd
    have hcd':cd=(fm g.ls lv).1\/cd=(fm g.ls lv).2:=by
     rw [←hcd]
     k_upd
     split
     ·exact .inl rfl
     ·exact .inr rfl
    k_upd
    refine ⟨by decide,fun p2 hp2=>⟨by decide,fun p3 hp3=>⟨by decide,fun p4 hp4=>?_⟩⟩⟩
    have f4:=(((av.refl H).lay (o:=HO.tup [V.str (Str.ofString "ring"),V.int lv,V.int cd]) hp2).lay (o:=HO.tup [V.str (Str.ofString "fail"),V.int lv]) hp3).lay (o:=HO.lst [V.ref p2,V.ref p3]) hp4
    k_upd
    refine ⟨_,SqL.of ag,_,B0,?_⟩
    by_cases hb:c / 12 % 5=4
    ·rw [if_pos (decide_eq_true hb)]
     k_upd
     exact q p3 (.fail lv) _ f4 (SqT.of (upo ag hp4)) trivial (zh v0 v1 hf)
    ·rw [if_neg (by simpa using hb)]
     k_upd
     exact q p2 (.ring lv cd) _ f4 (SqT.of (upo (upo ag hp3) hp4)) trivial (sk v0 v1 hf hcd')
   ·exact k2 a lv hSt v0 v1
  ·exact k2 a lv hSt v0 v1
 refine seg 4 (ae (aM (pO (cb (pv' 2) af) af) (ah (aB (dc0 kz hr.dn (pa3 (pv' 0) (pv' 3) (pv' 4))))) (aC)) h1) fun zt4 zh4 ze4=>?_
 refine seg 3 (ae (aM (pO (cb (pv' 2) af) af) (ah (aB (dc0 ky hr.dn (pa3 (pv' 0) (pv' 3) (pv' 4))))) (aC)) zh4) fun zt3 zh3 ze3=>?_
 refine seg 2 (ae (aF (i:=5) fC.nd rfl orL (aQ pN (pv' 4) (aG az (by rfl) T.bR bb (pa1 (ao au (pv' 0) af))))) zh3) fun zt2 zh2 ze2=>?_
 refine seg 1 (ae (aF (i:=4) fC.nd rfl orL (gT (pv' 2) af)) zh2) fun zt1 zh1 ze1=>?_
 refine ⟨_,ae (aF (i:=3) fC.nd rfl orL (ao au (pv' 1) (j8 dY af))) zh1,?_⟩
 obtain ⟨as1,a,rfl,hSt⟩:=Ay hA
 obtain ⟨hp,hdl,_,_,_⟩:=id hP
 have l2:=hg.sh.l2
 k_mem
 refine ⟨_,SqL.of hsl,_,ny,?_⟩
 k_mem
 refine ⟨_,SqL.of hp,_,rfl,?_⟩
 k_mem
 refine ⟨_,.inl (SqL.of hdl),by rw [WB];omega,?_⟩
 rw [WB]
 have v0:0<=c / 12 % (g.ds.length:Int):=Int.emod_nonneg _ (by omega)
 have v1:c / 12 % (g.ds.length:Int) < (g.ds.length:Int):=Int.emod_lt_of_pos _ (by omega)
 generalize c / 12 % (g.ds.length:Int)=lv at *
 k_mem
 split
 ·k_upd
  refine ⟨p,dl,cl,ll,a,g,lds,_,_,_,rfl,hP,hg,hn,hSt,fun dd d H1 s1 hd ok hr=>?_⟩
  k_upd
  exact q dd d H1 s1 hd ok hr
 k_upd
 split
 ·k_upd
  refine ⟨p,dl,cl,ll,a,g,lds,_,_,_,rfl,hP,hg,hn,hSt,fun dd d H1 s1 hd ok hr=>?_⟩
  k_upd
  exact q dd d H1 s1 hd ok hr
 exact k1 a lv hSt v0 v1
variable (fY:KD P w K mg base CX0 3 "_law_good_deed" (i8 K Z))
inductive fV (K:WA)(Z:Adr)(vs:List V)(H:Hp)(Q:VK)(E:XK):Prop | mk (s rl:Addr) (g:Cfg) (n:aO) (ys:List V):vs=[.ref s]->dM (clZ Z) K H rl g s n->H rl=some (.lst ys)->g.ls.length<=1000->(∀(s':Addr) (A:SA) (H':Hp),av H H'->H s'=none->H A.ol=none->H A.b=none->H A.fl=none->H A.y=none->H A.wh=none->aT (clZ Z) K H' rl g s' A n->Q (.ref s') H')->fV K Z vs H Q E
include T eQ tj qH in
theorem r8:FF P w K mg base CX0 4 "twin" "Standing.twin" gx lM (fV K Z):=fk0 rD fun vs H Q E h=>by
 obtain ⟨s0,rl,g,n,ys,rfl,⟨A0,hA⟩,hrl,hls,q⟩:=h
 k_all
 refine ⟨_,ah (aB (dn eQ hr.dn T.vk aU (pa4 (ax (pv' 0)) (ax (pv' 0)) (cT (ax (pv' 0)) qH hr.dn aU) (cT (ax (pv' 0)) tj hr.dn aU)))),?_⟩
 k_mem
 refine fgo hA.ob T.aJ T.cy rfl (fgo hA.ob T.aJ T.bW rfl (fgo hA.ob T.aJ T.bN rfl ?_))
 k_mem
 obtain ⟨db,hbb⟩:=hA.be.ob
 obtain ⟨dy,hyb⟩:=hA.ya.ob
 k_upd
 refine mgo hbb rfl ⟨_,_,_,_,_,_,_,rfl,hA.be,hls,fun b1 cs1 fl1 H1 hb1 hc1 hf1 s1 hB1=>?_⟩
 k_upd
 refine fgo (s1 _ _ hA.ob) T.aJ T.bq rfl ?_
 k_mem
 refine mgo (s1 _ _ hyb) rfl ⟨_,_,_,_,_,_,rfl,hA.ya.same s1,fun y2 kn2 wh2 H2 hy2 hk2 hw2 nkw s2 hY2=>?_⟩
 refine fun x dx hx hdx nxd=>?_
 have s12:=s1.trans s2
 have hx':upd H2 dx (.own x) x=none:=by rw [aK (Ne.symm nxd)];exact hx
 k_upd
 refine ⟨x,dx,A0.ol,b1,y2,n.place,n.gates,rfl,ag,(((av.refl H2).lay hdx).lay hx').seq (SqL.of (s12 _ _ hA.go)),fun ol H3 hol kp hob3 hol3=>⟨rfl,?_⟩⟩
 have s3:=eD hx hdx kp
 have holn:=dR hol
 obtain ⟨_,⟨as1,oc1,_⟩,of1,_⟩:=id hB1
 obtain ⟨_,okn2,owh2⟩:=id hY2
 have cs2:=s2 _ _ oc1
 have fl2:=s2 _ _ of1
 refine q x ⟨dx,ol,b1,cs1,fl1,A0.st,y2,kn2,wh2⟩ H3 (s12.trans s3) (s12.free hx) (s12.free holn) hb1 hf1 (s1.free hy2) (s1.free hw2) ⟨hob3,hol3,(hB1.same s2).same s3,hY2.same s3,⟨?_,?_,?_,?_,?_,?_,?_,?_,?_,?_,?_,?_,?_,?_,?_,?_⟩,⟨(hA.nn.same (s12.trans s3)).al,hA.nn.nr,?_,?_,?_,?_,?_⟩⟩
 ·exact (ai hrl (s12.free holn)).symm
 ·exact (ai hrl hc1).symm
 ·exact (ai hrl hf1).symm
 ·exact (ai hrl (s1.free hk2)).symm
 ·exact (ai hrl (s1.free hw2)).symm
 ·exact ai cs2 holn
 ·exact ai fl2 holn
 ·exact ai okn2 holn
 ·exact ai owh2 holn
 ·exact (ai fl2 holn).symm
 ·exact (ai of1 hk2).symm
 ·exact (ai of1 hw2).symm
 ·exact (ai owh2 holn).symm
 ·exact ai oc1 hw2
 ·exact ai of1 hw2
 ·exact nkw
 all_goals
  intro q hq
  obtain ⟨us,hu⟩:=hA.nn.al q hq
 ·exact (ai hu (s12.free holn)).symm
 ·exact (ai hu hc1).symm
 ·exact (ai hu hf1).symm
 ·exact (ai hu (s1.free hk2)).symm
 ·exact (ai hu (s1.free hw2)).symm
variable (aV:KM P w K mg base CX0 4 Z.dG "twin" (fV K Z))
inductive i9 (K:WA)(Z:Adr)(vs:List V)(H:Hp)(Q:VK)(E:XK):Prop | mk (w bk rl:Addr) (g:Cfg) (n0:aO) (rs:List Row):vs=[.ref w]->WAt (clZ Z) K H w bk rl g n0 rs->0 < g.ds.length->(∀p,H p=none->Q (.ref p) (upd H p (.tup [.int (ak n0 rs).place,.int (bY g.ds - (ak n0 rs).place)])))->i9 K Z vs H Q E
include T aI gP in
theorem vJ:FF P w K mg base CX0 4 "cages" "Works.cages" jM nS (i9 K Z):=fk0 uX fun vs H Q E h=>by
 obtain ⟨w,bk,rl,g,n0,rs,rfl,hW,hn,q⟩:=h
 k_all
 refine ⟨_,ah (aB (dm' (pv' 0) gP hr.dn aU (pa1 (ax (cT (ax (pv' 0)) aI hr.dn aU))))),?_⟩
 obtain ⟨⟨dx,dl,gl,hob,hdl,hgl,n1,n2⟩,hB⟩:=id hW
 obtain ⟨⟨db,f0,hbo,hF⟩,as,hrl,hR⟩:=id hB
 k_mem
 refine mgo hob rfl (fgo hob T.aS T.aP rfl ?_)
 k_mem
 refine mgo hbo rfl ⟨_,_,_,_,_,rfl,hB,fun s0 ⟨A,hA⟩=>?_⟩
 k_mem
 refine fgo hA.ob T.aJ T.cy rfl ?_
 k_upd
 exact ⟨_,_,_,_,_,_,_,rfl,hW,hn,q⟩
variable (fZ:KM P w K mg base CX0 4 Z.aY "cages" (i9 K Z))
inductive fG (K:WA)(Z:Adr)(vs:List V)(H:Hp)(Q:VK)(E:XK):Prop | mk (w bk rl:Addr) (g:Cfg) (n0:aO) (rs:List Row) (lv:Int):vs=[.ref w,.int lv]->WAt (clZ Z) K H w bk rl g n0 rs->(ak n0 rs).ws.length<=1000->((0<=lv/\lv < g.ds.length->∀p H',H p=none->av H H'->H' p=some (.lst ((iq (ak n0 rs).ws lv).map V.int))->Q (.ref p) H'))->((¬(0<=lv/\lv < g.ds.length)->E (.ref Z.ba) none H))->fG K Z vs H Q E
include T aI lP in
theorem qI:FF P w K mg base (CXf P w) 4 "at_level" "Works.at_level" fQ kj (fG K Z):=fkF qo fun vs H Q E h=>by
 obtain ⟨w,bk,rl,g,n0,rs,lv,rfl,hW,hn,q1,q2⟩:=h
 k_all
 refine ⟨_,ah (aB (dm' (ax (cT (ax (pv' 0)) aI hr.dn aU)) lP hr.dn bC (pa1 (pv' 1)))),?_⟩
 obtain ⟨⟨dx,dl,gl,hob,hdl,hgl,n1,n2⟩,hB⟩:=id hW
 obtain ⟨⟨db,f0,hbo,hF⟩,as,hrl,hR⟩:=id hB
 k_mem
 refine fgo hob T.aS T.aP rfl ?_
 k_mem
 refine mgo hbo rfl ⟨_,_,_,_,_,rfl,hB,fun s0 ⟨A,hA⟩=>?_⟩
 k_mem
 refine fgo hA.ob T.aJ T.bq rfl ?_
 k_mem
 obtain ⟨dy,hyb⟩:=hA.ya.ob
 k_upd
 exact ⟨_,_,hyb,rfl,_,_,_,_,_,_,_,rfl,hA.ya,hn,q1,q2⟩
variable (kA:KM P w K mg base (CXf P w) 4 Z.aY "at_level" (fG K Z))
inductive o8 (K:WA)(Z:Adr)(vs:List V)(H:Hp)(Q:VK)(E:XK):Prop | mk (a:Addr) (ns:List Int) (mo:Int):vs=[.ref a,.int mo]->SqL K H a (ns.map V.int)->0<=mo->mo<=30->(∀(p dl cl ll:Addr) (ds:List Int) (ls:List Cd) (slow fast:Int) (lds:List Ld) (H':Hp),av H H'->H p=none->H dl=none->H cl=none->H ll=none->cY K H' p dl cl ll (df ds ls slow fast lds fun _=>False) lds->bX ds->ls.length=ds.length->(∀x∈ls,ez x)->(1<=slow/\slow<=fast/\fast<=500)->(lds.length:Int)<=mo->(∀x∈lds,jv (ds.length:Nat) x/\Ar x)->Q (.ref p) H')->o8 K Z vs H Q E
include T iV xF xG in
theorem Bm:FF P w K mg base CX0 4 "_law_setup" "_law_setup" rK xt (o8 K Z):=fk0 iL fun vs H Q E h=>by
 obtain ⟨a,ns,mo,rfl,hS,h0,h1,q⟩:=h
 k_all
 refine seg 1 (ah (aB (bw (cQ (pv' 2) (pa4 (pv' 3) (pv' 4) (pv' 5) (dc0 xF hr.dn (pa3 (dc0 iV hr.dn (pa2 (pv' 0) af)) (aG az (by rfl) T.bR bb (pa1 (pv' 2))) (pv' 1)))))))) fun zt1 zh1 ze1=>?_
 refine ⟨_,ae (kB (dc0 xG hr.dn (pa1 (pv' 0))) (GP rfl (aH (aD (i:=2) iL.nd rfl orL) (aH (aD (i:=3) iL.nd rfl orL) (aH (aD (i:=4) iL.nd rfl orL) (aH (aD (i:=5) iL.nd rfl orL) cZ)))))) zh1,?_⟩
 k_mem
 refine ⟨a,ns,rfl,hS,fun p dl cl ds as ls slow fast H1 s1 hpn hdn hcn ndc hp hdl hsh hcl hT hlen hg hsp=>?_⟩
 have l2:=hsh.l2
 have l6:=hsh.l6
 k_mem
 refine ⟨_,SqL.of hp,rfl,?_⟩
 k_mem
 refine ⟨a,ns,4,rfl,s1.seq hS,by omega,?_⟩
 k_mem
 refine ⟨_,.inl (SqL.of hdl),?_⟩
 rw [WB]
 k_upd
 refine ⟨_,_,_,rfl,by omega,h0,by omega,fun ll bs lds H2 hln s2 hll hT2 hlen2 hk=>?_⟩
 k_mem
 refine ⟨by decide,fun p5 hp5=>?_⟩
 have s3:=s2.lay (o:=HO.lst [V.ref dl,V.ref cl,V.int slow,V.int fast,V.ref ll]) hp5
 have s23:=(av.refl H2).lay (o:=HO.lst [V.ref dl,V.ref cl,V.int slow,V.int fast,V.ref ll]) hp5
 k_upd
 exact q p5 dl cl ll ds ls slow fast lds _ (s1.trans s3) (s1.free (s2.free hp5)) hdn hcn (s1.free hln) ⟨ag,s3 _ _ hdl,⟨as,s3 _ _ hcl,hT.same s3⟩,⟨bs,s23 _ _ hll,hT2.same s23⟩,rfl⟩ hsh hlen hg hsp hlen2 hk
variable (nC:KD P w K mg base CX0 4 "_law_setup" (o8 K Z))
inductive j4 (K:WA)(Z:Adr)(vs:List V)(H:Hp)(Q:VK)(E:XK):Prop | mk (w bk rl:Addr) (g:Cfg) (n0:aO) (rs:List Row) (lv s:Int):vs=[.ref w,.int lv,.int s]->WAt (clZ Z) K H w bk rl g n0 rs->g.ls.length<=1000->g.ks.length=(ak n0 rs).ws.length->((¬(0<=lv/\lv < g.ls.length)->∀H',av H H'->E (.ref Z.ba) none H'))->((0<=lv->lv < g.ls.length->(ak n0 rs).fs.getD lv.toNat false=true->∀H',av H H'->E (.ref Z.kr) none H'))->((0<=lv->lv < g.ls.length->(ak n0 rs).fs.getD lv.toNat false=false->¬(s=(fm g.ls lv).1\/s=(fm g.ls lv).2)->∀H',av H H'->E (.ref Z.mE) none H'))->((0<=lv->lv < g.ls.length->(ak n0 rs).fs.getD lv.toNat false=false->(s=(fm g.ls lv).1\/s=(fm g.ls lv).2)->tx Z K H w bk rl g n0 rs (.ring lv s) Q E))->j4 K Z vs H Q E
include T aI qF bu aV in
theorem wN:FF P w K mg base (CXf P w) 5 "ring" "Works.ring" lg qc (j4 K Z):=fkF nX fun vs H Q E h=>by
 obtain ⟨w,bk,rl,g,n0,rs,lv,s,rfl,hW,hls,hks,q1,q2,q3,q4⟩:=h
 k_all
 refine seg 2 (ah (aB (dm' (pv' 0) bu hr.dn bC (pa3 (aR (pa3 aE (pv' 1) (pv' 2))) af (pv' 3))))) fun zt2 zh2 ze2=>?_
 refine seg 1 (ae (aZ (dm' (ax (pv' 3)) qF hr.dn bC (pa2 (pv' 1) (pv' 2)))) zh2) fun zt1 zh1 ze1=>?_
 refine ⟨_,ae (aF (i:=3) nX.nd rfl orL (cT (cT (ax (pv' 0)) aI hr.dn aU) aV hr.dn aU)) zh1,?_⟩
 obtain ⟨⟨dx,dl,gl,hob,hdl,hgl,n1,n2⟩,hB⟩:=id hW
 obtain ⟨⟨db,f0,hbo,hF⟩,as,hrl,hR⟩:=id hB
 k_mem
 refine fgo hob T.aS T.aP rfl ?_
 k_mem
 refine mgo hbo rfl ⟨_,_,_,_,_,rfl,hB,fun s0 ⟨A0,hA0⟩=>?_⟩
 k_mem
 refine mgo hA0.ob rfl ⟨_,_,_,_,_,rfl,hA0.at,hrl,hls,fun s1 A H1 e1 hs1 ho1 hb1 hf1 hy1 hw1 hA=>?_⟩
 have hW1:=hW.same e1
 have hob1:=e1 _ _ hob
 have hbo1:=e1 _ _ hbo
 have hrl1:=e1 _ _ hrl
 have hdl1:=e1 _ _ hdl
 k_mem
 refine fgo hA.ob T.aJ T.bN rfl ?_
 k_mem
 obtain ⟨db1,hbb⟩:=hA.be.ob
 k_upd
 refine mgo hbb rfl ⟨_,_,_,_,_,_,_,_,_,rfl,hA.be,fun h=>q1 h _ e1,fun h h' h2=>q2 h h' h2 _ e1,fun h h' h2 h4=>q3 h h' h2 h4 _ e1,fun h h' h2 h4 st2 H2 k2 hB2=>?_⟩
 have h3:=q4 h h' h2 h4
 have e2:=e1.keeps k2 hb1
 have hA2:=hA.bells k2 hB2
 clear k2 hB2
 k_mem
 refine ⟨_,_,e2 _ _ hob,rfl,by decide,fun p hp=>?_⟩
 have e3:=e2.lay (o:=HO.tup [V.str (Str.ofString "ring"),V.int lv,V.int s]) hp
 have f3:=(av.refl H2).lay (o:=HO.tup [V.str (Str.ofString "ring"),V.int lv,V.int s]) hp
 k_upd
 refine ⟨_,_,_,_,_,_,p,s1,1,ddV (.ring lv s),cI g (ak n0 rs) (.ring lv s),rfl,hW.same e3,SqT.of (by rw [ag];rfl),?_,?_,fun h H' s'=>h3.1 h H' (e3.trans s'),fun h H' k hWn=>?_⟩
 ·exact (aT.at hA2).same f3
 ·rw [hks];first | rfl | simp only [cI,List.length_set]
 ·k_upd
  exact h3.2 h H' ((aA.of e3).trans k) hWn
variable (qJ:KM P w K mg base (CXf P w) 5 Z.aY "ring" (j4 K Z))
inductive gJ (K:WA)(Z:Adr)(vs:List V)(H:Hp)(Q:VK)(E:XK):Prop | mk (w bk rl:Addr) (g:Cfg) (n0:aO) (rs:List Row) (s:Int):vs=[.ref w,.int s]->WAt (clZ Z) K H w bk rl g n0 rs->g.ls.length<=1000->g.ks.length=(ak n0 rs).ws.length->(((∀l r,(ak n0 rs).e≠.wait l r)->∀H',av H H'->E (.ref Z.fg) none H'))->((∀l r,(ak n0 rs).e=.wait l r->¬(1<=s/\s<=9)->∀H',av H H'->E (.ref Z.mE) none H'))->((∀l r,(ak n0 rs).e=.wait l r->(1<=s/\s<=9)->(300<=rs.length->∀H',av H H'->E (.ref Z.iQ) none H')/\(rs.length < 300->∀p H',aA rl H H'->WAt (clZ Z) K H' w bk rl g n0 (rs++[uw g n0 rs (.rept s)])->SqT K H' p [.bl (decide (s=r)),.int r,.int s]->Q (.ref p) H')))->gJ K Z vs H Q E
include T aI mS bu aV in
theorem tR:FF P w K mg base (CXf P w) 5 "repeat" "Works.repeat" iG mf (gJ K Z):=fkF gy fun vs H Q E h=>by
 obtain ⟨w,bk,rl,g,n0,rs,s,rfl,hW,hls,hks,q1,q2,q3⟩:=h
 k_all
 refine seg 3 (ah (aB (pv' 3))) fun zt3 zh3 ze3=>?_
 refine seg 2 (ae (aZ (dm' (pv' 0) bu hr.dn bC (pa3 (aR (pa2 aE (pv' 1))) af (pv' 2)))) zh3) fun zt2 zh2 ze2=>?_
 refine seg 1 (ae (aF (i:=3) gy.nd rfl orL (dm' (ax (pv' 2)) mS hr.dn bC (pa1 (pv' 1)))) zh2) fun zt1 zh1 ze1=>?_
 refine ⟨_,ae (aF (i:=2) gy.nd rfl orL (cT (cT (ax (pv' 0)) aI hr.dn aU) aV hr.dn aU)) zh1,?_⟩
 obtain ⟨⟨dx,dl,gl,hob,hdl,hgl,n1,n2⟩,hB⟩:=id hW
 obtain ⟨⟨db,f0,hbo,hF⟩,as,hrl,hR⟩:=id hB
 k_mem
 refine fgo hob T.aS T.aP rfl ?_
 k_mem
 refine mgo hbo rfl ⟨_,_,_,_,_,rfl,hB,fun s0 ⟨A0,hA0⟩=>?_⟩
 k_mem
 refine mgo hA0.ob rfl ⟨_,_,_,_,_,rfl,hA0.at,hrl,hls,fun s1 A H1 e1 hs1 ho1 hb1 hf1 hy1 hw1 hA=>?_⟩
 have hW1:=hW.same e1
 have hob1:=e1 _ _ hob
 have hbo1:=e1 _ _ hbo
 have hrl1:=e1 _ _ hrl
 have hdl1:=e1 _ _ hdl
 k_mem
 refine fgo hA.ob T.aJ T.bN rfl ?_
 k_mem
 obtain ⟨db1,hbb⟩:=hA.be.ob
 k_upd
 refine mgo hbb rfl ⟨_,_,_,_,_,_,_,_,rfl,hA.be,fun h=>q1 h _ e1,fun l r h h'=>q2 l r h h' _ e1,fun l r h h' st2 p2 H2 hp2 k2 hB2 hT2=>?_⟩
 have h3:=q3 l r h h'
 have e2:=e1.keeps k2 hb1
 have hA2:aT (clZ Z) K H2 rl g s1 {A with st:=st2} (cI g (ak n0 rs) (.rept s)):=by
  have:=hA.bells k2 hB2
  have e0:cI g (ak n0 rs) (.rept s)={(ak n0 rs) with e:=(if s=r then Eng.armed l r else Eng.other l r s)}:=by
   show aO.mk _ _ _ (uv g (ak n0 rs) (.rept s)) _=_
   rw [show uv g (ak n0 rs) (.rept s)=(if s=r then Eng.armed l r else Eng.other l r s) from by simp only [uv,h]]
  rw [e0]
  exact this
 clear k2 hB2
 k_mem
 refine ⟨_,_,e2 _ _ hob,rfl,by decide,fun p hp=>?_⟩
 have e3:=e2.lay (o:=HO.tup [V.str (Str.ofString "repeat"),V.int s]) hp
 have f3:=(av.refl H2).lay (o:=HO.tup [V.str (Str.ofString "repeat"),V.int s]) hp
 k_upd
 refine ⟨_,_,_,_,_,_,p,s1,1,ddV (.rept s),cI g (ak n0 rs) (.rept s),rfl,hW.same e3,SqT.of (by rw [ag];rfl),?_,?_,fun h H' s'=>h3.1 h H' (e3.trans s'),fun h H' k hWn=>?_⟩
 ·exact (aT.at hA2).same f3
 ·rw [hks];first | rfl | simp only [cI,List.length_set]
 ·k_upd
  exact h3.2 h _ H' ((aA.of e3).trans k) hWn ((f3.tup hT2).keep k (e3 _ _ hrl))
variable (mY:KM P w K mg base (CXf P w) 5 Z.aY "repeat" (gJ K Z))
inductive j5 (K:WA)(Z:Adr)(vs:List V)(H:Hp)(Q:VK)(E:XK):Prop | mk (w bk rl:Addr) (g:Cfg) (n0:aO) (rs:List Row) (lv:Int):vs=[.ref w,.int lv]->WAt (clZ Z) K H w bk rl g n0 rs->g.ls.length<=1000->g.ks.length=(ak n0 rs).ws.length->((¬(0<=lv/\lv < g.ls.length)->∀H',av H H'->E (.ref Z.ba) none H'))->((0<=lv->lv < g.ls.length->(ak n0 rs).fs.getD lv.toNat false=true->∀H',av H H'->E (.ref Z.fD) none H'))->((0<=lv->lv < g.ls.length->(ak n0 rs).fs.getD lv.toNat false=false->tx Z K H w bk rl g n0 rs (.fail lv) Q E))->j5 K Z vs H Q E
include T aI qG bu aV in
theorem wO:FF P w K mg base (CXf P w) 5 "fail" "Works.fail" lh qd (j5 K Z):=fkF nY fun vs H Q E h=>by
 obtain ⟨w,bk,rl,g,n0,rs,lv,rfl,hW,hls,hks,q1,q2,q3⟩:=h
 k_all
 refine seg 2 (ah (aB (dm' (pv' 0) bu hr.dn bC (pa3 (aR (pa2 aE (pv' 1))) af (pv' 2))))) fun zt2 zh2 ze2=>?_
 refine seg 1 (ae (aZ (dm' (ax (pv' 2)) qG hr.dn bC (pa1 (pv' 1)))) zh2) fun zt1 zh1 ze1=>?_
 refine ⟨_,ae (aF (i:=2) nY.nd rfl orL (cT (cT (ax (pv' 0)) aI hr.dn aU) aV hr.dn aU)) zh1,?_⟩
 obtain ⟨⟨dx,dl,gl,hob,hdl,hgl,n1,n2⟩,hB⟩:=id hW
 obtain ⟨⟨db,f0,hbo,hF⟩,as,hrl,hR⟩:=id hB
 k_mem
 refine fgo hob T.aS T.aP rfl ?_
 k_mem
 refine mgo hbo rfl ⟨_,_,_,_,_,rfl,hB,fun s0 ⟨A0,hA0⟩=>?_⟩
 k_mem
 refine mgo hA0.ob rfl ⟨_,_,_,_,_,rfl,hA0.at,hrl,hls,fun s1 A H1 e1 hs1 ho1 hb1 hf1 hy1 hw1 hA=>?_⟩
 have hW1:=hW.same e1
 have hob1:=e1 _ _ hob
 have hbo1:=e1 _ _ hbo
 have hrl1:=e1 _ _ hrl
 have hdl1:=e1 _ _ hdl
 k_mem
 refine fgo hA.ob T.aJ T.bN rfl ?_
 k_mem
 obtain ⟨db1,hbb⟩:=hA.be.ob
 k_upd
 refine mgo hbb rfl ⟨_,_,_,_,_,_,_,_,rfl,hA.be,fun h=>q1 h _ e1,fun h h' h2=>q2 h h' h2 _ e1,fun h h' h2 H2 k2 hB2=>?_⟩
 have h3:=q3 h h' h2
 have e2:=e1.keeps k2 hf1
 have hA2:=hA.fail k2 hB2 (List.length_set ..)
 clear k2 hB2
 k_mem
 refine ⟨_,_,e2 _ _ hob,rfl,by decide,fun p hp=>?_⟩
 have e3:=e2.lay (o:=HO.tup [V.str (Str.ofString "fail"),V.int lv]) hp
 have f3:=(av.refl H2).lay (o:=HO.tup [V.str (Str.ofString "fail"),V.int lv]) hp
 k_upd
 refine ⟨_,_,_,_,_,_,p,s1,1,ddV (.fail lv),cI g (ak n0 rs) (.fail lv),rfl,hW.same e3,SqT.of (by rw [ag];rfl),?_,?_,fun h H' s'=>h3.1 h H' (e3.trans s'),fun h H' k hWn=>?_⟩
 ·exact (aT.at hA2).same f3
 ·rw [hks];first | rfl | simp only [cI,List.length_set]
 ·k_upd
  exact h3.2 h H' ((aA.of e3).trans k) hWn
variable (qK:KM P w K mg base (CXf P w) 5 Z.aY "fail" (j5 K Z))
inductive eY (K:WA)(Z:Adr)(vs:List V)(H:Hp)(Q:VK)(E:XK):Prop | mk (w bk rl:Addr) (g:Cfg) (n0:aO) (rs:List Row) (wd:Str) (lv:Int) (b:Bool) (d:Dd):vs=[.ref w,.str wd,.int lv,.bl b]->WAt (clZ Z) K H w bk rl g n0 rs->g.ls.length<=1000->g.ks.length=(ak n0 rs).ws.length->(ak n0 rs).gates.length=g.ds.length->(((wd="open"/\b=true/\d=.opn lv)\/(wd="shut"/\b=false/\d=.sht lv)))->((¬(0<=lv/\lv < g.ds.length)->∀H',av H H'->E (.ref Z.ba) none H'))->((0<=lv->lv < g.ds.length->(ak n0 rs).gates.getD lv.toNat false=b->∀H',av H H'->E (.ref Z.fD) none H'))->((0<=lv->lv < g.ds.length->(ak n0 rs).gates.getD lv.toNat false=!b->tx Z K H w bk rl g n0 rs d Q E))->eY K Z vs H Q E
include T aI bt bu aV in
theorem o9:FF P w K mg base (CXf P w) 5 "turn_gate" "Works.turn_gate" fA jl (eY K Z):=fkF iH fun vs H Q E h=>by
 obtain ⟨w,bk,rl,g,n0,rs,wd,lv,b,d,rfl,hW,hls,hks,hgl2,hd,q1,q2,q3⟩:=h
 k_all
 refine seg 4 (ah (aB (dm' (pv' 0) bu hr.dn bC (pa3 (aR (pa2 (pv' 1) (pv' 2))) af (pv' 4))))) fun zt4 zh4 ze4=>?_
 refine seg 3 (ae (kB (pv' 3) (qR (ax (pv' 4)) (pv' 2) g9)) zh4) fun zt3 zh3 ze3=>?_
 refine seg 2 (ae (aM (bH (ao au (ax (pv' 4)) (pv' 2)) (pv' 3)) (ah (bh T.vo (by rfl) T.vj (pa1 aE))) (aC)) zh3) fun zt2 zh2 ze2=>?_
 refine seg 1 (ae (aZ (dc bt hr.dn bC (pa2 (pv' 2) (aG az (by rfl) T.bR bb (pa1 (ax (pv' 0))))))) zh2) fun zt1 zh1 ze1=>?_
 refine ⟨_,ae (aF (i:=4) iH.nd rfl orL (cT (cT (ax (pv' 0)) aI hr.dn aU) aV hr.dn aU)) zh1,?_⟩
 obtain ⟨⟨dx,dl,gl,hob,hdl,hgl,n1,n2⟩,hB⟩:=id hW
 obtain ⟨⟨db,f0,hbo,hF⟩,as,hrl,hR⟩:=id hB
 k_mem
 refine fgo hob T.aS T.aP rfl ?_
 k_mem
 refine mgo hbo rfl ⟨_,_,_,_,_,rfl,hB,fun s0 ⟨A0,hA0⟩=>?_⟩
 k_mem
 refine mgo hA0.ob rfl ⟨_,_,_,_,_,rfl,hA0.at,hrl,hls,fun s1 A H1 e1 hs1 ho1 hb1 hf1 hy1 hw1 hA=>?_⟩
 have hW1:=hW.same e1
 have hob1:=e1 _ _ hob
 have hbo1:=e1 _ _ hbo
 have hrl1:=e1 _ _ hrl
 have hdl1:=e1 _ _ hdl
 k_mem
 refine fgo hob1 T.aS T.cA rfl ?_
 k_mem
 refine ⟨_,.inl (SqL.of hdl1),_,_,rfl,?_⟩
 rw [WB]
 k_upd
 refine ⟨fun hlv=>?_,fun h=>q1 h _ e1⟩
 k_mem
 refine fgo hA.ob T.aJ T.bW rfl ?_
 k_mem
 refine ⟨_,SqL.of hA.go,_,kI hlv.1 (by omega),?_⟩
 k_mem
 split
 ·rename_i h
  k_upd
  exact ⟨by decide,q2 hlv.1 hlv.2 h _ e1⟩
 ·rename_i h
  have h3:=q3 hlv.1 hlv.2 (by cases b<;>simpa using h)
  k_upd
  refine fgo hA.ob T.aJ T.bW rfl ?_
  k_mem
  refine ⟨_,hA.go,_,ur hlv.1 (by rw [WB];omega),?_⟩
  have e2:=e1.rewr (o:=HO.lst (((ak n0 rs).gates.map V.bl).set lv.toNat (V.bl b))) ho1
  have k2:L2.aA A.ol H1 (upd H1 A.ol (HO.lst (((ak n0 rs).gates.map V.bl).set lv.toNat (V.bl b)))):=(aA.of (av.refl H1)).put
  have hA2:=hA.gates k2 (gs:=(ak n0 rs).gates.set lv.toNat b) (by rw [ag,List.map_set])
  generalize upd H1 A.ol (HO.lst (((ak n0 rs).gates.map V.bl).set lv.toNat (V.bl b)))=H2 at *
  have hW2:=hW.same e2
  k_upd
  refine ⟨_,_,e2 _ _ hob,rfl,by decide,fun p hp=>?_⟩
  have e3:=e2.lay (o:=HO.tup [V.str wd,V.int lv]) hp
  have f3:=(av.refl H2).lay (o:=HO.tup [V.str wd,V.int lv]) hp
  k_upd
  refine ⟨_,_,_,_,_,_,p,s1,1,ddV d,cI g (ak n0 rs) d,rfl,hW.same e3,SqT.of ?_,?_,?_,fun h H' s'=>h3.1 h H' (e3.trans s'),fun h H' k hWn=>?_⟩
  ·rw [ag];rcases hd with ⟨rfl,_,rfl⟩ | ⟨rfl,_,rfl⟩<;>rfl
  ·refine (aT.at (A:=A) ?_).same f3
   rcases hd with ⟨_,rfl,rfl⟩ | ⟨_,rfl,rfl⟩<;>exact hA2
  ·rw [hks];rcases hd with ⟨_,rfl,rfl⟩ | ⟨_,rfl,rfl⟩<;>rfl
  ·have:=h3.2 h H' ((aA.of e3).trans k)
   rcases hd with ⟨_,rfl,rfl⟩ | ⟨_,rfl,rfl⟩<;>exact this hWn
variable (dO:KM P w K mg base (CXf P w) 5 Z.aY "turn_gate" (eY K Z))
def G7 (w:Addr)(c lv:Int)(kd:Str)(s:Addr)(H:Hp)(gs:List Int)(gates:List Bool)(i:Nat)(σ:St)(H':Hp):Prop:=H'=H/\(∃t,σ=[some (.ref w),some (.int c),some (.int lv),some (.str kd),some (.ref s),t,none,none])/\∀j,j < i->∀x,gs[j]?=some x->gates.getD x.toNat false=false
inductive j6 (K:WA)(Z:Adr)(vs:List V)(H:Hp)(Q:VK)(E:XK):Prop | mk (w bk rl:Addr) (g:Cfg) (n0:aO) (rs:List Row) (c lv:Int) (kd:Str):vs=[.ref w,.int c,.int lv,.str kd]->WAt (clZ Z) K H w bk rl g n0 rs->g.ls.length<=1000->g.ks.length=(ak n0 rs).ws.length->bX g.ds->(ak n0 rs).gates.length=g.ds.length->g.ls.length=g.ds.length->1<=fq g (ak n0 rs)->fq g (ak n0 rs)<=500->((kd="men"\/kd="coal"))->((¬(0<=lv/\lv < g.ds.length)->∀H',av H H'->E (.ref Z.ba) none H'))->((0<=lv->lv < g.ds.length->ir g (ak n0 rs)=true->∀H',av H H'->E (.ref Z.mF) none H'))->((0<=lv->lv < g.ds.length->ir g (ak n0 rs)=false->(ak n0 rs).e≠.armed lv (cC g.ls lv kd)->∀H',av H H'->E (.ref Z.iP) none H'))->((0<=lv->lv < g.ds.length->ir g (ak n0 rs)=false->(ak n0 rs).e=.armed lv (cC g.ls lv kd)->tx Z K H w bk rl g n0 rs (.wind c lv kd) Q E))->j6 K Z vs H Q E
include T qw aI bt dD tu oi vF bu aV in
theorem wQ:FF P w K mg base (CXf P w) 5 "wind" "Works.wind" lp qg (j6 K Z):=fkF eL fun vs H Q E h=>by
 obtain ⟨w,bk,rl,g,n0,rs,c,lv,kd,rfl,hW,hls,hks,hsh,hgl2,hlc,hsp1,hsp5,hkd,q1,q2,q3,q4⟩:=h
 k_all
 refine seg 7 (ah (aB (dm' (pv' 0) bu hr.dn bC (pa3 (aR (pa4 aE (pv' 1) (pv' 2) (pv' 3))) (pv' 7) (pv' 4))))) fun zt7 zh7 ze7=>?_
 refine seg 6 (ae (bL (pv' 4) (pv' 6) rfl) zh7) fun zt6 zh6 ze6=>?_
 refine seg 5 (ae (aF (i:=7) eL.nd rfl orL (dc0 qw hr.dn (pa2 (aG xn (by rfl) T.HQ DQ (pa1 (aQ di (pv' 6) (ax (pv' 4))))) (dm' (pv' 0) dD hr.dn aU (pa1 (pv' 4)))))) zh6) fun zt5 zh5 ze5=>?_
 refine seg 4 (ae (aF (i:=6) eL.nd rfl orL (dc0 oi hr.dn (pa3 (ax (pv' 0)) (pv' 1) (pv' 2)))) zh5) fun zt4 zh4 ze4=>?_
 refine seg 3 (ae (aZ (dm' (ax (pv' 4)) tu hr.dn bC (pa2 (pv' 2) (pv' 3)))) zh4) fun zt3 zh3 ze3=>?_
 refine seg 2 (ae (cR yJ rfl (dk (dc0 vF hr.dn (pa2 (ax (pv' 0)) (ax (pv' 4))))) (aD (i:=5) eL.nd rfl orL) (ah (aM (bZ (ao au (ax (pv' 4)) (pv' 5))) (ah (bh T.Ba (by rfl) T.A5 (pa1 aE))) (aC)))) zh3) fun zt2 zh2 ze2=>?_
 refine seg 1 (ae (aZ (dc bt hr.dn bC (pa2 (pv' 2) (aG az (by rfl) T.bR bb (pa1 (ax (pv' 0))))))) zh2) fun zt1 zh1 ze1=>?_
 refine ⟨_,ae (aF (i:=4) eL.nd rfl orL (cT (cT (ax (pv' 0)) aI hr.dn aU) aV hr.dn aU)) zh1,?_⟩
 obtain ⟨⟨dx,dl,gl,hob,hdl,hgl,n1,n2⟩,hB⟩:=id hW
 obtain ⟨⟨db,f0,hbo,hF⟩,as,hrl,hR⟩:=id hB
 k_mem
 refine fgo hob T.aS T.aP rfl ?_
 k_mem
 refine mgo hbo rfl ⟨_,_,_,_,_,rfl,hB,fun s0 ⟨A0,hA0⟩=>?_⟩
 k_mem
 refine mgo hA0.ob rfl ⟨_,_,_,_,_,rfl,hA0.at,hrl,hls,fun s1 A H1 e1 hs1 ho1 hb1 hf1 hy1 hw1 hA=>?_⟩
 have hW1:=hW.same e1
 have hob1:=e1 _ _ hob
 have hbo1:=e1 _ _ hbo
 have hrl1:=e1 _ _ hrl
 have hdl1:=e1 _ _ hdl
 k_mem
 refine fgo hob1 T.aS T.cA rfl ?_
 k_mem
 refine ⟨_,.inl (SqL.of hdl1),_,_,rfl,?_⟩
 rw [WB]
 k_upd
 refine ⟨fun hlv=>?_,fun h=>q1 h _ e1⟩
 have l6:=hsh.l6
 k_mem
 refine fgo hob1 T.aS T.cA rfl ?_
 k_upd
 refine fgo hA.ob T.aJ T.cy rfl ?_
 k_mem
 refine ⟨_,_,_,rfl,SqL.of hdl1,by omega,by omega,fun gb H2 hgb f2 hgb2=>?_⟩
 have e2:=e1.trans f2
 replace hA:=hA.same f2
 k_mem
 refine ⟨⟨_,SqL.of hgb2⟩,?_⟩
 have gr:∀x∈jg g.ds (ak n0 rs).place,0<=x/\x < g.ds.length:=fun x hx=>by
  unfold jg at hx
  rw [List.mem_map] at hx
  obtain ⟨i,hi,rfl⟩:=hx
  have:=List.mem_range.mp (List.mem_filter.mp hi).1
  omega
 k_upd
 refine kb ((jg g.ds (ak n0 rs).place).map V.int) (G7 w c lv kd s1 H2 (jg g.ds (ak n0 rs).place) (ak n0 rs).gates) ⟨rfl,⟨_,rfl⟩,fun j hj=>absurd hj (Nat.not_lt_zero _)⟩ ?_ ?_ ?_
 ·rintro i σ H' _ ⟨rfl,_⟩
  exact SqL.of hgb2
 ·rintro i x σ H' hx ⟨rfl,⟨t,rfl⟩,hj⟩
  obtain ⟨z,rfl,hz,hzm⟩:=kG hx
  have hzr:=gr z hzm
  k_mem
  refine fgo hA.ob T.aJ T.bW rfl ?_
  k_mem
  refine ⟨_,SqL.of hA.go,_,kI hzr.1 (by omega),?_⟩
  k_mem
  split
  ·rename_i hopen
   k_upd
   exact ⟨by decide,q2 hlv.1 hlv.2 (List.any_eq_true.mpr ⟨z,hzm,hopen⟩) _ e2⟩
  ·rename_i hopen
   k_upd
   refine ⟨rfl,⟨_,rfl⟩,fun j hj' y hy=>?_⟩
   by_cases e:j=i
   ·subst e
    rw [hz] at hy
    cases hy
    simpa using hopen
   ·exact hj j (by omega) y hy
 ·rintro σ H' ⟨rfl,⟨t,rfl⟩,hj⟩
  have hno:ir g (ak n0 rs)=false:=by
   unfold ir
   rw [List.any_eq_false]
   intro x hx
   obtain ⟨j,hjx⟩:=List.getElem?_of_mem hx
   rw [hj j (by rw [WB];exact (List.getElem?_eq_some_iff.mp hjx).1) x hjx]
   exact Bool.false_ne_true
  k_mem
  refine fgo hA.ob T.aJ T.bN rfl ?_
  k_mem
  obtain ⟨db1,hbb⟩:=hA.be.ob
  k_upd
  refine mgo hbb rfl ⟨_,_,_,_,_,_,_,_,_,rfl,hA.be,hkd,fun h=>absurd ⟨hlv.1,by omega⟩ h,fun _ _ h H' s'=>q3 hlv.1 hlv.2 hno h H' (e2.trans s'),fun _ _ harm st2 H3 k3 hB3=>?_⟩
  have h3:=q4 hlv.1 hlv.2 hno harm
  have e3:=e2.keeps k3 hb1
  have hA3:=hA.bells k3 hB3
  clear k3 hB3
  k_mem
  refine fgo (e3 _ _ hob) T.aS T.cA rfl ?_
  k_mem
  refine ⟨_,_,_,_,rfl,SqL.of (e3 _ _ hdl),hlv.1,hlv.2,?_⟩
  rw [show (if c=0 then g.ds.getD lv.toNat 0 else bY g.ds - g.ds.getD lv.toNat 0)=gn g.ds c lv from rfl]
  k_mem
  refine fgo hA3.ob T.aJ T.cy rfl ?_
  k_mem
  refine mgo (e3 _ _ hob) rfl ⟨_,_,_,_,_,_,_,_,rfl,hW.same e3,hA3.at,hks,fun H4 f4=>?_⟩
  have e4:=e3.trans f4
  replace hA3:=hA3.same f4
  have hspd:fq g {(ak n0 rs) with e:=Eng.used lv (cC g.ls lv kd)}=fq g (ak n0 rs):=rfl
  rw [hspd]
  k_upd
  refine ⟨_,_,rfl,by omega,Int.lt_of_le_of_lt hsp5 (by decide),?_⟩
  k_mem
  refine ⟨_,_,_,hA3.ob,T.aJ,T.cy,by show 4 < 1000;decide,?_⟩
  have k5:L2.aA s1 H4 (upd H4 s1 (HO.ins (clZ Z).S A.dx (br "place" (.int (gn g.ds c lv)) [("place",.int (ak n0 rs).place),("opened",.ref A.ol),("bells",.ref A.b),("yard",.ref A.y)]))):=(aA.of (av.refl H4)).put
  have e5:=e4.keeps k5 hs1
  have hA5:=hA3.placed k5 (pl:=gn g.ds c lv) (by rw [ag];rfl)
  clear hgb2 f2 f4
  generalize upd H4 s1 (HO.ins (clZ Z).S A.dx (br "place" (.int (gn g.ds c lv)) [("place",.int (ak n0 rs).place),("opened",.ref A.ol),("bells",.ref A.b),("yard",.ref A.y)]))=H5 at *
  k_upd
  refine ⟨_,_,e5 _ _ hob,rfl,by decide,fun p hp=>?_⟩
  have e6:=e5.lay (o:=HO.tup [V.str (Str.ofString "wind"),V.int c,V.int lv,V.str kd]) hp
  have f6:=(av.refl H5).lay (o:=HO.tup [V.str (Str.ofString "wind"),V.int c,V.int lv,V.str kd]) hp
  k_upd
  refine ⟨_,_,_,_,_,_,p,s1,(rh g (ak n0 rs) (.wind c lv kd)),ddV (.wind c lv kd),cI g (ak n0 rs) (.wind c lv kd),rfl,hW.same e6,SqT.of (by rw [ag];rfl),?_,?_,fun h H' s'=>h3.1 h H' (e6.trans s'),fun h H' k hWn=>?_⟩
  ·exact (aT.at hA5).same f6
  ·rw [hks];first | rfl | simp only [cI,List.length_set]
  ·k_upd
   exact h3.2 h H' ((aA.of e6).trans k) hWn
variable (qL:KM P w K mg base (CXf P w) 5 Z.aY "wind" (j6 K Z))
theorem two_deepW {p q c:Int}(h0:0<=c)(h1:c < 2):atI [V.int p,V.int q] c=some (.int (if c=0 then p else q)):=by
 rcases (by omega:c=0\/c=1) with rfl | rfl<;>rfl
inductive fH (K:WA)(Z:Adr)(vs:List V)(H:Hp)(Q:VK)(E:XK):Prop | mk (w bk rl:Addr) (g:Cfg) (n0:aO) (rs:List Row) (c:Int):vs=[.ref w,.int c]->WAt (clZ Z) K H w bk rl g n0 rs->bX g.ds->0<=c->c < 2->(∀H',av H H'->Q (lvV (bG g.ds (ak n0 rs).place c)) H')->fH K Z vs H Q E
include T vq fZ in
theorem qM:FF P w K mg base CX0 5 "level_of" "Works.level_of" fP ki (fH K Z):=fk0 qm fun vs H Q E h=>by
 obtain ⟨w,bk,rl,g,n0,rs,c,rfl,hW,hsh,h0,h1,q⟩:=h
 k_all
 refine ⟨_,ah (aB (dc0 vq hr.dn (pa2 (ax (pv' 0)) (ao aw (cT (pv' 0) fZ hr.dn aU) (pv' 1))))),?_⟩
 obtain ⟨⟨dx,dl,gl,hob,hdl,hgl,n1,n2⟩,hB⟩:=id hW
 obtain ⟨⟨db,f0,hbo,hF⟩,as,hrl,hR⟩:=id hB
 k_mem
 refine fgo hob T.aS T.cA rfl ?_
 k_mem
 refine mgo hob rfl ⟨_,_,_,_,_,_,rfl,hW,by have:=hsh.l2;omega,fun p hp=>?_⟩
 have s1:=(av.refl H).lay (o:=HO.tup [.int (ak n0 rs).place,.int (bY g.ds - (ak n0 rs).place)]) hp
 k_mem
 refine ⟨_,SqT.of ag,_,two_deepW h0 h1,?_⟩
 have l6:=hsh.l6
 k_upd
 refine ⟨_,_,_,rfl,SqL.of (s1 _ _ hdl),by omega,fun i hi e=>?_,fun hne=>?_⟩
 ·have q':=q _ s1
  rw [show bG g.ds (ak n0 rs).place c=some (i:Int) from by rw [bG];split<;>rename_i hc<;>(first | rw [if_pos hc] at e | rw [if_neg hc] at e)<;>exact il hsh hi e] at q'
  k_upd
  exact q'
 ·have q':=q _ s1
  rw [show bG g.ds (ak n0 rs).place c=none from by rw [bG];split<;>rename_i hc<;>refine yP fun i hi=>?_<;>have:=hne i hi<;>(first | rw [if_pos hc] at this | rw [if_neg hc] at this)<;>exact this] at q'
  k_upd
  exact q'
variable (eo:KM P w K mg base CX0 5 Z.aY "level_of" (fH K Z))
noncomputable def mZ (K:WA):Nat->Sp
 | 0=>fun _ _ _ _=>False
 | n+1=>fun vs H Q _=>∃(x y:V) (d:Dt),vs=[x,y]/\Rep K H n x d/\Rep K H n y d/\∀H',av H H'->Q (.bl true) H'
noncomputable def CY (K:WA)(Z:Adr):Sp:=mZ K 5
def B7 (x y:V)(H:Hp)(_:Nat)(σ:St)(H':Hp):Prop:=av H H'/\∃t,σ=[some x,some y,none,t]
theorem CZ {v:V}{T:String}(h:uq v=some T):(["list","tuple"].any (yK T))=false:=by
 cases v<;>simp only [uq,Option.some.injEq,reduceCtorEq] at h<;>subst h<;>decide
theorem zQ {v:V}(h:bg v=true):∃T,uq v=some T:=by
 cases v<;>simp only [bg,reduceCtorEq,Bool.false_eq_true] at h<;>exact ⟨_,rfl⟩
theorem Dc {v:V}(h:bg v=true):vM v v=true:=by
 cases v<;>simp only [bg,reduceCtorEq,Bool.false_eq_true] at h<;>rfl
include T in
theorem tD {n:Nat}(c8:KD P w K mg base CX0 n "_law_same" (mZ K n)):FF P w K mg base CX0 (n+1) "_law_same" "_law_same" my qj (mZ K (n+1)):=fk0 rG fun vs H Q E h=>by
 obtain ⟨x,y,d,rfl,hx,hy,q⟩:=h
 k_all
 refine ⟨_,ae (aM (dw (bZ (aG qY (by rfl) T.cF ck (pa2 (pv' 1) (aR (pa2 (eN (v:=.ty "list") (by rfl) T.dC cB rfl) (eN (v:=.ty "tuple") (by rfl) T.qr lX rfl))))))) (ae (aF (i:=2) rG.nd rfl orL (dJ jx (aG qY (by rfl) T.cF ck (pa2 (pv' 0) (aR (pa2 (eN (v:=.ty "int") (by rfl) T.sW lW rfl) (eN (v:=.ty "str") (by rfl) T.HR DR rfl))))) (aG qY (by rfl) T.cF ck (pa2 (pv' 1) (aR (pa2 (eN (v:=.ty "int") (by rfl) T.sW lW rfl) (eN (v:=.ty "str") (by rfl) T.HR DR rfl))))) (cu _))) (ah (aB (ud (pv' 2) (ud (dJ jx (aG g8 (by rfl) T.cF ck (pa2 (pv' 0) (eN (v:=.ty "bool") (by rfl) T.E5 BA rfl))) (aG g8 (by rfl) T.cF ck (pa2 (pv' 1) (eN (v:=.ty "bool") (by rfl) T.E5 BA rfl))) (cu _)) (zT (dJ jx (pv' 0) (pv' 1) (cu _)))))))) (aC)) (ae (aM (sv (aG g8 (by rfl) T.cF ck (pa2 (pv' 0) (eN (v:=.ty "list") (by rfl) T.dC cB rfl))) (aG g8 (by rfl) T.cF ck (pa2 (pv' 1) (eN (v:=.ty "list") (by rfl) T.dC cB rfl)))) (ah (aB fJ)) (aC)) (ae (aM (pj (sv (aG g8 (by rfl) T.cF ck (pa2 (pv' 0) (eN (v:=.ty "tuple") (by rfl) T.qr lX rfl))) (aG g8 (by rfl) T.cF ck (pa2 (pv' 1) (eN (v:=.ty "tuple") (by rfl) T.qr lX rfl)))) (lQ (sv (aG az (by rfl) T.bR bb (pa1 (pv' 0))) (aG az (by rfl) T.bR bb (pa1 (pv' 1)))))).pt (ah (aB fJ)) (aC)) (ae (cR PassesOwn.never rfl (bj (by rfl) T.cj (pa1 (aG az (by rfl) T.bR bb (pa1 (pv' 1))))) (aD (i:=3) rG.nd rfl orL) (ah (aM (dw (bZ (dc0 c8 hr (pa2 (ao DH (pv' 0) (pv' 3)) (ao DH (pv' 1) (pv' 3)))))) (ah (aB fJ)) (aC)))) (ah (aB fJ))))),?_⟩
 k_mem
 refine ⟨by decide,fun tp htp=>?_⟩
 have s1:=(av.refl H).lay (o:=HO.tup [V.ty "list",V.ty "tuple"]) htp
 have ht1:upd H tp (HO.tup [V.ty "list",V.ty "tuple"]) tp=some (HO.tup (["list","tuple"].map V.ty)):=ag
 generalize upd H tp (HO.tup [V.ty "list",V.ty "tuple"])=H1 at *
 cases hx with
 | @flat _ v hv=>
  cases hy with
  | flat _=>
   obtain ⟨T0,hT⟩:=zQ hv
   refine ⟨_,tp,["list","tuple"],T0,rfl,SqT.of ht1,.inl hT,by decide,?_⟩
   rw [CZ hT]
   k_mem
   refine ⟨by decide,fun p1 hp1=>⟨_,p1,["int","str"],T0,rfl,SqT.of ag,.inl hT,by decide,?_⟩⟩
   refine ⟨by decide,fun p2 hp2=>⟨_,p2,["int","str"],T0,rfl,SqT.of ag,.inl hT,by decide,?_⟩⟩
   k_mem
   rw [if_pos rfl]
   refine ⟨_,"bool",T0,rfl,.inl hT,by decide,_,"bool",T0,rfl,.inl hT,by decide,?_⟩
   k_mem
   rw [if_pos rfl]
   refine BN.mp ⟨Dc hv,?_⟩
   rw [decide_eq_true rfl]
   exact q _ ((s1.lay hp1).lay hp2)
 | @lst m a xs ds hs hb hl hrx=>
  cases hy with
  | @lst _ b ys _ hs' hb' hl' hry=>
   have ha1:=s1.seq hs
   have hb1:=s1.seq hs'
   refine ⟨.ref b,tp,["list","tuple"],"list",rfl,SqT.of ht1,.inr (.inl ⟨b,ys,rfl,hb1,rfl⟩),by decide,?_⟩
   rw [show (["list","tuple"].any (yK "list"))=true from by decide]
   k_mem
   refine ⟨.ref a,"list","list",rfl,.inr (.inl ⟨a,xs,rfl,ha1,rfl⟩),by decide,.ref b,"list","list",rfl,.inr (.inl ⟨b,ys,rfl,hb1,rfl⟩),by decide,?_⟩
   k_mem
   refine ⟨.ref a,"tuple","list",rfl,.inr (.inl ⟨a,xs,rfl,ha1,rfl⟩),by decide,.ref b,"tuple","list",rfl,.inr (.inl ⟨b,ys,rfl,hb1,rfl⟩),by decide,?_⟩
   k_mem
   refine ⟨xs,.inl ha1,ys,.inl hb1,?_⟩
   rw [if_neg (by omega)]
   refine ⟨ys,.inl hb1,by omega,by omega,?_⟩
   refine bK (B7 (.ref a) (.ref b) H1) ⟨av.refl _,_,rfl⟩ ?_ ?_
   ·rintro i σ H2 hi ⟨s2,t,rfl⟩
    have hi1:i < xs.length:=by omega
    have hi2:i < ys.length:=by omega
    have hi3:i < ds.length:=by omega
    have ex:xs[i]?=some xs[i]:=List.getElem?_eq_getElem hi1
    have ey:ys[i]?=some ys[i]:=List.getElem?_eq_getElem hi2
    have ed:ds[i]?=some ds[i]:=List.getElem?_eq_getElem hi3
    k_mem
    rw [Int.zero_add]
    refine .inl ⟨a,xs,_,_,rfl,rfl,s2.seq ha1,ju ex,.inl ⟨b,ys,_,_,rfl,rfl,s2.seq hb1,ju ey,?_⟩⟩
    refine ⟨_,_,ds[i],rfl,(hrx i _ _ ex ed).same (s1.trans s2),(hry i _ _ ey ed).same (s1.trans s2),fun H3 s3=>?_⟩
    k_mem
    exact ⟨s2.trans s3,_,rfl⟩
   ·rintro σ H2 ⟨s2,t,rfl⟩
    k_mem
    exact q _ (s1.trans s2)
 | @tup m a xs ds hs hb hl hrx=>
  cases hy with
  | @tup _ b ys _ hs' hb' hl' hry=>
   have ha1:=s1.tup hs
   have hb1:=s1.tup hs'
   refine ⟨.ref b,tp,["list","tuple"],"tuple",rfl,SqT.of ht1,.inr (.inr ⟨b,ys,rfl,hb1,rfl⟩),by decide,?_⟩
   rw [show (["list","tuple"].any (yK "tuple"))=true from by decide]
   k_mem
   refine ⟨.ref a,"list","tuple",rfl,.inr (.inr ⟨a,xs,rfl,ha1,rfl⟩),by decide,.ref b,"list","tuple",rfl,.inr (.inr ⟨b,ys,rfl,hb1,rfl⟩),by decide,?_⟩
   k_mem
   refine ⟨.ref a,"tuple","tuple",rfl,.inr (.inr ⟨a,xs,rfl,ha1,rfl⟩),by decide,.ref b,"tuple","tuple",rfl,.inr (.inr ⟨b,ys,rfl,hb1,rfl⟩),by decide,?_⟩
   k_mem
   refine ⟨xs,.inr ha1,ys,.inr hb1,?_⟩
   rw [if_neg (by omega)]
   refine ⟨ys,.inr hb1,by omega,by omega,?_⟩
   refine bK (B7 (.ref a) (.ref b) H1) ⟨av.refl _,_,rfl⟩ ?_ ?_
   ·rintro i σ H2 hi ⟨s2,t,rfl⟩
    have hi1:i < xs.length:=by omega
    have hi2:i < ys.length:=by omega
    have hi3:i < ds.length:=by omega
    have ex:xs[i]?=some xs[i]:=List.getElem?_eq_getElem hi1
    have ey:ys[i]?=some ys[i]:=List.getElem?_eq_getElem hi2
    have ed:ds[i]?=some ds[i]:=List.getElem?_eq_getElem hi3
    k_mem
    rw [Int.zero_add]
    refine .inr (.inl ⟨a,xs,_,_,rfl,rfl,s2.tup ha1,ju ex,.inr (.inl ⟨b,ys,_,_,rfl,rfl,s2.tup hb1,ju ey,?_⟩)⟩)
    refine ⟨_,_,ds[i],rfl,(hrx i _ _ ex ed).same (s1.trans s2),(hry i _ _ ey ed).same (s1.trans s2),fun H3 s3=>?_⟩
    k_mem
    exact ⟨s2.trans s3,_,rfl⟩
   ·rintro σ H2 ⟨s2,t,rfl⟩
    k_mem
    exact q _ (s1.trans s2)
include T in
theorem De {f:Addr}{fd:FuncData}(b:mg "_law_same"=some (.ref f))(F:Fun K "_law_same" "_law_same" my f fd)(c:dQ K fd qj []):FF P w K mg base CX0 5 "_law_same" "_law_same" my qj (mZ K 5):=
 have h:∀n,KD P w K mg base CX0 n "_law_same" (mZ K n):=fun n=>by
  induction n with
  | zero=>exact ⟨f,fd,_,b,F.kp,c,DW⟩
  | succ n ih=>exact KD.mk b F c (tD T ih)
 tD T (h 4)
variable (c8:KD P w K mg base CX0 5 "_law_same" (CY K Z))
inductive eZ (K:WA)(Z:Adr)(vs:List V)(H:Hp)(Q:VK)(E:XK):Prop | mk (w bk rl:Addr) (g:Cfg) (n0:aO) (rs:List Row) (lv:Int):vs=[.ref w,.int lv]->WAt (clZ Z) K H w bk rl g n0 rs->g.ls.length<=1000->g.ks.length=(ak n0 rs).ws.length->(ak n0 rs).gates.length=g.ds.length->((¬(0<=lv/\lv < g.ds.length)->∀H',av H H'->E (.ref Z.ba) none H'))->((0<=lv->lv < g.ds.length->(ak n0 rs).gates.getD lv.toNat false=true->∀H',av H H'->E (.ref Z.fD) none H'))->((0<=lv->lv < g.ds.length->(ak n0 rs).gates.getD lv.toNat false=false->tx Z K H w bk rl g n0 rs (.opn lv) Q E))->eZ K Z vs H Q E
include T dO in
theorem pe:FF P w K mg base (CXf P w) 6 "open_gate" "Works.open_gate" fv jj (eZ K Z):=fkF oE fun vs H Q E h=>by
 obtain ⟨w,bk,rl,g,n0,rs,lv,rfl,hW,hls,hks,hgl2,q1,q2,q3⟩:=h
 k_all
 refine ⟨_,ah (aB (dm' (pv' 0) dO hr.dn bC (pa3 aE (pv' 1) fJ))),?_⟩
 obtain ⟨dx,dl,gl,hob,_⟩:=id hW.ob
 k_mem
 exact mgo hob rfl ⟨_,_,_,_,_,_,_,_,_,_,rfl,hW,hls,hks,hgl2,.inl ⟨rfl,rfl,rfl⟩,q1,q2,q3⟩
variable (js:KM P w K mg base (CXf P w) 6 Z.aY "open_gate" (eZ K Z))
inductive fe (K:WA)(Z:Adr)(vs:List V)(H:Hp)(Q:VK)(E:XK):Prop | mk (w bk rl:Addr) (g:Cfg) (n0:aO) (rs:List Row) (lv:Int):vs=[.ref w,.int lv]->WAt (clZ Z) K H w bk rl g n0 rs->g.ls.length<=1000->g.ks.length=(ak n0 rs).ws.length->(ak n0 rs).gates.length=g.ds.length->((¬(0<=lv/\lv < g.ds.length)->∀H',av H H'->E (.ref Z.ba) none H'))->((0<=lv->lv < g.ds.length->(ak n0 rs).gates.getD lv.toNat false=false->∀H',av H H'->E (.ref Z.fD) none H'))->((0<=lv->lv < g.ds.length->(ak n0 rs).gates.getD lv.toNat false=true->tx Z K H w bk rl g n0 rs (.sht lv) Q E))->fe K Z vs H Q E
include T dO in
theorem pf:FF P w K mg base (CXf P w) 6 "shut_gate" "Works.shut_gate" fz jk (fe K Z):=fkF oF fun vs H Q E h=>by
 obtain ⟨w,bk,rl,g,n0,rs,lv,rfl,hW,hls,hks,hgl2,q1,q2,q3⟩:=h
 k_all
 refine ⟨_,ah (aB (dm' (pv' 0) dO hr.dn bC (pa3 aE (pv' 1) fJ))),?_⟩
 obtain ⟨dx,dl,gl,hob,_⟩:=id hW.ob
 k_mem
 exact mgo hob rfl ⟨_,_,_,_,_,_,_,_,_,_,rfl,hW,hls,hks,hgl2,.inr ⟨rfl,rfl,rfl⟩,q1,q2,q3⟩
variable (jt:KM P w K mg base (CXf P w) 6 Z.aY "shut_gate" (fe K Z))
inductive j7 (K:WA)(Z:Adr)(vs:List V)(H:Hp)(Q:VK)(E:XK):Prop | mk (w bk rl:Addr) (g:Cfg) (n0:aO) (rs:List Row) (k c:Int):vs=[.ref w,.int k,.int c]->WAt (clZ Z) K H w bk rl g n0 rs->g.ls.length<=1000->g.ks.length=(ak n0 rs).ws.length->bX g.ds->(ak n0 rs).gates.length=g.ds.length->g.goals.length=(ak n0 rs).ws.length->0<=c->c < 2->((¬(0<=k/\k < (ak n0 rs).ws.length)->∀H',av H H'->E (.ref Z.dU) none H'))->((0<=k->k < (ak n0 rs).ws.length->(∀l,bG g.ds (ak n0 rs).place c=some l->(ak n0 rs).ws.getD k.toNat 0≠l)->∀H',av H H'->E (.ref Z.iO) none H'))->((∀l,0<=k->k < (ak n0 rs).ws.length->bG g.ds (ak n0 rs).place c=some l->(ak n0 rs).ws.getD k.toNat 0=l->10+c∈(ak n0 rs).ws->∀H',av H H'->E (.ref Z.hG) none H'))->((∀l,0<=k->k < (ak n0 rs).ws.length->bG g.ds (ak n0 rs).place c=some l->(ak n0 rs).ws.getD k.toNat 0=l->¬10+c∈(ak n0 rs).ws->(ak n0 rs).gates.getD l.toNat false=false->∀H',av H H'->E (.ref Z.iR) none H'))->((∀l,0<=k->k < (ak n0 rs).ws.length->bG g.ds (ak n0 rs).place c=some l->(ak n0 rs).ws.getD k.toNat 0=l->¬10+c∈(ak n0 rs).ws->(ak n0 rs).gates.getD l.toNat false=true->tx Z K H w bk rl g n0 rs (.load k c) Q E))->j7 K Z vs H Q E
include T gX aI gZ cq tf bu aV eo in
theorem wR:FF P w K mg base (CXf P w) 6 "load" "Works.load" lj qf (j7 K Z):=fkF jI fun vs H Q E h=>by
 obtain ⟨w,bk,rl,g,n0,rs,k,c,rfl,hW,hls,hks,hsh,hgl2,hgo,h0,h1,q1,q2,q3,q4,q5⟩:=h
 k_all
 refine seg 6 (ah (aB (dm' (pv' 0) bu hr.dn bC (pa3 (aR (pa3 aE (pv' 1) (pv' 2))) af (pv' 3))))) fun zt6 zh6 ze6=>?_
 refine seg 5 (ae (aZ (dm' (pv' 0) cq hr.dn bC (pa1 (pv' 4)))) zh6) fun zt5 zh5 ze5=>?_
 refine seg 4 (ae (aZ (dm' (ax (pv' 3)) tf hr.dn bC (pa2 (pv' 1) (pv' 2)))) zh5) fun zt4 zh4 ze4=>?_
 refine seg 3 (ae (aM (pj (yf (pv' 4) dI) (lQ (sv (ao au (cT (ax (pv' 3)) gX hr.dn aU) (pv' 1)) (pv' 4)))).pt (ah (bh T.oO (by rfl) T.oM (pa1 aE))) (aC)) zh4) fun zt3 zh3 ze3=>?_
 refine seg 2 (ae (aF (i:=4) jI.nd rfl orL (dm' (pv' 0) eo hr.dn aU (pa1 (pv' 2)))) zh3) fun zt2 zh2 ze2=>?_
 refine seg 1 (ae (aZ (dc gZ hr.dn bC (pa2 (pv' 1) (aG az (by rfl) T.bR bb (pa1 (ax (pv' 0))))))) zh2) fun zt1 zh1 ze1=>?_
 refine ⟨_,ae (aF (i:=3) jI.nd rfl orL (cT (cT (ax (pv' 0)) aI hr.dn aU) aV hr.dn aU)) zh1,?_⟩
 obtain ⟨⟨dx,dl,gl,hob,hdl,hgl,n1,n2⟩,hB⟩:=id hW
 obtain ⟨⟨db,f0,hbo,hF⟩,as,hrl,hR⟩:=id hB
 k_mem
 refine fgo hob T.aS T.aP rfl ?_
 k_mem
 refine mgo hbo rfl ⟨_,_,_,_,_,rfl,hB,fun s0 ⟨A0,hA0⟩=>?_⟩
 k_mem
 refine mgo hA0.ob rfl ⟨_,_,_,_,_,rfl,hA0.at,hrl,hls,fun s1 A H1 e1 hs1 ho1 hb1 hf1 hy1 hw1 hA=>?_⟩
 have hW1:=hW.same e1
 have hob1:=e1 _ _ hob
 have hbo1:=e1 _ _ hbo
 have hrl1:=e1 _ _ hrl
 have hdl1:=e1 _ _ hdl
 k_mem
 refine fgo hob1 T.aS T.mJ rfl ?_
 k_mem
 refine ⟨_,.inl (SqL.of (e1 _ _ hgl)),_,_,rfl,?_⟩
 rw [WB,hgo]
 k_upd
 refine ⟨fun hk=>?_,fun h=>q1 h _ e1⟩
 k_mem
 refine mgo hob1 rfl ⟨_,_,_,_,_,_,_,rfl,hW1,hsh,h0,h1,fun H2 f2=>?_⟩
 have e2:=e1.trans f2
 replace hA:=hA.same f2
 k_mem
 cases hc:bG g.ds (ak n0 rs).place c with
 | none=>
  rw [if_pos (show lvV none=V.non from rfl)]
  k_upd
  exact ⟨by decide,q2 hk.1 hk.2 (fun l e=>by rw [hc] at e;cases e) _ e2⟩
 | some l=>
  obtain ⟨l0,l1,_⟩:=eR hc
  have l6:=hsh.l6
  k_upd
  rw [if_neg (show ¬(lvV (some l)=V.non) from fun z=>V.noConfusion z)]
  k_upd
  refine fgo hA.ob T.aJ T.bq rfl ?_
  k_mem
  obtain ⟨dy,hyb⟩:=hA.ya.ob
  k_upd
  refine ⟨_,_,hyb,rfl,_,_,_,_,_,_,rfl,hA.ya,fun p hp=>?_⟩
  have e3:=e2.lay (o:=HO.lst ((ak n0 rs).ws.map V.int)) hp
  have f3:=(av.refl H2).lay (o:=HO.lst ((ak n0 rs).ws.map V.int)) hp
  have hq3:upd H2 p (HO.lst ((ak n0 rs).ws.map V.int)) p=some (HO.lst ((ak n0 rs).ws.map V.int)):=ag
  replace hA:=hA.same f3
  generalize upd H2 p (HO.lst ((ak n0 rs).ws.map V.int))=H3 at *
  k_mem
  refine ⟨_,SqL.of hq3,_,dh hk.1 hk.2,?_⟩
  simp only [lvV]
  k_mem
  split
  ·rename_i hne
   k_upd
   exact ⟨by decide,q2 hk.1 hk.2 (fun l' e=>by rw [hc] at e;cases e;exact hne) _ e3⟩
  ·rename_i hne
   have heq:(ak n0 rs).ws.getD k.toNat 0=l:=Decidable.not_not.mp hne
   k_upd
   refine fgo hA.ob T.aJ T.bq rfl ?_
   k_mem
   obtain ⟨dy,hyb⟩:=hA.ya.ob
   k_upd
   refine ⟨_,_,hyb,rfl,_,_,_,_,_,_,_,_,rfl,hA.ya,h0,h1,fun h=>absurd hk h,fun _ _ h=>by omega,fun _ _ _ h H' s'=>q3 l hk.1 hk.2 hc heq h H' (e3.trans s'),fun _ _ _ hni H4 k4 hw4=>?_⟩
   have e4:=e3.keeps k4 hw1
   have hA4:=hA.spots k4 hw4
   clear k4 hw4
   k_mem
   refine mgo (e4 _ _ hob) rfl ⟨_,_,_,_,_,_,_,rfl,hW.same e4,l0,by omega,fun hg=>?_,fun hg=>q4 l hk.1 hk.2 hc heq hni hg _ e4⟩
   have h3:=q5 l hk.1 hk.2 hc heq hni hg
   k_mem
   refine ⟨_,_,e4 _ _ hob,rfl,by decide,fun p hp=>?_⟩
   have e5:=e4.lay (o:=HO.tup [V.str (Str.ofString "load"),V.int k,V.int c]) hp
   have f5:=(av.refl H4).lay (o:=HO.tup [V.str (Str.ofString "load"),V.int k,V.int c]) hp
   k_upd
   refine ⟨_,_,_,_,_,_,p,s1,1,ddV (.load k c),cI g (ak n0 rs) (.load k c),rfl,hW.same e5,SqT.of (by rw [ag];rfl),?_,?_,fun h H' s'=>h3.1 h H' (e5.trans s'),fun h H' k9 hWn=>?_⟩
   ·exact (aT.at hA4).same f5
   ·rw [hks];first | rfl | simp only [cI,List.length_set]
   ·k_upd
    exact h3.2 h H' ((aA.of e5).trans k9) hWn
variable (qN:KM P w K mg base (CXf P w) 6 Z.aY "load" (j7 K Z))
inductive gK (K:WA)(Z:Adr)(vs:List V)(H:Hp)(Q:VK)(E:XK):Prop | mk (w bk rl:Addr) (g:Cfg) (n0:aO) (rs:List Row) (c:Int):vs=[.ref w,.int c]->WAt (clZ Z) K H w bk rl g n0 rs->g.ls.length<=1000->g.ks.length=(ak n0 rs).ws.length->bX g.ds->(ak n0 rs).gates.length=g.ds.length->0<=c->c < 2->((¬10+c∈(ak n0 rs).ws->∀H',av H H'->E (.ref Z.hJ) none H'))->((10+c∈(ak n0 rs).ws->bG g.ds (ak n0 rs).place c=none->∀H',av H H'->E (.ref Z.iO) none H'))->((∀l,10+c∈(ak n0 rs).ws->bG g.ds (ak n0 rs).place c=some l->(ak n0 rs).gates.getD l.toNat false=false->∀H',av H H'->E (.ref Z.iR) none H'))->((∀l,10+c∈(ak n0 rs).ws->bG g.ds (ak n0 rs).place c=some l->(ak n0 rs).gates.getD l.toNat false=true->tx Z K H w bk rl g n0 rs (.unload c) Q E))->gK K Z vs H Q E
include T bT aI cq vD bu aV eo in
theorem tS:FF P w K mg base (CXf P w) 6 "unload" "Works.unload" iI mh (gK K Z):=fkF gz fun vs H Q E h=>by
 obtain ⟨w,bk,rl,g,n0,rs,c,rfl,hW,hls,hks,hsh,hgl2,h0,h1,q1,q2,q3,q4⟩:=h
 k_all
 refine seg 6 (ah (aB (dm' (pv' 0) bu hr.dn bC (pa3 (aR (pa2 aE (pv' 1))) af (pv' 2))))) fun zt6 zh6 ze6=>?_
 refine seg 5 (ae (aZ (dm' (ax (pv' 2)) vD hr.dn bC (pa2 (pv' 1) (pv' 3)))) zh6) fun zt5 zh5 ze5=>?_
 refine seg 4 (ae (aZ (dm' (pv' 0) cq hr.dn bC (pa1 (pv' 3)))) zh5) fun zt4 zh4 ze4=>?_
 refine seg 3 (ae (aM (yf (pv' 3) dI) (ah (bh T.oO (by rfl) T.oM (pa1 aE))) (aC)) zh4) fun zt3 zh3 ze3=>?_
 refine seg 2 (ae (aF (i:=3) gz.nd rfl orL (dm' (pv' 0) eo hr.dn aU (pa1 (pv' 1)))) zh3) fun zt2 zh2 ze2=>?_
 refine seg 1 (ae (aM (yf (dm' (ax (pv' 2)) bT hr.dn aU (pa1 (pv' 1))) dI) (ah (bh T.sY (by rfl) T.sX (pa1 aE))) (aC)) zh2) fun zt1 zh1 ze1=>?_
 refine ⟨_,ae (aF (i:=2) gz.nd rfl orL (cT (cT (ax (pv' 0)) aI hr.dn aU) aV hr.dn aU)) zh1,?_⟩
 obtain ⟨⟨dx,dl,gl,hob,hdl,hgl,n1,n2⟩,hB⟩:=id hW
 obtain ⟨⟨db,f0,hbo,hF⟩,as,hrl,hR⟩:=id hB
 k_mem
 refine fgo hob T.aS T.aP rfl ?_
 k_mem
 refine mgo hbo rfl ⟨_,_,_,_,_,rfl,hB,fun s0 ⟨A0,hA0⟩=>?_⟩
 k_mem
 refine mgo hA0.ob rfl ⟨_,_,_,_,_,rfl,hA0.at,hrl,hls,fun s1 A H1 e1 hs1 ho1 hb1 hf1 hy1 hw1 hA=>?_⟩
 have hW1:=hW.same e1
 have hob1:=e1 _ _ hob
 have hbo1:=e1 _ _ hbo
 have hrl1:=e1 _ _ hrl
 have hdl1:=e1 _ _ hdl
 k_mem
 refine fgo hA.ob T.aJ T.bq rfl ?_
 k_mem
 obtain ⟨dy,hyb⟩:=hA.ya.ob
 k_upd
 refine ⟨_,_,hyb,rfl,_,_,_,_,_,_,_,rfl,hA.ya,h0,h1,fun H2 f2=>?_⟩
 have e2:=e1.trans f2
 replace hA:=hA.same f2
 k_mem
 by_cases hm:10+c∈(ak n0 rs).ws
 ·rw [inC,if_pos hm]
  k_upd
  rw [if_neg (show ¬(V.int _=V.non) from fun z=>V.noConfusion z)]
  k_mem
  refine mgo (e2 _ _ hob) rfl ⟨_,_,_,_,_,_,_,rfl,hW.same e2,hsh,h0,h1,fun H3 f3=>?_⟩
  have e3:=e2.trans f3
  replace hA:=hA.same f3
  k_mem
  cases hc:bG g.ds (ak n0 rs).place c with
  | none=>
   rw [if_pos (show lvV none=V.non from rfl)]
   k_upd
   exact ⟨by decide,q2 hm hc _ e3⟩
  | some l=>
   obtain ⟨l0,l1,_⟩:=eR hc
   k_upd
   rw [if_neg (show ¬(lvV (some l)=V.non) from fun z=>V.noConfusion z)]
   k_mem
   refine mgo (e3 _ _ hob) rfl ⟨_,_,_,_,_,_,_,rfl,hW.same e3,l0,by omega,fun hg=>?_,fun hg=>q3 l hm hc hg _ e3⟩
   have h3:=q4 l hm hc hg
   k_mem
   refine fgo hA.ob T.aJ T.bq rfl ?_
   k_mem
   obtain ⟨dy,hyb⟩:=hA.ya.ob
   k_upd
   refine ⟨_,_,hyb,rfl,_,_,_,_,_,_,_,_,rfl,hA.ya,h0,h1,fun h=>absurd ⟨l0,l1⟩ h,fun _ _ h=>absurd hm h,fun _ _ _ H4 k4 hw4=>?_⟩
   have e4:=e3.keeps k4 hw1
   have hA4:aT (clZ Z) K H4 rl g s1 A (cI g (ak n0 rs) (.unload c)):=by
    have:=hA.spots k4 hw4
    simp only [cI,hc,Option.getD_some]
    exact this
   clear k4 hw4
   k_mem
   refine ⟨_,_,e4 _ _ hob,rfl,by decide,fun p hp=>?_⟩
   have e5:=e4.lay (o:=HO.tup [V.str (Str.ofString "unload"),V.int c]) hp
   have f5:=(av.refl H4).lay (o:=HO.tup [V.str (Str.ofString "unload"),V.int c]) hp
   k_upd
   refine ⟨_,_,_,_,_,_,p,s1,1,ddV (.unload c),cI g (ak n0 rs) (.unload c),rfl,hW.same e5,SqT.of (by rw [ag];rfl),?_,?_,fun h H' s'=>h3.1 h H' (e5.trans s'),fun h H' k hWn=>?_⟩
   ·exact (aT.at hA4).same f5
   ·rw [hks];first | rfl | simp only [cI,List.length_set]
   ·k_upd
    exact h3.2 h H' ((aA.of e5).trans k) hWn
 ·rw [inC,if_neg hm]
  k_upd
  rw [if_pos rfl]
  k_upd
  exact ⟨by decide,q1 hm _ e2⟩
variable (ng:KM P w K mg base (CXf P w) 6 Z.aY "unload" (gK K Z))
noncomputable def Fh (g:Cfg)(n:aO)(t:Int):List Dt:=[.flat (.int t),.tup ((kH n.e).map Dt.flat),.lst ((n.gates.map V.bl).map Dt.flat),.lst (((cN n.fs).map V.int).map Dt.flat),.tup ([V.int n.place,V.int (bY g.ds - n.place)].map Dt.flat),.lst ((n.ws.map V.int).map Dt.flat)]
noncomputable def Ib (ws:List Int):Dt:=.lst [.flat (inC ws 0),.flat (inC ws 1)]
def G8 (H:Hp)(held:Addr)(ws:List Int)(a0 a1 a2 a3 a4 a5 a6 a7 a8 a9:V)(i:Nat)(σ:St)(H':Hp):Prop:=aA held H H'/\(∃x0 x1,H' held=some (.lst [x0,x1])/\HV ws i 0 x0/\HV ws i 1 x1)/\∃t,σ=[some a0,some a1,some a2,some a3,some a4,some a5,some a6,some a7,some a8,some a9,some (.ref held),t,none,none,none]
inductive r9 (K:WA)(Z:Adr)(vs:List V)(H:Hp)(Q:VK)(E:XK):Prop | mk (H0:Hp) (wk bk rl p dl cl ll sl wl:Addr) (g:Cfg) (lds:List Ld) (n0:aO) (rs:List Row):vs=[.ref wk,.ref p,.ref sl,.ref wl]->fI (clZ Z) K H0 H p dl cl ll wk bk rl sl wl g lds n0 rs->rs.length<=300->(∀H',av H H'->Q (.bl true) H')->r9 K Z vs H Q E
include T jr qA mT qB og oh gI fZ kA c8 in
theorem Df:FF P w K mg base (CXf P w) 6 "_law_view" "_law_view" iM zw (r9 K Z):=fkF cV fun vs H Q E h=>by
 obtain ⟨H0,wk,bk,rl,p,dl,cl,ll,sl,wl,g,lds,n0,rs,rfl,hX,h300,q⟩:=h
 k_all
 obtain ⟨t2,h2,k2⟩:∃t,PSs (cxF P w K mg base ["_law_works","_law_setup_here","_law_states","_law_rows","_law_place","_law_gates","_law_lying","_law_heard_here","_law_dead","_law_clock","_law_held","_law_k","_law_waits","_law_due","_law_found"] "_law_view" (aj iM) zf zv zA zo zs H E) ((bE iM).drop 5) t/\∀(gt lt ht dt held waits due:Addr) (kk:Option V) (dv:List V) (H1:Hp),av H H1->SqT K H1 gt ((ak n0 rs).gates.map V.bl)->H1 due=some (.lst dv)->dv.length=6->kh K H1 3 dv (Fh g (ak n0 rs) (cD rs))->Rep K H1 3 (.ref held) (Ib (ak n0 rs).ws)->Rep K H1 3 (.ref waits) (AU (ak n0 rs).ws g.ds.length)->t ({nx:=fun _ H2=>Q .non H2,rt:=Q}:gQ) [some (.ref wk),some (.ref p),some (.ref sl),some (.ref wl),some (.int (ak n0 rs).place),some (.ref gt),some (.ref lt),some (.ref ht),some (.ref dt),some (.int (cD rs)),some (.ref held),kk,some (.ref waits),some (.ref due),none] H1:=by
  refine seg 3 (ah (aB (dc0 c8 hr.dn (pa2 (aQ ub (pv' 14) (bw (pa1 (cT (pv' 0) qA hr.dn aU)))) (aQ ub (pv' 13) (bw (pa3 (pv' 10) (pv' 12) (pv' 3)))))))) fun zt3 zh3 ze3=>?_
  refine seg 2 (ae (aZ (j9 PySem.F.plainAttrs_list PySem.F.slot_list_append PySem.F.type_list_append cO (pv' 14) (pa1 (ka ["_law_at_here","_law_works"] [none,some 0] (bj (by rfl) T.cj (pa1 (aG az (by rfl) T.bR bb (pa1 (pv' 5))))) (fun _ _ _ _=>(aD (i:=0) (show (["_law_at_here","_law_works"]:List Str).Nodup by decide +kernel) rfl orL)) (fun _ _ _ _=>fj) (fun _ _ _ _=>(dm' (pv' 1) kA.calm0 hr.dn aU (pa1 (pv' 0)))))))) zh3) fun zt2 zh2 ze2=>?_
  refine seg 1 (ae (aZ (j9 PySem.F.plainAttrs_list PySem.F.slot_list_append PySem.F.type_list_append cO (pv' 14) (pa1 (bw (pa2 (dm' (pv' 0) gI hr.dn aU (pa1 af)) (dm' (pv' 0) gI hr.dn aU (pa1 af))))))) zh2) fun zt1 zh1 ze1=>?_
  refine ⟨_,ae (aF (i:=14) cV.nd rfl orL (bw (cQ (cT (pv' 0) jr hr.dn aU) (cQ (cT (pv' 0) mT hr.dn aU) (pa4 (cT (pv' 0) og hr.dn aU) (cT (pv' 0) qB hr.dn aU) (cT (pv' 0) fZ hr.dn aU) (cT (pv' 0) oh hr.dn aU)))))) zh1,?_⟩
  intro gt lt ht dt held waits due kk dv H1 s1 hgt hdue hdv hrep hheld hwaits
  have hW:=(hX.same s1).da.wk
  have hg:=hX.cg
  have hn:=hX.snap
  have gl:=hn.gl
  have wl':=hn.wl
  have k30:=hg.k30
  have l6:=hg.sh.l6
  have l2:=hg.sh.l2
  have fl:=hn.fl
  obtain ⟨⟨dx,dl',gl',hob,_⟩,_⟩:=id hW
  k_mem
  refine mgo hob rfl ⟨_,_,_,_,_,_,rfl,hW,?_⟩
  k_mem
  refine mgo hob rfl ⟨_,_,_,_,_,_,rfl,hW,fun st hst=>?_⟩
  k_mem
  refine mgo hob rfl ⟨_,_,_,_,_,_,rfl,hW,fun p1 hp1=>?_⟩
  (generalize hE:upd H1 p1 _=H2 at *;have s2:=dE hE hp1;have e1:=cf hE;clear hE)
  k_mem
  refine mgo (s2 _ _ hob) rfl ⟨_,_,_,_,_,_,rfl,hW.same s2,by omega,fun p2 H3 hp2 s3 e2=>?_⟩
  have s13:=s2.trans s3
  k_mem
  refine mgo (s13 _ _ hob) rfl ⟨_,_,_,_,_,_,rfl,hW.same s13,by omega,fun p3 hp3=>?_⟩
  (generalize hE:upd H3 p3 _=H4 at *;have s4:=dE hE hp3;have e3:=cf hE;clear hE)
  have s14:=s13.trans s4
  k_mem
  refine mgo (s14 _ _ hob) rfl ⟨_,_,_,_,_,_,rfl,hW.same s14,fun p4 hp4=>?_⟩
  (generalize hE:upd H4 p4 _=H5 at *;have s5:=dE hE hp4;have e4:=cf hE;clear hE)
  have s15:=s14.trans s5
  have hf6:kh K H5 3 [.int (cD rs),.ref st,.ref p1,.ref p2,.ref p3,.ref p4] (Fh g (ak n0 rs) (cD rs)):=
   .cons (.flat rfl) (.cons (dj (s15.tup hst) (by rw [yO];decide) (rf _)) (.cons (xi (SqL.of (((s3.trans s4).trans s5) _ _ e1)) (by omega)) (.cons (ip (SqL.of ((s4.trans s5) _ _ e2)) (by have:=rn (ak n0 rs).fs;omega)) (.cons (dj (SqT.of (s5 _ _ e3)) (by show 2<=100000;decide) (zk rfl rfl)) (.cons (ip (SqL.of e4) (by omega)) .nil)))))
  k_mem
  refine ⟨by decide,fun fo hfo=>?_⟩
  (generalize hE:upd H5 fo _=H6 at *;have s6:=dE hE hfo;have e6:=cf hE;clear hE)
  have s16:=s15.trans s6
  k_upd
  refine ⟨.inl ⟨rfl,_,SqL.of e6⟩,?_⟩
  k_upd
  refine mgo (s16 _ _ hob) rfl ⟨_,_,_,_,_,_,_,rfl,hW.same s16,by omega,by omega,fun H7 s7=>?_⟩
  have s17:=s16.trans s7
  k_mem
  refine mgo (s17 _ _ hob) rfl ⟨_,_,_,_,_,_,_,rfl,hW.same s17,by omega,by omega,fun H8 s8=>?_⟩
  have s18:=s17.trans s8
  k_mem
  refine ⟨by decide,fun ic hic=>?_⟩
  (generalize hE:upd H8 ic _=H9 at *;have s9:=dE hE hic;have e9:=cf hE;clear hE)
  have s19:=s18.trans s9
  k_upd
  refine ⟨_,((s7.trans s8).trans s9) _ _ e6,by show 6 < sizeLine;decide,?_⟩
  have k10:L2.aA fo H9 (upd H9 fo (HO.lst ([V.int (cD rs),V.ref st,V.ref p1,V.ref p2,V.ref p3,V.ref p4]++[V.ref ic]))):=(aA.of (av.refl H9)).put
  have e10:upd H9 fo (HO.lst ([V.int (cD rs),V.ref st,V.ref p1,V.ref p2,V.ref p3,V.ref p4]++[V.ref ic])) fo=some (HO.lst [V.int (cD rs),V.ref st,V.ref p1,V.ref p2,V.ref p3,V.ref p4,V.ref ic]):=ag
  have ffo:H5 fo=none:=hfo
  generalize upd H9 fo (HO.lst ([V.int (cD rs),V.ref st,V.ref p1,V.ref p2,V.ref p3,V.ref p4]++[V.ref ic]))=H10 at *
  have nic:ic≠fo:=fun z=>by
   have:=(s7.trans s8) _ _ e6
   rw [←z,hic] at this
   cases this
  have s5A:av H5 H10:=(((s6.trans s7).trans s8).trans s9).keeps k10 ffo
  have s1A:av H1 H10:=s15.trans s5A
  have eicA:H10 ic=some (HO.lst [inC (ak n0 rs).ws 0,inC (ak n0 rs).ws 1]):=k10 _ _ nic e9
  k_mem
  refine ⟨.inl ⟨rfl,_,SqL.of e10⟩,?_⟩
  k_upd
  refine ⟨_,.inr (s1A.tup hgt),by omega,by rw [WB];omega,?_⟩
  rw [WB,Int.toNat_natCast,gl]
  refine pD (fun i acc H'=>av H10 H'/\∃as:List Addr,acc=as.map V.ref/\dN H' (ak n0 rs).ws as i/\∀a∈as,H10 a=none) ⟨av.refl _,[],rfl,dN.nil,fun a h=>by cases h⟩ rfl ?_ ?_
  ·rintro i acc H' hi ⟨sx,as,rfl,hws,hfr⟩
   k_upd
   refine ⟨by rw [WB,hws.1,sizeLine_eq];omega,fun N hN=>?_⟩
   have s1x:=s1A.trans sx
   k_mem
   refine mgo (s1x _ _ hob) rfl ⟨_,_,_,_,_,_,_,rfl,hW.same s1x,by omega,fun _ pp H'' hpp sy epp=>?_,fun z=>absurd ⟨by omega,by omega⟩ z⟩
   refine hN _ _ ⟨sx.trans sy,as++[pp],by rw [List.map_append];rfl,(hws.same sy).push (by rw [Int.zero_add] at epp;exact epp),fun a ha=>?_⟩
   rcases List.mem_append.mp ha with ha | ha
   ·exact hfr a ha
   ·rw [List.mem_singleton] at ha
    rw [ha]
    exact sx.free hpp
  rintro acc HA ⟨sx,as,rfl,hws,hfr⟩ al hal
  (generalize hE:upd HA al _=HB at *;have sy:=dE hE hal;have eal:=cf hE;clear hE)
  have sAB:=sx.trans sy
  k_mem
  refine ⟨_,sAB _ _ e10,by show 7 < sizeLine;decide,?_⟩
  have k11:L2.aA fo HB (upd HB fo (HO.lst ([V.int (cD rs),V.ref st,V.ref p1,V.ref p2,V.ref p3,V.ref p4,V.ref ic]++[V.ref al]))):=(aA.of (av.refl HB)).put
  have e11:upd HB fo (HO.lst ([V.int (cD rs),V.ref st,V.ref p1,V.ref p2,V.ref p3,V.ref p4,V.ref ic]++[V.ref al])) fo=some (HO.lst [V.int (cD rs),V.ref st,V.ref p1,V.ref p2,V.ref p3,V.ref p4,V.ref ic,V.ref al]):=ag
  generalize upd HB fo (HO.lst ([V.int (cD rs),V.ref st,V.ref p1,V.ref p2,V.ref p3,V.ref p4,V.ref ic]++[V.ref al]))=HC at *
  have s5C:av H5 HC:=(s5A.trans sAB).keeps k11 ffo
  have s1C:av H1 HC:=s15.trans s5C
  have eicC:=k11 _ _ nic (sAB _ _ eicA)
  have ealC:=k11 _ _ (fun z=>by have:=sx _ _ e10;rw [←z,hal] at this;cases this) eal
  have hwsC:dN HC (ak n0 rs).ws as g.ds.length:=⟨hws.1,fun j a e=>k11 _ _ (fun z=>by
   have:=hfr a (List.mem_of_getElem? e)
   rw [z,e10] at this
   cases this) (sy _ _ (hws.2 j a e))⟩
  have hWC:=hW.same s1C
  have hX1:=hX.same s1
  obtain ⟨bs,hwl,hB⟩:=hX1.da.ro
  k_mem
  refine mgo (s1C _ _ hob) rfl ⟨_,_,_,_,_,_,rfl,hWC,by omega,fun bp bas HD hbp sD ebp hbt=>?_⟩
  k_mem
  refine ⟨by decide,fun l1 hl1=>?_⟩
  (generalize hE:upd HD l1 _=HE at *;have sE:=dE hE hl1;have eE:=cf hE;clear hE)
  have sCE:=sD.trans sE
  have s1E:=s1C.trans sCE
  k_upd
  refine ⟨_,sCE _ _ e11,_,eE,by show 9<=sizeLine;decide,fun fo2 hfo2=>?_⟩
  have sF:=(av.refl HE).lay (o:=HO.lst ([V.int (cD rs),V.ref st,V.ref p1,V.ref p2,V.ref p3,V.ref p4,V.ref ic,V.ref al]++[V.ref bp])) hfo2
  have eF:upd HE fo2 (HO.lst ([V.int (cD rs),V.ref st,V.ref p1,V.ref p2,V.ref p3,V.ref p4,V.ref ic,V.ref al]++[V.ref bp])) fo2=some (HO.lst [V.int (cD rs),V.ref st,V.ref p1,V.ref p2,V.ref p3,V.ref p4,V.ref ic,V.ref al,V.ref bp]):=ag
  generalize upd HE fo2 (HO.lst ([V.int (cD rs),V.ref st,V.ref p1,V.ref p2,V.ref p3,V.ref p4,V.ref ic,V.ref al]++[V.ref bp]))=HF at *
  have s1F:=s1E.trans sF
  k_upd
  refine ⟨by decide,fun l2 hl2=>?_⟩
  (generalize hE:upd HF l2 _=HG at *;have sG:=dE hE hl2;have eG:=cf hE;clear hE)
  have s1G:=s1F.trans sG
  k_upd
  refine ⟨_,s1G _ _ hdue,_,eG,by rw [hdv];show 9<=sizeLine;decide,fun du2 hdu2=>?_⟩
  (generalize hE:upd HG du2 _=HH at *;have sH:=dE hE hdu2;have eH:=cf hE;clear hE)
  have s1H:=s1G.trans sH
  have sEH:=(sF.trans sG).trans sH
  have hdeeds:=hX.da.run.deeds
  k_upd
  refine ⟨_,_,.lst (Fh g (ak n0 rs) (cD rs)++[Ib (ak n0 rs).ws,AU (ak n0 rs).ws g.ds.length,Hx rs]),rfl,?_,?_,fun HI sI=>q HI ((s1.trans s1H).trans sI)⟩
  ·refine kh.rep (xs:=[V.int (cD rs),V.ref st,V.ref p1,V.ref p2,V.ref p3,V.ref p4]++[V.ref ic,V.ref al,V.ref bp]) ((hf6.same (((s5C.trans sCE).trans sEH))).append (.cons ?_ (.cons ?_ (.cons ?_ .nil)))) (SqL.of ((sG.trans sH) _ _ eF)) (by show 9<=100000;decide)
   ·exact yQ (SqL.of ((sCE.trans sEH) _ _ eicC)) (.flat (l3 _ _)) (.flat (l3 _ _))
   ·exact xm (SqL.of ((sCE.trans sEH) _ _ ealC)) (hwsC.same (sCE.trans sEH)) (by omega) (by omega)
   ·exact y8 (SqL.of ((sE.trans sEH) _ _ ebp)) (hbt.same (sE.trans sEH)) hdeeds (by omega)
  ·refine kh.rep ((hrep.same s1H).append (.cons (hheld.same s1H) (.cons (hwaits.same s1H) (.cons ?_ .nil)))) (SqL.of eH) (by rw [List.length_append,hdv];show 9<=100000;decide)
   exact y8 (SqL.of (s1H _ _ hwl)) (hB.same s1H) hdeeds (by omega)
 obtain ⟨t1,h1,k1⟩:∃t,PSs (cxF P w K mg base ["_law_works","_law_setup_here","_law_states","_law_rows","_law_place","_law_gates","_law_lying","_law_heard_here","_law_dead","_law_clock","_law_held","_law_k","_law_waits","_law_due","_law_found"] "_law_view" (aj iM) zf zv zA zo zs H E) ((bE iM).drop 3) t/\∀(gt lt ht dt held:Addr) (kk:Option V) (H1:Hp),av H H1->SqT K H1 gt ((ak n0 rs).gates.map V.bl)->H1 lt=some (.tup ((ak n0 rs).ws.map V.int))->SqT K H1 ht (kH (ak n0 rs).e)->SqT K H1 dt ((cN (ak n0 rs).fs).map V.int)->H1 held=some (.lst [inC (ak n0 rs).ws 0,inC (ak n0 rs).ws 1])->t ({nx:=fun _ H2=>Q .non H2,rt:=Q}:gQ) [some (.ref wk),some (.ref p),some (.ref sl),some (.ref wl),some (.int (ak n0 rs).place),some (.ref gt),some (.ref lt),some (.ref ht),some (.ref dt),some (.int (cD rs)),some (.ref held),kk,none,none,none] H1:=by
  refine seg 1 (ae (aF (i:=13) cV.nd rfl orL (bw (cQ (pv' 9) (cQ (pv' 7) (pa4 (bc aX (by rfl) T.dC cB (pa1 (pv' 5))) (bc aX (by rfl) T.dC cB (pa1 (pv' 8))) (aR (pa2 (pv' 4) (aQ di (ao au (ao au (pv' 1) af) (j8 dY af)) (pv' 4)))) (bc aX (by rfl) T.dC cB (pa1 (pv' 6)))))))) h2) fun zt1 zh1 ze1=>?_
  refine ⟨_,ae (Jw ["_law_at_here","_law_lying"] "_law_at_here" [none,some 6] (iy:=12) cV.nd rfl rfl (bj (by rfl) T.cj (pa1 (aG az (by rfl) T.bR bb (pa1 (pv' 5))))) (fun _ _ _ _=>(aD (i:=0) (show (["_law_at_here","_law_lying"]:List Str).Nodup by decide +kernel) rfl (Or.inr rfl))) (fun _ _ _ _=>fj) (fun _ _ _ _=>(ka ["_law_k","_law_lying","_law_at_here"] [none,some 1,some 0] (bj (by rfl) T.cj (pa1 (aG (show fK _ (.builtin "len") (Ew K) from az) (by rfl) T.bR bb (pa1 (pv' 1))))) (fun _ _ _ _=>(aD (i:=0) (show (["_law_k","_law_lying","_law_at_here"]:List Str).Nodup by decide +kernel) rfl orL)) (fun _ _ _ _=>(kD (bH (ao (show IxR _ (pK K) from aw) (pv' 1) (pv' 0)) (pv' 2)))) (fun _ _ _ _=>(pv' 0))))) zh1,?_⟩
  intro gt lt ht dt held kk H1 s1 h2 h3 h4 h5 hheld
  have hg:=hX.cg
  have hn:=hX.snap
  have gl:=hn.gl
  have wl':=hn.wl
  have k30:=hg.k30
  have l6:=hg.sh.l6
  have l2:=hg.sh.l2
  have fl:=hn.fl
  have hP:=hX.setup.same s1
  k_mem
  refine ⟨_,.inr h2,by omega,by rw [WB];omega,?_⟩
  rw [WB,Int.toNat_natCast,gl]
  refine pD (fun i acc H'=>av H1 H'/\∃as:List Addr,acc=as.map V.ref/\dN H' (ak n0 rs).ws as i) ⟨av.refl _,[],rfl,dN.nil⟩ rfl ?_ ?_
  ·rintro i acc H' hi ⟨sx,as,rfl,hws⟩
   k_upd
   refine ⟨by rw [WB,hws.1,sizeLine_eq];omega,fun N hN=>?_⟩
   k_mem
   refine ⟨_,.inr (SqT.of (sx _ _ h3)),by omega,by rw [WB];omega,?_⟩
   rw [WB,Int.toNat_natCast]
   refine eO (fun j=>decide ((ak n0 rs).ws.getD j 0=(i:Int))) (fun (j:Nat)=>.int (j:Int)) (by rw [sizeLine_eq];omega) rfl (fun j hj N hN=>?_) (fun j hj _ N hN=>?_) fun lv hlv=>?_
   ·k_mem
    k_upd
    refine ⟨_,SqT.of (sx _ _ h3),_,by rw [Int.zero_add];exact gg hj,?_⟩
    k_mem
    rw [Int.zero_add]
    by_cases e:(ak n0 rs).ws.getD j 0=(i:Int)
    ·rw [if_pos e];rw [decide_eq_true e] at hN;exact hN
    ·rw [if_neg e];rw [decide_eq_false e] at hN;exact hN
   ·k_mem
    rw [Int.zero_add]
    exact hN
   ·refine hN _ _ ⟨sx.lay hlv,as++[lv],by rw [List.map_append];rfl,(hws.same ((av.refl H').lay hlv)).push ?_⟩
    rw [ag]
    unfold iq vR
    rw [List.map_map];rfl
  rintro acc H2 ⟨sx,as,rfl,hws⟩ wt hwt
  have s3:=sx.lay (o:=HO.lst (as.map V.ref)) hwt
  (generalize hE:upd H2 wt _=H3 at *;have f3:=dE hE hwt;have ewt:=cf hE;clear hE)
  have s13:=s1.trans s3
  k_mem
  refine ⟨_,.inr (s3.tup h2),fun p1 hp1=>?_⟩
  (generalize hE:upd H3 p1 _=H4 at *;have f4:=dE hE hp1;have e4:=cf hE;clear hE)
  k_upd
  refine ⟨_,.inr ((s3.trans f4).tup h5),fun p2 hp2=>?_⟩
  (generalize hE:upd H4 p2 _=H5 at *;have f5:=dE hE hp2;have e5:=cf hE;clear hE)
  have s15:=(s3.trans f4).trans f5
  k_upd
  refine ⟨_,SqL.of (s15 _ _ hP.ob),_,rfl,?_⟩
  k_mem
  refine ⟨_,SqL.of (s15 _ _ hP.od),_,Ap (by omega),?_⟩
  k_mem
  refine ⟨by decide,fun p3 hp3=>?_⟩
  (generalize hE:upd H5 p3 _=H6 at *;have f6:=dE hE hp3;have e6:=cf hE;clear hE)
  have s16:=s15.trans f6
  k_upd
  refine ⟨_,.inr (SqT.of (s16 _ _ h3)),fun p4 hp4=>?_⟩
  (generalize hE:upd H6 p4 _=H7 at *;have f7:=dE hE hp4;have e7:=cf hE;clear hE)
  have s17:=s16.trans f7
  k_upd
  refine ⟨by decide,fun du hdu=>?_⟩
  (generalize hE:upd H7 du _=H8 at *;have f8:=dE hE hdu;have e8:=cf hE;clear hE)
  have s18:=s17.trans f8
  refine k2 gt lt ht dt held wt du kk _ H8 (s1.trans s18) (s18.tup h2) e8 rfl ?_ ?_ ?_
  ·exact .cons (.flat rfl) (.cons (dj (s18.tup h4) (by rw [yO];decide) (rf _)) (.cons (xi (SqL.of ((((f5.trans f6).trans f7).trans f8) _ _ e4)) (by omega)) (.cons (ip (SqL.of (((f6.trans f7).trans f8) _ _ e5)) (by have:=rn (ak n0 rs).fs;omega)) (.cons (dj (SqT.of ((f7.trans f8) _ _ e6)) (by show 2<=100000;decide) (zk rfl rfl)) (.cons (ip (SqL.of (f8 _ _ e7)) (by omega)) .nil)))))
  ·exact yQ (SqL.of (s18 _ _ hheld)) (.flat (l3 _ _)) (.flat (l3 _ _))
  ·have f38:=(((f4.trans f5).trans f6).trans f7).trans f8
   exact xm (SqL.of (f38 _ _ ewt)) ((hws.same f3).same f38) (by omega) (by omega)
 refine seg 2 (ae (cR yJ rfl (bj (by rfl) T.cj (pa1 (aG az (by rfl) T.bR bb (pa1 (pv' 6))))) (aD (i:=11) cV.nd rfl orL) (ah (aM (B2 (ao aw (pv' 6) (pv' 11)) af) (ah (kB (pv' 11) (qR (pv' 10) (aQ di (ao aw (pv' 6) (pv' 11)) af) g9))) (aC)))) h1) fun zt2 zh2 ze2=>?_
 refine seg 1 (ae (aF (i:=10) cV.nd rfl orL (bw (pa2 dI dI))) zh2) fun zt1 zh1 ze1=>?_
 refine ⟨_,ae (kB (ao au (pv' 2) (j8 dY af)) (dZ rfl (aH (aD (i:=4) cV.nd rfl orL) (aH (aD (i:=5) cV.nd rfl orL) (aH (aD (i:=6) cV.nd rfl (Or.inr rfl)) (aH (aD (i:=7) cV.nd rfl orL) (aH (aD (i:=8) cV.nd rfl orL) (aH (aD (i:=9) cV.nd rfl orL) cZ)))))))) zh1,?_⟩
 obtain ⟨hW,⟨as,hsl,hA⟩,⟨bs,hwl,hB⟩,hNs,hNw,hne,hrun⟩:=id hX.da
 have hg:=hX.cg
 have hn:=hX.snap
 have wl':=hn.wl
 have k30:=hg.k30
 have l6:=hg.sh.l6
 obtain ⟨as1,a,rfl,hSt⟩:=Ay hA
 obtain ⟨gt,lt,ht,dt,h1,h2,h3,h4,h5⟩:=hSt.un
 k_mem
 refine ⟨_,SqL.of hsl,_,ny,?_⟩
 k_mem
 refine ⟨_,h1,rfl,?_⟩
 k_mem
 refine ⟨by decide,fun held hheld=>?_⟩
 (generalize hE:upd H held _=H1 at *;have f1:=dE hE hheld;have e1:=cf hE;clear hE)
 k_upd
 refine ⟨_,.inr (SqT.of (f1 _ _ h3)),by omega,by rw [WB];omega,?_⟩
 rw [WB,Int.toNat_natCast]
 k_upd
 refine bK (G8 H1 held (ak n0 rs).ws (.ref wk) (.ref p) (.ref sl) (.ref wl) (.int (ak n0 rs).place) (.ref gt) (.ref lt) (.ref ht) (.ref dt) (.int (cD rs))) ⟨aA.of (av.refl _),⟨_,_,e1,HV.nil,HV.nil⟩,_,rfl⟩ ?_ ?_
 ·rintro i σ H2 hi ⟨k2,⟨x0,x1,ex,v0,v1⟩,t,rfl⟩
  have hlt:=f1.keeps k2 hheld _ _ h3
  have hwr:=hn.wr _ (cM hi)
  k_mem
  refine ⟨_,SqT.of hlt,_,by rw [Int.zero_add];exact gg hi,?_⟩
  k_mem
  split
  ·rename_i h10
   k_upd
   refine ⟨_,SqT.of hlt,_,by rw [Int.zero_add];exact gg hi,?_⟩
   k_mem
   rcases (by omega:(ak n0 rs).ws.getD i 0=10\/(ak n0 rs).ws.getD i 0=11) with e | e
   ·rw [e]
    k_upd
    refine ⟨_,ex,0,rfl,?_⟩
    rw [Int.zero_add]
    k_upd
    exact ⟨k2.put,⟨_,_,ag,HV.yes (by rw [e];rfl),v1.no (by rw [e];decide)⟩,_,rfl⟩
   ·rw [e]
    k_upd
    refine ⟨_,ex,1,rfl,?_⟩
    rw [Int.zero_add]
    k_upd
    exact ⟨k2.put,⟨_,_,ag,v0.no (by rw [e];decide),HV.yes (by rw [e];rfl)⟩,_,rfl⟩
  ·rename_i h10
   k_upd
   exact ⟨k2,⟨_,_,ex,v0.no (by omega),v1.no (by omega)⟩,_,rfl⟩
 ·rintro σ H2 ⟨k2,⟨x0,x1,ex,v0,v1⟩,t,rfl⟩
  have s2:=f1.keeps k2 hheld
  rw [v0.all hn (by omega),v1.all hn (by omega)] at ex
  exact k1 gt lt ht dt held t H2 s2 (s2.tup h2) (s2 _ _ h3) (s2.tup h4) (s2.tup h5) ex
variable (zR:KD P w K mg base (CXf P w) 6 "_law_view" (r9 K Z))
noncomputable def Lk (Z:Adr):Rw->Addr
 | .lv=>Z.ba
 | .db=>Z.kr
 | .nc=>Z.mE
 | .nr=>Z.fg
 | .ch=>Z.fD
 | .na=>Z.iP
 | .ul=>Z.dU
 | .nt=>Z.iO
 | .ct=>Z.hG
 | .gs=>Z.iR
 | .ce=>Z.hJ
 | .go=>Z.mF
inductive sd (K:WA)(Z:Adr)(vs:List V)(H:Hp)(Q:VK)(E:XK):Prop | mk (w bk rl dd:Addr) (g:Cfg) (n0:aO) (rs:List Row):vs=[.ref w,.ref dd]->WAt (clZ Z) K H w bk rl g n0 rs->gN g->dB g (ak n0 rs)->rs.length < 300->(((∃d,SqT K H dd (ddV d)/\xU d/\(∀r,eI g (ak n0 rs) d=some r->∀H',av H H'->E (.ref (Lk Z r)) none H')/\(eI g (ak n0 rs) d=none->∀v H',aA rl H H'->WAt (clZ Z) K H' w bk rl g n0 (rs++[uw g n0 rs d])->vU K H' (ak n0 rs) (cD rs+rh g (ak n0 rs) d) d v->Q v H'))\/
  (SqT K H dd [.str "take back"]/\∃rs' r,rs=rs'++[r]/\∀p H',aA rl H H'->WAt (clZ Z) K H' w bk rl g n0 rs'->SqT K H' p r.deed->Q (.ref p) H')))->sd K Z vs H Q E
include T jq qJ mY qK qL js jt qN ng in
theorem Dg:FF P w K mg base (CXf P w) 7 "_law_call" "_law_call" vd zu (sd K Z):=fkF CN fun vs H Q E h=>by
 obtain ⟨w,bk,rl,dd,g,n0,rs,rfl,hW,hg,hn,h300,hc⟩:=h
 k_all
 refine seg 8 (ah (aB (cT (pv' 0) jq hr.dn bC))) fun zt8 zh8 ze8=>?_
 refine seg 7 (ae (aM (bH (ao aw (pv' 1) af) aE) (ah (aB (dm' (pv' 0) qK hr.dn bC (pa1 (ao aw (pv' 1) af))))) (aC)) zh8) fun zt7 zh7 ze7=>?_
 refine seg 6 (ae (aM (bH (ao aw (pv' 1) af) aE) (ah (aB (dm' (pv' 0) qL hr.dn bC (pa3 (ao aw (pv' 1) af) (ao aw (pv' 1) af) (ao aw (pv' 1) af))))) (aC)) zh7) fun zt6 zh6 ze6=>?_
 refine seg 5 (ae (aM (bH (ao aw (pv' 1) af) aE) (ah (aB (dm' (pv' 0) ng hr.dn bC (pa1 (ao aw (pv' 1) af))))) (aC)) zh6) fun zt5 zh5 ze5=>?_
 refine seg 4 (ae (aM (bH (ao aw (pv' 1) af) aE) (ah (aB (dm' (pv' 0) qN hr.dn bC (pa2 (ao aw (pv' 1) af) (ao aw (pv' 1) af))))) (aC)) zh5) fun zt4 zh4 ze4=>?_
 refine seg 3 (ae (aM (bH (ao aw (pv' 1) af) aE) (ah (aB (dm' (pv' 0) jt hr.dn bC (pa1 (ao aw (pv' 1) af))))) (aC)) zh4) fun zt3 zh3 ze3=>?_
 refine seg 2 (ae (aM (bH (ao aw (pv' 1) af) aE) (ah (aB (dm' (pv' 0) js hr.dn bC (pa1 (ao aw (pv' 1) af))))) (aC)) zh3) fun zt2 zh2 ze2=>?_
 refine seg 1 (ae (aM (bH (ao aw (pv' 1) af) aE) (ah (aB (dm' (pv' 0) mY hr.dn bC (pa1 (ao aw (pv' 1) af))))) (aC)) zh2) fun zt1 zh1 ze1=>?_
 refine ⟨_,ae (aM (bH (ao aw (pv' 1) af) aE) (ah (aB (dm' (pv' 0) qJ hr.dn bC (pa2 (ao aw (pv' 1) af) (ao aw (pv' 1) af))))) (aC)) zh1,?_⟩
 obtain ⟨⟨dx,dl,gl,hob,hdl,hgl,n1,n2⟩,hB⟩:=id hW
 have l2:=hg.sh.l2
 have l6:=hg.sh.l6
 have lc:=hg.lc
 have wl:=hn.wl
 have gk:=hg.gk
 have full:¬300<=rs.length:=by omega
 k_mem
 rcases hc with ⟨d,hD,ok,qe,q⟩ | ⟨hD,rs2,r,rfl,q⟩
 rotate_left
 ·k_upd
  refine ⟨_,hD,_,rfl,?_⟩
  k_mem
  rw [if_neg (by decide)]
  k_upd
  refine ⟨_,hD,_,rfl,?_⟩
  k_mem
  rw [if_neg (by decide)]
  k_upd
  refine ⟨_,hD,_,rfl,?_⟩
  k_mem
  rw [if_neg (by decide)]
  k_upd
  refine ⟨_,hD,_,rfl,?_⟩
  k_mem
  rw [if_neg (by decide)]
  k_upd
  refine ⟨_,hD,_,rfl,?_⟩
  k_mem
  rw [if_neg (by decide)]
  k_upd
  refine ⟨_,hD,_,rfl,?_⟩
  k_mem
  rw [if_neg (by decide)]
  k_upd
  refine ⟨_,hD,_,rfl,?_⟩
  k_mem
  rw [if_neg (by decide)]
  k_upd
  refine ⟨_,hD,_,rfl,?_⟩
  k_mem
  rw [if_neg (by decide)]
  k_upd
  exact ⟨_,_,hob,rfl,_,_,_,_,_,_,rfl,hW,fun z=>by simp at z,fun rs3 r3 e p H2 k hW2 hp=>by obtain ⟨rfl,rfl⟩:=y6 e;exact q p H2 k hW2 hp⟩
 ·cases d with
  | ring l s=>
   refine ⟨_,hD,_,rfl,?_⟩
   k_mem
   rw [if_pos rfl]
   k_upd
   refine mgo hob rfl ⟨_,hD,_,rfl,_,hD,_,rfl,?_⟩
   k_mem
   refine ⟨_,_,_,_,_,_,_,_,rfl,hW,by omega,wl.symm,fun h H2 s2=>qe .lv ?_ H2 s2,fun h h' h3 H2 s2=>qe .db ?_ H2 s2,fun h h' h3 h4 H2 s2=>qe .nc ?_ H2 s2,fun h h' h3 h4=>⟨fun z=>absurd z full,fun _ H2 k2 hW2=>q ?_ _ H2 k2 hW2 rfl⟩⟩
   ·rw [lc] at h
    exact if_pos h
   ·rw [lc] at h'
    exact (if_neg (fun z=>z ⟨h,h'⟩)).trans (if_pos h3)
   ·rw [lc] at h'
    exact (if_neg (fun z=>z ⟨h,h'⟩)).trans ((if_neg (by rw [h3];exact Bool.false_ne_true)).trans (if_neg h4))
   ·rw [lc] at h'
    exact (if_neg (fun z=>z ⟨h,h'⟩)).trans ((if_neg (by rw [h3];exact Bool.false_ne_true)).trans (if_pos h4))
  | rept s=>
   refine ⟨_,hD,_,rfl,?_⟩
   k_mem
   rw [if_neg (by decide)]
   k_upd
   refine ⟨_,hD,_,rfl,?_⟩
   k_mem
   rw [if_pos rfl]
   k_upd
   refine mgo hob rfl ⟨_,hD,_,rfl,?_⟩
   k_mem
   refine ⟨_,_,_,_,_,_,_,rfl,hW,by omega,wl.symm,fun h H2 s2=>qe .nr ?_ H2 s2,fun l r e h H2 s2=>qe .nc ?_ H2 s2,fun l r e h=>⟨fun z=>absurd z full,fun _ p H2 k2 hW2 hT=>q ?_ _ H2 k2 hW2 ⟨p,l,r,rfl,e,hT⟩⟩⟩
   ·simp only [eI]
   ·simp only [eI,e];exact if_neg h
   ·simp only [eI,e];exact if_pos h
  | opn l=>
   refine ⟨_,hD,_,rfl,?_⟩
   k_mem
   rw [if_neg (by decide)]
   k_upd
   refine ⟨_,hD,_,rfl,?_⟩
   k_mem
   rw [if_neg (by decide)]
   k_upd
   refine ⟨_,hD,_,rfl,?_⟩
   k_mem
   rw [if_pos rfl]
   k_upd
   refine mgo hob rfl ⟨_,hD,_,rfl,?_⟩
   k_mem
   refine ⟨_,_,_,_,_,_,_,rfl,hW,by omega,wl.symm,hn.gl,fun h H2 s2=>qe .lv (if_pos h) H2 s2,fun h h' h3 H2 s2=>qe .ch ((if_neg (fun z=>z ⟨h,h'⟩)).trans (if_pos h3)) H2 s2,fun h h' h3=>⟨fun z=>absurd z full,fun _ H2 k2 hW2=>q ((if_neg (fun z=>z ⟨h,h'⟩)).trans (if_neg (by rw [h3];decide))) _ H2 k2 hW2 rfl⟩⟩
  | sht l=>
   refine ⟨_,hD,_,rfl,?_⟩
   k_mem
   rw [if_neg (by decide)]
   k_upd
   refine ⟨_,hD,_,rfl,?_⟩
   k_mem
   rw [if_neg (by decide)]
   k_upd
   refine ⟨_,hD,_,rfl,?_⟩
   k_mem
   rw [if_neg (by decide)]
   k_upd
   refine ⟨_,hD,_,rfl,?_⟩
   k_mem
   rw [if_pos rfl]
   k_upd
   refine mgo hob rfl ⟨_,hD,_,rfl,?_⟩
   k_mem
   refine ⟨_,_,_,_,_,_,_,rfl,hW,by omega,wl.symm,hn.gl,fun h H2 s2=>qe .lv (if_pos h) H2 s2,fun h h' h3 H2 s2=>qe .ch ((if_neg (fun z=>z ⟨h,h'⟩)).trans (if_pos h3)) H2 s2,fun h h' h3=>⟨fun z=>absurd z full,fun _ H2 k2 hW2=>q ((if_neg (fun z=>z ⟨h,h'⟩)).trans (if_neg (by rw [h3];decide))) _ H2 k2 hW2 rfl⟩⟩
  | load k c=>
   refine ⟨_,hD,_,rfl,?_⟩
   k_mem
   rw [if_neg (by decide)]
   k_upd
   refine ⟨_,hD,_,rfl,?_⟩
   k_mem
   rw [if_neg (by decide)]
   k_upd
   refine ⟨_,hD,_,rfl,?_⟩
   k_mem
   rw [if_neg (by decide)]
   k_upd
   refine ⟨_,hD,_,rfl,?_⟩
   k_mem
   rw [if_neg (by decide)]
   k_upd
   refine ⟨_,hD,_,rfl,?_⟩
   k_mem
   rw [if_pos rfl]
   k_upd
   refine mgo hob rfl ⟨_,hD,_,rfl,_,hD,_,rfl,?_⟩
   k_mem
   refine ⟨_,_,_,_,_,_,_,_,rfl,hW,by omega,wl.symm,hg.sh,hn.gl,by omega,ok.1,ok.2,fun h H2 s2=>qe .ul (if_pos h) H2 s2,fun h h' h3 H2 s2=>qe .nt ?_ H2 s2,fun l h h' hl h3 h4 H2 s2=>qe .ct ?_ H2 s2,fun l h h' hl h3 h4 h5 H2 s2=>qe .gs ?_ H2 s2,fun l h h' hl h3 h4 h5=>⟨fun z=>absurd z full,fun _ H2 k2 hW2=>q ?_ _ H2 k2 hW2 rfl⟩⟩
   ·refine (if_neg (fun z=>z ⟨h,h'⟩)).trans ?_
    cases hl:bG g.ds (ak n0 rs).place c with
    | none=>rfl
    | some l=>exact if_pos (h3 l hl)
   ·refine (if_neg (fun z=>z ⟨h,h'⟩)).trans ?_
    rw [hl]
    exact (if_neg (fun z=>z h3)).trans (if_pos h4)
   ·refine (if_neg (fun z=>z ⟨h,h'⟩)).trans ?_
    rw [hl]
    exact (if_neg (fun z=>z h3)).trans ((if_neg h4).trans (if_neg (by rw [h5];exact Bool.false_ne_true)))
   ·refine (if_neg (fun z=>z ⟨h,h'⟩)).trans ?_
    rw [hl]
    exact (if_neg (fun z=>z h3)).trans ((if_neg h4).trans (if_pos h5))
  | unload c=>
   refine ⟨_,hD,_,rfl,?_⟩
   k_mem
   rw [if_neg (by decide)]
   k_upd
   refine ⟨_,hD,_,rfl,?_⟩
   k_mem
   rw [if_neg (by decide)]
   k_upd
   refine ⟨_,hD,_,rfl,?_⟩
   k_mem
   rw [if_neg (by decide)]
   k_upd
   refine ⟨_,hD,_,rfl,?_⟩
   k_mem
   rw [if_neg (by decide)]
   k_upd
   refine ⟨_,hD,_,rfl,?_⟩
   k_mem
   rw [if_neg (by decide)]
   k_upd
   refine ⟨_,hD,_,rfl,?_⟩
   k_mem
   rw [if_pos rfl]
   k_upd
   refine mgo hob rfl ⟨_,hD,_,rfl,?_⟩
   k_mem
   refine ⟨_,_,_,_,_,_,_,rfl,hW,by omega,wl.symm,hg.sh,hn.gl,ok.1,ok.2,fun h H2 s2=>qe .ce (if_pos h) H2 s2,fun h hl H2 s2=>qe .nt ?_ H2 s2,fun l h hl h3 H2 s2=>qe .gs ?_ H2 s2,fun l h hl h3=>⟨fun z=>absurd z full,fun _ H2 k2 hW2=>q ?_ _ H2 k2 hW2 rfl⟩⟩
   ·refine (if_neg (fun z=>z h)).trans ?_
    simp only [hl]
   ·refine (if_neg (fun z=>z h)).trans ?_
    rw [hl]
    exact if_neg (by rw [h3];exact Bool.false_ne_true)
   ·refine (if_neg (fun z=>z h)).trans ?_
    rw [hl]
    exact if_pos h3
  | wind c l k=>
   refine ⟨_,hD,_,rfl,?_⟩
   k_mem
   rw [if_neg (by decide)]
   k_upd
   refine ⟨_,hD,_,rfl,?_⟩
   k_mem
   rw [if_neg (by decide)]
   k_upd
   refine ⟨_,hD,_,rfl,?_⟩
   k_mem
   rw [if_neg (by decide)]
   k_upd
   refine ⟨_,hD,_,rfl,?_⟩
   k_mem
   rw [if_neg (by decide)]
   k_upd
   refine ⟨_,hD,_,rfl,?_⟩
   k_mem
   rw [if_neg (by decide)]
   k_upd
   refine ⟨_,hD,_,rfl,?_⟩
   k_mem
   rw [if_neg (by decide)]
   k_upd
   refine ⟨_,hD,_,rfl,?_⟩
   k_mem
   rw [if_pos rfl]
   have sp:=hg.speed (ak n0 rs)
   k_upd
   refine mgo hob rfl ⟨_,hD,_,rfl,_,hD,_,rfl,_,hD,_,rfl,?_⟩
   k_mem
   refine ⟨_,_,_,_,_,_,_,_,_,rfl,hW,by omega,wl.symm,hg.sh,hn.gl,lc,sp.1,sp.2,ok.2,fun h H2 s2=>qe .lv (if_pos h) H2 s2,fun h h' h3 H2 s2=>qe .go ((if_neg (fun z=>z ⟨h,h'⟩)).trans (if_pos h3)) H2 s2,fun h h' h3 h4 H2 s2=>qe .na ((if_neg (fun z=>z ⟨h,h'⟩)).trans ((if_neg (by rw [h3];exact Bool.false_ne_true)).trans (if_neg h4))) H2 s2,fun h h' h3 h4=>⟨fun z=>absurd z full,fun _ H2 k2 hW2=>q ((if_neg (fun z=>z ⟨h,h'⟩)).trans ((if_neg (by rw [h3];exact Bool.false_ne_true)).trans (if_pos h4))) _ H2 k2 hW2 rfl⟩⟩
  | fail l=>
   refine ⟨_,hD,_,rfl,?_⟩
   k_mem
   rw [if_neg (by decide)]
   k_upd
   refine ⟨_,hD,_,rfl,?_⟩
   k_mem
   rw [if_neg (by decide)]
   k_upd
   refine ⟨_,hD,_,rfl,?_⟩
   k_mem
   rw [if_neg (by decide)]
   k_upd
   refine ⟨_,hD,_,rfl,?_⟩
   k_mem
   rw [if_neg (by decide)]
   k_upd
   refine ⟨_,hD,_,rfl,?_⟩
   k_mem
   rw [if_neg (by decide)]
   k_upd
   refine ⟨_,hD,_,rfl,?_⟩
   k_mem
   rw [if_neg (by decide)]
   k_upd
   refine ⟨_,hD,_,rfl,?_⟩
   k_mem
   rw [if_neg (by decide)]
   k_upd
   refine ⟨_,hD,_,rfl,?_⟩
   k_mem
   rw [if_pos rfl]
   k_upd
   refine mgo hob rfl ⟨_,hD,_,rfl,?_⟩
   k_mem
   refine ⟨_,_,_,_,_,_,_,rfl,hW,by omega,wl.symm,fun h H2 s2=>qe .lv ?_ H2 s2,fun h h' h3 H2 s2=>qe .ch ?_ H2 s2,fun h h' h3=>⟨fun z=>absurd z full,fun _ H2 k2 hW2=>q ?_ _ H2 k2 hW2 rfl⟩⟩
   ·rw [lc] at h
    exact if_pos h
   ·rw [lc] at h'
    exact (if_neg (fun z=>z ⟨h,h'⟩)).trans (if_pos h3)
   ·rw [lc] at h'
    exact (if_neg (fun z=>z ⟨h,h'⟩)).trans (if_neg (by rw [h3];exact Bool.false_ne_true))
variable (zS:KD P w K mg base (CXf P w) 7 "_law_call" (sd K Z))
inductive se (K:WA)(Z:Adr)(vs:List V)(H:Hp)(Q:VK)(E:XK):Prop | mk (H0:Hp) (tw su ss rr w0 bk0 rl0 p0 dl0 cl0 ll0 sl0 wl0 w1 bk1 rl1 p1 dl1 cl1 ll1 sl1 wl1:Addr) (g0 g1:Cfg) (lds:List Ld) (n0 n1:aO) (rs0 rs1:List Row):vs=[.ref tw,.ref su,.ref ss,.ref rr]->H tw=some (.lst [.ref w0,.ref w1])->H su=some (.lst [.ref p0,.ref p1])->H ss=some (.lst [.ref sl0,.ref sl1])->H rr=some (.lst [.ref wl0,.ref wl1])->fI (clZ Z) K H0 H p0 dl0 cl0 ll0 w0 bk0 rl0 sl0 wl0 g0 lds n0 rs0->fI (clZ Z) K H0 H p1 dl1 cl1 ll1 w1 bk1 rl1 sl1 wl1 g1 lds n1 rs1->rs0.length<=300->rs1.length<=300->(∀H',av H H'->Q (.bl true) H')->se K Z vs H Q E
include T xE oj c8 zR in
theorem Dh:FF P w K mg base (CXf P w) 7 "_law_both" "_law_both" vf zy (se K Z):=fkF xA fun vs H Q E h=>by
 obtain ⟨H0,tw,su,ss,rr,w0,bk0,rl0,p0,dl0,cl0,ll0,sl0,wl0,w1,bk1,rl1,p1,dl1,cl1,ll1,sl1,wl1,g0,g1,lds,n0,n1,rs0,rs1,rfl,etw,esu,ess,err,hX0,hX1,h0,h1,q⟩:=h
 k_all
 refine seg 1 (ah (aB fJ)) fun zt1 zh1 ze1=>?_
 refine ⟨_,ae (cR yJ rfl (bj (by rfl) T.cj (pa1 af)) (aD (i:=4) xA.nd rfl orL) (ae (aM (dw (bZ (dc zR hr.dn bC (pa4 (ao au (pv' 0) (pv' 4)) (ao au (pv' 1) (pv' 4)) (ao au (pv' 2) (pv' 4)) (ao au (pv' 3) (pv' 4)))))) (ah (aB fJ)) (aC)) (ah (aM (dw (bZ (dc0 c8 hr.dn (pa2 (cT (ao au (pv' 0) (pv' 4)) oj hr.dn aU) (dc0 xE hr.dn (pa2 (ao au (pv' 2) (pv' 4)) (ao au (pv' 3) (pv' 4)))))))) (ah (aB fJ)) (aC))))) zh1,?_⟩
 k_mem
 refine ⟨by decide,by decide,?_⟩
 k_upd
 refine bK (lo:=0) (n:=2) (fun _ σ H'=>(∃t,σ=[some (.ref tw),some (.ref su),some (.ref ss),some (.ref rr),t])/\av H H') ⟨⟨_,rfl⟩,av.refl _⟩ ?_ ?_
 ·rintro j σ' HT hj ⟨⟨t,rfl⟩,sT⟩
  rcases (by omega:j=0\/j=1) with rfl | rfl
  ·k_mem
   k_upd
   refine ⟨_,SqL.of (sT _ _ etw),_,rfl,_,SqL.of (sT _ _ esu),_,rfl,_,SqL.of (sT _ _ ess),_,rfl,_,SqL.of (sT _ _ err),_,rfl,?_⟩
   k_upd
   refine ⟨H0,w0,bk0,rl0,p0,dl0,cl0,ll0,sl0,wl0,g0,lds,n0,rs0,rfl,hX0.same sT,by omega,fun H2 s2=>?_⟩
   k_mem
   have s02:=sT.trans s2
   have hX:=hX0.same s02
   obtain ⟨dxw,dlw,glw,hobw,_⟩:=id hX.da.wk.ob
   k_upd
   refine ⟨_,SqL.of (s02 _ _ etw),_,rfl,?_⟩
   k_mem
   refine mgo hobw rfl ⟨_,_,_,_,_,_,rfl,hX.da.wk,hX.da.run.deeds,by omega,fun pr ar H3 fpr s3 epr hTr=>?_⟩
   k_mem
   have s03:=s02.trans s3
   have hX3:=hX.same s3
   obtain ⟨as,hsl,hA⟩:=hX3.da.st
   obtain ⟨bs,hwl,hB⟩:=hX3.da.ro
   k_upd
   refine ⟨_,SqL.of (s03 _ _ ess),_,rfl,_,SqL.of (s03 _ _ err),_,rfl,?_⟩
   k_upd
   refine ⟨(),sl0,wl0,as,bs,_,rs0,rfl,hsl,hA,hwl,hB,hX3.da.run.deeds,hX3.da.run.windSame,by omega,fun pq aq H4 s4 eq hT4=>?_⟩
   have hrl:=iw rs0
   have hm4:∀x∈c9 rs0,x.length<=100000/\∀v∈x,bg v=true:=fun x hx=>by have:=uF hx;exact ⟨by omega,this.2⟩
   k_upd
   refine ⟨_,_,_,rfl,pM (SqL.of (s4 _ _ epr)) (hTr.same s4) (by omega) hm4,pM (SqL.of eq) hT4 (by omega) hm4,fun H5 s5=>?_⟩
   k_mem
   exact ⟨⟨_,rfl⟩,s03.trans (s4.trans s5)⟩
  ·k_mem
   k_upd
   refine ⟨_,SqL.of (sT _ _ etw),_,rfl,_,SqL.of (sT _ _ esu),_,rfl,_,SqL.of (sT _ _ ess),_,rfl,_,SqL.of (sT _ _ err),_,rfl,?_⟩
   k_upd
   refine ⟨H0,w1,bk1,rl1,p1,dl1,cl1,ll1,sl1,wl1,g1,lds,n1,rs1,rfl,hX1.same sT,by omega,fun H2 s2=>?_⟩
   k_mem
   have s02:=sT.trans s2
   have hX:=hX1.same s02
   obtain ⟨dxw,dlw,glw,hobw,_⟩:=id hX.da.wk.ob
   k_upd
   refine ⟨_,SqL.of (s02 _ _ etw),_,rfl,?_⟩
   k_mem
   refine mgo hobw rfl ⟨_,_,_,_,_,_,rfl,hX.da.wk,hX.da.run.deeds,by omega,fun pr ar H3 fpr s3 epr hTr=>?_⟩
   k_mem
   have s03:=s02.trans s3
   have hX3:=hX.same s3
   obtain ⟨as,hsl,hA⟩:=hX3.da.st
   obtain ⟨bs,hwl,hB⟩:=hX3.da.ro
   k_upd
   refine ⟨_,SqL.of (s03 _ _ ess),_,rfl,_,SqL.of (s03 _ _ err),_,rfl,?_⟩
   k_upd
   refine ⟨(),sl1,wl1,as,bs,_,rs1,rfl,hsl,hA,hwl,hB,hX3.da.run.deeds,hX3.da.run.windSame,by omega,fun pq aq H4 s4 eq hT4=>?_⟩
   have hrl:=iw rs1
   have hm4:∀x∈c9 rs1,x.length<=100000/\∀v∈x,bg v=true:=fun x hx=>by have:=uF hx;exact ⟨by omega,this.2⟩
   k_upd
   refine ⟨_,_,_,rfl,pM (SqL.of (s4 _ _ epr)) (hTr.same s4) (by omega) hm4,pM (SqL.of eq) hT4 (by omega) hm4,fun H5 s5=>?_⟩
   k_mem
   exact ⟨⟨_,rfl⟩,s03.trans (s4.trans s5)⟩
 ·rintro σ' HT ⟨⟨t,rfl⟩,sT⟩
  k_mem
  exact q HT sT
variable (nh:KD P w K mg base (CXf P w) 7 "_law_both" (se K Z))
inductive sg (K:WA)(Z:Adr)(vs:List V)(H:Hp)(Q:VK)(E:XK):Prop | mk (H0:Hp) (w bk rl p dl cl ll sl wl dd:Addr) (g:Cfg) (lds:List Ld) (n0:aO) (rs:List Row):vs=[.ref w,.ref p,.ref sl,.ref wl,.ref dd]->fI (clZ Z) K H0 H p dl cl ll w bk rl sl wl g lds n0 rs->rs.length < 300->(((∃d,SqT K H dd (ddV d)/\xU d/\eI g (ak n0 rs) d=none/\∀H',bV rl sl wl H H'->fI (clZ Z) K H0 H' p dl cl ll w bk rl sl wl g lds n0 (rs++[uw g n0 rs d])->Q (.bl true) H')\/
  (SqT K H dd [.str "take back"]/\∃rs' r,rs=rs'++[r]/\∀H',bV rl sl wl H H'->fI (clZ Z) K H0 H' p dl cl ll w bk rl sl wl g lds n0 rs'->Q (.bl true) H')))->sg K Z vs H Q E
include T zN c8 zS in
theorem Di:FF P w K mg base (CXf P w) 8 "_law_done" "_law_done" ve zx (sg K Z):=fkF rQ fun vs H Q E h=>by
 obtain ⟨H0,w,bk,rl,p,dl,cl,ll,sl,wl,dd,g,lds,n0,rs,rfl,hX,h300,hc⟩:=h
 k_all
 refine seg 6 (ah (aB (dc0 c8 hr.dn (pa2 (pv' 5) (ao aw (ao au (pv' 2) (j8 dY af)) af))))) fun zt6 zh6 ze6=>?_
 refine seg 5 (ae (aM (bH (ao aw (pv' 4) af) aE) (ah (aB (dc0 c8 hr.dn (pa2 (pv' 5) (aR (pa3 (dJ jx (ao aw (pv' 4) af) (ao aw (pv' 6) af) (cu _)) (ao aw (pv' 6) af) (ao aw (pv' 4) af))))))) (aC)) zh6) fun zt5 zh5 ze5=>?_
 refine seg 4 (ae (aZ (j9 PySem.F.plainAttrs_list PySem.F.slot_list_append PySem.F.type_list_append cO (pv' 3) (pa1 (aR (pa3 (ao aw (ao au (pv' 2) (j8 dY af)) af) (ao aw (ao au (pv' 2) (j8 dY af)) af) (pv' 4)))))) zh5) fun zt4 zh4 ze4=>?_
 refine seg 3 (ae (aZ (j9 PySem.F.plainAttrs_list PySem.F.slot_list_append PySem.F.type_list_append cO (pv' 2) (pa1 (dc0 zN hr.dn (pa3 (pv' 1) (ao au (pv' 2) (j8 dY af)) (pv' 4)))))) zh4) fun zt3 zh3 ze3=>?_
 refine seg 2 (ae (aF (i:=6) rQ.nd rfl orL (ao aw (ao au (pv' 2) (j8 dY af)) af)) zh3) fun zt2 zh2 ze2=>?_
 refine seg 1 (ae (aM (bH (ao aw (pv' 4) af) aE) (ae (aZ (Ak PySem.F.plainAttrs_list PySem.F.slot_list_pop PySem.F.type_list_pop ye (pv' 2))) (ah (aB (dc0 c8 hr.dn (pa2 (pv' 5) (ao aw (Ak PySem.F.plainAttrs_list PySem.F.slot_list_pop PySem.F.type_list_pop ye (pv' 3)) af)))))) (aC)) zh2) fun zt1 zh1 ze1=>?_
 refine ⟨_,ae (aF (i:=5) rQ.nd rfl orL (dc zS hr.dn bC (pa2 (pv' 0) (pv' 4)))) zh1,?_⟩
 obtain ⟨hW,⟨as,hsl,hA⟩,⟨bs,hwl,hB⟩,hNs,hNw,hne,hrun⟩:=id hX.da
 have hg:=hX.cg
 have hn:=hX.snap
 obtain ⟨rr,hrl⟩:=hW.rows
 have nrs:rl≠sl:=hW.off sl hNs
 have nrw:rl≠wl:=hW.off wl hNw
 k_mem
 rcases hc with ⟨d,hD,ok,hrf,q⟩ | ⟨hD,rs2,r,rfl,q⟩
 ·k_upd
  refine ⟨w,bk,rl,dd,g,n0,rs,rfl,hW,hg,hn,h300,.inl ⟨d,hD,ok,fun r e=>(by rw [hrf] at e;cases e),fun _ v H1 k1 hW1 ans=>?_⟩⟩
  have hD1:=hD.keep k1 hrl
  have hsl1:=k1 _ _ nrs.symm hsl
  have hwl1:=k1 _ _ nrw.symm hwl
  have hA1:cJ (gS K H1) as (iu n0 rs):=hA.imp fun a x h=>h.keep k1 hrl
  have hB1:cE K H1 bs rs:=hB.keep k1 hrl
  have sa1:av H0 H1:=hX.sa.keeps k1 hX.fr
  obtain ⟨as1,a,rfl,hSt⟩:=Ay hA1
  obtain ⟨gt,lt,ht,dt,h1,h2,h3,h4,h5⟩:=hSt.un
  obtain ⟨w0,ew0,nw0⟩:=yd d
  have hal:=hA1.1
  have hbl:=hB1.1
  rw [xk,List.length_append,List.length_singleton] at hal
  k_mem
  refine ⟨_,hD1,_,ew0,?_⟩
  k_mem
  rw [if_neg nw0]
  k_upd
  refine ⟨_,SqL.of hsl1,_,ny,?_⟩
  k_mem
  refine ⟨_,h1,_,rfl,?_⟩
  k_mem
  refine ⟨.inl ⟨rfl,_,SqL.of hsl1⟩,_,SqL.of hsl1,_,ny,?_⟩
  k_mem
  refine ⟨p,dl,cl,ll,a,dd,g,lds,ak n0 rs,cD rs,d,rfl,hX.su.same sa1,hg,hn,hSt,hD1,ok,hrf,fun b H2 s2 hb=>?_⟩
  k_mem
  refine ⟨_,s2 _ _ hsl1,cw (by rw [WB,List.length_append,List.length_singleton];omega),?_⟩
  have k3:L2.aA sl H2 (upd H2 sl (HO.lst (List.map V.ref (as1++[a])++[V.ref b]))):=(aA.of (av.refl H2)).put
  have e3:upd H2 sl (HO.lst (List.map V.ref (as1++[a])++[V.ref b])) sl=some (HO.lst ((as1++[a]++[b]).map V.ref)):=by rw [ag];simp
  generalize upd H2 sl (HO.lst (List.map V.ref (as1++[a])++[V.ref b]))=H3 at *
  have hW3:=(hW1.same s2).own hNs k3 e3
  have hwl3:=k3 _ _ hne.symm (s2 _ _ hwl1)
  have hb3:=hb.keep k3 (s2 _ _ hsl1)
  have h13:=(s2.tup h1).keep k3 (s2 _ _ hsl1)
  obtain ⟨gt2,lt2,ht2,dt2,hb31,_⟩:=hb3.un
  k_mem
  refine ⟨.inl ⟨rfl,_,SqL.of hwl3⟩,_,SqL.of e3,_,GL,?_⟩
  k_mem
  refine ⟨_,h13,_,rfl,_,SqL.of e3,_,ny,?_⟩
  k_mem
  refine ⟨_,hb31,_,rfl,by decide,fun tp htp=>?_⟩
  (generalize hE:upd H3 tp _=H4 at *;have f4:=dE hE htp;have e4:=cf hE;clear hE)
  k_upd
  refine ⟨_,f4 _ _ hwl3,cw (by rw [WB];omega),?_⟩
  have k5:L2.aA wl H4 (upd H4 wl (HO.lst (List.map V.ref bs++[V.ref tp]))):=(aA.of (av.refl H4)).put
  have e5:upd H4 wl (HO.lst (List.map V.ref bs++[V.ref tp])) wl=some (HO.lst ((bs++[tp]).map V.ref)):=by rw [ag];simp
  generalize upd H4 wl (HO.lst (List.map V.ref bs++[V.ref tp]))=H5 at *
  have hwl4:=f4 _ _ hwl3
  have hW5:=(hW3.same f4).own hNw k5 e5
  have hD5:SqT K H5 dd (ddV d):=(f4.tup ((s2.tup hD1).keep k3 (s2 _ _ hsl1))).keep k5 hwl4
  have hsl5:=k5 _ _ hne (f4 _ _ e3)
  have h45:SqT K H5 ht (kH (ak n0 rs).e):=(f4.tup ((s2.tup h4).keep k3 (s2 _ _ hsl1))).keep k5 hwl4
  have hb51:=(f4.tup hb31).keep k5 hwl4
  have K05:bV rl sl wl H H5:=((((bV.a k1).trans (bV.of s2)).trans (bV.b k3)).trans (bV.of f4)).trans (bV.c k5)
  have hX5:fI (clZ Z) K H0 H5 p dl cl ll w bk rl sl wl g lds n0 (rs++[uw g n0 rs d]):=hX.to K05 ⟨hW5,⟨as1++[a]++[b],hsl5,?_⟩,⟨bs++[tp],e5,?_⟩,hNs,hNw,hne,.snoc hrun ok hrf⟩
  rotate_left
  ·rw [ou]
   exact cJ.push (hA1.imp fun a x h=>(((h.same s2).keep k3 (s2 _ _ hsl1)).same f4).keep k5 hwl4) ((hb3.same f4).keep k5 hwl4)
  ·exact ((((hB1.same s2).keep k3 (s2 _ _ hsl1)).same f4).keep k5 hwl4).push ⟨dd,(SqT.of e4).keep k5 hwl4,hD5⟩
  have ans5:vU K H5 (ak n0 rs) (cD rs+rh g (ak n0 rs) d) d v:=(((ans.same s2).keep k3 (s2 _ _ hsl1)).same f4).keep k5 hwl4
  have qq:∀H',av H5 H'->Q (.bl true) H':=fun H' s=>q H' (K05.trans (bV.of s)) (hX5.same s)
  clear hX5 K05 hW5 hW3 hW1 hsl1 hwl1 hA1 hB1 sa1 h13 hb31 hb3 hwl3 k3 f4 k5 hD1
  k_mem
  by_cases hr:∃s,d=.rept s
  ·obtain ⟨s,rfl⟩:=hr
   obtain ⟨pa,l,r,rfl,he,hpa⟩:=ans5
   rw [he] at h45
   k_upd
   refine ⟨_,hD5,_,rfl,?_⟩
   k_mem
   rw [if_pos rfl]
   k_upd
   refine ⟨_,hD5,_,rfl,_,h45,_,rfl,?_⟩
   k_mem
   refine ⟨_,h45,_,rfl,_,hD5,_,rfl,by decide,fun tq htq=>?_⟩
   have f6:=(av.refl H5).lay (o:=HO.tup [V.bl (decide (s=r)),V.int r,V.int s]) htq
   k_upd
   refine ⟨_,_,_,rfl,dj (f6.tup hpa) (by show 3<=100000;decide) ?_,dj (SqT.of ag) (by show 3<=100000;decide) ?_,fun H' s'=>qq H' (f6.trans s')⟩
   all_goals
    intro x hx
    simp only [List.mem_cons,List.not_mem_nil,or_false] at hx
    rcases hx with rfl | rfl | rfl<;>rfl
  ·obtain ⟨w1,ew1,nw1⟩:=GK (d:=d) fun s e=>hr ⟨s,e⟩
   have ev:=ans5.int fun s e=>hr ⟨s,e⟩
   subst ev
   k_upd
   refine ⟨_,hD5,_,ew1,?_⟩
   k_mem
   rw [if_neg nw1]
   k_upd
   refine ⟨_,SqL.of hsl5,_,ny,?_⟩
   k_mem
   refine ⟨_,hb51,_,rfl,?_⟩
   k_mem
   exact ⟨_,_,_,rfl,.flat rfl,.flat rfl,qq⟩
 ·k_upd
  refine ⟨w,bk,rl,dd,g,n0,rs2++[r],rfl,hW,hg,hn,h300,.inr ⟨hD,rs2,r,rfl,fun pp H1 k1 hW1 hpp=>?_⟩⟩
  have hD1:=hD.keep k1 hrl
  have hsl1:=k1 _ _ nrs.symm hsl
  have hwl1:=k1 _ _ nrw.symm hwl
  have hA1:cJ (gS K H1) as (iu n0 (rs2++[r])):=hA.imp fun a x h=>h.keep k1 hrl
  have hB1:cE K H1 bs (rs2++[r]):=hB.keep k1 hrl
  rw [ou] at hA1
  obtain ⟨as1,a,rfl,hA2,_⟩:=hA1.last
  obtain ⟨bs1,b,rfl,hB2,dd2,hb1,hb2⟩:=hB1.last
  obtain ⟨dr,hdr⟩:=hrun.deeds r (by simp)
  k_mem
  refine ⟨_,hD1,_,rfl,?_⟩
  k_mem
  rw [if_pos rfl]
  k_upd
  refine ⟨.inl ⟨rfl,_,SqL.of hsl1⟩,_,hsl1,.ref a,by simp,?_⟩
  have k3:L2.aA sl H1 (upd H1 sl (HO.lst (List.map V.ref (as1++[a])).dropLast)):=(aA.of (av.refl H1)).put
  have e3:upd H1 sl (HO.lst (List.map V.ref (as1++[a])).dropLast) sl=some (HO.lst (as1.map V.ref)):=by rw [ag];simp
  generalize upd H1 sl (HO.lst (List.map V.ref (as1++[a])).dropLast)=H3 at *
  have hwl3:=k3 _ _ hne.symm hwl1
  k_mem
  refine ⟨.inl ⟨rfl,_,SqL.of hwl3⟩,_,hwl3,.ref b,by simp,?_⟩
  have k5:L2.aA wl H3 (upd H3 wl (HO.lst (List.map V.ref (bs1++[b])).dropLast)):=(aA.of (av.refl H3)).put
  have e5:upd H3 wl (HO.lst (List.map V.ref (bs1++[b])).dropLast) wl=some (HO.lst (bs1.map V.ref)):=by rw [ag];simp
  generalize upd H3 wl (HO.lst (List.map V.ref (bs1++[b])).dropLast)=H5 at *
  have K05:bV rl sl wl H H5:=((bV.a k1).trans (bV.b k3)).trans (bV.c k5)
  have hX5:fI (clZ Z) K H0 H5 p dl cl ll w bk rl sl wl g lds n0 rs2:=hX.to K05 ⟨(hW1.own hNs k3 e3).own hNw k5 e5,⟨as1,k5 _ _ hne e3,hA2.imp fun a x h=>(h.keep k3 hsl1).keep k5 hwl3⟩,⟨bs1,e5,(hB2.keep k3 hsl1).keep k5 hwl3⟩,hNs,hNw,hne,hrun.inv.1⟩
  have lenr:=BK dr
  k_mem
  refine ⟨_,(hb1.keep k3 hsl1).keep k5 hwl3,_,rfl,?_⟩
  k_mem
  refine ⟨_,_,_,rfl,dj ((hpp.keep k3 hsl1).keep k5 hwl3) (by rw [hdr];omega) (by rw [hdr];exact uu dr),dj ((hb2.keep k3 hsl1).keep k5 hwl3) (by rw [hdr];omega) (by rw [hdr];exact uu dr),fun H' s=>q H' (K05.trans (bV.of s)) (hX5.same s)⟩
variable (qO:KD P w K mg base (CXf P w) 8 "_law_done" (sg K Z))
structure N47 (rl0 rl1 sl0 sl1 wl0 wl1 tw ss rr:Addr):Prop where
 rl0_rl1:rl0≠rl1
 rl0_sl0:rl0≠sl0
 rl0_sl1:rl0≠sl1
 rl0_wl0:rl0≠wl0
 rl0_wl1:rl0≠wl1
 rl1_sl0:rl1≠sl0
 rl1_sl1:rl1≠sl1
 rl1_wl0:rl1≠wl0
 rl1_wl1:rl1≠wl1
 sl0_sl1:sl0≠sl1
 sl0_wl0:sl0≠wl0
 sl0_wl1:sl0≠wl1
 sl1_wl0:sl1≠wl0
 sl1_wl1:sl1≠wl1
 wl0_wl1:wl0≠wl1
 tw_rl0:tw≠rl0
 tw_rl1:tw≠rl1
 tw_sl0:tw≠sl0
 tw_sl1:tw≠sl1
 tw_wl0:tw≠wl0
 tw_wl1:tw≠wl1
 ss_rl0:ss≠rl0
 ss_rl1:ss≠rl1
 ss_sl0:ss≠sl0
 ss_sl1:ss≠sl1
 ss_wl0:ss≠wl0
 ss_wl1:ss≠wl1
 rr_rl0:rr≠rl0
 rr_rl1:rr≠rl1
 rr_sl0:rr≠sl0
 rr_sl1:rr≠sl1
 rr_wl0:rr≠wl0
 rr_wl1:rr≠wl1
open Classical in
theorem Ll {K:WA}{H:Hp}{as bs:List Addr}{ls ms:List Cd}(hA:bF cdV K H as ls)(hB:bF cdV K H bs ms)(hl:ls.length=ms.length):∃e:Nat->Bool,(∀j p q,as[j]?=some p->bs[j]?=some q->(p=q->e j=true)/\∃xs ys,SqT K H p xs/\SqT K H q ys/\xs.all bg=true/\ys.all bg=true/\eqL xs ys=e j)/\((List.range as.length).all e=true->bF cdV K H bs ls):=by
 have h1:=hA.1
 have h2:=hB.1
 have eq:∀x y:Cd,eqL (cdV x) (cdV y)=true↔x=y:=fun x y=>by
  obtain ⟨x1,x2⟩:=x
  obtain ⟨y1,y2⟩:=y
  simp [cdV,eqL,eqV]
 have fl:∀x:Cd,(cdV x).all bg=true:=fun x=>rfl
 refine ⟨fun j=>decide (∀p q x y,as[j]?=some p->bs[j]?=some q->ls[j]?=some x->ms[j]?=some y->p=q\/x=y),fun j p q ep eq'=>?_,fun hall=>⟨by omega,fun i b x e1 e2=>?_⟩⟩
 ·have i1:=(List.getElem?_eq_some_iff.mp ep).1
  have ex:ls[j]?=some (ls[j]'(by omega)):=List.getElem?_eq_getElem _
  have ey:ms[j]?=some (ms[j]'(by omega)):=List.getElem?_eq_getElem _
  refine ⟨fun z=>decide_eq_true fun p' q' x y a1 a2 _ _=>by rw [ep] at a1;rw [eq'] at a2;cases a1;cases a2;exact .inl z,?_⟩
  by_cases hpq:p=q
  ·subst hpq
   refine ⟨_,_,hA.2 j p _ ep ex,hA.2 j p _ ep ex,fl _,fl _,?_⟩
   rw [(eq _ _).mpr rfl]
   exact (decide_eq_true fun p' q' x y a1 a2 _ _=>by rw [ep] at a1;rw [eq'] at a2;cases a1;cases a2;exact .inl rfl).symm
  ·refine ⟨_,_,hA.2 j p _ ep ex,hB.2 j q _ eq' ey,fl _,fl _,?_⟩
   rw [Bool.eq_iff_iff,eq,decide_eq_true_eq]
   constructor
   ·intro z p' q' x y a1 a2 a3 a4
    rw [ex] at a3;rw [ey] at a4
    cases a3;cases a4
    exact .inr z
   ·intro z
    rcases z p q _ _ ep eq' ex ey with z | z
    ·exact absurd z hpq
    ·exact z
 ·have i1:=(List.getElem?_eq_some_iff.mp e1).1
  have ea:as[i]?=some (as[i]'(by omega)):=List.getElem?_eq_getElem _
  have ey:ms[i]?=some (ms[i]'(by omega)):=List.getElem?_eq_getElem _
  have:=List.all_eq_true.mp hall i (List.mem_range.mpr (by omega))
  rw [decide_eq_true_eq] at this
  rcases this _ _ _ _ ea e1 e2 ey with z | z
  ·rw [←z]
   exact hA.2 i _ x ea e2
  ·rw [z]
   exact hB.2 i b _ e1 ey
def KY (Z:Adr)(K:WA)(HB:Hp)(a p p1 su hl tw ss rr dl cl ll w0 bk0 rl0 sl0 wl0 cl1 w1 bk1 rl1 sl1 wl1:Addr)(g0 g1:Cfg)(lds:List Ld)(n0 n1:aO)(i:Nat)(σ:St)(H':Hp):Prop:=∃rs0 rs1,(∃t8 t9 t10 t11,σ=[some (.ref a),some (.ref p),some (.ref p1),some (.ref su),some (.ref hl),some (.ref tw),some (.ref ss),some (.ref rr),t8,t9,t10,t11])/\H' tw=some (.lst [.ref w0,.ref w1])/\H' ss=some (.lst [.ref sl0,.ref sl1])/\H' rr=some (.lst [.ref wl0,.ref wl1])/\fI (clZ Z) K HB H' p dl cl ll w0 bk0 rl0 sl0 wl0 g0 lds n0 rs0/\fI (clZ Z) K HB H' p1 dl cl1 ll w1 bk1 rl1 sl1 wl1 g1 lds n1 rs1/\rs0.length<=i/\rs1.length<=i
noncomputable def vK (K:WA)(Z:Adr):Sp:=fun vs H Q _=>∃(a:Addr) (ns:List Int),vs=[.ref a]/\SqL K H a (ns.map V.int)/\ns.length<=63/\∀H',Q (.bl true) H'
include T iV nB kx hV en fY nC c8 nh qO in
theorem JN:FF P w K mg base (CXf P w) 9 "law" "law" mz E4 (vK K Z):=fkF gB fun vs H Q E h=>by
 obtain ⟨a,ns,rfl,hS,hn,q⟩:=h
 k_all
 obtain ⟨t2,h2,k2⟩:∃t,PSs (cxF P w K mg base ["_law_script","_law_setup_here","_law_other","_law_setups","_law_handed","_law_works","_law_states","_law_rows","_law_k","_law_cell","_law_side","_law_deed"] "law" (aj mz) zf zv zA zo zs H E) ((bE mz).drop 7) t/\∀(p dl cl ll p1 cl1 su hl h0 h1 h2 tw w0 bk0 rl0 w1 bk1 rl1:Addr) (ds:List Int) (ls ls1:List Cd) (slow fast:Int) (lds:List Ld) (N0 N1:Addr->Prop) (as0 bs0:List Addr) (HB H2:Hp),av H HB->pL ds ls slow fast lds->pL ds ls1 slow fast lds->cY K HB p dl cl ll (df ds ls slow fast lds fun _=>False) lds->cY K HB p1 dl cl1 ll (df ds ls1 slow fast lds fun _=>False) lds->HB su=some (.lst [.ref p,.ref p1])->HB hl=some (.lst [.ref h0,.ref h1,.ref h2])->HB h0=some (.lst (ds.map V.int))->HB h1=some (.lst (as0.map V.ref))->bF cdV K HB as0 ls->HB h2=some (.lst (bs0.map V.ref))->eC K HB bs0 lds->av HB H2->HB rl0=none->HB rl1=none->rl0≠rl1->tw≠rl0->tw≠rl1->N0 rl1->N1 rl0->H2 tw=some (.lst [.ref w0,.ref w1])->WAt (clZ Z) K H2 w0 bk0 rl0 (df ds ls slow fast lds N0) (gh ds ls lds) []->WAt (clZ Z) K H2 w1 bk1 rl1 (df ds ls1 slow fast lds N1) (gh ds ls1 lds) []->t ({nx:=fun _ H2=>Q .non H2,rt:=Q}:gQ) [some (.ref a),some (.ref p),some (.ref p1),some (.ref su),some (.ref hl),some (.ref tw),none,none,none,none,none,none] H2:=by
  refine seg 4 (ah (aB (dc nh hr.dn bC (pa4 (pv' 5) (pv' 3) (pv' 6) (pv' 7))))) fun zt4 zh4 ze4=>?_
  refine seg 3 (ae (aM (dw (bZ (dc0 c8 hr.dn (pa2 (pv' 4) (bw (pa3 (ao au (pv' 1) af) (ao au (pv' 1) af) (ao au (pv' 1) af))))))) (ah (aB fJ)) (aC)) zh4) fun zt3 zh3 ze3=>?_
  refine seg 2 (ae (cR yJ rfl (uG (by rfl) T.cj (pa2 af (aG (ox rfl) (by rfl) T.E6 An (pa2 (aG az (by rfl) T.bR bb (pa1 (pv' 0))) af)))) (aD (i:=8) gB.nd rfl orL) (ae (aF (i:=9) gB.nd rfl orL (dc0 nB hr.dn (pa2 (pv' 0) (pv' 8)))) (ae (aF (i:=10) gB.nd rfl orL (cb (pv' 9) af)) (ae (aF (i:=11) gB.nd rfl orL (dc0 fY hr.dn (pa3 (ao au (pv' 3) (pv' 10)) (ao au (pv' 6) (pv' 10)) (gT (pv' 9) af)))) (ae (aM (dw (bZ (dc qO hr.dn bC (cQ (ao au (pv' 5) (pv' 10)) (pa4 (ao au (pv' 3) (pv' 10)) (ao au (pv' 6) (pv' 10)) (ao au (pv' 7) (pv' 10)) (pv' 11)))))) (ah (aB fJ)) (aC)) (ah (aM (ie (bH (cb (pv' 8) af) af) (fW (dw (bZ (dc nh hr.dn bC (pa4 (pv' 5) (pv' 3) (pv' 6) (pv' 7))))))).pt (ah (aB fJ)) (aC)))))))) zh3) fun zt2 zh2 ze2=>?_
  refine seg 1 (ae (aF (i:=7) gB.nd rfl orL (bw (pa2 (bw fL) (bw fL)))) zh2) fun zt1 zh1 ze1=>?_
  refine ⟨_,ae (aF (i:=6) gB.nd rfl orL (bw (pa2 (bw (pa1 (dc0 kx hr.dn (pa1 (pv' 1))))) (bw (pa1 (dc0 kx hr.dn (pa1 (pv' 2)))))))) zh1,?_⟩
  intro p dl cl ll p1 cl1 su hl h0 h1 h2 tw w0 bk0 rl0 w1 bk1 rl1 ds ls ls1 slow fast lds N0 N1 as0 bs0 HB H2 sHB hU hU1 hP hP1 esu ehl eh0 eh1 hT0 eh2 hT2 s2 f0 f1 n01 nt0 nt1 hN0 hN1 etw hW0 hW1
  have l2:=hU.sh.l2
  have l6:=hU.sh.l6
  k_mem
  refine ⟨p,dl,cl,ll,ds,ls,slow,fast,lds,_,rfl,hP.same s2,l2,l6,hU.l30,fun st0 H3 s3 hst0=>?_⟩
  k_mem
  obtain ⟨r0,e0r⟩:=hW0.rows
  obtain ⟨r1,e1r⟩:=hW1.rows
  k_upd
  refine ⟨by decide,fun sl0 hsl0=>?_⟩
  have y0:=(av.refl H3).lay (o:=HO.lst [V.ref st0]) hsl0
  have hW0a:=(hW0.same s3).grow hsl0 y0 ag
  have hW1a:=(hW1.same s3).grow hsl0 y0 ag
  (generalize hE:upd H3 sl0 _=H4 at *;have s4:=dE hE hsl0;have esl0:=cf hE;clear hE)
  k_upd
  refine ⟨p1,dl,cl1,ll,ds,ls1,slow,fast,lds,_,rfl,hP1.same (s2.trans (s3.trans s4)),l2,l6,hU.l30,fun st1 H5 s5 hst1=>?_⟩
  k_upd
  refine ⟨by decide,fun sl1 hsl1=>?_⟩
  have y1:=(av.refl H5).lay (o:=HO.lst [V.ref st1]) hsl1
  have hW0b:=(hW0a.same s5).grow hsl1 y1 ag
  have hW1b:=(hW1a.same s5).grow hsl1 y1 ag
  (generalize hE:upd H5 sl1 _=H6 at *;have s6:=dE hE hsl1;have esl1:=cf hE;clear hE)
  k_upd
  refine ⟨by decide,fun ss hss=>?_⟩
  (generalize hE:upd H6 ss _=H7 at *;have s7:=dE hE hss;have ess:=cf hE;clear hE)
  k_mem
  refine ⟨by decide,fun wl0 hwl0=>?_⟩
  have y2:=(av.refl H7).lay (o:=HO.lst []) hwl0
  have hW0c:=(hW0b.same s7).grow hwl0 y2 ag
  have hW1c:=(hW1b.same s7).grow hwl0 y2 ag
  (generalize hE:upd H7 wl0 _=H8 at *;have s8:=dE hE hwl0;have ewl0:=cf hE;clear hE)
  k_upd
  refine ⟨by decide,fun wl1 hwl1=>?_⟩
  have y3:=(av.refl H8).lay (o:=HO.lst []) hwl1
  have hW0d:=hW0c.grow hwl1 y3 ag
  have hW1d:=hW1c.grow hwl1 y3 ag
  (generalize hE:upd H8 wl1 _=H9 at *;have s9:=dE hE hwl1;have ewl1:=cf hE;clear hE)
  k_upd
  refine ⟨by decide,fun rr hrr=>?_⟩
  (generalize hE:upd H9 rr _=HA at *;have sA:=dE hE hrr;have err:=cf hE;clear hE)
  have z5:=s2.trans (s3.trans (s4.trans s5))
  have z6:=z5.trans s6
  have z7:=z6.trans s7
  have z9:=z7.trans (s8.trans s9)
  have zA:=z9.trans sA
  have q4:=s3.trans s4
  have q5:=q4.trans s5
  have q6:=q5.trans s6
  have q7:=q6.trans s7
  have q8:=q7.trans s8
  have q9:=q8.trans s9
  have u6:=(s5.trans s6) _ _ esl0
  have u7:=s7 _ _ u6
  have v7:=s7 _ _ esl1
  have hN:N47 rl0 rl1 sl0 sl1 wl0 wl1 tw ss rr:=⟨n01,ai (s3 _ _ e0r) hsl0,ai (q5 _ _ e0r) hsl1,ai (q7 _ _ e0r) hwl0,ai (q8 _ _ e0r) hwl1,ai (s3 _ _ e1r) hsl0,ai (q5 _ _ e1r) hsl1,ai (q7 _ _ e1r) hwl0,ai (q8 _ _ e1r) hwl1,ai (s5 _ _ esl0) hsl1,ai u7 hwl0,ai (s8 _ _ u7) hwl1,ai v7 hwl0,ai (s8 _ _ v7) hwl1,ai ewl0 hwl1,
   nt0,nt1,ai (s3 _ _ etw) hsl0,ai (q5 _ _ etw) hsl1,ai (q7 _ _ etw) hwl0,ai (q8 _ _ etw) hwl1,
   (ai (q6 _ _ e0r) hss).symm,(ai (q6 _ _ e1r) hss).symm,(ai u6 hss).symm,(ai esl1 hss).symm,ai ess hwl0,ai (s8 _ _ ess) hwl1,
   (ai (q9 _ _ e0r) hrr).symm,(ai (q9 _ _ e1r) hrr).symm,(ai ((s8.trans s9) _ _ u7) hrr).symm,(ai ((s8.trans s9) _ _ v7) hrr).symm,(ai (s9 _ _ ewl0) hrr).symm,(ai ewl1 hrr).symm⟩
  have fsl0:HB sl0=none:=(s2.trans s3).free hsl0
  have fsl1:HB sl1=none:=z5.free hsl1
  have fwl0:HB wl0=none:=z7.free hwl0
  have fwl1:HB wl1=none:=(z7.trans s8).free hwl1
  have w6A:=s7.trans (s8.trans (s9.trans sA))
  have hX0:fI (clZ Z) K HB HA p dl cl ll w0 bk0 rl0 sl0 wl0 (df ds ls slow fast lds fun q=>(((N0 q\/q=sl0)\/q=sl1)\/q=wl0)\/q=wl1) lds (gh ds ls lds) []:=⟨⟨hP.ob,hP.od,hP.oc,hP.ol,hP.ek⟩,zA,f0,fsl0,fwl0,⟨hW0d.same sA,⟨[st0],w6A _ _ u6,cJ.nil.push (((hst0.same s4).same (s5.trans s6)).same w6A)⟩,⟨[],(s9.trans sA) _ _ ewl0,cE.nil⟩,.inl (.inl (.inl (.inr rfl))),.inl (.inr rfl),hN.sl0_wl0,.nil⟩,hU.cfg _,hU.snap _⟩
  have hX1:fI (clZ Z) K HB HA p1 dl cl1 ll w1 bk1 rl1 sl1 wl1 (df ds ls1 slow fast lds fun q=>(((N1 q\/q=sl0)\/q=sl1)\/q=wl0)\/q=wl1) lds (gh ds ls1 lds) []:=⟨⟨hP1.ob,hP1.od,hP1.oc,hP1.ol,hP1.ek⟩,zA,f1,fsl1,fwl1,⟨hW1d.same sA,⟨[st1],w6A _ _ esl1,cJ.nil.push ((hst1.same s6).same w6A)⟩,⟨[],sA _ _ ewl1,cE.nil⟩,.inl (.inl (.inr rfl)),.inr rfl,hN.sl1_wl1,.nil⟩,hU1.cfg _,hU1.snap _⟩
  have etwA:=(s3.trans (s4.trans (s5.trans (s6.trans w6A)))) _ _ etw
  have essA:=(s8.trans (s9.trans sA)) _ _ ess
  clear hW0a hW1a hW0b hW1b hW0c hW1c hW0d hW1d hW0 hW1 hst0 hst1 u6 u7 v7 esl0 esl1 ewl0 ewl1 etw ess
  have hSB:=sHB.seq hS
  have gN11:(df ds ls1 slow fast lds fun q=>(((N1 q\/q=sl0)\/q=sl1)\/q=wl0)\/q=wl1).N rl0:=.inl (.inl (.inl (.inl hN1)))
  have gN12:(df ds ls1 slow fast lds fun q=>(((N1 q\/q=sl0)\/q=sl1)\/q=wl0)\/q=wl1).N sl0:=.inl (.inl (.inl (.inr rfl)))
  have gN13:(df ds ls1 slow fast lds fun q=>(((N1 q\/q=sl0)\/q=sl1)\/q=wl0)\/q=wl1).N wl0:=.inl (.inr rfl)
  have gN01:(df ds ls slow fast lds fun q=>(((N0 q\/q=sl0)\/q=sl1)\/q=wl0)\/q=wl1).N rl1:=.inl (.inl (.inl (.inl hN0)))
  have gN02:(df ds ls slow fast lds fun q=>(((N0 q\/q=sl0)\/q=sl1)\/q=wl0)\/q=wl1).N sl1:=.inl (.inl (.inr rfl))
  have gN03:(df ds ls slow fast lds fun q=>(((N0 q\/q=sl0)\/q=sl1)\/q=wl0)\/q=wl1).N wl1:=.inr rfl
  k_mem
  refine ⟨_,.inl (zA.seq hSB),⟨by decide,by decide,by rw [WB];split<;>omega,by rw [WB];split<;>omega⟩,?_⟩
  k_upd
  refine bK (KY Z K HB a p p1 su hl tw ss rr dl cl ll w0 bk0 rl0 sl0 wl0 cl1 w1 bk1 rl1 sl1 wl1 _ _ lds _ _) ⟨[],[],⟨_,_,_,_,rfl⟩,etwA,essA,err,hX0,hX1,Nat.zero_le _,Nat.zero_le _⟩ ?_ ?_
  ·clear hX0 hX1 etwA essA err zA z5 z6 z7 z9 q4 q5 q6 q7 q8 q9 w6A
   rintro i σ H4 hi ⟨rs0,rs1,⟨t8,t9,t10,t11,rfl⟩,etw,ess,err,hX0,hX1,hr0,hr1⟩
   rw [WB] at hi
   have hi':i < 58:=by split at hi<;>omega
   have hi2:i+5 < ns.length:=by split at hi<;>omega
   k_mem
   refine ⟨a,ns,_,rfl,hX0.sa.seq hSB,by omega,by omega,fun c=>?_⟩
   k_mem
   rcases (by omega:c % 2=0\/c % 2=1) with hs | hs<;>rw [hs]
   ·obtain ⟨as,hsl,hA⟩:=hX0.da.st
    k_upd
    refine ⟨_,SqL.of (hX0.sa _ _ esu),_,rfl,_,SqL.of ess,_,rfl,?_⟩
    k_upd
    refine ⟨p,dl,cl,ll,sl0,_,lds,_,rs0,c / 2,rfl,hX0.setup,hX0.cg,hX0.snap,⟨as,hsl,hA⟩,fun dd d H5 s5 hd ok hr=>?_,fun hrs dd H5 s5 hd=>?_⟩
    ·k_upd
     refine ⟨_,SqL.of (s5 _ _ etw),_,rfl,_,SqL.of ((hX0.same s5).sa _ _ esu),_,rfl,_,SqL.of (s5 _ _ ess),_,rfl,_,SqL.of (s5 _ _ err),_,rfl,?_⟩
     k_upd
     refine ⟨HB,w0,bk0,rl0,p,dl,cl,ll,sl0,wl0,dd,_,lds,_,rs0,rfl,hX0.same s5,by omega,.inl ⟨d,hd,ok,hr,fun H6 k6 hX6=>?_⟩⟩
     have hXo5:=hX0.same s5
     obtain ⟨aq1,eq1⟩:=hXo5.da.wk.rows
     obtain ⟨aq2,eq2,_⟩:=hXo5.da.st
     obtain ⟨aq3,eq3,_⟩:=hXo5.da.ro
     obtain ⟨ar1,er1⟩:=hX6.da.wk.rows
     obtain ⟨ar2,er2,_⟩:=hX6.da.st
     obtain ⟨ar3,er3,_⟩:=hX6.da.ro
     have hXt:=(hX1.same s5).own3 k6 hN.rl0_sl0.symm hN.rl0_wl0.symm hN.sl0_wl0.symm gN11 gN12 gN13 ⟨_,eq1⟩ ⟨_,eq2⟩ ⟨_,eq3⟩ ⟨_,er1⟩ ⟨_,er2⟩ ⟨_,er3⟩ hX0.fr hX0.fs hX0.fw hN.rl0_sl1.symm hN.sl0_sl1.symm hN.sl1_wl0 hN.rl0_wl1.symm hN.sl0_wl1.symm hN.wl0_wl1.symm
     have etw6:=k6 _ _ hN.tw_rl0 hN.tw_sl0 hN.tw_wl0 (s5 _ _ etw)
     have ess6:=k6 _ _ hN.ss_rl0 hN.ss_sl0 hN.ss_wl0 (s5 _ _ ess)
     have err6:=k6 _ _ hN.rr_rl0 hN.rr_sl0 hN.rr_wl0 (s5 _ _ err)
     k_mem
     by_cases c4:(5+(i:Int)) % 4=0
     ·rw [if_pos c4]
      k_upd
      refine ⟨HB,tw,su,ss,rr,w0,bk0,rl0,p,dl,cl,ll,sl0,wl0,w1,bk1,rl1,p1,dl,cl1,ll,sl1,wl1,_,_,lds,_,_,_,_,rfl,etw6,hX6.sa _ _ esu,ess6,err6,hX6,hXt,by (try rw [List.length_append,List.length_singleton]);omega,by (try rw [List.length_append,List.length_singleton]);omega,fun H7 s7=>?_⟩
      k_mem
      exact ⟨_,_,⟨_,_,_,_,rfl⟩,s7 _ _ etw6,s7 _ _ ess6,s7 _ _ err6,hX6.same s7,hXt.same s7,by (try rw [List.length_append,List.length_singleton]);omega,by (try rw [List.length_append,List.length_singleton]);omega⟩
     ·rw [if_neg c4]
      k_upd
      exact ⟨_,_,⟨_,_,_,_,rfl⟩,etw6,ess6,err6,hX6,hXt,by (try rw [List.length_append,List.length_singleton]);omega,by (try rw [List.length_append,List.length_singleton]);omega⟩
    ·obtain ⟨rs2,r,rfl⟩:∃rs2 r,rs0=rs2++[r]:=by
      rcases cH rs0 with z | z
      ·exact absurd z hrs
      ·exact z
     k_upd
     refine ⟨_,SqL.of (s5 _ _ etw),_,rfl,_,SqL.of ((hX0.same s5).sa _ _ esu),_,rfl,_,SqL.of (s5 _ _ ess),_,rfl,_,SqL.of (s5 _ _ err),_,rfl,?_⟩
     k_upd
     refine ⟨HB,w0,bk0,rl0,p,dl,cl,ll,sl0,wl0,dd,_,lds,_,rs2++[r],rfl,hX0.same s5,by omega,.inr ⟨hd,rs2,r,rfl,fun H6 k6 hX6=>?_⟩⟩
     rw [List.length_append,List.length_singleton] at hr0
     have hXo5:=hX0.same s5
     obtain ⟨aq1,eq1⟩:=hXo5.da.wk.rows
     obtain ⟨aq2,eq2,_⟩:=hXo5.da.st
     obtain ⟨aq3,eq3,_⟩:=hXo5.da.ro
     obtain ⟨ar1,er1⟩:=hX6.da.wk.rows
     obtain ⟨ar2,er2,_⟩:=hX6.da.st
     obtain ⟨ar3,er3,_⟩:=hX6.da.ro
     have hXt:=(hX1.same s5).own3 k6 hN.rl0_sl0.symm hN.rl0_wl0.symm hN.sl0_wl0.symm gN11 gN12 gN13 ⟨_,eq1⟩ ⟨_,eq2⟩ ⟨_,eq3⟩ ⟨_,er1⟩ ⟨_,er2⟩ ⟨_,er3⟩ hX0.fr hX0.fs hX0.fw hN.rl0_sl1.symm hN.sl0_sl1.symm hN.sl1_wl0 hN.rl0_wl1.symm hN.sl0_wl1.symm hN.wl0_wl1.symm
     have etw6:=k6 _ _ hN.tw_rl0 hN.tw_sl0 hN.tw_wl0 (s5 _ _ etw)
     have ess6:=k6 _ _ hN.ss_rl0 hN.ss_sl0 hN.ss_wl0 (s5 _ _ ess)
     have err6:=k6 _ _ hN.rr_rl0 hN.rr_sl0 hN.rr_wl0 (s5 _ _ err)
     k_mem
     by_cases c4:(5+(i:Int)) % 4=0
     ·rw [if_pos c4]
      k_upd
      refine ⟨HB,tw,su,ss,rr,w0,bk0,rl0,p,dl,cl,ll,sl0,wl0,w1,bk1,rl1,p1,dl,cl1,ll,sl1,wl1,_,_,lds,_,_,_,_,rfl,etw6,hX6.sa _ _ esu,ess6,err6,hX6,hXt,by omega,by omega,fun H7 s7=>?_⟩
      k_mem
      exact ⟨_,_,⟨_,_,_,_,rfl⟩,s7 _ _ etw6,s7 _ _ ess6,s7 _ _ err6,hX6.same s7,hXt.same s7,by omega,by omega⟩
     ·rw [if_neg c4]
      k_upd
      exact ⟨_,_,⟨_,_,_,_,rfl⟩,etw6,ess6,err6,hX6,hXt,by omega,by omega⟩
   ·obtain ⟨as,hsl,hA⟩:=hX1.da.st
    k_upd
    refine ⟨_,SqL.of (hX0.sa _ _ esu),_,rfl,_,SqL.of ess,_,rfl,?_⟩
    k_upd
    refine ⟨p1,dl,cl1,ll,sl1,_,lds,_,rs1,c / 2,rfl,hX1.setup,hX1.cg,hX1.snap,⟨as,hsl,hA⟩,fun dd d H5 s5 hd ok hr=>?_,fun hrs dd H5 s5 hd=>?_⟩
    ·k_upd
     refine ⟨_,SqL.of (s5 _ _ etw),_,rfl,_,SqL.of ((hX0.same s5).sa _ _ esu),_,rfl,_,SqL.of (s5 _ _ ess),_,rfl,_,SqL.of (s5 _ _ err),_,rfl,?_⟩
     k_upd
     refine ⟨HB,w1,bk1,rl1,p1,dl,cl1,ll,sl1,wl1,dd,_,lds,_,rs1,rfl,hX1.same s5,by omega,.inl ⟨d,hd,ok,hr,fun H6 k6 hX6=>?_⟩⟩
     have hXo5:=hX1.same s5
     obtain ⟨aq1,eq1⟩:=hXo5.da.wk.rows
     obtain ⟨aq2,eq2,_⟩:=hXo5.da.st
     obtain ⟨aq3,eq3,_⟩:=hXo5.da.ro
     obtain ⟨ar1,er1⟩:=hX6.da.wk.rows
     obtain ⟨ar2,er2,_⟩:=hX6.da.st
     obtain ⟨ar3,er3,_⟩:=hX6.da.ro
     have hXt:=(hX0.same s5).own3 k6 hN.rl1_sl1.symm hN.rl1_wl1.symm hN.sl1_wl1.symm gN01 gN02 gN03 ⟨_,eq1⟩ ⟨_,eq2⟩ ⟨_,eq3⟩ ⟨_,er1⟩ ⟨_,er2⟩ ⟨_,er3⟩ hX1.fr hX1.fs hX1.fw hN.rl1_sl0.symm hN.sl0_sl1 hN.sl0_wl1 hN.rl1_wl0.symm hN.sl1_wl0.symm hN.wl0_wl1
     have etw6:=k6 _ _ hN.tw_rl1 hN.tw_sl1 hN.tw_wl1 (s5 _ _ etw)
     have ess6:=k6 _ _ hN.ss_rl1 hN.ss_sl1 hN.ss_wl1 (s5 _ _ ess)
     have err6:=k6 _ _ hN.rr_rl1 hN.rr_sl1 hN.rr_wl1 (s5 _ _ err)
     k_mem
     by_cases c4:(5+(i:Int)) % 4=0
     ·rw [if_pos c4]
      k_upd
      refine ⟨HB,tw,su,ss,rr,w0,bk0,rl0,p,dl,cl,ll,sl0,wl0,w1,bk1,rl1,p1,dl,cl1,ll,sl1,wl1,_,_,lds,_,_,_,_,rfl,etw6,hX6.sa _ _ esu,ess6,err6,hXt,hX6,by (try rw [List.length_append,List.length_singleton]);omega,by (try rw [List.length_append,List.length_singleton]);omega,fun H7 s7=>?_⟩
      k_mem
      exact ⟨_,_,⟨_,_,_,_,rfl⟩,s7 _ _ etw6,s7 _ _ ess6,s7 _ _ err6,hXt.same s7,hX6.same s7,by (try rw [List.length_append,List.length_singleton]);omega,by (try rw [List.length_append,List.length_singleton]);omega⟩
     ·rw [if_neg c4]
      k_upd
      exact ⟨_,_,⟨_,_,_,_,rfl⟩,etw6,ess6,err6,hXt,hX6,by (try rw [List.length_append,List.length_singleton]);omega,by (try rw [List.length_append,List.length_singleton]);omega⟩
    ·obtain ⟨rs2,r,rfl⟩:∃rs2 r,rs1=rs2++[r]:=by
      rcases cH rs1 with z | z
      ·exact absurd z hrs
      ·exact z
     k_upd
     refine ⟨_,SqL.of (s5 _ _ etw),_,rfl,_,SqL.of ((hX0.same s5).sa _ _ esu),_,rfl,_,SqL.of (s5 _ _ ess),_,rfl,_,SqL.of (s5 _ _ err),_,rfl,?_⟩
     k_upd
     refine ⟨HB,w1,bk1,rl1,p1,dl,cl1,ll,sl1,wl1,dd,_,lds,_,rs2++[r],rfl,hX1.same s5,by omega,.inr ⟨hd,rs2,r,rfl,fun H6 k6 hX6=>?_⟩⟩
     rw [List.length_append,List.length_singleton] at hr1
     have hXo5:=hX1.same s5
     obtain ⟨aq1,eq1⟩:=hXo5.da.wk.rows
     obtain ⟨aq2,eq2,_⟩:=hXo5.da.st
     obtain ⟨aq3,eq3,_⟩:=hXo5.da.ro
     obtain ⟨ar1,er1⟩:=hX6.da.wk.rows
     obtain ⟨ar2,er2,_⟩:=hX6.da.st
     obtain ⟨ar3,er3,_⟩:=hX6.da.ro
     have hXt:=(hX0.same s5).own3 k6 hN.rl1_sl1.symm hN.rl1_wl1.symm hN.sl1_wl1.symm gN01 gN02 gN03 ⟨_,eq1⟩ ⟨_,eq2⟩ ⟨_,eq3⟩ ⟨_,er1⟩ ⟨_,er2⟩ ⟨_,er3⟩ hX1.fr hX1.fs hX1.fw hN.rl1_sl0.symm hN.sl0_sl1 hN.sl0_wl1 hN.rl1_wl0.symm hN.sl1_wl0.symm hN.wl0_wl1
     have etw6:=k6 _ _ hN.tw_rl1 hN.tw_sl1 hN.tw_wl1 (s5 _ _ etw)
     have ess6:=k6 _ _ hN.ss_rl1 hN.ss_sl1 hN.ss_wl1 (s5 _ _ ess)
     have err6:=k6 _ _ hN.rr_rl1 hN.rr_sl1 hN.rr_wl1 (s5 _ _ err)
     k_mem
     by_cases c4:(5+(i:Int)) % 4=0
     ·rw [if_pos c4]
      k_upd
      refine ⟨HB,tw,su,ss,rr,w0,bk0,rl0,p,dl,cl,ll,sl0,wl0,w1,bk1,rl1,p1,dl,cl1,ll,sl1,wl1,_,_,lds,_,_,_,_,rfl,etw6,hX6.sa _ _ esu,ess6,err6,hXt,hX6,by omega,by omega,fun H7 s7=>?_⟩
      k_mem
      exact ⟨_,_,⟨_,_,_,_,rfl⟩,s7 _ _ etw6,s7 _ _ ess6,s7 _ _ err6,hXt.same s7,hX6.same s7,by omega,by omega⟩
     ·rw [if_neg c4]
      k_upd
      exact ⟨_,_,⟨_,_,_,_,rfl⟩,etw6,ess6,err6,hXt,hX6,by omega,by omega⟩
  ·clear hX0 hX1 etwA essA err zA z5 z6 z7 z9 q4 q5 q6 q7 q8 q9 w6A
   rintro σ H4 ⟨rs0,rs1,⟨t8,t9,t10,t11,rfl⟩,etw,ess,err,hX0,hX1,hr0,hr1⟩
   rw [WB] at hr0 hr1
   have hr0':rs0.length<=300:=by split at hr0<;>omega
   have hr1':rs1.length<=300:=by split at hr1<;>omega
   have sa:=hX0.sa
   obtain ⟨hp,hdl,⟨as2,hcl,hT⟩,⟨bs2,hll,hT2'⟩,_⟩:=id hP
   replace hdl:HB dl=some (HO.lst (ds.map V.int)):=hdl
   replace hp:HB p=some (HO.lst [V.ref dl,V.ref cl,V.int slow,V.int fast,V.ref ll]):=hp
   replace hT:bF cdV K HB as2 ls:=hT
   have lln:=hU.ln
   have l30:=hU.l30
   k_mem
   refine ⟨_,SqL.of (sa _ _ hp),_,rfl,_,SqL.of (sa _ _ hp),_,rfl,_,SqL.of (sa _ _ hp),_,rfl,by decide,fun pl hpl=>?_⟩
   (generalize hE:upd H4 pl _=H5 at *;have s5:=dE hE hpl;have epl:=cf hE;clear hE)
   have sa5:=sa.trans s5
   k_upd
   refine ⟨_,_,_,rfl,w9 (SqL.of (sa5 _ _ ehl)) (ip (SqL.of (sa5 _ _ eh0)) (by omega)) (yN ⟨as0,SqL.of (sa5 _ _ eh1),bF.same sa5 hT0⟩ (by omega) fun x _=>Ec x) (w8 ⟨bs0,SqL.of (sa5 _ _ eh2),eC.same sa5 hT2⟩ (by omega)),w9 (SqL.of epl) (ip (SqL.of (sa5 _ _ hdl)) (by omega)) (yN ⟨as2,SqL.of (sa5 _ _ hcl),bF.same sa5 hT⟩ (by omega) fun x _=>Ec x) (w8 ⟨bs2,SqL.of (sa5 _ _ hll),eC.same sa5 hT2'⟩ (by omega)),fun H6 s6=>?_⟩
   k_mem
   have s56:=s5.trans s6
   k_upd
   exact ⟨HB,tw,su,ss,rr,w0,bk0,rl0,p,dl,cl,ll,sl0,wl0,w1,bk1,rl1,p1,dl,cl1,ll,sl1,wl1,_,_,lds,_,_,rs0,rs1,rfl,s56 _ _ etw,(sa.trans s56) _ _ esu,s56 _ _ ess,s56 _ _ err,hX0.same s56,hX1.same s56,hr0',hr1',fun H7 s7=>q _⟩
 obtain ⟨t1,h1,k1⟩:∃t,PSs (cxF P w K mg base ["_law_script","_law_setup_here","_law_other","_law_setups","_law_handed","_law_works","_law_states","_law_rows","_law_k","_law_cell","_law_side","_law_deed"] "law" (aj mz) zf zv zA zo zs H E) ((bE mz).drop 3) t/\∀(p dl cl ll p1 cl1:Addr) (ds:List Int) (ls ls1:List Cd) (slow fast:Int) (lds:List Ld) (HB:Hp),av H HB->pL ds ls slow fast lds->pL ds ls1 slow fast lds->cY K HB p dl cl ll (df ds ls slow fast lds fun _=>False) lds->cY K HB p1 dl cl1 ll (df ds ls1 slow fast lds fun _=>False) lds->t ({nx:=fun _ H2=>Q .non H2,rt:=Q}:gQ) [some (.ref a),some (.ref p),some (.ref p1),none,none,none,none,none,none,none,none,none] HB:=by
  refine seg 3 (ae (aM (dF (GU hr.units0 hr.units1) (ao au (pv' 1) af) (ao au (pv' 2) af) (cu _)) (ah (aZ (j9 PySem.F.plainAttrs_list PySem.F.slot_list_append PySem.F.type_list_append cO (pv' 5) (pa1 (dn en hr.dn T.yr bC (cQ (ao au (pv' 4) af) (pa4 (ao au (pv' 4) af) (ao au (pv' 1) af) (ao au (pv' 1) af) (ao au (pv' 4) af)))))))) (ah (aZ (j9 PySem.F.plainAttrs_list PySem.F.slot_list_append PySem.F.type_list_append cO (pv' 5) (pa1 (dn en hr.dn T.yr bC (cQ (ao au (pv' 4) af) (pa4 (bc aX (by rfl) T.dC cB (pa1 (ao au (pv' 2) af))) (ao au (pv' 1) af) (ao au (pv' 1) af) (ao au (pv' 4) af))))))))) h2) fun zt3 zh3 ze3=>?_
  refine seg 2 (ae (aF (i:=5) gB.nd rfl orL (bw (pa1 (dn en hr.dn T.yr bC (cQ (ao au (pv' 4) af) (pa4 (ao au (pv' 4) af) (ao au (pv' 1) af) (ao au (pv' 1) af) (ao au (pv' 4) af))))))) zh3) fun zt2 zh2 ze2=>?_
  refine seg 1 (ae (aF (i:=4) gB.nd rfl orL (bw (pa3 (bc aX (by rfl) T.dC cB (pa1 (ao au (pv' 1) af))) (bc aX (by rfl) T.dC cB (pa1 (ao au (pv' 1) af))) (bc aX (by rfl) T.dC cB (pa1 (ao au (pv' 1) af)))))) zh2) fun zt1 zh1 ze1=>?_
  refine ⟨_,ae (aF (i:=3) gB.nd rfl orL (bw (pa2 (pv' 1) (pv' 2)))) zh1,?_⟩
  intro p dl cl ll p1 cl1 ds ls ls1 slow fast lds HB sHB hU hU1 hP hP1
  have l2:=hU.sh.l2
  have l6:=hU.sh.l6
  obtain ⟨hp,hdl,⟨as0,hcl,hT⟩,⟨bs0,hll,hT2⟩,_⟩:=id hP
  replace hdl:HB dl=some (HO.lst (ds.map V.int)):=hdl
  replace hp:HB p=some (HO.lst [V.ref dl,V.ref cl,V.int slow,V.int fast,V.ref ll]):=hp
  replace hT:bF cdV K HB as0 ls:=hT
  obtain ⟨hp1,_,⟨as1,hcl1,hT1⟩,_,_⟩:=id hP1
  replace hp1:HB p1=some (HO.lst [V.ref dl,V.ref cl1,V.int slow,V.int fast,V.ref ll]):=hp1
  replace hT1:bF cdV K HB as1 ls1:=hT1
  k_mem
  refine ⟨by decide,fun su hsu=>?_⟩
  (generalize hE:upd HB su _=HC at *;have sC:=dE hE hsu;have esu:=cf hE;clear hE)
  k_mem
  refine ⟨_,SqL.of (sC _ _ hp),_,rfl,?_⟩
  k_mem
  refine ⟨_,.inl (SqL.of (sC _ _ hdl)),fun h0 hh0=>?_⟩
  (generalize hE:upd HC h0 _=HD at *;have sD:=dE hE hh0;have eh0:=cf hE;clear hE)
  k_upd
  refine ⟨_,SqL.of ((sC.trans sD) _ _ hp),_,rfl,?_⟩
  k_mem
  refine ⟨_,.inl (SqL.of ((sC.trans sD) _ _ hcl)),fun h1 hh1=>?_⟩
  (generalize hE:upd HD h1 _=HE at *;have sE:=dE hE hh1;have eh1:=cf hE;clear hE)
  k_upd
  refine ⟨_,SqL.of ((sC.trans (sD.trans sE)) _ _ hp),_,rfl,?_⟩
  k_mem
  refine ⟨_,.inl (SqL.of ((sC.trans (sD.trans sE)) _ _ hll)),fun h2 hh2=>?_⟩
  (generalize hE:upd HE h2 _=HF at *;have sF:=dE hE hh2;have eh2:=cf hE;clear hE)
  k_upd
  refine ⟨by decide,fun hl hhl=>?_⟩
  (generalize hE:upd HF hl _=HG at *;have sG:=dE hE hhl;have ehl:=cf hE;clear hE)
  have sBG:=sC.trans (sD.trans (sE.trans (sF.trans sG)))
  have eh0G:=(sE.trans (sF.trans sG)) _ _ eh0
  have eh1G:=(sF.trans sG) _ _ eh1
  have eh2G:=sG _ _ eh2
  have esuG:=(sD.trans (sE.trans (sF.trans sG))) _ _ esu
  have hpG:=sBG _ _ hp
  have hPG:=hP.same sBG
  have hP1G:=hP1.same sBG
  have hTG:=bF.same sBG hT
  have hT1G:=bF.same sBG hT1
  have hT2G:=eC.same sBG hT2
  have hclG:=sBG _ _ hcl
  have hcl1G:=sBG _ _ hcl1
  have hp1G:=sBG _ _ hp1
  have sHG:=sHB.trans sBG
  clear eh0 eh1 eh2 esu hp hT hT1 hT2 hcl hcl1 hp1 sC sD sE sF sG
  k_mem
  refine ⟨_,SqL.of ehl,_,rfl,_,SqL.of ehl,_,rfl,_,SqL.of hpG,_,rfl,_,SqL.of hpG,_,rfl,_,SqL.of ehl,_,rfl,fun w0 dx0 hx0 hdx0 nx0=>?_⟩
  have sx0:=((av.refl HG).lay (o:=HO.own w0) hdx0).lay (o:=HO.ins Z.aY dx0 []) (show upd HG dx0 (.own w0) w0=none by rw [aK (Ne.symm nx0)];exact hx0)
  k_upd
  refine ⟨w0,dx0,h0,h1,h2,ds,ls,lds,slow,fast,fun _=>False,rfl,ag,sx0.seq (SqL.of eh0G),⟨as0,sx0.seq (SqL.of eh1G),bF.same sx0 (hTG)⟩,⟨bs0,sx0.seq (SqL.of eh2G),eC.same sx0 (hT2G)⟩,by omega,by have:=hU.ln;omega,by have:=hU.l30;omega,fun p hp=>hp.elim,fun h=>absurd hU.sh h,fun _ h=>absurd ⟨by have:=hU.ln;omega,hU.gd⟩ h,fun _ _ h=>absurd hU.sp h,fun _ _ _ h=>absurd ⟨hU.l30,fun x hx=>hU.gl x hx⟩ h,fun _ _ _ _ bk0 rl0 HH kx0 hrl0 hW0=>⟨rfl,?_⟩⟩
  have sGH:=eD hx0 hdx0 kx0
  have f0:HG rl0=none:=dR hrl0
  clear kx0 hrl0 sx0
  k_mem
  refine ⟨by decide,fun tw htw=>?_⟩
  have sI:=(av.refl HH).lay (o:=HO.lst [V.ref w0]) htw
  have hW0I:=hW0.grow htw sI ag
  obtain ⟨rr0,hrl0⟩:=hW0.rows
  have nt0:tw≠rl0:=(ai hrl0 htw).symm
  (generalize hE:upd HH tw _=HI at *;have sHI:=dE hE htw;have etw:=cf hE;clear hE)
  have sGI:=sGH.trans sI
  have ftw:HG tw=none:=sGH.free htw
  have erl0:HI rl0=some (HO.lst (rr0.map V.ref)):=sI _ _ hrl0
  k_mem
  refine ⟨_,SqL.of (sGI _ _ hpG),_,rfl,_,SqL.of (sGI _ _ hp1G),_,rfl,?_⟩
  k_mem
  obtain ⟨e,he1,he2⟩:=Ll hTG hT1G (by have:=hU.ln;have:=hU1.ln;omega)
  k_upd
  refine ⟨as0,as1,e,SqL.of (sGI _ _ hclG),SqL.of (sGI _ _ hcl1G),by have:=hTG.1;have:=hT1G.1;have:=hU.ln;have:=hU1.ln;omega,fun j p q a1 a2=>?_,?_⟩
  ·obtain ⟨u1,xs,ys,v1,v2,r⟩:=he1 j p q a1 a2
   k_upd
   exact ⟨u1,xs,ys,sGI.tup v1,sGI.tup v2,r⟩
  by_cases hall:(List.range as0.length).all e=true
  ·rw [if_pos hall]
   have hP1':cY K HG p1 dl cl1 ll (df ds ls slow fast lds fun _=>False) lds:=⟨hP1G.ob,hP1G.od,⟨as1,hcl1G,he2 hall⟩,hP1G.ol,hP1G.ek⟩
   k_upd
   refine ⟨.inl ⟨rfl,_,SqL.of etw⟩,_,SqL.of (sGI _ _ ehl),_,rfl,_,SqL.of (sGI _ _ ehl),_,rfl,_,SqL.of (sGI _ _ hpG),_,rfl,_,SqL.of (sGI _ _ hpG),_,rfl,_,SqL.of (sGI _ _ ehl),_,rfl,fun w1 dx1 hx1 hdx1 nx1=>?_⟩
   have sx1:=((av.refl HI).lay (o:=HO.own w1) hdx1).lay (o:=HO.ins Z.aY dx1 []) (show upd HI dx1 (.own w1) w1=none by rw [aK (Ne.symm nx1)];exact hx1)
   k_upd
   refine ⟨w1,dx1,h0,h1,h2,ds,ls,lds,slow,fast,fun z=>z=rl0\/z=tw,rfl,ag,sx1.seq (SqL.of (sGI _ _ eh0G)),⟨as0,sx1.seq (SqL.of (sGI _ _ eh1G)),bF.same sx1 (bF.same sGI hTG)⟩,⟨bs0,sx1.seq (SqL.of (sGI _ _ eh2G)),eC.same sx1 (eC.same sGI hT2G)⟩,by omega,by have:=hU.ln;omega,by have:=hU.l30;omega,fun z hz=>?_,fun h=>absurd hU.sh h,fun _ h=>absurd ⟨by have:=hU.ln;omega,hU.gd⟩ h,fun _ _ h=>absurd hU.sp h,fun _ _ _ h=>absurd ⟨hU.l30,fun x hx=>hU.gl x hx⟩ h,fun _ _ _ _ bk1 rl1 HK kx1 hrl1' hW1=>⟨rfl,?_⟩⟩
   ·rcases hz with rfl | rfl
    ·k_upd
     exact ⟨_,sx1 _ _ ((av.refl HI) _ _ erl0)⟩
    ·k_upd
     exact ⟨_,sx1 _ _ ((av.refl HI) _ _ etw)⟩
   have sJK:=eD hx1 hdx1 kx1
   have f1:HI rl1=none:=((av.refl HI)).free (dR hrl1')
   clear kx1 hrl1' sx1
   have sIK:=((av.refl HI)).trans sJK
   obtain ⟨rr1,erl1⟩:=hW1.rows
   have hW0K:=hW0I.grow f1 sIK erl1
   have etwK:=sIK _ _ etw
   k_mem
   refine ⟨_,etwK,(by show 1 < sizeLine;decide),?_⟩
   have kL:L2.aA tw HK (upd HK tw (HO.lst ([V.ref w0]++[V.ref w1]))):=(aA.of (av.refl HK)).put
   have etwL:upd HK tw (HO.lst ([V.ref w0]++[V.ref w1])) tw=some (HO.lst [V.ref w0,V.ref w1]):=ag
   show t2 _ _ (upd HK tw (HO.lst ([V.ref w0]++[V.ref w1])))
   generalize upd HK tw (HO.lst ([V.ref w0]++[V.ref w1]))=HL at *
   have hW0L:=hW0K.own (.inl (.inr rfl)) kL etwL
   have hW1L:=hW1.own (.inr rfl) kL etwL
   exact k2 p dl cl ll p1 cl1 su hl h0 h1 h2 tw w0 bk0 rl0 w1 bk1 rl1 ds ls ls slow fast lds _ _ as0 bs0 HG HL sHG hU hU hPG hP1' esuG ehl eh0G eh1G hTG eh2G hT2G ((sGI.trans sIK).keeps kL ftw) f0 (sGI.free f1) (ai erl0 f1) nt0 (ai etw f1) (.inr rfl) (.inl rfl) etwL hW0L hW1L
  ·rw [if_neg hall]
   k_upd
   refine ⟨.inl ⟨rfl,_,SqL.of etw⟩,_,SqL.of (sGI _ _ ehl),_,rfl,_,SqL.of (sGI _ _ hp1G),_,rfl,?_⟩
   k_mem
   refine ⟨_,.inl (SqL.of (sGI _ _ hcl1G)),fun lc hlc=>?_⟩
   (generalize hE:upd HI lc _=HJ at *;have sJ:=dE hE hlc;have elc:=cf hE;clear hE)
   have sGJ:=sGI.trans sJ
   k_upd
   refine ⟨_,SqL.of (sGJ _ _ hpG),_,rfl,_,SqL.of (sGJ _ _ hpG),_,rfl,_,SqL.of (sGJ _ _ ehl),_,rfl,fun w1 dx1 hx1 hdx1 nx1=>?_⟩
   have sx1:=((av.refl HJ).lay (o:=HO.own w1) hdx1).lay (o:=HO.ins Z.aY dx1 []) (show upd HJ dx1 (.own w1) w1=none by rw [aK (Ne.symm nx1)];exact hx1)
   k_upd
   refine ⟨w1,dx1,h0,lc,h2,ds,ls1,lds,slow,fast,fun z=>z=rl0\/z=tw,rfl,ag,sx1.seq (SqL.of (sGJ _ _ eh0G)),⟨as1,sx1.seq (SqL.of elc),bF.same sx1 (bF.same sGJ hT1G)⟩,⟨bs0,sx1.seq (SqL.of (sGJ _ _ eh2G)),eC.same sx1 (eC.same sGJ hT2G)⟩,by omega,by have:=hU1.ln;omega,by have:=hU1.l30;omega,fun z hz=>?_,fun h=>absurd hU1.sh h,fun _ h=>absurd ⟨by have:=hU1.ln;omega,hU1.gd⟩ h,fun _ _ h=>absurd hU1.sp h,fun _ _ _ h=>absurd ⟨hU1.l30,fun x hx=>hU1.gl x hx⟩ h,fun _ _ _ _ bk1 rl1 HK kx1 hrl1' hW1=>⟨rfl,?_⟩⟩
   ·rcases hz with rfl | rfl
    ·k_upd
     exact ⟨_,sx1 _ _ (sJ _ _ erl0)⟩
    ·k_upd
     exact ⟨_,sx1 _ _ (sJ _ _ etw)⟩
   have sJK:=eD hx1 hdx1 kx1
   have f1:HI rl1=none:=(sJ).free (dR hrl1')
   clear kx1 hrl1' sx1
   have sIK:=(sJ).trans sJK
   obtain ⟨rr1,erl1⟩:=hW1.rows
   have hW0K:=hW0I.grow f1 sIK erl1
   have etwK:=sIK _ _ etw
   k_mem
   refine ⟨_,etwK,(by show 1 < sizeLine;decide),?_⟩
   have kL:L2.aA tw HK (upd HK tw (HO.lst ([V.ref w0]++[V.ref w1]))):=(aA.of (av.refl HK)).put
   have etwL:upd HK tw (HO.lst ([V.ref w0]++[V.ref w1])) tw=some (HO.lst [V.ref w0,V.ref w1]):=ag
   show t2 _ _ (upd HK tw (HO.lst ([V.ref w0]++[V.ref w1])))
   generalize upd HK tw (HO.lst ([V.ref w0]++[V.ref w1]))=HL at *
   have hW0L:=hW0K.own (.inl (.inr rfl)) kL etwL
   have hW1L:=hW1.own (.inr rfl) kL etwL
   exact k2 p dl cl ll p1 cl1 su hl h0 h1 h2 tw w0 bk0 rl0 w1 bk1 rl1 ds ls ls1 slow fast lds _ _ as0 bs0 HG HL sHG hU hU1 hPG hP1G esuG ehl eh0G eh1G hTG eh2G hT2G ((sGI.trans sIK).keeps kL ftw) f0 (sGI.free f1) (ai erl0 f1) nt0 (ai etw f1) (.inr rfl) (.inl rfl) etwL hW0L hW1L
 refine seg 2 (ae (aM (bH (cb (gT (dc0 iV hr.dn (pa2 (pv' 0) af)) af) af) af) (ah (kB (dc0 hV hr.dn (pa2 (dc0 iV hr.dn (pa2 (pv' 0) af)) (aG az (by rfl) T.bR bb (pa1 (ao au (pv' 1) af))))) (qR (pv' 2) af g9))) (aC)) h1) fun zt2 zh2 ze2=>?_
 refine seg 1 (ae (aF (i:=2) gB.nd rfl orL (bc aX (by rfl) T.dC cB (pa1 (pv' 1)))) zh2) fun zt1 zh1 ze1=>?_
 refine ⟨_,ae (aF (i:=1) gB.nd rfl orL (dc0 nC hr.dn (pa2 (pv' 0) af))) zh1,?_⟩
 k_mem
 refine ⟨a,ns,8,rfl,hS,by omega,by omega,fun p dl cl ll ds ls slow fast lds H1 s1 fp fdl fcl fll hP hsh hlen hgd hsp hlm hld=>?_⟩
 have hU:pL ds ls slow fast lds:=⟨hsh,hlen,hgd,hsp,by omega,fun x hx=>(hld x hx).1⟩
 have l2:=hU.sh.l2
 have l6:=hU.sh.l6
 obtain ⟨hp,hdl,⟨as0,hcl,hT⟩,⟨bs0,hll,hT2⟩,_⟩:=id hP
 replace hdl:H1 dl=some (HO.lst (ds.map V.int)):=hdl
 replace hp:H1 p=some (HO.lst [V.ref dl,V.ref cl,V.int slow,V.int fast,V.ref ll]):=hp
 k_mem
 refine ⟨_,.inl (SqL.of hp),fun p1 hp1=>?_⟩
 (generalize hE:upd H1 p1 _=H2 at *;have s2:=dE hE hp1;have ep1:=cf hE;clear hE)
 k_mem
 refine ⟨a,ns,0,rfl,(s1.trans s2).seq hS,by decide,?_⟩
 k_mem
 by_cases c1:ns.getD 0 0 / 2 % 2=1
 ·rw [if_pos c1]
  k_upd
  refine ⟨a,ns,5,rfl,(s1.trans s2).seq hS,by decide,?_⟩
  k_mem
  refine ⟨_,SqL.of (s2 _ _ hp),_,rfl,?_⟩
  k_mem
  refine ⟨_,.inl (SqL.of (s2 _ _ hdl)),?_⟩
  rw [WB]
  k_upd
  refine ⟨_,_,rfl,by omega,by omega,fun cl1 cs1 ls1 H3 fc1 s3 ec1 hT1 hl1 hg1=>?_⟩
  k_mem
  have ep3:=s3 _ _ ep1
  k_upd
  refine ⟨_,ep3,_,ur (by decide) (by simp),?_⟩
  have k4:L2.aA p1 H3 (upd H3 p1 (HO.lst [V.ref dl,V.ref cl1,V.int slow,V.int fast,V.ref ll])):=(aA.of (av.refl H3)).put
  have e4:upd H3 p1 (HO.lst [V.ref dl,V.ref cl1,V.int slow,V.int fast,V.ref ll]) p1=some (HO.lst [V.ref dl,V.ref cl1,V.int slow,V.int fast,V.ref ll]):=ag
  show t1 _ _ (upd H3 p1 (HO.lst [V.ref dl,V.ref cl1,V.int slow,V.int fast,V.ref ll]))
  generalize upd H3 p1 (HO.lst [V.ref dl,V.ref cl1,V.int slow,V.int fast,V.ref ll])=H4 at *
  have s14:=(s2.trans s3).keeps k4 hp1
  exact k1 p dl cl ll p1 cl1 ds ls ls1 slow fast lds H4 (s1.trans s14) hU ⟨hsh,by omega,hg1,hsp,by omega,fun x hx=>(hld x hx).1⟩ (hP.same s14) ⟨e4,s14 _ _ hdl,⟨cs1,k4 _ _ (ai ep1 fc1).symm ec1,bF.keep k4 ep3 hT1⟩,⟨bs0,s14 _ _ hll,eC.same s14 hT2⟩,rfl⟩
 ·rw [if_neg c1]
  exact k1 p dl cl ll p1 cl ds ls ls slow fast lds H2 (s1.trans s2) hU hU (hP.same s2) ⟨ep1,s2 _ _ hdl,⟨as0,s2 _ _ hcl,bF.same s2 hT⟩,⟨bs0,s2 _ _ hll,eC.same s2 hT2⟩,rfl⟩
include T iV nB kx hV en fY nC c8 nh qO in
theorem JO:FF P w K mg base CX0 9 "law" "law" mz E4 (vK K Z):=(JN T iV nB kx hV en fY nC c8 nh qO).calm fun vs H Q E h=>h
end
theorem JP {l:W.OpenLaw}{w:World}{K:WA}{h:Heap}{mg:Str->Option Value}{fa:Addr}(X:K.In h)(G:h.Ns mainGlobals mg)(hfa:mg "law"=some (.ref fa)){C0 C1 C2 C3 C4 C5 C6 C7 C8 C9 C10 C11 C12 C13 C14 C15 C16 C17 C18 C19 C20 C21 C22 C23:Addr}{ta_KINDS:Addr}{tk_KINDS_0 tk_KINDS_1:Tok}{tn_KINDS:Nat}{ts_KINDS:Array (Option Value)}{ta_CAGE_SPOTS:Addr}{tk_CAGE_SPOTS_0 tk_CAGE_SPOTS_1:Tok}{to_CAGE_SPOTS:Option Addr}{tn_CAGE_SPOTS:Nat}{ts_CAGE_SPOTS:Array (Option Value)}{ta_CAGES:Addr}{tk_CAGES_0 tk_CAGES_1:Tok}{to_CAGES:Option Addr}{tn_CAGES:Nat}{ts_CAGES:Array (Option Value)}(fx:HZ K C0 C1 C2 C3 C4 C5 C6 C7 C8 C9 C10 C11 C12 C13 C14 C15 C16 C17 C18 C19 C20 C21 C22 C23 ta_KINDS tk_KINDS_0 tk_KINDS_1 tn_KINDS ts_KINDS ta_CAGE_SPOTS tk_CAGE_SPOTS_0 tk_CAGE_SPOTS_1 to_CAGE_SPOTS tn_CAGE_SPOTS ts_CAGE_SPOTS ta_CAGES tk_CAGES_0 tk_CAGES_1 to_CAGES tn_CAGES ts_CAGES)
 : ∃Z:Adr,∃fd:FuncData,(∀(s:Shared) (v:Value),BindsTo s fd ⟨[v],[]⟩ [("_law_script",v)])/\∀base:Heap,K.In base->base.Ns mainGlobals mg->fM l.prog w K mg base CX0 9 fa fd ["_law_script"] (vK K Z):=by
 obtain ⟨z_len,z_list,z_enumerate,z_zip,z_range,z_abs,z_isinstance,z_tuple,z_int,z_str,z_bool,z_min,z_sorted,m0,m1,m2,m3,m4,m5,m6,m7,m8,m9,m10,m11,m12,m13,m14,m15,m16,m17,m18,m19,m20,m21,m22,m23,n_MOST_LOADS,n_FEWEST_STROKES,n_MOST_STROKES,n_FEWEST_LEVELS,n_MOST_LEVELS,n_GREATEST_DEPTH,n_GREATEST_SPEED,n_MOST_DEEDS,n_KINDS,lt_KINDS,n_CAGE_SPOTS,lt_CAGE_SPOTS,n_CAGES,lt_CAGES,cl19,na19_kinds,na19_where,na19_many,cl20,na20_codes,na20_failed,na20_state,cl21,na21_place,na21_opened,na21_bells,na21_yard,cl22,na22_first,na22_most,na22_rows,cl23,na23_depths,na23_slow,na23_fast,na23_goals,na23_log,l0,x0,x1,x2,x3,x4,x5,x6,x7,x8,x9,x10,x11,x12,x13,x14,x15,x16,x17,d0,d1,d2,d3,d4,d5,d6,d7,d8,d9,d10,d11,d12,d13,d14,d15,d16,d17,d18,d19,d20,d21,d22,d23,d24,d25,d26,d27,d28,d29,d30,d31,d32,d33,d34,d35,d36,d37,d38,d39,d40,d41,d42,d43,d44,d45,d46,d47,d48,d49,d50,d51,d52,d53,d54,d55,d56,d57,d58,d59,d60,d61,d62,d63,d64,d65,d66,d67,d68,d69,d70,d71,d72,d73,d74,d75,d76,d77,d78,d79,d80,d81,d82,d83,d84,d85,d86,d87,d88,d89⟩:=fx
 obtain ⟨f0,_,b0,F0⟩:=d0
 obtain ⟨f1,_,b1,F1⟩:=d1
 obtain ⟨f2,_,b2,F2⟩:=d2
 obtain ⟨f3,_,b3,F3⟩:=d3
 obtain ⟨f4,_,b4,F4⟩:=d4
 obtain ⟨f5,_,b5,F5⟩:=d5
 obtain ⟨f6,_,b6,F6⟩:=d6
 obtain ⟨f7,_,b7,F7⟩:=d7
 obtain ⟨f8,_,b8,F8⟩:=d8
 obtain ⟨f9,_,b9,F9⟩:=d9
 obtain ⟨f10,_,b10,F10⟩:=d10
 obtain ⟨f11,_,b11,F11⟩:=d11
 obtain ⟨f12,_,b12,F12⟩:=d12
 obtain ⟨f13,_,b13,F13⟩:=d13
 obtain ⟨f14,_,b14,F14⟩:=d14
 obtain ⟨f15,_,b15,F15⟩:=d15
 obtain ⟨f16,_,b16,F16⟩:=d16
 obtain ⟨f17,_,b17,F17⟩:=d17
 obtain ⟨f18,_,b18,F18⟩:=d18
 obtain ⟨f19,_,b19,F19⟩:=d19
 obtain ⟨f20,_,b20,F20⟩:=d20
 obtain ⟨f21,_,b21,F21⟩:=d21
 obtain ⟨f22,_,b22,F22⟩:=d22
 obtain ⟨f23,_,b23,F23⟩:=d23
 obtain ⟨f24,_,b24,F24⟩:=d24
 obtain ⟨f25,_,b25,F25⟩:=d25
 obtain ⟨f26,_,b26,F26⟩:=d26
 obtain ⟨f27,_,b27,F27⟩:=d27
 obtain ⟨f28,_,b28,F28⟩:=d28
 obtain ⟨f29,_,b29,F29⟩:=d29
 obtain ⟨f30,_,b30,F30⟩:=d30
 obtain ⟨f31,_,b31,F31⟩:=d31
 obtain ⟨f32,_,b32,F32⟩:=d32
 obtain ⟨f33,_,b33,F33⟩:=d33
 obtain ⟨f34,_,b34,F34⟩:=d34
 obtain ⟨f35,_,b35,F35⟩:=d35
 obtain ⟨f36,_,b36,F36⟩:=d36
 obtain ⟨f37,_,b37,F37⟩:=d37
 obtain ⟨f38,_,b38,F38⟩:=d38
 obtain ⟨f39,_,b39,F39⟩:=d39
 obtain ⟨f40,_,b40,F40⟩:=d40
 obtain ⟨f41,_,b41,F41⟩:=d41
 obtain ⟨f42,_,b42,F42⟩:=d42
 obtain ⟨f43,_,b43,F43⟩:=d43
 obtain ⟨f44,_,b44,F44⟩:=d44
 obtain ⟨f45,_,b45,F45⟩:=d45
 obtain ⟨f46,_,b46,F46⟩:=d46
 obtain ⟨f47,_,b47,F47⟩:=d47
 obtain ⟨f48,_,b48,F48⟩:=d48
 obtain ⟨f49,_,b49,F49⟩:=d49
 obtain ⟨f50,_,b50,F50⟩:=d50
 obtain ⟨f51,_,b51,F51⟩:=d51
 obtain ⟨f52,_,b52,F52⟩:=d52
 obtain ⟨f53,_,b53,F53⟩:=d53
 obtain ⟨f54,_,b54,F54⟩:=d54
 obtain ⟨f55,_,b55,F55⟩:=d55
 obtain ⟨f56,_,b56,F56⟩:=d56
 obtain ⟨f57,_,b57,F57⟩:=d57
 obtain ⟨f58,_,b58,F58⟩:=d58
 obtain ⟨f59,_,b59,F59⟩:=d59
 obtain ⟨f60,_,b60,F60⟩:=d60
 obtain ⟨f61,_,b61,F61⟩:=d61
 obtain ⟨f62,_,b62,F62⟩:=d62
 obtain ⟨f63,_,b63,F63⟩:=d63
 obtain ⟨f64,_,b64,F64⟩:=d64
 obtain ⟨f65,_,b65,F65⟩:=d65
 obtain ⟨f66,_,b66,F66⟩:=d66
 obtain ⟨f67,_,b67,F67⟩:=d67
 obtain ⟨f68,_,b68,F68⟩:=d68
 obtain ⟨f69,_,b69,F69⟩:=d69
 obtain ⟨f70,_,b70,F70⟩:=d70
 obtain ⟨f71,_,b71,F71⟩:=d71
 obtain ⟨f72,_,b72,F72⟩:=d72
 obtain ⟨f73,_,b73,F73⟩:=d73
 obtain ⟨f74,_,b74,F74⟩:=d74
 obtain ⟨f75,_,b75,F75⟩:=d75
 obtain ⟨f76,_,b76,F76⟩:=d76
 obtain ⟨f77,_,b77,F77⟩:=d77
 obtain ⟨f78,_,b78,F78⟩:=d78
 obtain ⟨f79,_,b79,F79⟩:=d79
 obtain ⟨f80,_,b80,F80⟩:=d80
 obtain ⟨f81,_,b81,F81⟩:=d81
 obtain ⟨f82,_,b82,F82⟩:=d82
 obtain ⟨f83,_,b83,F83⟩:=d83
 obtain ⟨f84,_,b84,F84⟩:=d84
 obtain ⟨f85,_,b85,F85⟩:=d85
 obtain ⟨f86,_,b86,F86⟩:=d86
 obtain ⟨f87,_,b87,F87⟩:=d87
 obtain ⟨f88,_,b88,F88⟩:=d88
 obtain ⟨f89,_,b89,F89⟩:=d89
 have e:=hfa.symm.trans (W.mg_of X G b89)
 cases e
 obtain ⟨oc,od,kV,dc,pm,an,cd,ct,sl,rfl,ll,cc⟩:=F89.ex
 let Z:Adr:=⟨C0,C1,C2,C3,C4,C5,C6,C7,C8,C9,C10,C11,C12,C13,C14,C15,C16,C17,C18,C19,C20,C21,C22,C23,ta_KINDS,ta_CAGE_SPOTS,ta_CAGES⟩
 refine ⟨Z,W.fnOf "law" "law" (dA mz) (bE mz) (aj mz) .none kV dc pm an cd ct,fun s v=>.of_eq rfl,fun base _ _=>?_⟩
 have T:Txt l.prog w K mg base Z:=⟨W.mg_none_of X G z_len,W.mg_none_of X G z_list,W.mg_none_of X G z_enumerate,W.mg_none_of X G z_zip,W.mg_none_of X G z_range,W.mg_none_of X G z_abs,W.mg_none_of X G z_isinstance,W.mg_none_of X G z_tuple,W.mg_none_of X G z_int,W.mg_none_of X G z_str,W.mg_none_of X G z_bool,W.mg_none_of X G z_min,W.mg_none_of X G z_sorted,KI.txt X G n_MOST_LOADS,KI.txt X G n_FEWEST_STROKES,KI.txt X G n_MOST_STROKES,KI.txt X G n_FEWEST_LEVELS,KI.txt X G n_MOST_LEVELS,KI.txt X G n_GREATEST_DEPTH,KI.txt X G n_GREATEST_SPEED,KI.txt X G n_MOST_DEEDS,⟨_,W.mg_of X G n_KINDS,rfl⟩,fun H=>.inr ⟨_,_,_,lt_KINDS,rfl,rfl,(by show 2<=sizeLine;decide),.cons ⟨_,rfl⟩ (.cons ⟨_,rfl⟩ .nil)⟩,⟨_,lt_KINDS,rfl,rfl⟩,⟨_,W.mg_of X G n_CAGE_SPOTS,rfl⟩,fun H=>.inr ⟨_,_,_,lt_CAGE_SPOTS,rfl,rfl,(by show 2<=sizeLine;decide),.cons ⟨_,rfl⟩ (.cons ⟨_,rfl⟩ .nil)⟩,⟨_,W.mg_of X G n_CAGES,rfl⟩,fun H=>.inr ⟨_,_,_,lt_CAGES,rfl,rfl,(by show 2<=sizeLine;decide),.cons ⟨_,rfl⟩ (.cons ⟨_,rfl⟩ .nil)⟩,W.mg_of X G m0,W.mg_of X G m1,W.mg_of X G m2,W.mg_of X G m3,W.mg_of X G m4,W.mg_of X G m5,W.mg_of X G m6,W.mg_of X G m7,W.mg_of X G m8,W.mg_of X G m9,W.mg_of X G m10,W.mg_of X G m11,W.mg_of X G m12,W.mg_of X G m13,W.mg_of X G m14,W.mg_of X G m15,W.mg_of X G m16,W.mg_of X G m17,W.mg_of X G m18,W.mg_of X G m19,W.mg_of X G m20,W.mg_of X G m21,W.mg_of X G m22,W.mg_of X G m23,cl19,na19_kinds,na19_where,na19_many,cl20,na20_codes,na20_failed,na20_state,cl21,na21_place,na21_opened,na21_bells,na21_yard,cl22,na22_first,na22_most,na22_rows,cl23,na23_depths,na23_slow,na23_fast,na23_goals,na23_log,(x0 l0).ex,x0 l0,(x1 l0).ex,x1 l0,(x2 l0).ex,x2 l0,(x3 l0).ex,x3 l0,(x4 l0).ex,x4 l0,(x5 l0).ex,x5 l0,(x6 l0).ex,x6 l0,(x7 l0).ex,x7 l0,(x8 l0).ex,x8 l0,(x9 l0).ex,x9 l0,(x10 l0).ex,x10 l0,(x11 l0).ex,x11 l0,(x12 l0).ex,x12 l0,(x13 l0).ex,x13 l0,(x14 l0).ex,x14 l0,(x15 l0).ex,x15 l0,(x16 l0).ex,x16 l0,(x17 l0).ex,x17 l0⟩
 have D0:=KD.mk (W.mg_of X G b0) F0 F0.b2 (zI T)
 have D4:=KN.mk b4 F4 F4.b3 (yt T)
 have D7:=KM.mk cl19 b7 F7 F7.b1 (wx T)
 have D8:=KM.mk cl19 b8 F8 F8.b2 (tL T)
 have D10:=KM.mk cl19 b10 F10 F10.b1 (oQ T)
 have D12:=KD.mk (W.mg_of X G b12) F12 F12.b1 (vp T)
 have D14:=KN.mk b14 F14 F14.b2 (wz T)
 have D17:=KM.mk cl20 b17 F17 F17.b1 (tM T)
 have D19:=KM.mk cl20 b19 F19 F19.b1 (wA T)
 have D22:=KD.mk (W.mg_of X G b22) F22 F22.b1 (tN T)
 have D23:=KD.mk (W.mg_of X G b23) F23 F23.b1 (wB T)
 have D25:=KD.mk (W.mg_of X G b25) F25 F25.b2 (zJ T)
 have D28:=KD.mk (W.mg_of X G b28) F28 F28.b2 (tO T)
 have D29:=KD.mk (W.mg_of X G b29) F29 F29.b2 (wC T)
 have D30:=KN.mk b30 F30 F30.b5 (rV T)
 have D32:=KN.mk b32 F32 F32.b3 (yu T)
 have D34:=KM.mk cl22 b34 F34 F34.b1 (vt T)
 have D35:=KM.mk cl22 b35 F35 F35.b1 (zK T)
 have D36:=KM.mk cl22 b36 F36 F36.b1 (vv T)
 have D37:=KM.mk cl22 b37 F37 F37.b1 (yv T)
 have D65:=KD.mk (W.mg_of X G b65) F65 F65.b2 (G1 T)
 have D66:=KD.mk (W.mg_of X G b66) F66 F66.b3 (CP T)
 have D67:=KD.mk (W.mg_of X G b67) F67 F67.b2 (Bc T)
 have D74:=KD.mk (W.mg_of X G b74) F74 F74.b3 (G3 T)
 have D75:=KD.mk (W.mg_of X G b75) F75 F75.b3 (CQ T)
 have D76:=KD.mk (W.mg_of X G b76) F76 F76.b2 (Be T)
 have D77:=KD.mk (W.mg_of X G b77) F77 F77.b2 (Bf T)
 have D78:=KD.mk (W.mg_of X G b78) F78 F78.b1 (Bg T)
 have D79:=KD.mk (W.mg_of X G b79) F79 F79.b2 (Bh T)
 have D82:=KD.mk (W.mg_of X G b82) F82 F82.b2 (Bi T)
 have D1:=KD.mk (W.mg_of X G b1) F1 F1.b2 (vw T D0)
 have D2:=KD.mk (W.mg_of X G b2) F2 F2.b2 (wD T D0)
 have D3:=KD.mk (W.mg_of X G b3) F3 F3.b2 (vx T D0)
 have D13:=KD.mk (W.mg_of X G b13) F13 F13.b2 (vy T D12)
 have D16:=KM.mk cl20 b16 F16 F16.b2 (tP T D12)
 have D24:=KD.mk (W.mg_of X G b24) F24 F24.b2 (vz T D23)
 have D33:=KM.mk cl22 b33 F33 F33.b5 (wF T D35)
 have D38:=KM.mk cl22 b38 F38 F38.b1 (wG T D8)
 have D49:=KM.mk cl23 b49 F49 F49.b1 (oY T D34)
 have D51:=KM.mk cl23 b51 F51 F51.b2 (nE T D10)
 have D53:=KM.mk cl23 b53 F53 F53.b2 (jc T D36)
 have D54:=KM.mk cl23 b54 F54 F54.b1 (yy T D35)
 have D55:=KM.mk cl23 b55 F55 F55.b1 (wH T D37)
 have D57:=KM.mk cl23 b57 F57 F57.b1 (tQ T D17 D36)
 have D58:=KM.mk cl23 b58 F58 F58.b1 (wI T D19 D36)
 have D59:=KM.mk cl23 b59 F59 F59.b1 (vA T D36)
 have D62:=KM.mk cl23 b62 F62 F62.b1 (vB T D7 D36)
 have D63:=KM.mk cl23 b63 F63 F63.b2 (rY T D8 D36)
 have D69:=KD.mk (W.mg_of X G b69) F69 F69.b1 (zM T D66)
 have D70:=KD.mk (W.mg_of X G b70) F70 F70.b2 (Bj T D66)
 have D71:=KD.mk (W.mg_of X G b71) F71 F71.b3 (Bk T D66)
 have D80:=KD.mk (W.mg_of X G b80) F80 F80.b3 (CV T D74 D75 D76 D77 D79)
 have D84:=KD.mk (W.mg_of X G b84) F84 F84.b3 (qC T D74)
 have D85:=KD.mk (W.mg_of X G b85) F85 F85.b3 (qD T D74)
 have D5:=KM.mk cl19 b5 F5 F5.b3 (yz T D8 D2)
 have D6:=KM.mk cl19 b6 F6 F6.b3 (zO T D8 D1)
 have D9:=KM.mk cl19 b9 F9 F9.b2 (r6 T D1)
 have D11:=KM.mk cl19 b11 F11 F11.b1 (yA T D4)
 have D15:=KM.mk cl20 b15 F15 F15.b3 (wJ T D1)
 have D18:=KM.mk cl20 b18 F18 F18.b2 (wK T D1)
 have D20:=KM.mk cl20 b20 F20 F20.b3 (yB T D1)
 have D21:=KM.mk cl20 b21 F21 F21.b1 (wL T D14)
 have D26:=KD.mk (W.mg_of X G b26) F26 F26.b3 (vE T D24)
 have D27:=KD.mk (W.mg_of X G b27) F27 F27.b2 (zP T D24)
 have D39:=KN.mk b39 F39 F39.b6 (wM T D4 D14 D22 D28 D30 D32 D3 D13)
 have D50:=KM.mk cl23 b50 F50 F50.b4 (vG T D33 D51 D54)
 have D56:=KM.mk cl23 b56 F56 F56.b1 (vH T D38)
 have D61:=KM.mk cl23 b61 F61 F61.b2 (mX T D24)
 have D72:=KD.mk (W.mg_of X G b72) F72 F72.b1 (Bl T D65 D66 D69 D70)
 have D86:=KD.mk (W.mg_of X G b86) F86 F86.b3 (vI T D84 D85)
 have D31:=KM.mk cl21 b31 F31 F31.b1 (r8 T D30 D11 D21)
 have D60:=KM.mk cl23 b60 F60 F60.b1 (vJ T D36 D61)
 have D64:=KM.mk cl23 b64 F64 F64.b2 (qI T D36 D9)
 have D73:=KD.mk (W.mg_of X G b73) F73 F73.b2 (Bm T D65 D71 D72)
 have D40:=KM.mk cl23 b40 F40 F40.b3 (wN T D36 D15 D50 D31)
 have D41:=KM.mk cl23 b41 F41 F41.b2 (tR T D36 D16 D50 D31)
 have D42:=KM.mk cl23 b42 F42 F42.b2 (wO T D36 D18 D50 D31)
 have D45:=KM.mk cl23 b45 F45 F45.b4 (o9 T D36 D1 D50 D31)
 have D48:=KM.mk cl23 b48 F48 F48.b4 (wQ T D29 D36 D1 D51 D20 D26 D27 D50 D31)
 have D52:=KM.mk cl23 b52 F52 F52.b2 (qM T D25 D60)
 have D68:=KD.mk (W.mg_of X G b68) F68 F68.b2 (De T (W.mg_of X G b68) F68 F68.b2)
 have D43:=KM.mk cl23 b43 F43 F43.b2 (pe T D45)
 have D44:=KM.mk cl23 b44 F44 F44.b2 (pf T D45)
 have D46:=KM.mk cl23 b46 F46 F46.b3 (wR T D7 D36 D2 D53 D5 D50 D31 D52)
 have D47:=KM.mk cl23 b47 F47 F47.b2 (tS T D8 D36 D53 D6 D50 D31 D52)
 have D83:=KD.mk (W.mg_of X G b83) F83 F83.b4 (Df T D54 D55 D57 D58 D59 D62 D63 D60 D64 D68)
 have D81:=KD.mk (W.mg_of X G b81) F81 F81.b2 (Dg T D49 D40 D41 D42 D48 D43 D44 D46 D47)
 have D88:=KD.mk (W.mg_of X G b88) F88 F88.b4 (Dh T D82 D56 D68 D83)
 have D87:=KD.mk (W.mg_of X G b87) F87 F87.b5 (Di T D80 D68 D81)
 exact JO T D65 D67 D78 D70 D39 D86 D73 D68 D88 D87 _ _ F89
theorem Dj {K:WA}{Z:Adr}{H:Hp}{a:Addr}{ns:List Int}(hl:ns.length<=63)(hS:SqL K H a (ns.map V.int)){Q:VK}{E:XK}(q:∀H',Q (.bl true) H'):vK K Z [.ref a] H Q E:=⟨a,ns,rfl,hS,hl,q⟩
noncomputable def SPl (K:WA):Sp:=fun vs H Q _=>∃(a:Addr) (ns:List Int),vs=[.ref a]/\SqL K H a (ns.map V.int)/\ns.length<=63/\∀H',Q (.bl true) H'
theorem Lm {l:W.OpenLaw}{q:Program}{loose:List Str}{XP:(Str->Option Value)->Heap->Prop}{YP:World->Heap->Prop}{d:DefRec}{K:Params->WA}(hn:l.most=some 63)(hdf:d.params.defaults=[])
  (hY:∀(w:World) (h:Heap),YP w h->(K w.params).In h)
  (F:∀(w:World) (mg:Str->Option Value) (fa:Addr) (h:Heap),(K w.params).In h->h.Ns mainGlobals mg->mg d.name=some (.ref fa)->
   ∃Z:Adr,∃fd:FuncData,(∀(s:Shared) (u:Value),BindsTo s fd ⟨[u],[]⟩ [("_law_script",u)])/\∀base:Heap,(K w.params).In base->base.Ns mainGlobals mg->fM l.prog w (K w.params) mg base CX0 9 fa fd ["_law_script"] (vK (K w.params) Z)) :
  W.WalkO q loose XP YP l.row.toRowW d [] (fun f vs=>PySem.call f vs):=
 L2.FH (n:=63) (k:=9) (x:="_law_script") (CX:=fun _=>CX0) (sp:=fun w=>SPl (K w.params)) hn (by decide) hdf ⟨rfl,by decide,by decide⟩ hY
  (fun w mg fa h a b c=>let ⟨Z,fd,b1,b2⟩:=F w mg fa h a b c;⟨fd,b1,fun base x y=>(b2 base x y).imp fun vs H Q E ⟨a,ns,e,hS,hl,q⟩=>by subst e;exact Dj hl hS q⟩) (fun _ _ a ns hl _ hS=>⟨a,ns,rfl,hS,hl,fun _=>rfl⟩) fun _ _ _ _ _ z=>z
end K47
local macro_rules | `(tactic| walk_at "m_is") => `(tactic| (delta L2.Xm; kts_exm))
local macro_rules | `(tactic| walk_at "h_is") => `(tactic| (delta L2.Kt; kit_is))
local macro_rules | `(tactic| walk_at "n_is") => `(tactic| (delta L2.NI; k_is))
local macro_rules | `(tactic| walk_at "a_is") => `(tactic| (delta L2.aW; k_is))
local macro_rules | `(tactic| walk_at "i_is") => `(tactic| (apply L2.KI.mk; k_is))
local macro_rules | `(tactic| walk_at "c_is") => `(tactic| (apply L2.Cls.mk; iterate 4 k_is))
local macro_rules | `(tactic| walk_at "o_is") => `(tactic| (apply L2.C0I.mk; k_is; exact rfl; k_is; exact rfl; exact rfl))
local macro_rules | `(tactic| walk_at "x_is") => `(tactic| (apply L2.XI.mk; k_is; k_is; exact rfl; exact rfl; k_is; k_is))
local macro_rules | `(tactic| walk_at "d_is") => `(tactic| (apply L2.DI.mk; iterate 4 k_is))
local macro_rules | `(tactic| walk_at "e_is") => `(tactic| (apply L2.MI.mk; iterate 5 k_is))
local macro_rules | `(tactic| walk_at "t_is") => `(tactic| (apply L2.II.mk; iterate 7 k_is))
open PySem PySem.W PyProof.Rows
set_option maxRecDepth 100000 in
set_option maxHeartbeats 0 in
theorem PySem.Challenge.cw_cagebells_k47_whole_two_works_apart_holds : PySem.Challenge.rw_cagebells_k47_whole_two_works_apart.Holds := by
 refine hd ?_
 k_fill
 refine K47.Lm (l:=PySem.Challenge.rw_cagebells_k47_whole_two_works_apart) rfl rfl (fun w h Y=>W.kIn_of Y) ?F
 case F=>
  intro w mg fa h KX G hmg
  apply K47.JP KX G hmg
  apply K47.HZ.mk
  iterate 13 k_is
  iterate 24 walk_at "n_is"
  iterate 8 walk_at "i_is"
  iterate 6 k_is
  walk_at "c_is"
  iterate 3 walk_at "a_is"
  walk_at "c_is"
  iterate 3 walk_at "a_is"
  walk_at "c_is"
  iterate 4 walk_at "a_is"
  walk_at "c_is"
  iterate 3 walk_at "a_is"
  walk_at "c_is"
  iterate 5 walk_at "a_is"
  walk_at "o_is"
  iterate 18 walk_at "x_is"
  iterate 4 walk_at "d_is"
  walk_at "t_is"
  iterate 7 walk_at "e_is"
  iterate 2 walk_at "d_is"
  walk_at "t_is"
  iterate 7 walk_at "e_is"
  iterate 8 walk_at "d_is"
  walk_at "t_is"
  walk_at "e_is"
  walk_at "t_is"
  iterate 6 walk_at "e_is"
  walk_at "t_is"
  iterate 25 walk_at "e_is"
  iterate 25 walk_at "d_is"
