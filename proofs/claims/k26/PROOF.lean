import PyProof.Rows.All
import OpenK.KLine
import KE.RegKIsAll
import KE.RegKTryMore
import Lean
import PyProof.EqAt
import PyProof.EqKinds
import PyProof.TupleCall
import KE.KTupSum
import KE.KItem
import PySem.Challenge.RW_cagebells_k26_book_full
set_option Elab.async false
set_option linter.all false
set_option maxRecDepth 100000
set_option compiler.extract_closed false
noncomputable abbrev WA:=PySem.W.Frag
theorem WB{α β}{l:List α}(f:α→β):(l.map f).length=l.length:=List.length_map f
namespace PySem.W.Fast
noncomputable abbrev T:=True
theorem t:T:=⟨⟩
def tw13020949166474054817:=t
def tw10852870341137881459:=t
def tw7803841389314116483:=t
def tw17643660023018599961:=t
def tw861502493610598483:=t
def tw6266132779789821815:=t
def tw13241994064123699754:=t
def tw10177169900475844342:=t
def tw2376611553592684631:=t
def tw13084661642996705785:=t
def tw5313071310948600622:=t
def tw7774113678449685934:=t
def tw17026682123665591243:=t
def tw9540780444183565493:=t
def tw6154823086004874393:=t
def tw9052937418870083693:=t
def tw13797646191491285992:=t
def tw9721000390032803332:=t
def tw18017129668781235815:=t
def tw17723881924890802966:=t
def tw9023412946914863120:=t
def tw10222457055086746714:=t
def tw6605169337270321112:=t
def tw15018716904364860632:=t
def tw9607860506102522561:=t
def tw14565471765716263578:=t
def tw12145756527313086355:=t
def tw15279809834360698895:=t
def tw3507769193172341495:=t
def tw3603697650439363286:=t
def tw11589282660436910429:=t
def tw3236729772642805936:=t
def tw3344036261162260069:=t
def tw1683588176727124409:=t
def tw9385439782273163706:=t
def tw17391296394322583936:=t
def tw172746767574481773:=t
def tw3916924956782111165:=t
def tw13557862171009465336:=t
def tw16945406819829945896:=t
def tw694261584828832409:=t
def tw16773468814595293053:=t
def tw6594970650091316094:=t
def tw7212858340449540239:=t
def tw10368827614151553891:=t
def tw7248502633702864892:=t
def tw1051097531963168837:=t
def tw10988312798546598065:=t
def tw17871049288011112270:=t
def tw7372170664606466022:=t
def tw7485256538410118956:=t
def tw14334995849660946996:=t
def tw13298828918039433023:=t
def tw16506471722634982818:=t
def tw14736888041290939073:=t
def tw15805137534098808535:=t
def tw4773484457636388862:=t
def tw12930229547647579594:=t
def tw1062514266329012355:=t
def tw726351398001015727:=t
def tw622995879521568732:=t
def tw11512705759438076691:=t
def tw14441679199631801671:=t
def tw11009225556382593827:=t
def tw13468011388731342839:=t
def tw2875624504187281209:=t
def tw11373181179767321252:=t
def tw5783627655825047438:=t
def tw10624116801336726872:=t
def tw14801369171006070438:=t
def tw16746677531222629524:=t
def tw5459702643516471331:=t
def tw12524954882073270795:=t
def tw8191318114535113306:=t
def tw593343749668468936:=t
def tw10146569101766770184:=t
def tw15792790952358468732:=t
def tw6128106870883400570:=t
def tw14958820412457663293:=t
def tw8757255369765604158:=t
def tw15685335758407661847:=t
def tw15227483606004533461:=t
def tw16822532161544500889:=t
def tw10310341975313369176:=t
def tw13669536469129627823:=t
def tw12325864989022198202:=t
def tw3945831679567021610:=t
def tw5874822333441161849:=t
def tw16998588944726240723:=t
def tw6702445572142316249:=t
def tw4046790133079468173:=t
def tw13082796549270168242:=t
def tw17451581249640050385:=t
def tw15401437161963490237:=t
def tw3099597729799864441:=t
def tw4600438763894957952:=t
def tw14538725608371270373:=t
def tw1937721966566455358:=t
def tw17518593693041627797:=t
def tw8535803893964050539:=t
def tw11692469974320434101:=t
def tw6216382948874008006:=t
def tw211337195705725219:=t
def tw17339309145561079191:=t
def tw17267597263503486738:=t
def tw12147665669636231765:=t
def tw12188032599808994241:=t
def tw10741264400317747893:=t
def tw15235614512728720:=t
def tw7164969610272591079:=t
def tw14520296925931582552:=t
def tw16766484511958638138:=t
def tw1599053048872161195:=t
def tw12020253756985099128:=t
def tw12330612334027959195:=t
def tw2773992215795510196:=t
def tw13861969467909019144:=t
def tw18293242582946804979:=t
def tw16522183678017940807:=t
def tw15418674001244492974:=t
def tw17188069144378779261:=t
def tw3671519592330383864:=t
def tw9381626543082597023:=t
def tw16140922888777852060:=t
def tw14727194681476072466:=t
def tw2358075552688931204:=t
def tw2483321941437592071:=t
def tw11317637306720784765:=t
def tw5909976876416983842:=t
def tw866652123128751154:=t
def tw8297923619242306668:=t
def tw9931937742245647033:=t
def tw14560624547652848805:=t
def tw7478123994339007903:=t
def tw16902085369446701243:=t
def tw10161179621583223854:=t
def tw599730875272715187:=t
def tw4490611911172417597:=t
def tw14341141199694864594:=t
def tw8498532028676091811:=t
def tw13996866031312336078:=t
def tw11662115353561507501:=t
def tw9603341474184991614:=t
def tw11525993766095887173:=t
def tw18095796173783872564:=t
def tw6191700953566675008:=t
def tw17963105932079019327:=t
def tw16721508838639397229:=t
def tw3303267245142563540:=t
def tw10479991185640055810:=t
def tw5953359166732830163:=t
def tw2399617604181995578:=t
def tw16654469307462801742:=t
def tw16607193741793207195:=t
def tw4884199854448574:=t
def tw8915285831880473931:=t
def tw9304451534382375720:=t
def tw13710940844802916613:=t
def tw10387345722656961088:=t
def tw3778530596728393105:=t
def tw6607644564249050058:=t
def tw11107512795663914464:=t
def tw17678831435119133177:=t
def tw9113380124883318265:=t
def tw1956775160557780875:=t
def tw10295913840692754127:=t
def tw15590096980072825465:=t
def tw15142666989864626641:=t
def tw1293241653719404408:=t
def tw18048741565030583774:=t
def tw819570635367399668:=t
def tw10297410513487048360:=t
def tw11468729153070441980:=t
def tw14859695947638507448:=t
def tw16864618592142003386:=t
def tw4607425872040536859:=t
def tw12132596417379514657:=t
def tw9045458381397004210:=t
def tw11215392098479208961:=t
def tw14811890972901180937:=t
def tw5285915839522022235:=t
def tw13813548295540068894:=t
def tw9197174079833555027:=t
def tw18407495941553956032:=t
def tw5662061979359257339:=t
def tw11566098044289413073:=t
def tw6124413428159637790:=t
def tw12798174099139212305:=t
def tw12681666616541194006:=t
def tw14391293386007564604:=t
def tw11524815483048965402:=t
def tw9744259246892133002:=t
def tw17016834523296244275:=t
def tw8212203176049278890:=t
def tw14833712730911297017:=t
def tw14294133066467233204:=t
def tw15932183184989994656:=t
def tw10395332584310045583:=t
def tw7050804516273991350:=t
def tw6327569006664949090:=t
def tw5086489192560080304:=t
def tw14260533273033392520:=t
def tw12843764043397292189:=t
def tw16151628708876355199:=t
def tw15012102849882553082:=t
def tw9806118890596472461:=t
def tw17658959251048325594:=t
def tw17592209452093105858:=t
def tw8833860146974802555:=t
def tw6526287140368922620:=t
def tw8232614014015475128:=t
def tw6060609690816243450:=t
def tw4524658085876675188:=t
def tw11076892268299887525:=t
def tw6046103115902281144:=t
def tw3433779192033484610:=t
def tw7900394595670775223:=t
def tw14689541978594310382:=t
def tw2576523973992343609:=t
def tw7770478706760583155:=t
def tw13885670934486923800:=t
def tw9316815775250114193:=t
def tw2259672571474061568:=t
def tw4545961482378311905:=t
def tw1442379640649564109:=t
def tw17155049476370652306:=t
def tw8186657734068701312:=t
def tw16493865465440409018:=t
def tw5274481202262711730:=t
def tw4971374062829452455:=t
def tw6714880395473160397:=t
def tw2869065659524454656:=t
def tw9331231397406362311:=t
def tw7350462372000428638:=t
def tw14036186469904095446:=t
def tw1474264761786122189:=t
def tw4683681711962371626:=t
def tw3726453103677007866:=t
def tw8047209995159408440:=t
def tw11401859456886640639:=t
def tw7828442866392281868:=t
def tw3997487885647526937:=t
def tw258204147387103276:=t
def tw16145670418848962200:=t
def tw15052318979288761249:=t
def tw13462424878891718212:=t
def tw18101783494082082527:=t
def tw13160504802963445071:=t
def tw3308634892276815127:=t
def tw12954591660760965231:=t
def tw9461873434466728008:=t
def tw7046044490832178742:=t
def tw13956191218907399338:=t
def tw10236332898609347644:=t
def tw13343918040275786880:=t
def tw5872530126848033075:=t
def tw10888863842102328177:=t
def tw3985964047577975286:=t
def tw1835201335921387983:=t
def tw9536688357841153863:=t
def tw8219003486749837733:=t
def tw7424060955962978353:=t
def tw7091221385724896812:=t
def tw4993863958327201973:=t
def tw4548300405975405348:=t
def tw4436474186459923750:=t
def tw3641951560692057861:=t
def tw3328118118096588273:=t
def tw3042748168174471775:=t
def tw2997480634906808460:=t
def tw17760279517084355780:=t
def tw17590705303994421779:=t
def tw17318462890700432884:=t
def tw14827714588952709054:=t
def tw14760874974797668852:=t
def tw13313058339493701161:=t
def tw1205274952441263945:=t
def tw14934011241717051027:=t
def tw14995258362815363992:=t
def tw13069393092227542028:=t
def tw11564986514327137767:=t
def tw7557421358154311045:=t
def tw16309811473084048462:=t
def tw17338325484393633139:=t
def tw8733291241859026926:=t
def tw14935467056822913822:=t
def tw10611411778653204182:=t
def tw3300257896294614128:=t
def tw7322748291113730364:=t
def tw9860861378791804195:=t
def tw87601786513091389:=t
def tw12382822922155266910:=t
def tw7792700002687035005:=t
def tw699815216081779126:=t
def tw10228342955482612591:=t
def tw10085292869130188298:=t
def tw5537553045615171315:=t
def tw3543459598558145280:=t
def tw2941924889016668590:=t
def tw16248296213531012650:=t
def tw15402603294489630176:=t
def tw3239113980409921550:=t
def tw15254633091992210921:=t
def tw10988764466652934233:=t
def tw9689729476882780088:=t
def tw8002303944043701648:=t
def tw3681537716864247207:=t
def tw8157277791214410489:=t
def tw9972681490609642005:=t
def tw3520257249291928256:=t
def tw8865387616306378214:=t
def tw15978794797337165890:=t
def tw16583815154217966991:=t
def tw896239598344801917:=t
def tw11962351593759143498:=t
def tw16409965706819354750:=t
def tw4635989785427082552:=t
def tw8997383693586321770:=t
def tw6248682570935725439:=t
def tw8278001386518606062:=t
def tw3235425350174046738:=t
def tw11907897558876765624:=t
def tw8912161614967838395:=t
def tw5890639436620234070:=t
def tw18418582437962087742:=t
def tw18367749455379333440:=t
def tw17713387462200973399:=t
def tw10958628066121416707:=t
def tw3721919958574915784:=t
def tw13394580363473044415:=t
def tw1000662321505670351:=t
def tw9456574344343218679:=t
def tw7480016910919988345:=t
def tw5438652380644606353:=t
def tw15779231459743154856:=t
def tw13757698761724263525:=t
def tw12772213712371865176:=t
def tw9977182230042388008:=t
def tw9879335643197240621:=t
def tw6968137755033780318:=t
def tw6472337539984862722:=t
def tw5702276774652866934:=t
def tw2455152089536381482:=t
def tw2353497105660221152:=t
def tw1979317910248211280:=t
def tw17351735930882485243:=t
def tw16670775579421159206:=t
def tw16120054744476736488:=t
def tw14219159868682941630:=t
def tw13855379610559885079:=t
def tw12269216009862288129:=t
def tw11429584451438056573:=t
def tw7374399212775623666:=t
def tw6188973233030003785:=t
def tw18220031379085947620:=t
def tw15267169705364848929:=t
def tw12396662096508845406:=t
def tw5239429619861171699:=t
def tw13601115934706021691:=t
def tw16217903435359918192:=t
def tw6128145076113358165:=t
def tw1342123614928995077:=t
def tw12138319994727072339:=t
def tw561727478393794602:=t
def tw5665240888008139550:=t
def tw7538781388859322016:=t
def tw506581581156960101:=t
def tw12315944733273679750:=t
def tw11263768400469242888:=t
def tw9496581404884138560:=t
def tw8115137120850386438:=t
def tw5694767641087392711:=t
def tw360634875079729221:=t
def tw2595585439558603231:=t
def tw14537775516033599862:=t
def tw6557801498797044033:=t
def tw8565224436197482051:=t
def tw16053306600634468012:=t
def tw15831126876759372255:=t
def tw10341888390210383824:=t
def tw6125853113672642322:=t
def tw16132249320637822498:=t
def tw18441984877410159329:=t
def tw14782954611325821827:=t
def tw206757683497733573:=t
def tw938635154573522699:=t
def tw1378205811072252300:=t
def tw18105302477358141223:=t
def tw3110587219445414310:=t
def tw13631397514672939371:=t
def tw12003660372656728261:=t
def tw11402884983299125971:=t
def tw10953238642706405951:=t
def tw10550934584343373414:=t
def tw5610444585433571239:=t
def tw15621415185263527259:=t
def tw424408320835691240:=t
def tw866717566613908145:=t
def tw7231845647793152400:=t
def tw5832146486336120021:=t
def tw2132029292895624192:=t
def tw17823556299335049440:=t
def tw12250869413391326473:=t
def tw10052031235695348791:=t
def tw977512076041815475:=t
def tw9630203353718772412:=t
def tw9320515035125037321:=t
def tw9317495090193701157:=t
def tw9104974531708491489:=t
def tw8996207646774452837:=t
def tw8356303796347215682:=t
def tw8166255043249204926:=t
def tw7943549864190904611:=t
def tw6084841979344569690:=t
def tw4483904966330829159:=t
def tw4313010194945074917:=t
def tw4102176305081739490:=t
def tw3335794202401238526:=t
def tw2868442198168577507:=t
def tw2228412568605170491:=t
def tw18124618509676941091:=t
def tw17986951261819808105:=t
def tw17980500129456985241:=t
def tw17890440400047909864:=t
def tw16925712312323332580:=t
def tw16212330677787901120:=t
def tw1607123104830579860:=t
def tw15541240446876304647:=t
def tw1467881925912835984:=t
def tw14479964200598819128:=t
def tw12960429369202013873:=t
def tw12132732476715806282:=t
def tw11853640710764476214:=t
def tw4903002758410956813:=t
def tw2135409205425526673:=t
def tw14170518179582410385:=t
def tw6105849179199505303:=t
def tw28018229315631829:=t
def tw2314633323536394700:=t
def tw15554417296805563061:=t
def tw11384182702204212275:=t
def tw6632173468270612925:=t
def tw8159993647027272844:=t
def tw2692750590507578028:=t
def tw9223045988441327695:=t
def tw9784134513789038367:=t
def tw9757595895972200118:=t
def tw9646623106273453227:=t
def tw9387514328989991554:=t
def tw890339118813698166:=t
def tw8432719020341155521:=t
def tw6408400580700104982:=t
def tw2400638427578300857:=t
def tw18003772858949239459:=t
def tw14577027041581768965:=t
def tw14226173905949225808:=t
def tw12773500944031208451:=t
def tw14592624751514493413:=t
def tw14904681115217272601:=t
def tw8318101203651539667:=t
def tw523537741815420091:=t
def tw4333590680753393835:=t
def tw2731476521559533851:=t
def tw2546767868308347339:=t
def tw16792556548410726896:=t
def tw2741014181512449073:=t
def tw10510019762269167821:=t
def tw9950792792127014553:=t
def tw8285278889055680438:=t
def tw15861351967447197489:=t
def tw13367274342830030513:=t
def tw12652081859355081885:=t
def tw11066385474520676512:=t
def tw11434409910335936926:=t
def tw6953138203311097117:=t
def tw6278996535519779258:=t
def tw14553807712399142462:=t
def tw13257283266767686631:=t
def tw10861573186032746274:=t
def tw9404705873571188630:=t
def tw8151759404152838978:=t
def tw6284410105664486691:=t
def tw6170744672141170255:=t
def tw5816495043963226922:=t
def tw542563422162235373:=t
def tw3846801734645722302:=t
def tw3277229846650655979:=t
def tw247591363613054380:=t
def tw209982475168477708:=t
def tw1864683662541468164:=t
def tw18333273249017474000:=t
def tw18031968618487185184:=t
def tw17558320327384617127:=t
def tw17348111734160510231:=t
def tw17261404542052806724:=t
def tw1725486776273817318:=t
def tw15925456577456769635:=t
def tw15593559885672580101:=t
def tw14710976976299594304:=t
def tw14172470266813156586:=t
def tw12528533614272120300:=t
def tw1205604411410820431:=t
def tw10956520680868813917:=t
def tw10826640976665885199:=t
def tw9363214764283991203:=t
def tw4580019852769339753:=t
def tw14940998509354871970:=t
def tw987426779421491659:=t
def tw4408816720484365081:=t
def tw4323258101793500111:=t
def tw12298192366917762067:=t
def tw9358312197846296583:=t
def tw86012387029904805:=t
def tw6984818610989830729:=t
def tw11449968299874610285:=t
def tw2597523674469684444:=t
def tw243476719192100926:=t
def tw1986786360949550309:=t
def tw9402243437249704421:=t
def tw6828597562223498359:=t
def tw4859391219904099992:=t
def tw4561898282857576226:=t
def tw4493901809537577575:=t
def tw3953844824629472508:=t
def tw3198059409981156222:=t
def tw3071672057996947647:=t
def tw2595618661548880785:=t
def tw2034817482908223496:=t
def tw1922157984580058403:=t
def tw17472340661787783526:=t
def tw16753820520455620202:=t
def tw15481805183316651443:=t
def tw13851971633180934007:=t
def tw13142635158332540280:=t
def tw12670982853097334264:=t
def tw12550775161083096063:=t
def tw12405761042648551022:=t
def tw11368310244458860372:=t
def tw13265978090383273239:=t
def tw10627929193734500438:=t
def tw9910136688757260964:=t
def tw8854275682344465072:=t
def tw8282588126930224528:=t
def tw6621635546502472408:=t
def tw4843829748527759242:=t
def tw17689344090056996911:=t
def tw14800370929953404514:=t
def tw12731152576971404446:=t
def tw10118262284458037933:=t
def tw4290864757253303354:=t
def tw5449601097390414333:=t
def tw2084650752826471497:=t
def tw16626521671886133394:=t
def tw15499940227032437249:=t
def tw12488014758255163090:=t
def tw10374632558016547081:=t
def tw10539347186207431242:=t
def tw13861322856664149509:=t
def tw12750670339961964742:=t
def tw8374155422468719031:=t
def tw2708214617527550399:=t
def tw14404928986312190071:=t
def tw6522051377940421278:=t
def tw5449563278759341024:=t
def tw3652199383789512132:=t
def tw10312438410070409164:=t
def tw7151132215420815488:=t
def tw6751970477201280107:=t
def tw2925816871977632210:=t
def tw1932759071263863916:=t
def tw8331849164307833061:=t
def tw8171798328758944481:=t
def tw7217548393331319763:=t
def tw6798380500665416597:=t
def tw5404398260228975080:=t
def tw5217270863462422736:=t
def tw4946147512530127568:=t
def tw3419001889969749887:=t
def tw16260866306193365299:=t
def tw15621116118777243554:=t
def tw14611616552423853409:=t
def tw14196522196718054806:=t
def tw14022695629967993375:=t
def tw11161164713144168021:=t
def tw11033627544408312984:=t
def tw643336161829623379:=t
def tw16531682779099013679:=t
def tw14961746396406840608:=t
def tw14154597600763967237:=t
def tw9919008367099125623:=t
def tw7933485763601977624:=t
def tw772564365185477556:=t
def tw6858818405166986180:=t
def tw6851275008772768644:=t
def tw5994696166404524948:=t
def tw5002640475654186023:=t
def tw4512776594637900181:=t
def tw447263597446747957:=t
def tw443766864951011646:=t
def tw3475869608268796686:=t
def tw3049343062529576306:=t
def tw2950685276103557050:=t
def tw1717767836212652739:=t
def tw16682895059504647277:=t
def tw16615150188913437886:=t
def tw16108870410212019532:=t
def tw1495895850433845275:=t
def tw13812277999558781770:=t
def tw13421457143807847188:=t
def tw12459912946257978736:=t
def tw10258873121960336067:=t
def tw9848817304349107530:=t
def tw8760152093665844161:=t
def tw8080008513338510535:=t
def tw5832305185047221409:=t
def tw5444512763150141072:=t
def tw5362036446546632119:=t
def tw4039707410889071942:=t
def tw2403389108928632939:=t
def tw18328257000508772394:=t
def tw15539815450414544023:=t
def tw15173544498738437827:=t
def tw14703100239697439463:=t
def tw13444670453868202053:=t
def tw11489344026974618541:=t
def tw10910644110388302437:=t
def tw2483420100392427323:=t
def tw1825952489489211193:=t
def tw16756451883985382160:=t
def tw10510056951384868246:=t
def tw6822071536725586909:=t
def tw446995266069924076:=t
def tw2244103112122482387:=t
def tw1915925776726481438:=t
def tw1708089923452030704:=t
def tw3919386906821981792:=t
def tw5649666937502919571:=t
def tw8122695690928665766:=t
def tw6356304189028158447:=t
def tw6056707288978253535:=t
def tw5010956058597451964:=t
def tw4096438862311573950:=t
def tw3300454383303005205:=t
def tw2570914705882880060:=t
def tw2466311954974566718:=t
def tw16723463757517087524:=t
def tw16279288168775177219:=t
def tw14842496431369740429:=t
def tw13953587524928339648:=t
def tw13385558918117058561:=t
def tw13034982811429478159:=t
def tw10698057553749749337:=t
def tw8981176238543900561:=t
def tw8950108695139179302:=t
def tw8834805137890396735:=t
def tw8757050672659960515:=t
def tw8413399678365625193:=t
def tw8185545411690514434:=t
def tw8060666987683057360:=t
def tw7873748247521183178:=t
def tw7766106395892283477:=t
def tw7764699552788554220:=t
def tw7607420049574824106:=t
def tw7509565986652818475:=t
def tw6597789921013551971:=t
def tw640624198105042115:=t
def tw6329614223026926184:=t
def tw6325675986683464353:=t
def tw6094820017090691545:=t
def tw5462360663327728810:=t
def tw5388589039460942527:=t
def tw5306753302271460952:=t
def tw5263133172445716209:=t
def tw5171440476677080432:=t
def tw4684226298888400098:=t
def tw4077048163395320219:=t
def tw4026147355466621588:=t
def tw3456351732281881909:=t
def tw2983494736656345032:=t
def tw2846267367221353805:=t
def tw2781441929908095834:=t
def tw2629151800749243262:=t
def tw2333105410213810865:=t
def tw18335596039185421423:=t
def tw17877845533520812795:=t
def tw17271881437230615512:=t
def tw1663524305781585820:=t
def tw16422413458241162112:=t
def tw15504105790966721872:=t
def tw1537541725227008683:=t
def tw15036080040530398195:=t
def tw14284835775768690865:=t
def tw13571862603940711859:=t
def tw13459084325293418506:=t
def tw13164499291161521807:=t
def tw13053394406489344094:=t
def tw12064304430848566033:=t
def tw11898673842065290130:=t
def tw11120740854625124088:=t
def tw11063759124802658401:=t
def tw10886659093417053267:=t
def tw9252304221032618942:=t
def tw9201617497623189827:=t
def tw8909772338491405060:=t
def tw8428246938381088814:=t
def tw8392358500681263680:=t
def tw727553628536289456:=t
def tw7053471978191194526:=t
def tw6900931685637148767:=t
def tw6880980288501444468:=t
def tw6701911527682315725:=t
def tw628631919661052299:=t
def tw6259241058660970061:=t
def tw6194202620331982285:=t
def tw609457278022895560:=t
def tw5233118043267047457:=t
def tw5221592684559293012:=t
def tw4565167180653195659:=t
def tw4382473104129494423:=t
def tw3971525946579005399:=t
def tw3436067635600285980:=t
def tw3297117884562324255:=t
def tw296083027919845158:=t
def tw2956708394376553000:=t
def tw2641800013201688601:=t
def tw2424988045566436242:=t
def tw2213964242967304950:=t
def tw2187251505897268136:=t
def tw2046362190076281809:=t
def tw18402647697222807634:=t
def tw18400553757987027518:=t
def tw17937168697417666835:=t
def tw17577329170770402720:=t
def tw17163426234232328066:=t
def tw17137270108147033825:=t
def tw17082689572870858151:=t
def tw16802631365582062104:=t
def tw1630143524128594353:=t
def tw16005714805435085966:=t
def tw15764947353670896545:=t
def tw14935156969734317764:=t
def tw14845619989558847073:=t
def tw14202271707224943307:=t
def tw13937768818610491111:=t
def tw13931877327420345601:=t
def tw13303234937177203706:=t
def tw13073492499399858440:=t
def tw12738610918357793766:=t
def tw12715800853834201459:=t
def tw12468840222048715292:=t
def tw12461081396071149458:=t
def tw12125097214300078407:=t
def tw12091130801917272685:=t
def tw11707130962622978684:=t
def tw11219443903484984970:=t
def tw11207431853666184334:=t
def tw11095110211248682772:=t
def tw10149570385669482864:=t
def tw10026605065719503897:=t
def tw9969077435446430640:=t
def tw9959121941294770655:=t
def tw9947508896943372755:=t
def tw991626836265849350:=t
def tw9796564346219866840:=t
def tw9678289623588505577:=t
def tw9592521066531166775:=t
def tw9592300441314626372:=t
def tw9584292182412213727:=t
def tw9553971096990549364:=t
def tw9530734954097333506:=t
def tw9510108024173832781:=t
def tw9495317472360511255:=t
def tw9461912720999461741:=t
def tw9388066449989048879:=t
def tw9215358943560890414:=t
def tw9003107776662980439:=t
def tw896878414759379649:=t
def tw8833496514701923757:=t
def tw8752102160057688731:=t
def tw8739830900816887780:=t
def tw8646635810480103244:=t
def tw8521684928402303493:=t
def tw8480184845173159842:=t
def tw8431482922422412695:=t
def tw8319933024895762948:=t
def tw8274446707539698164:=t
def tw8222940686941784037:=t
def tw8185220541750880888:=t
def tw7998583776865276027:=t
def tw7921390202802761869:=t
def tw7873786274422454737:=t
def tw7867829370405329436:=t
def tw7787813539459594420:=t
def tw757356599333046425:=t
def tw7501186508268903616:=t
def tw7220529860990300233:=t
def tw7086961617601330827:=t
def tw7007286002206832825:=t
def tw7001957589650049515:=t
def tw6945566481307383155:=t
def tw6733606326906232124:=t
def tw6690350156832105676:=t
def tw6657536258744368796:=t
def tw6631347999910079877:=t
def tw6575520176995025181:=t
def tw6549852094080907030:=t
def tw6548459193220583526:=t
def tw6542358382571353910:=t
def tw6508132753307246276:=t
def tw6469784823511061222:=t
def tw6331431999304432861:=t
def tw6229817132586351632:=t
def tw6208910965292489261:=t
def tw6172094611929405055:=t
def tw6030501089693204938:=t
def tw5960047855520388891:=t
def tw5920806927976990809:=t
def tw5845002605336314091:=t
def tw5805800948307579973:=t
def tw577049184839899653:=t
def tw5725222548895626118:=t
def tw5711038861398032994:=t
def tw5667099127317398114:=t
def tw5634867526602368427:=t
def tw5622701340561072331:=t
def tw5522115075389312692:=t
def tw5498123283257192965:=t
def tw547895379624588593:=t
def tw5467331546851215429:=t
def tw539538531456391632:=t
def tw5344687154915797982:=t
def tw5137589814051832496:=t
def tw5101696844757716304:=t
def tw5072417060200589145:=t
def tw5037459499596335280:=t
def tw4944497897694004105:=t
def tw4938610541543285704:=t
def tw4906484309439969231:=t
def tw4860023922305330110:=t
def tw4772062507164038959:=t
def tw4766597723019941021:=t
def tw4734895289157585001:=t
def tw4704452742865826424:=t
def tw463774138113389760:=t
def tw4598271963242535575:=t
def tw4547051000311932777:=t
def tw4538635040379822027:=t
def tw4517560463748656503:=t
def tw4470585836733325578:=t
def tw4449297822257671152:=t
def tw4334401890000744311:=t
def tw4321966507151631593:=t
def tw4309217394794523951:=t
def tw4267111383703672358:=t
def tw4211115844707057057:=t
def tw4189273013823423559:=t
def tw4186743451310774866:=t
def tw4171853373547519906:=t
def tw4075453323654395381:=t
def tw4063829332388037331:=t
def tw4051853165826885262:=t
def tw3992765435912101610:=t
def tw3897268976836264337:=t
def tw3851428956369438258:=t
def tw384561282630992784:=t
def tw3831019782443316194:=t
def tw3717076922277056940:=t
def tw3713540243193553862:=t
def tw3676754643040562684:=t
def tw3592811809046731828:=t
def tw3581434408401558974:=t
def tw3438699932752214802:=t
def tw3382625519597670723:=t
def tw3374319085511977134:=t
def tw3270257207059953099:=t
def tw3238445694619138142:=t
def tw3075201292733833056:=t
def tw306047672372848657:=t
def tw2997492091776894028:=t
def tw2990168724187919761:=t
def tw2931988195819169919:=t
def tw2810200551564342888:=t
def tw2789304352393801511:=t
def tw2768188642542392010:=t
def tw2759284407945088205:=t
def tw2646887283097553488:=t
def tw2527701527901579348:=t
def tw2480015634913765671:=t
def tw2474200967059427378:=t
def tw2386784164831690217:=t
def tw2333531293284704758:=t
def tw2295934692909999376:=t
def tw2261719852989239553:=t
def tw2144661209622563809:=t
def tw2107523057676978006:=t
def tw2080317491765294665:=t
def tw2078950565319712143:=t
def tw2015444344454546412:=t
def tw1998347030407657756:=t
def tw1972164579936704799:=t
end PySem.W.Fast
section
open PySem PySem.W PyProof.Rows
set_option maxHeartbeats 0 in
open_top hd for PySem.Challenge.rw_cagebells_k26_book_full
end
set_option Elab.async false
set_option linter.all false
set_option maxRecDepth 100000
namespace L2
open PySem PySem.Spec PyProof.Rows
noncomputable abbrev Key:=Sum Int Str
noncomputable def Js:Key->Value->Bool
 | .inl k,v=>Value.isInt k v
 | .inr x,v=>Value.isStrOf x v
noncomputable def MM (w:World):Key->Int
 | .inl k=>hashInt k
 | .inr x=>hashStr w x
theorem cY:∀{k:Key} {v:Value},Js k v=true->(∃i t,k=Sum.inl i/\v=Value.int i t)\/(∃x t,k=Sum.inr x/\v=Value.str x t)
 | .inl i,v,h=>by
  obtain ⟨t,e⟩:=Value.isInt_shape (k:=i) (v:=v) h
  exact .inl ⟨i,t,rfl,e⟩
 | .inr x,v,h=>by
  obtain ⟨t,e⟩:=Value.isStrOf_shape (x:=x) (v:=v) h
  exact .inr ⟨x,t,rfl,e⟩
theorem JW (a b:Int):decide ((Sum.inl a:Key)=Sum.inl b)=(a == b):=by
 by_cases e:a=b
 ·subst e;simp
 ·have h:¬(Sum.inl a:Key)=Sum.inl b:=fun q=>e (Sum.inl.inj q)
  rw [decide_eq_false h]
  exact (beq_eq_false_iff_ne.mpr e).symm
theorem JX (a b:Str):decide ((Sum.inr a:Key)=Sum.inr b)=decide (a=b):=by
 by_cases e:a=b
 ·subst e;simp
 ·have h:¬(Sum.inr a:Key)=Sum.inr b:=fun q=>e (Sum.inr.inj q)
  rw [decide_eq_false h,decide_eq_false e]
theorem JY (a:Int)(b:Str):decide ((Sum.inl a:Key)=Sum.inr b)=false:=decide_eq_false (fun q=>nomatch q)
theorem JZ (a:Str)(b:Int):decide ((Sum.inr a:Key)=Sum.inl b)=false:=decide_eq_false (fun q=>nomatch q)
noncomputable def zC (prog:Program)(w:World):PySem.KeyKind prog w Key where
 is:=Js
 hash:=MM w
 inj:=fun v a b ha hb=>by
  rcases cY ha with ⟨i,t,rfl,rfl⟩ | ⟨x,t,rfl,rfl⟩
  ·rcases cY hb with ⟨j,u,rfl,e⟩ | ⟨y,u,rfl,e⟩
   ·injection e with e1 _;rw [e1]
   ·exact nomatch e
  ·rcases cY hb with ⟨j,u,rfl,e⟩ | ⟨y,u,rfl,e⟩
   ·exact nomatch e
   ·injection e with e1 _;rw [e1]
 byValue:=fun k v h=>by
  rcases cY h with ⟨i,t,rfl,rfl⟩ | ⟨x,t,rfl,rfl⟩<;>rfl
 pyHash:=fun hv h=>by
  rcases cY hv with ⟨i,t,rfl,rfl⟩ | ⟨x,t,rfl,rfl⟩
  ·exact wpAny_pyHash_int h
  ·exact wpAny_pyHash_str h
 eqBool:=fun hu hv h=>by
  rcases cY hu with ⟨i,t,rfl,rfl⟩ | ⟨x,t,rfl,rfl⟩
  ·rcases cY hv with ⟨j,u,rfl,rfl⟩ | ⟨y,u,rfl,rfl⟩
   ·rw [JW] at h;exact wpAny_eqBool_int h
   ·rw [JY] at h;exact SeqAt.EqAt.int_str i t y u _ _ _ _ h
  ·rcases cY hv with ⟨j,u,rfl,rfl⟩ | ⟨y,u,rfl,rfl⟩
   ·rw [JZ] at h;exact SeqAt.EqAt.str_int x t j u _ _ _ _ h
   ·rw [JX] at h;exact wpAny_eqBool_str h
 «strs»:=fun k x t v h=>by
  rcases cY h with ⟨i,u,rfl,e⟩ | ⟨y,u,rfl,e⟩
  ·exact nomatch e
  ·injection e with e1 _
   subst e1
   cases v<;>rfl
inductive V where
 | non | bl (b:Bool) | int (i:Int) | str (x:Str) | byt (b:Array UInt8) | flt (b:UInt64) | ref (a:Addr) | ty (n:String)
 deriving DecidableEq
noncomputable def bX:V->Value->Prop
 | .non,u=>u=Value.none
 | .bl b,u=>u=Value.bool b
 | .int i,u=>∃t,u=Value.int i t
 | .str x,u=>∃t,u=Value.str x t
 | .byt b,u=>∃t,u=Value.bytes b t
 | .flt b,u=>∃t,u=Value.float b t
 | .ref a,u=>u=Value.ref a
 | .ty n,u=>u=Value.type n
noncomputable abbrev bF:List V->List Value->Prop:=Paired bX
theorem bF.length {xs:List V}{us:List Value}(r:bF xs us):xs.length=us.length:=Paired.length r
theorem bF.get:∀{xs:List V} {us:List Value} {i:Nat} {x:V},bF xs us->xs[i]?=some x->∃u,us[i]?=some u/\bX x u
 | _,_,_,_,.nil,e=>by simp at e
 | _,_,0,_,.cons r _,e=>by simp at e;subst e;exact ⟨_,rfl,r⟩
 | _,_,i+1,x,.cons _ t,e=>by
  obtain ⟨u,h1,h2⟩:=bF.get (i:=i) (x:=x) t (by simpa using e)
  exact ⟨u,by simpa using h1,h2⟩
theorem bF.set {x:V}{u:Value}(r:bX x u):∀{xs:List V} {us:List Value} (i:Nat),bF xs us->bF (xs.set i x) (us.set i u)
 | _,_,_,.nil=>.nil
 | _,_,0,.cons _ t=>.cons r t
 | _,_,i+1,.cons q t=>.cons q (bF.set r i t)
theorem bF.append:∀{xs ys:List V} {us ws:List Value},bF xs us->bF ys ws->bF (xs++ys) (us++ws)
 | _,_,_,_,.nil,s=>s
 | _,_,_,_,.cons r t,s=>.cons r (bF.append t s)
theorem bF.take:∀{xs:List V} {us:List Value} (n:Nat),bF xs us->bF (xs.take n) (us.take n)
 | _,_,0,_=>.nil
 | _,_,_+1,.nil=>.nil
 | _,_,n+1,.cons r t=>.cons r (bF.take n t)
theorem bF.drop:∀{xs:List V} {us:List Value} (n:Nat),bF xs us->bF (xs.drop n) (us.drop n)
 | _,_,0,r=>r
 | _,_,_+1,.nil=>.nil
 | _,_,n+1,.cons _ t=>bF.drop n t
noncomputable def xU:Option V->Option Value->Prop
 | some v,some u=>bX v u
 | none,none=>True
 | _,_=>False
noncomputable def KV {κ:Type}:List (κ×V)->List (κ×Value)->Prop:=Paired fun (p:κ×V) (q:κ×Value)=>p.1=q.1/\bX p.2 q.2
noncomputable def kV:Key->V
 | .inl i=>.int i
 | .inr x=>.str x
inductive HO where
 | lst (xs:List V)
 | tup (xs:List V)
 | dK (kvs:List (Key×V)) | dT (kvs:List (List Key×V))
 | set (S:Int->Bool) (n:Nat)
 | ins (C dx:Addr) (fs:List (Str×V))
 | own (x:Addr)
 | xd (fs:List (Str×V))
 | met (f x:Addr)
 | rng (lo hi:Int)
 | frz (o:Obj) (u:HO)
 | tbl (ps:Array Value)
 | ext (φ:Heap->Prop)
noncomputable abbrev Hp:=Addr->Option HO
noncomputable def upd (H:Hp)(a:Addr)(o:HO):Hp:=fun b=>if b=a then some o else H b
theorem af {H:Hp}{a:Addr}{o:HO}:upd H a o a=some o:=by unfold upd;rw [if_pos rfl]
theorem aB {H:Hp}{a b:Addr}{o:HO}(h:b≠a):upd H a o b=H b:=by unfold upd;rw [if_neg h]
theorem Hi {H:Hp}{a:Addr}{o u:HO}:upd (upd H a o) a u=upd H a u:=by
 funext b;unfold upd;split<;>rfl
theorem ak {H:Hp}{a b:Addr}{o:HO}(h:H a=some o)(h':H b=none):a≠b:=by
 intro e;subst e;rw [h] at h';cases h'
def wb (h:Heap)(a:Addr)(items:Array Value):Prop:=∃o,h.get? a=some o/\(o.cls=.type "tuple"/\∃n,o.data=.seq items n)/\o.dict=none
theorem wb.tup {h:Heap}{a:Addr}{items:Array Value}(x:wb h a items):IsTup h a items:=let ⟨o,e,c,_⟩:=x;⟨o,e,c⟩
theorem wb.lt {h:Heap}{a:Addr}{items:Array Value}(x:wb h a items):a < h.objs.size:=let ⟨_,e,_⟩:=x;Heap.lt_size e
section
variable (P:Program)(w:World)
noncomputable def fN (H:Hp)(h:Heap)(a:Addr):HO->Prop
 | .lst xs=>xs.length<=sizeLine/\∃(its:List Value) (n:Nat),bF xs its/\h.get? a=some {cls:=.type "list",data:=.seq its.toArray n}
 | .tup xs=>xs.length<=sizeLine/\∃its:List Value,bF xs its/\wb h a its.toArray
 | .dK kvs=>kvs.length<=sizeLine/\(a == sysModules)=false/\∃vs,KV kvs vs/\h.DictOf (zC P w) a vs
 | .dT kvs=>kvs.length<=sizeLine/\(a == sysModules)=false/\∃xs:List (List Key×Addr×Value),
   Paired (fun (p:List Key×V) (q:List Key×Addr×Value)=>p.1=q.1/\H q.2.1=some (.tup (p.1.map kV))/\bX p.2 q.2.2) kvs xs/\
   ∃o es ep,h.get? a=some o/\o.ExactDict/\o.data=.dict es ep/\es.toList=xs.map (entryOfKey (tupleKind (zC P w)))/\(xs.map (·.1)).Nodup
 | .set S n=>h.SetOf (intKind P w) a S n
 | .ins C dx fs=>H dx=some (.own a)/\fs.length<=1000/\dx≠a/\h.get? a=some (W.instObj C dx)/\
   ∃mA,h.Ns1 dx mA/\(∀f,xU (fs.lookup f) (mA f))/\PySem.Within mA (fs.map (·.1))
 | .own _=>∃o,h.get? a=some o
 | .xd fs=>∃mA,h.Ns1 a mA/\∀f,xU (fs.lookup f) (mA f)
 | .rng lo hi=>∃t u v,h.get? a=some {cls:=.type "range",data:=.fields #[.int lo t,.int hi u,.int 1 v]}
 | .frz o u=>h.get? a=some o/\fN H h a u
 | .tbl ps=>h.get? a=some {cls:=.none,data:=.fields ps}
 | .met f x=>h.get? a=some (W.methodObj (.ref f) (.ref x))
 | .ext φ=>φ h/\(∃o,h.get? a=some o)/\∀h1 h2:Heap,φ h1->(∀o,h1.get? a=some o->h2.get? a=some o)->φ h2
def HOk (H:Hp)(h:Heap):Prop:=∀a o,H a=some o->fN P w H h a o
end
section
variable {P:Program}{w:World}{H H':Hp}{h h':Heap}{a:Addr}{o:HO}
theorem fN.lt (x:fN P w H h a o):a < h.objs.size:=by
 cases o with
 | lst xs=>obtain ⟨_,_,_,_,e⟩:=x;exact Heap.lt_size e
 | tup xs=>obtain ⟨_,_,_,p⟩:=x;exact p.lt
 | dK kvs=>obtain ⟨_,_,_,_,o,_,_,e,_⟩:=x;exact Heap.lt_size e
 | dT kvs=>obtain ⟨_,_,_,_,o,_,_,e,_⟩:=x;exact Heap.lt_size e
 | set S n=>obtain ⟨o,_,_,_,e,_⟩:=x;exact Heap.lt_size e
 | ins C dx fs=>obtain ⟨_,_,_,e,_⟩:=x;exact Heap.lt_size e
 | own y=>obtain ⟨_,e⟩:=x;exact Heap.lt_size e
 | xd fs=>obtain ⟨_,⟨_,_,_,e,_⟩,_⟩:=x;exact Heap.lt_size e
 | rng lo hi=>obtain ⟨_,_,_,e⟩:=x;exact Heap.lt_size e
 | frz ob u=>obtain ⟨e,_⟩:=x;exact Heap.lt_size e
 | tbl ps=>exact Heap.lt_size (show h.get? a=some _ from x)
 | met f y=>exact Heap.lt_size (show h.get? a=some _ from x)
 | ext φ=>obtain ⟨_,⟨_,e⟩,_⟩:=x;exact Heap.lt_size e
theorem Paired.mapP {α β:Type}{F G:α->β->Prop}:∀{l₁:List α} {l₂:List β},Paired F l₁ l₂->(∀a b,F a b->G a b)->Paired G l₁ l₂
 | _,_,.nil,_=>.nil
 | _,_,.cons r t,f=>.cons (f _ _ r) (Paired.mapP t f)
theorem fN.stay (x:fN P w H h a o)(k:∀b u,(b=a\/H b=some (.own a))->h.get? b=some u->h'.get? b=some u)
  (ho:∀b,H b=some (.own a)->H' b=some (.own a)) (ht:∀b xs,H b=some (.tup xs)->H' b=some (.tup xs)):fN P w H' h' a o:=by
 induction o with
 | lst xs=>obtain ⟨z,its,n,r,e⟩:=x;exact ⟨z,its,n,r,k _ _ (.inl rfl) e⟩
 | tup xs=>obtain ⟨z,its,r,ob,e,c⟩:=x;exact ⟨z,its,r,ob,k _ _ (.inl rfl) e,c⟩
 | dK kvs=>obtain ⟨z,y,vs,r,ob,es,ep,e,c⟩:=x;exact ⟨z,y,vs,r,ob,es,ep,k _ _ (.inl rfl) e,c⟩
 | dT kvs=>
  obtain ⟨z,y,xs,r,ob,es,ep,e,c⟩:=x
  exact ⟨z,y,xs,Paired.mapP r fun p q z=>⟨z.1,ht _ _ z.2.1,z.2.2⟩,ob,es,ep,k _ _ (.inl rfl) e,c⟩
 | set S n=>obtain ⟨ob,es,ep,t,e,c⟩:=x;exact ⟨ob,es,ep,t,k _ _ (.inl rfl) e,c⟩
 | ins C dx fs=>
  obtain ⟨d,z,ne,e,mA,⟨od,es,ep,e2,c⟩,r⟩:=x
  exact ⟨ho _ d,z,ne,k _ _ (.inl rfl) e,mA,⟨od,es,ep,k _ _ (.inr d) e2,c⟩,r⟩
 | own y=>obtain ⟨ob,e⟩:=x;exact ⟨ob,k _ _ (.inl rfl) e⟩
 | xd fs=>obtain ⟨mA,⟨od,es,ep,e,c⟩,r⟩:=x;exact ⟨mA,⟨od,es,ep,k _ _ (.inl rfl) e,c⟩,r⟩
 | rng lo hi=>obtain ⟨t,u,v,e⟩:=x;exact ⟨t,u,v,k _ _ (.inl rfl) e⟩
 | frz ob u ih=>obtain ⟨e,q⟩:=x;exact ⟨k _ _ (.inl rfl) e,ih q⟩
 | tbl ps=>
  have e:h.get? a=some {cls:=.none,data:=.fields ps}:=x
  show h'.get? a=some {cls:=.none,data:=.fields ps}
  exact k a _ (.inl rfl) e
 | met f y=>
  have e:h.get? a=some (W.methodObj (.ref f) (.ref y)):=x
  show h'.get? a=some (W.methodObj (.ref f) (.ref y))
  exact k a _ (.inl rfl) e
 | ext φ=>obtain ⟨p,⟨o,e⟩,st⟩:=x;exact ⟨st _ _ p fun o q=>k _ _ (.inl rfl) q,⟨o,k _ _ (.inl rfl) e⟩,st⟩
theorem HOk.lt (x:HOk P w H h)(e:H a=some o):a < h.objs.size:=(x a o e).lt
theorem HOk.fresh (x:HOk P w H h)(e:h.objs.size<=a):H a=none:=by
 cases q:H a with
 | none=>rfl
 | some u=>exact absurd (Nat.lt_of_lt_of_le (x.lt q) e) (Nat.lt_irrefl _)
theorem HOk.kept (x:HOk P w H h)(k:∀b u,h.get? b=some u->h'.get? b=some u):HOk P w H h':=fun a o e=>
 (x a o e).stay (fun b u _ q=>k b u q) (fun _ q=>q) fun _ _ q=>q
theorem HOk.laid (x:HOk P w H h)(k:∀b u,h.get? b=some u->h'.get? b=some u)(hp:h.objs.size<=a)(new:fN P w (upd H a o) h' a o):HOk P w (upd H a o) h':=fun b u e=>by
 have hn:=x.fresh hp
 by_cases hb:b=a
 ·subst hb;rw [af] at e;cases e;exact new
 ·rw [aB hb] at e
  exact (x b u e).stay (fun c v _ q=>k c v q) (fun c q=>by rw [aB (ak q hn)];exact q) fun c xs q=>by rw [aB (ak q hn)];exact q
end
def Rd (H:Hp)(a:Addr)(u:HO):Prop:=H a=some u\/∃o,H a=some (.frz o u)
theorem Rd.ok {P:Program}{w:World}{H:Hp}{h:Heap}{a:Addr}{u:HO}(r:Rd H a u)(x:HOk P w H h):fN P w H h a u:=by
 rcases r with r | ⟨o,r⟩
 ·exact x a u r
 ·obtain ⟨_,q⟩:=x a _ r
  exact q
noncomputable def Mut:Option HO->Prop
 | some (.lst _)=>True
 | some (.dK _)=>True
 | some (.dT _)=>True
 | some (.set _ _)=>True
 | some (.ins _ _ _)=>True
 | some (.ext _)=>True
 | _=>False
section
variable {P:Program}{w:World}{H:Hp}{h h':Heap}{x e:Addr}{o':HO}
theorem HOk.write (ok:HOk P w H h)(mu:Mut (H x))(he:e=x\/H e=some (.own x))(k:∀b u,b≠e->h.get? b=some u->h'.get? b=some u)(heo:∃u,h'.get? e=some u)
  (new:fN P w (upd H x o') h' x o'):HOk P w (upd H x o') h':=fun b u q=>by
 have nown:∀c y,H c=some (.own y)->c≠x:=fun c y r z=>by subst z;rw [r] at mu;exact mu
 have ntup:∀c xs,H c=some (.tup xs)->c≠x:=fun c xs r z=>by subst z;rw [r] at mu;exact mu
 by_cases hb:b=x
 ·subst hb;rw [af] at q;cases q;exact new
 ·rw [aB hb] at q
  by_cases hbe:b=e
  ·have q':H b=some (.own x):=by
    rcases he with z | z
    ·exact absurd (hbe.trans z) hb
    ·rw [hbe];exact z
   rw [q] at q';cases q'
   obtain ⟨v,hv⟩:=heo
   exact ⟨v,by rw [hbe];exact hv⟩
  ·refine (ok b u q).stay (fun c v hc r=>k c v ?_ r) (fun c r=>by rw [aB (nown c b r)];exact r) fun c xs r=>by rw [aB (ntup c xs r)];exact r
   rcases hc with rfl | hc
   ·exact hbe
   ·rintro rfl
    rcases he with z | z
    ·exact nown c b hc z
    ·rw [hc] at z;cases z;exact hb rfl
end
structure Un (fs ex:List Addr)(H H':Hp)(h h':Heap):Prop where
 keep:∀b o,h.get? b=some o->H b=none->b∉fs->b∉ex->h'.get? b=some o
 slot:∀b o,h.get? b=some o->H b=none->b∈fs->b∉ex->∃sl,h'.get? b=some {o with slots:=sl}
 free:∀b o,h.get? b=some o->H b=none->b∉ex->H' b=none
 there:∀b o,h.get? b=some o->b∉ex->∃o',h'.get? b=some o'
 tups:∀b xs,H b=some (.tup xs)->H' b=some (.tup xs)
 frzs:∀b o u,H b=some (.frz o u)->H' b=some (.frz o u)
 tbls:∀b ps,H b=some (.tbl ps)->∃more,H' b=some (.tbl (ps++more))
section
variable {fs fs' ex ex':List Addr}{H H1 H2:Hp}{h h1 h2 h':Heap}{a x e:Addr}{o:HO}
theorem Un.any (u:Un fs ex H H1 h h1){b:Addr}{ob:Obj}(q:h.get? b=some ob)(n:H b=none)(hx:b∉ex):∃sl,h1.get? b=some {ob with slots:=sl}:=by
 by_cases hb:b∈fs
 ·exact u.slot b ob q n hb hx
 ·exact ⟨ob.slots,u.keep b ob q n hb hx⟩
theorem Un.kept (k:∀b u,h.get? b=some u->h'.get? b=some u):Un fs ex H H h h':=
 ⟨fun b ob q _ _ _=>k b ob q,fun b ob q _ _ _=>⟨ob.slots,k b ob q⟩,fun _ _ _ n _=>n,fun b ob q _=>⟨ob,k b ob q⟩,fun _ _ q=>q,fun _ _ _ q=>q,fun _ ps q=>⟨#[],by rw [q];simp⟩⟩
theorem Un.refl:Un fs ex H H h h:=Un.kept fun _ _ q=>q
theorem Un.laid (k:∀b u,h.get? b=some u->h'.get? b=some u)(hp:h.objs.size<=a)(hn:H a=none):Un fs ex H (upd H a o) h h' where
 keep:=fun b u q _ _ _=>k b u q
 slot:=fun b u q _ _ _=>⟨u.slots,k b u q⟩
 free:=fun b u q n _=>by rw [aB (Nat.ne_of_lt (Nat.lt_of_lt_of_le (Heap.lt_size q) hp))];exact n
 there:=fun b u q _=>⟨u,k b u q⟩
 tups:=fun b xs q=>by rw [aB (ak q hn)];exact q
 frzs:=fun b u xs q=>by rw [aB (ak q hn)];exact q
 tbls:=fun b ps q=>⟨#[],by rw [aB (ak q hn),q];simp⟩
theorem Un.write (mu:Mut (H x))(he:e=x\/H e=some (.own x))(k:∀b u,b≠e->h.get? b=some u->h'.get? b=some u)(heo:∃u,h'.get? e=some u):Un fs ex H (upd H x o) h h':=by
 have hx:∀b,H b=none->b≠x:=fun b n z=>by subst z;rw [n] at mu;exact mu
 have hb:∀b,H b=none->b≠e:=fun b n z=>by
  subst z
  rcases he with r | r
  ·exact hx b n r
  ·rw [n] at r;cases r
 have hm:∀b u,H b=some u->¬Mut (some u)->b≠x:=fun b u q nm z=>by subst z;rw [q] at mu;exact nm mu
 refine ⟨fun b u q n _ _=>k b u (hb b n) q,fun b u q n _ _=>⟨u.slots,k b u (hb b n) q⟩,fun b u q n _=>by rw [aB (hx b n)];exact n,fun b u q _=>?_,
  fun b xs q=>by rw [aB (hm b _ q fun z=>z)];exact q,fun b u xs q=>by rw [aB (hm b _ q fun z=>z)];exact q,fun b ps q=>⟨#[],by rw [aB (hm b _ q fun z=>z),q];simp⟩⟩
 by_cases hbe:b=e
 ·subst hbe;exact heo
 ·exact ⟨u,k b u hbe q⟩
end
noncomputable def trk (h:Heap)(H:Hp):List Addr:=(List.range h.objs.size).filter fun a=>(H a).isSome
noncomputable def zD (h:Heap)(H:Hp):Heap:=W.hideAll h (trk h H)
theorem Es (h:Heap)(H:Hp):(zD h H).objs.size=h.objs.size:=W.hideAll_size _ _
theorem Fj {h:Heap}{H:Hp}{b:Addr}{o:Obj}(e:h.get? b=some o)(n:H b=none):(zD h H).get? b=some o:=
 W.hideAll_get _ e fun hm=>by
  have q:(H b).isSome=true:=(List.mem_filter.mp hm).2
  rw [n] at q;simp at q
theorem Hj {h:Heap}{H:Hp}{b:Addr}{o:Obj}(e:(zD h H).get? b=some o):h.get? b=some o/\H b=none:=by
 have e':h.get? b=some o:=W.of_hideAll (trk h H) e
 refine ⟨e',?_⟩
 cases q:H b with
 | none=>rfl
 | some x=>
  have hm:b∈trk h H:=List.mem_filter.mpr ⟨List.mem_range.mpr (Heap.lt_size e'),by simp [q]⟩
  have z:(zD h H).get? b=none:=W.hideAll_none (trk h H) hm
  rw [z] at e;cases e
noncomputable def Hk (g h:Heap)(L:Addr):List (Addr×Obj):=(List.range h.objs.size).filterMap fun a=>if a=L\/(g.get? a).isSome=true then none else (h.get? a).map fun o=>(a,o)
noncomputable def mJ (g h:Heap)(L d:Addr):List (Addr×Obj):=(Hk g h L).filter fun p=>decide (p.1≠d)
structure Mod (K:WA)(mg:Str->Option Value)(base:Heap):Prop where
 kin:K.In base
 glob:base.Ns mainGlobals mg
 blt:∃mb,base.Ns builtinsNs mb/\∀x:Str,x≠"__name__"->mb x=bootBuiltins x
 nolimit:base.NoLimit
structure Cx where
 prog:Program
 w:World
 K:WA
 mg:Str->Option Value
 base:Heap
 A:Around
 N:List Str
 s₀:Shared
 H₀:Hp
 env:Env
 outer:List Env
 stack:List Env
 ex:List Addr
 fn:Str->Bool
 calm:Bool
 pn:List (Addr×Obj)
 xe:Value->Shared->Prop
noncomputable def frs (l:List Env):List Addr:=l.filterMap (·.frame)
noncomputable abbrev Cx.fs (X:Cx):List Addr:=frs X.outer
def Vis (sc:Scope)(x:Str):Prop:=sc.names.lookup x=some .local\/sc.names.lookup x=some .cell\/sc.names.lookup x=some .free
def Loc (sc:Scope)(x:Str):Prop:=sc.names.lookup x=some .local\/sc.names.lookup x=some .cell
def MN (env:Env)(h:Heap)(m:Str->Option Value)(x:Str)(u:Value):Prop:=
 (env.kindOf x=some .local/\m x=some u)\/((env.kindOf x=some .cell\/env.kindOf x=some .free)/\∃c,env.cells.lookup x=some c/\h.IsCell c (some u))
structure Cx.Ok (X:Cx):Prop where
 mod:Mod X.K X.mg X.base
 kind:X.env.scope.kind=.function
 glob:X.env.globals=mainGlobals
 blt:X.env.builtins=builtinsNs
 above:X.s₀.heap.objs.size<=X.env.locals
 inj:∀x y c,X.env.cells.lookup x=some c->X.env.cells.lookup y=some c->x=y
 has:∀x,(X.env.kindOf x=some .cell\/X.env.kindOf x=some .free)->∃c,X.env.cells.lookup x=some c
 cab:∀x c,X.fn x=true->X.env.cells.lookup x=some c->X.s₀.heap.objs.size<=c
 hd:X.calm=true->X.A.handled=none
 frames:X.A.frames=some X.stack
 stk:X.stack=X.outer\/(X.stack=X.env::X.outer/\X.env.frame=some X.env.locals)
 exf:∀b∈X.ex,b≠X.env.locals/\∀x c,X.env.cells.lookup x=some c->c≠b
 bs:∀b o,X.base.get? b=some o->X.s₀.heap.get? b=some o/\X.H₀ b=none
 bsz:X.base.objs.size<=X.s₀.heap.objs.size
 noex:∀b o,X.base.get? b=some o->b∉X.ex
 exfs:∀b∈X.ex,b∉X.fs
 funs:X.s₀.heap.FunFrames X.base X.outer
 frf:∀b∈X.fs,X.H₀ b=none
structure Inv (X:Cx)(pins:List (Addr×Obj))(σ:List (Option V))(H:Hp)(s:Shared):Prop where
 ok:X.Ok
 os:s.os=X.s₀.os
 bare:AllBare s.gens
 base:Un X.fs X.ex X.H₀ H X.s₀.heap s.heap
 loc:∃m,s.heap.Ns X.env.locals m/\∀(i:Nat) (x:Str) (v:V),X.N[i]?=some x->σ[i]?=some (some v)->Vis X.env.scope x->∃u,bX v u/\MN X.env s.heap m x u
 cell:∀x c,X.env.cells.lookup x=some c->∃v,s.heap.IsCell c v
 free:H X.env.locals=none
 freeC:∀x c,X.env.cells.lookup x=some c->H c=none
 pin:∀p∈X.pn++pins,s.heap.get? p.1=some p.2/\H p.1=none/\p.1≠X.env.locals/\p.1∉X.fs/\∀v,p.2.data≠.cell v
 hok:HOk X.prog X.w H s.heap
 len:σ.length=X.N.length
section
variable {X:Cx}{pins:List (Addr×Obj)}{σ:List (Option V)}{H H':Hp}{s:Shared}{h':Heap}
theorem Cx.Ok.nofr (ok:X.Ok){b:Addr}{o:Obj}(e:X.base.get? b=some o):b∉X.fs:=fun hb=>by
 have:=(ok.funs.mem hb).1
 rw [e] at this;cases this
theorem Inv.bs (I:Inv X pins σ H s):∀b o,X.base.get? b=some o->s.heap.get? b=some o/\H b=none:=fun b o e=>
 ⟨I.base.keep b o (I.ok.bs b o e).1 (I.ok.bs b o e).2 (I.ok.nofr e) (I.ok.noex b o e),I.base.free b o (I.ok.bs b o e).1 (I.ok.bs b o e).2 (I.ok.noex b o e)⟩
theorem Inv.bk (I:Inv X pins σ H s):∀b o,X.base.get? b=some o->s.heap.get? b=some o:=fun b o e=>(I.bs b o e).1
theorem Inv.mod (I:Inv X pins σ H s):Mod X.K X.mg X.base:=I.ok.mod
theorem Inv.kIn (I:Inv X pins σ H s):X.K.In s.heap:=I.ok.mod.kin.keeps I.bk
theorem Inv.fr (I:Inv X pins σ H s):∃m,Fr X.base X.env.locals s.heap m:=
 let ⟨m,hn,_⟩:=I.loc
 ⟨m,hn,I.bk,Nat.le_trans I.ok.bsz I.ok.above⟩
theorem Inv.lt (I:Inv X pins σ H s):X.env.locals < s.heap.objs.size:=let ⟨_,hn,_⟩:=I.loc;hn.lt
theorem Inv.sz (I:Inv X pins σ H s):X.s₀.heap.objs.size<=s.heap.objs.size:=Nat.le_trans I.ok.above (Nat.le_of_lt I.lt)
theorem Inv.nofs (I:Inv X pins σ H s){a:Addr}(h:s.heap.objs.size<=a):a∉X.fs:=fun hb=>by
 obtain ⟨_,o,ho,_⟩:=I.ok.funs.mem hb
 exact absurd (Nat.lt_of_lt_of_le (Heap.lt_size ho) (Nat.le_trans I.sz h)) (Nat.lt_irrefl _)
theorem Inv.cne (I:Inv X pins σ H s):∀x c,X.env.cells.lookup x=some c->c≠X.env.locals:=fun x c e z=>by
 obtain ⟨v,o,ho,hd⟩:=I.cell x c e
 obtain ⟨m,⟨o',es,ep,ho',hd',_⟩,_⟩:=I.loc
 rw [z,ho'] at ho;cases ho;rw [hd'] at hd;cases hd
theorem Inv.funs (I:Inv X pins σ H s):s.heap.FunFrames X.base X.outer:=by
 have all:∀(l:List Env),(∀b∈frs l,b∈X.fs)->X.s₀.heap.FunFrames X.base l->s.heap.FunFrames X.base l:=by
  intro l
  induction l with
  | nil=>intro _ _;trivial
  | cons env r ih=>
   intro hs hl
   obtain ⟨hk,⟨L,o,hf,hn,ho,hd⟩,hr⟩:=hl
   have hL:L∈X.fs:=hs L (by unfold frs;rw [List.filterMap_cons,hf];exact List.mem_cons_self)
   obtain ⟨sl,e⟩:=I.base.slot L o ho (I.ok.frf L hL) hL fun z=>I.ok.exfs L z hL
   exact ⟨hk,⟨L,_,hf,hn,e,hd⟩,ih (fun b hb=>hs b (by unfold frs;rw [List.filterMap_cons,hf];exact List.mem_cons_of_mem _ hb)) hr⟩
 exact all X.outer (fun _ hb=>hb) I.ok.funs
theorem Inv.stack (I:Inv X pins σ H s):s.heap.FunFrames X.base X.stack:=by
 rcases I.ok.stk with e | ⟨e,hf⟩
 ·rw [e];exact I.funs
 ·rw [e]
  obtain ⟨m,hn,_⟩:=I.loc
  refine .cons (by rw [I.ok.kind];decide) hf hn ?_ I.funs
  exact Heap.get?_none_of_le (Nat.le_trans I.ok.bsz I.ok.above)
theorem Inv.stkSub (I:Inv X pins σ H s):∀b∈frs X.stack,b∈X.env.locals::X.fs:=fun b hb=>by
 rcases I.ok.stk with e | ⟨e,hf⟩
 ·rw [e] at hb;exact List.mem_cons_of_mem _ hb
 ·rw [e] at hb
  unfold frs at hb
  rw [List.filterMap_cons,hf] at hb
  exact hb
theorem Inv.stkFree (I:Inv X pins σ H s):∀b∈frs X.stack,H b=none:=fun b hb=>by
 rcases List.mem_cons.mp (I.stkSub b hb) with e | hb
 ·rw [e];exact I.free
 ·obtain ⟨_,o,ho,_⟩:=I.ok.funs.mem hb
  exact I.base.free b o ho (I.ok.frf b hb) fun z=>I.ok.exfs b z hb
theorem Inv.step {g':Array GenState}{t':Nat}{d':Drawn}{ch:List Addr}(I:Inv X pins σ H s)
  (hch:∀b∈ch,(b∈X.ex\/X.s₀.heap.objs.size<=b)/\b≠X.env.locals/\(∀x c,X.env.cells.lookup x=some c->c≠b)/\∀p∈X.pn++pins,p.1≠b)
  (keep:∀b o,b≠X.env.locals->b∉X.fs->b∉ch->s.heap.get? b=some o->H b=none->h'.get? b=some o)
  (slot:∀b o,b≠X.env.locals->b∈X.fs->b∉ch->s.heap.get? b=some o->H b=none->∃sl,h'.get? b=some {o with slots:=sl}) (free:∀b o,b∉ch->s.heap.get? b=some o->H b=none->H' b=none)
  (there:∀b o,b∉ch->s.heap.get? b=some o->∃o',h'.get? b=some o')
  (tups:∀b xs,H b=some (.tup xs)->H' b=some (.tup xs)) (frzs:∀b o u,H b=some (.frz o u)->H' b=some (.frz o u)) (tbls:∀b ps,H b=some (.tbl ps)->∃more,H' b=some (.tbl (ps++more)))
  (ns:∀m,s.heap.Ns X.env.locals m->h'.Ns X.env.locals m) (hok:HOk X.prog X.w H' h') (hg:AllBare g') :
  Inv X pins σ H' {s with heap:=h',gens:=g',drawn:=d',toks:=t'}:=by
 have neL:∀b o,X.s₀.heap.get? b=some o->b≠X.env.locals:=fun b o e=>Nat.ne_of_lt (Nat.lt_of_lt_of_le (Heap.lt_size e) I.ok.above)
 have neC:∀b o,X.s₀.heap.get? b=some o->b∉X.ex->b∉ch:=fun b o e hx hb=>by
  rcases (hch b hb).1 with z | z
  ·exact hx z
  ·exact absurd (Nat.lt_of_lt_of_le (Heap.lt_size e) z) (Nat.lt_irrefl _)
 have cellK:∀x c,X.env.cells.lookup x=some c->∀v,s.heap.IsCell c v->h'.IsCell c v:=fun x c e v ⟨o,ho,hd⟩=>by
  have nch:c∉ch:=fun z=>(hch c z).2.2.1 x c e rfl
  by_cases hc:c∈X.fs
  ·obtain ⟨sl,q⟩:=slot c o (I.cne x c e) hc nch ho (I.freeC x c e)
   exact ⟨_,q,hd⟩
  ·exact ⟨o,keep c o (I.cne x c e) hc nch ho (I.freeC x c e),hd⟩
 refine ⟨I.ok,I.os,hg,⟨fun b o e n hb hx=>?_,fun b o e n hb hx=>?_,fun b o e n hx=>?_,fun b o e hx=>?_,fun b xs e=>tups b xs (I.base.tups b xs e),fun b o xs e=>frzs b o xs (I.base.frzs b o xs e),fun b ps e=>?_⟩,?_,fun x c e=>?_,?_,fun x c e=>?_,fun p hp=>?_,hok,I.len⟩
 ·exact keep b o (neL b o e) hb (neC b o e hx) (I.base.keep b o e n hb hx) (I.base.free b o e n hx)
 ·obtain ⟨sl,e1⟩:=I.base.slot b o e n hb hx
  obtain ⟨sl',e2⟩:=slot b _ (neL b o e) hb (neC b o e hx) e1 (I.base.free b o e n hx)
  exact ⟨sl',e2⟩
 ·obtain ⟨o',e1⟩:=I.base.there b o e hx
  exact free b o' (neC b o e hx) e1 (I.base.free b o e n hx)
 ·obtain ⟨o',e1⟩:=I.base.there b o e hx
  exact there b o' (neC b o e hx) e1
 ·obtain ⟨m1,e1⟩:=I.base.tbls b ps e
  obtain ⟨m2,e2⟩:=tbls b _ e1
  exact ⟨m1++m2,by rw [e2,Array.append_assoc]⟩
 ·obtain ⟨m,hn,hl⟩:=I.loc
  refine ⟨m,ns m hn,fun i x v e1 e2 e3=>?_⟩
  obtain ⟨u,r,l⟩:=hl i x v e1 e2 e3
  refine ⟨u,r,?_⟩
  rcases l with l | ⟨k,c,e,z⟩
  ·exact .inl l
  ·exact .inr ⟨k,c,e,cellK x c e _ z⟩
 ·obtain ⟨v,z⟩:=I.cell x c e
  exact ⟨v,cellK x c e v z⟩
 ·obtain ⟨m,⟨o,_,_,ho,_⟩,_⟩:=I.loc
  exact free _ o (fun z=>(hch _ z).2.1 rfl) ho I.free
 ·obtain ⟨v,o,ho,hd⟩:=I.cell x c e
  exact free c o (fun z=>(hch c z).2.2.1 x c e rfl) ho (I.freeC x c e)
 ·obtain ⟨e,n,ne,nf,d⟩:=I.pin p hp
  have nch:p.1∉ch:=fun z=>(hch p.1 z).2.2.2 p hp rfl
  exact ⟨keep p.1 p.2 ne nf nch e n,free p.1 p.2 nch e n,ne,nf,d⟩
theorem Inv.un {t':Nat}(I:Inv X pins σ H s)(u:Un X.fs [] H H' s.heap h')(hok:HOk X.prog X.w H' h'):Inv X pins σ H' {s with heap:=h',toks:=t'}:=by
 obtain ⟨m,⟨o,es,ep,ho,r⟩,_⟩:=id I.loc
 obtain ⟨sl,hL⟩:=u.any ho I.free (by simp)
 exact I.step (g':=s.gens) (d':=s.drawn) (ch:=[]) (fun _ z=>nomatch z) (fun b o _ hb _ e n=>u.keep b o e n hb (by simp)) (fun b o _ hb _ e n=>u.slot b o e n hb (by simp)) (fun b o _ e n=>u.free b o e n (by simp)) (fun b o _ e=>u.there b o e (by simp)) u.tups u.frzs u.tbls (fun m' hm=>by
  obtain ⟨o',es',ep',ho',r'⟩:=hm
  rw [ho] at ho';cases ho'
  exact ⟨_,es',ep',hL,r'⟩) hok I.bare
theorem Inv.call {g':Array GenState}{t':Nat}{d':Drawn}{ch:List Addr}(I:Inv X pins σ H s)(u:Un (frs X.stack) ch H H' s.heap h')(hok:HOk X.prog X.w H' h')(hg:AllBare g')
  (hch:∀b∈ch,(b∈X.ex\/X.s₀.heap.objs.size<=b)/\b≠X.env.locals/\(∀x c,X.env.cells.lookup x=some c->c≠b)/\∀p∈X.pn++pins,p.1≠b) :
  Inv X pins σ H' {s with heap:=h',gens:=g',drawn:=d',toks:=t'}:=by
 obtain ⟨m,⟨o,es,ep,ho,r⟩,_⟩:=id I.loc
 obtain ⟨sl,hL⟩:=u.any ho I.free fun z=>(hch _ z).2.1 rfl
 exact I.step (ch:=ch) hch (fun b o hL hb hc e n=>u.keep b o e n (fun z=>(List.mem_cons.mp (I.stkSub b z)).elim hL hb) hc) (fun b o _ _ hc e n=>u.any e n hc) (fun b o hc e n=>u.free b o e n hc) (fun b o hc e=>u.there b o e hc) u.tups u.frzs u.tbls (fun m' hm=>by
  obtain ⟨o',es',ep',ho',r'⟩:=hm
  rw [ho] at ho';cases ho'
  exact ⟨_,es',ep',hL,r'⟩) hok hg
theorem Inv.turned {t':Nat}{it:Addr}(I:Inv X pins σ H s)(k:∀b o,b≠it->s.heap.get? b=some o->h'.get? b=some o)(hn:H it=none)(hL:it≠X.env.locals)
  (h1:it∈X.ex\/X.s₀.heap.objs.size<=it) (h2:∀x c,X.env.cells.lookup x=some c->c≠it) (h3:∀p∈X.pn++pins,p.1≠it):Inv X pins σ H {s with heap:=h',toks:=t'}:=by
 have nit:∀b u,H b=some u->b≠it:=fun b u e z=>by rw [z,hn] at e;cases e
 refine I.step (g':=s.gens) (d':=s.drawn) (ch:=[it]) (fun b hb=>?_) (fun b o _ _ hc e _=>k b o (fun z=>hc (by simp [z])) e) (fun b o _ _ hc e _=>⟨o.slots,k b o (fun z=>hc (by simp [z])) e⟩) (fun _ _ _ _ n=>n)
  (fun b o hc e=>⟨o,k b o (fun z=>hc (by simp [z])) e⟩) (fun _ _ e=>e) (fun _ _ _ e=>e) (fun b ps e=>⟨#[],by rw [e];simp⟩) (fun m hm=>?_) (fun b u e=>?_) I.bare
 ·have e:b=it:=by simpa using hb
  subst e
  exact ⟨h1,hL,h2,h3⟩
 ·obtain ⟨o,es,ep,ho,r⟩:=hm
  exact ⟨o,es,ep,k _ o (Ne.symm hL) ho,r⟩
 ·refine (I.hok b u e).stay (fun c v hc q=>k c v ?_ q) (fun _ q=>q) fun _ _ q=>q
  rcases hc with z | z
  ·rw [z];exact nit b u e
  ·exact nit c _ z
theorem Inv.tok (I:Inv X pins σ H s)(t:Nat):Inv X pins σ H {s with toks:=t}:=I.un (h':=s.heap) (t':=t) Un.refl I.hok
theorem Inv.kept {t':Nat}(I:Inv X pins σ H s)(k:∀b u,s.heap.get? b=some u->h'.get? b=some u):Inv X pins σ H {s with heap:=h',toks:=t'}:=I.un (Un.kept k) (I.hok.kept k)
theorem Inv.laid {a:Addr}{o:HO}{t':Nat}(I:Inv X pins σ H s)(k:∀b u,s.heap.get? b=some u->h'.get? b=some u)(hp:s.heap.objs.size<=a)(new:fN X.prog X.w (upd H a o) h' a o) :
  Inv X pins σ (upd H a o) {s with heap:=h',toks:=t'}:=I.un (Un.laid k hp (I.hok.fresh hp)) (I.hok.laid k hp new)
theorem Inv.write {x e:Addr}{o:HO}{t':Nat}(I:Inv X pins σ H s)(mu:Mut (H x))(he:e=x\/H e=some (.own x))(k:∀b u,b≠e->s.heap.get? b=some u->h'.get? b=some u)(heo:∃u,h'.get? e=some u)
  (new:fN X.prog X.w (upd H x o) h' x o):Inv X pins σ (upd H x o) {s with heap:=h',toks:=t'}:=I.un (Un.write mu he k heo) (I.hok.write mu he k heo new)
theorem Inv.weak {σ':List (Option V)}(I:Inv X pins σ H s)(hl:σ'.length=σ.length)(w:∀(i:Nat) v,σ'[i]?=some (some v)->σ[i]?=some (some v)):Inv X pins σ' H s:=
 ⟨I.ok,I.os,I.bare,I.base,let ⟨m,hn,hl'⟩:=I.loc;⟨m,hn,fun i x v e1 e2 e3=>hl' i x v e1 (w i v e2) e3⟩,I.cell,I.free,I.freeC,I.pin,I.hok,hl.trans I.len⟩
theorem Inv.pins_of {pins':List (Addr×Obj)}(I:Inv X pins σ H s)(h:∀p∈pins',s.heap.get? p.1=some p.2/\H p.1=none/\p.1≠X.env.locals/\p.1∉X.fs/\∀v,p.2.data≠.cell v):Inv X pins' σ H s:=
 ⟨I.ok,I.os,I.bare,I.base,I.loc,I.cell,I.free,I.freeC,fun p hp=>(List.mem_append.mp hp).elim (fun z=>I.pin p (List.mem_append_left _ z)) (h p),I.hok,I.len⟩
theorem wc {N:List Str}(hN:N.Nodup){i j:Nat}{x:Str}(a:N[i]?=some x)(b:N[j]?=some x):i=j:=by
 obtain ⟨h1,e1⟩:=List.getElem?_eq_some_iff.mp a
 obtain ⟨h2,e2⟩:=List.getElem?_eq_some_iff.mp b
 exact (List.getElem_inj hN).mp (e1.trans e2.symm)
theorem yT {M:Model}{A:Around}{E:Value->Shared->Prop}{i:Nat}{x:Str}{v:V}{u:Value}{Q:Unit->Shared->Prop}(I:Inv X pins σ H s)(hN:X.N.Nodup)(hi:X.N[i]?=some x)(hx:Loc X.env.scope x)(r:bX v u)
  (h:∀s',Inv X pins (σ.set i (some v)) H s'->(∃a,Heap.SameBut a s.heap s'.heap/\(a=X.env.locals\/X.env.cells.lookup x=some a))->Q () s') (hf:X.fn x=true\/X.env.scope.names.lookup x=some .local:=by first | exact .inl rfl | exact .inr rfl | assumption):wpAny M A (storeName X.env x u) Q E s:=by
 obtain ⟨m,hn,hl⟩:=id I.loc
 have hcls:(X.env.scope.kind == .class || (X.env.scope.kind == .module && X.env.locals != X.env.globals))=false:=by rw [I.ok.kind];rfl
 have hiσ:i < σ.length:=by rw [I.len];exact (List.getElem?_eq_some_iff.mp hi).1
 have cne:=I.cne
 have tracked:∀{a:Addr} {h':Heap},(∃o,s.heap.get? a=some o/\H a=none)->Heap.SameBut a s.heap h'->HOk X.prog X.w H h':=fun {a h'} ha hs b ob e=>by
  obtain ⟨_,_,hfree⟩:=ha
  refine (I.hok b ob e).stay (fun c w' hc q=>(hs.2 c ?_).trans q) (fun _ q=>q) fun _ _ q=>q
  rintro rfl
  rcases hc with rfl | hc
  ·rw [hfree] at e;cases e
  ·rw [hfree] at hc;cases hc
 rcases hx with hk | hk
 ·refine wpAny_storeName_local hk hn (fun h' hn' hs=>?_) hcls
  obtain ⟨oL,_,_,hoL,_⟩:=id hn
  refine h _ ⟨I.ok,I.os,I.bare,⟨fun b o e n hb hx=>?_,fun b o e n hb hx=>?_,I.base.free,fun b o e hx=>?_,I.base.tups,I.base.frzs,I.base.tbls⟩,⟨_,hn',fun j y v' e1 e2 e3=>?_⟩,fun y c e=>?_,I.free,I.freeC,fun p hp=>?_,tracked ⟨oL,hoL,I.free⟩ hs,by simpa using I.len⟩ ⟨_,hs,.inl rfl⟩
  ·exact (hs.2 b (Nat.ne_of_lt (Nat.lt_of_lt_of_le (Heap.lt_size e) I.ok.above))).trans (I.base.keep b o e n hb hx)
  ·obtain ⟨sl,e1⟩:=I.base.slot b o e n hb hx
   exact ⟨sl,(hs.2 b (Nat.ne_of_lt (Nat.lt_of_lt_of_le (Heap.lt_size e) I.ok.above))).trans e1⟩
  ·obtain ⟨o',e1⟩:=I.base.there b o e hx
   exact ⟨o',(hs.2 b (Nat.ne_of_lt (Nat.lt_of_lt_of_le (Heap.lt_size e) I.ok.above))).trans e1⟩
  ·by_cases hj:j=i
   ·subst hj
    rw [hi] at e1;cases e1
    rw [List.getElem?_set_self hiσ] at e2
    cases e2
    exact ⟨u,r,.inl ⟨hk,by simp⟩⟩
   ·rw [List.getElem?_set_ne (Ne.symm hj)] at e2
    obtain ⟨u',r',q⟩:=hl j y v' e1 e2 e3
    refine ⟨u',r',?_⟩
    rcases q with ⟨k,e⟩ | ⟨k,c,e,z⟩
    ·refine .inl ⟨k,?_⟩
     have:y≠x:=fun e=>hj (wc hN e1 (e▸hi))
     simp [this,e]
    ·exact .inr ⟨k,c,e,z.sameBut hs (cne y c e)⟩
  ·obtain ⟨w',z⟩:=I.cell y c e
   exact ⟨w',z.sameBut hs (cne y c e)⟩
  ·obtain ⟨e,n,ne,nf,d⟩:=I.pin p hp
   exact ⟨(hs.2 p.1 ne).trans e,n,ne,nf,d⟩
 ·have hfn:X.fn x=true:=by
   rcases hf with z | z
   ·exact z
   ·rw [z] at hk;cases hk
  obtain ⟨c,hc⟩:=I.ok.has x (.inl hk)
  obtain ⟨w',z⟩:=I.cell x c hc
  refine wpAny_storeName_cell I.ok.kind hk hc z (fun h' hc' hs=>?_)
  obtain ⟨oc,hoc,hocd⟩:=id z
  refine h {s with heap:=h'} ⟨I.ok,I.os,I.bare,⟨fun b o e n hb hx=>?_,fun b o e n hb hx=>?_,I.base.free,fun b o e hx=>?_,I.base.tups,I.base.frzs,I.base.tbls⟩,⟨m,hn.sameBut hs (Ne.symm (cne x c hc)),fun j y v' e1 e2 e3=>?_⟩,fun y c' e=>?_,I.free,I.freeC,fun p hp=>?_,tracked ⟨oc,hoc,I.freeC x c hc⟩ hs,by simpa using I.len⟩ ⟨c,hs,.inr hc⟩
  ·exact (hs.2 b (Nat.ne_of_lt (Nat.lt_of_lt_of_le (Heap.lt_size e) (I.ok.cab x c hfn hc)))).trans (I.base.keep b o e n hb hx)
  ·obtain ⟨sl,e1⟩:=I.base.slot b o e n hb hx
   exact ⟨sl,(hs.2 b (Nat.ne_of_lt (Nat.lt_of_lt_of_le (Heap.lt_size e) (I.ok.cab x c hfn hc)))).trans e1⟩
  ·obtain ⟨o',e1⟩:=I.base.there b o e hx
   exact ⟨o',(hs.2 b (Nat.ne_of_lt (Nat.lt_of_lt_of_le (Heap.lt_size e) (I.ok.cab x c hfn hc)))).trans e1⟩
  ·by_cases hj:j=i
   ·subst hj
    rw [hi] at e1;cases e1
    rw [List.getElem?_set_self hiσ] at e2
    cases e2
    exact ⟨u,r,.inr ⟨.inl hk,c,hc,hc'⟩⟩
   ·rw [List.getElem?_set_ne (Ne.symm hj)] at e2
    obtain ⟨u',r',q⟩:=hl j y v' e1 e2 e3
    refine ⟨u',r',?_⟩
    rcases q with q | ⟨k,c',e,z'⟩
    ·exact .inl q
    ·refine .inr ⟨k,c',e,z'.sameBut hs ?_⟩
     rintro rfl
     exact hj (wc hN e1 (I.ok.inj _ _ _ e hc▸hi))
  ·by_cases hcc:c'=c
   ·subst hcc;exact ⟨_,hc'⟩
   ·obtain ⟨w2,z2⟩:=I.cell y c' e
    exact ⟨w2,z2.sameBut hs hcc⟩
  ·obtain ⟨e,n,ne,nf,d⟩:=I.pin p hp
   refine ⟨(hs.2 p.1 ?_).trans e,n,ne,nf,d⟩
   intro q
   rw [q,hoc] at e
   have q':oc=p.2:=Option.some.inj e
   exact d w' (by rw [←q'];exact hocd)
theorem sj {M:Model}{A:Around}{E:Value->Shared->Prop}{i:Nat}{x:Str}{v:V}{u:Value}{Q:Unit->Shared->Prop}(I:Inv X pins σ H s)(hN:X.N.Nodup)(hi:X.N[i]?=some x)(hx:Loc X.env.scope x)(r:bX v u)
  (h:∀s',Inv X pins (σ.set i (some v)) H s'->Q () s') (hf:X.fn x=true\/X.env.scope.names.lookup x=some .local:=by first | exact .inl rfl | exact .inr rfl | assumption):wpAny M A (storeName X.env x u) Q E s:=
 yT I hN hi hx r (fun s' I' _=>h s' I') hf
theorem Inv.call' {s':Shared}{ch:List Addr}(I:Inv X pins σ H s)(ho:s'.os=s.os)(u:Un (frs X.stack) ch H H' s.heap s'.heap)(hok:HOk X.prog X.w H' s'.heap)(hg:AllBare s'.gens)
  (hch:∀b∈ch,(b∈X.ex\/X.s₀.heap.objs.size<=b)/\b≠X.env.locals/\(∀x c,X.env.cells.lookup x=some c->c≠b)/\∀p∈X.pn++pins,p.1≠b):Inv X pins σ H' s':=by
 obtain ⟨h',g',d',t',o'⟩:=s'
 have e:o'=s.os:=ho
 subst e
 exact I.call (g':=g') (t':=t') (d':=d') u hok hg hch
end
noncomputable abbrev XK:=Value->Option Addr->Hp->Prop
noncomputable abbrev St:=List (Option V)
noncomputable abbrev VK:=V->Hp->Prop
noncomputable abbrev TE:=St->Hp->VK->Prop
noncomputable abbrev TT:=St->Hp->(Bool->Hp->Prop)->Prop
noncomputable abbrev TA:=St->Hp->(List V->Hp->Prop)->Prop
structure mK where
 nx:St->Hp->Prop
 rt:VK
 bk:St->Hp->Prop:=fun _ _=>False
 ct:St->Hp->Prop:=fun _ _=>False
noncomputable abbrev TS:=mK->St->Hp->Prop
def EP (X:Cx)(pins:List (Addr×Obj))(σ:St)(Q:VK)(u:Value)(s':Shared):Prop:=∃v H',Inv X pins σ H' s'/\bX v u/\Q v H'
def TP (X:Cx)(pins:List (Addr×Obj))(σ:St)(Q:Bool->Hp->Prop)(b:Bool)(s':Shared):Prop:=∃H',Inv X pins σ H' s'/\Q b H'
def AP (X:Cx)(pins:List (Addr×Obj))(σ:St)(Q:List V->Hp->Prop)(us:List Value)(s':Shared):Prop:=∃vs H',Inv X pins σ H' s'/\bF vs us/\Q vs H'
def SP (X:Cx)(pins:List (Addr×Obj))(D:mK)(f:Flow)(s':Shared):Prop:=
 match f with
 | .next=>∃σ' H',Inv X pins σ' H' s'/\D.nx σ' H'
 | .brk=>∃σ' H',Inv X pins σ' H' s'/\D.bk σ' H'
 | .cont=>∃σ' H',Inv X pins σ' H' s'/\D.ct σ' H'
 | .ret u=>∃v σ' H',Inv X pins σ' H' s'/\bX v u/\D.rt v H'
def PE (X:Cx)(e:Expr)(t:TE):Prop:=
 ∀(pins:List (Addr×Obj)) (s:Shared) (σ:St) (H:Hp) (Q:VK),Inv X pins σ H s->t σ H Q->wpAny (model X.prog X.w) X.A (eval e X.env) (EP X pins σ Q) X.xe s
def PT (X:Cx)(e:Expr)(t:TT):Prop:=
 ∀(pins:List (Addr×Obj)) (s:Shared) (σ:St) (H:Hp) (Q:Bool->Hp->Prop),Inv X pins σ H s->t σ H Q->wpAny (model X.prog X.w) X.A (isTrue e X.env (eval e X.env)) (TP X pins σ Q) X.xe s
def PW (X:Cx)(e:Expr)(t:TT):Prop:=
 ∀(cA:Sem Value) (pins:List (Addr×Obj)) (s:Shared) (σ:St) (H:Hp) (Q:Bool->Hp->Prop),Inv X pins σ H s->t σ H Q->wpAny (model X.prog X.w) X.A (isTrue e X.env cA) (TP X pins σ Q) X.xe s
theorem PW.pt {X:Cx}{e:Expr}{t:TT}(h:PW X e t):PT X e t:=h _
def PA (X:Cx)(es:List Expr)(t:TA):Prop:=
 ∀(pos:Pos) (pins:List (Addr×Obj)) (s:Shared) (σ:St) (H:Hp) (Q:List V->Hp->Prop),Inv X pins σ H s->t σ H Q->wpAny (model X.prog X.w) X.A (spliced (backTo pos (starEach es X.env))) (AP X pins σ Q) X.xe s
def PS (X:Cx)(st:Stmt)(t:TS):Prop:=
 ∀(pins:List (Addr×Obj)) (s:Shared) (σ:St) (H:Hp) (D:mK),Inv X pins σ H s->t D σ H->wpAny (model X.prog X.w) X.A (exec st X.env) (SP X pins D) X.xe s
def PSs (X:Cx)(st:List Stmt)(t:TS):Prop:=
 ∀(pins:List (Addr×Obj)) (s:Shared) (σ:St) (H:Hp) (D:mK),Inv X pins σ H s->t D σ H->wpAny (model X.prog X.w) X.A (execs st X.env) (SP X pins D) X.xe s
theorem thn {α:Type}{t:Sem α}{Q Q':α->Shared->Prop}{M:Model}{A:Around}{E:Value->Shared->Prop}{s:Shared}(h:wpAny M A t Q E s)(hQ:∀a s,Q a s->Q' a s):wpAny M A t Q' E s:=wpAny_mono h hQ fun _ _ x=>x
section
variable {X:Cx}
theorem bin {a b:Expr}{ta tb:TE}(ha:PE X a ta)(hb:PE X b tb){pins:List (Addr×Obj)}{s:Shared}{σ:St}{H:Hp}{R:V->V->Hp->Prop}(I:Inv X pins σ H s)(h:ta σ H fun x H1=>tb σ H1 fun y H2=>R x y H2)
  {α:Type} {Q:α->Shared->Prop} {f:Value->Value->Sem α}
  (hf:∀v u s2 x y H2,Inv X pins σ H2 s2->bX x v->bX y u->R x y H2->wpAny (model X.prog X.w) X.A (f v u) Q X.xe s2) :
  wpAny (model X.prog X.w) X.A (eval a X.env) (fun v s₁=>wpAny (model X.prog X.w) X.A (eval b X.env) (fun u s₂=>wpAny (model X.prog X.w) X.A (f v u) Q X.xe s₂) X.xe s₁) X.xe s:=by
 refine thn (ha pins s σ H _ I h) fun v s1 ⟨x,H1,I1,r1,q1⟩=>?_
 refine thn (hb pins s1 σ H1 _ I1 q1) fun u s2 ⟨y,H2,I2,r2,q2⟩=>?_
 exact hf v u s2 x y H2 I2 r1 r2 q2
noncomputable def J0 (i:Nat):TE:=fun σ H Q=>∃v,σ[i]?=some (some v)/\Q v H
noncomputable def tC (v:V):TE:=fun _ H Q=>Q v H
theorem Ka {i:Nat}{x:Str}{pos:Pos}(hN:X.N[i]?=some x)(hv:Vis X.env.scope x)(hd:(x == ("__debug__":Str))=false:=by decide)(hcd:(x == ("__classdict__":Str))=false:=by decide):PE X (.Name x pos) (J0 i):=by
 intro pins s σ H Q I h
 obtain ⟨v,e,h⟩:=h
 obtain ⟨m,hn,hl⟩:=I.loc
 obtain ⟨u,r,l⟩:=hl i x v hN e hv
 have fin:EP X pins σ Q u s:=⟨v,H,I,r,h⟩
 rcases l with ⟨hk,hm⟩ | ⟨hk,c,hc,hcell⟩
 ·exact wpAny_Name (wpAny_loadName_local I.ok.kind hk hn hm fin) hd
 ·rcases hk with hk | hk
  ·exact wpAny_Name (wpAny_loadName_cell I.ok.kind hk hc hcell fin) hd
  ·exact wpAny_Name (wpAny_loadName_free I.ok.kind hk hc hcell fin hcd) hd
theorem ah {i j pos}:PE X (.Constant (.int i) j pos) (tC (.int i)):=fun _ _ _ H _ I h=>wpAny_Constant_int ⟨.int i,H,I.tok _,⟨_,rfl⟩,h⟩
theorem fA {b j pos}:PE X (.Constant (.bool b) j pos) (tC (.bl b)):=fun _ _ _ H _ I h=>Constant_bool ⟨.bl b,H,I,rfl,h⟩
theorem gT {j pos}:PE X (.Constant .none j pos) (tC .non):=fun _ _ _ H _ I h=>Constant_none ⟨.non,H,I,rfl,h⟩
theorem au {x j pos}:PE X (.Constant (.str x) j pos) (tC (.str x)):=fun _ _ _ H _ I h=>Calls.Constant_str ⟨.str x,H,I.tok _,⟨_,rfl⟩,h⟩
def Gl (X:Cx)(x:Str):Prop:=X.env.kindOf x=some .globalImplicit
theorem pe {E:Value->Shared->Prop}{pins:List (Addr×Obj)}{s:Shared}{σ:St}{H:Hp}{x:Str}{u:Value}{pos:Pos}{Q:Value->Shared->Prop}(I:Inv X pins σ H s)(hg:Gl X x)(hm:X.mg x=some u)(h:Q u s)
  (hd:(x == ("__debug__":Str))=false:=by decide):wpAny (model X.prog X.w) X.A (eval (.Name x pos) X.env) Q E s:=
 Calls.Name_function_global I.ok.kind hg (Calls.loadGlobal_global (by rw [I.ok.glob];exact I.mod.glob.keeps I.bk) hm h) hd
theorem rq {E:Value->Shared->Prop}{pins:List (Addr×Obj)}{s:Shared}{σ:St}{H:Hp}{x:Str}{u:Value}{pos:Pos}{Q:Value->Shared->Prop}(I:Inv X pins σ H s)(hg:Gl X x)(hm:X.mg x=none)(hv:bootBuiltins x=some u)(h:Q u s)
  (hn:x≠"__name__":=by decide) (hd:(x == ("__debug__":Str))=false:=by decide):wpAny (model X.prog X.w) X.A (eval (.Name x pos) X.env) Q E s:=by
 obtain ⟨mb,h1,h2⟩:=I.mod.blt
 exact Calls.Name_function_global I.ok.kind hg (Calls.loadGlobal_builtin (by rw [I.ok.glob];exact I.mod.glob.keeps I.bk) hm (by rw [I.ok.blt];exact h1.keeps I.bk) ((h2 x hn).trans hv) h) hd
theorem dF {x:Str}{v:V}{u:Value}{pos:Pos}(hg:Gl X x)(hm:X.mg x=some u)(r:bX v u)(hd:(x == ("__debug__":Str))=false:=by decide):PE X (.Name x pos) (tC v):=
 fun _ _ _ H _ I h=>pe I hg hm ⟨v,H,I,r,h⟩ hd
theorem eC {x:Str}{v:V}{u:Value}{pos:Pos}(hg:Gl X x)(hm:X.mg x=none)(hv:bootBuiltins x=some u)(r:bX v u)(hn:x≠"__name__":=by decide)(hd:(x == ("__debug__":Str))=false:=by decide):PE X (.Name x pos) (tC v):=
 fun _ _ _ H _ I h=>rq I hg hm hv ⟨v,H,I,r,h⟩ hn hd
variable {a b:Expr}{ta tb:TE}{pos:Pos}
def PC (X:Cx)(op:CmpOp)(a b:Expr)(t:TE):Prop:=
 ∀(pins:List (Addr×Obj)) (s:Shared) (σ:St) (H:Hp) (Q:VK),Inv X pins σ H s->t σ H Q->
  wpAny (model X.prog X.w) X.A (eval a X.env) (fun v s₁=>wpAny (model X.prog X.w) X.A (eval b X.env) (fun u s₂=>wpAny (model X.prog X.w) X.A (compareOp op v u) (EP X pins σ Q) X.xe s₂) X.xe s₁) X.xe s
theorem Fk (b:Expr){op:CmpOp}(h:op≠.In)(h2:op≠.NotIn):behindInMarks op b=false:=by
 have e1:(op == CmpOp.In)=false:=by cases op<;>first | rfl | exact absurd rfl h
 have e2:(op == CmpOp.NotIn)=false:=by cases op<;>first | rfl | exact absurd rfl h2
 cases b<;>simp [behindInMarks,e1,e2]
noncomputable def tB (t:TE):TT:=fun σ H Q=>t σ H fun x H1=>∃c,x=.bl c/\Q c H1
theorem MO {op:CmpOp}{t:TE}(h:PC X op a b t)(h1:behindInMarks op b=false:=by first | exact Fk _ (by decide) (by decide) | rfl):PT X (.Compare a [op] [b] pos) (tB t):=by
 intro pins s σ H Q I hw
 refine wpAny_isTrue_Compare1 (thn (h pins s σ H _ I hw) fun v s1 h1=>thn h1 fun u s2 h2=>thn h2 fun c s3 ⟨x,H1,I1,r1,q1⟩=>?_) h1
 obtain ⟨d,rfl,q⟩:=q1
 cases r1
 exact wpAny_truthy_bool ⟨H1,I1,q⟩
theorem Kb {e:Expr}{t:TE}(h:PE X e t)(he:∀cA,isTrue e X.env cA=(do let v ←cA;standAt e.pos;holding [v] (truthy v)):=by intro _;rfl):PT X e (tB t):=by
 intro pins s σ H Q I hw
 refine isTrue_plain (thn (h pins s σ H _ I hw) fun v s1 ⟨x,H1,I1,r1,q1⟩=>?_) (he _)
 obtain ⟨d,rfl,q⟩:=q1
 cases r1
 exact wpAny_truthy_bool ⟨H1,I1,q⟩
variable {tA tB':TT}{mJ:List Expr}
noncomputable def LG (t u:TT):TT:=fun σ H Q=>t σ H fun c H1=>if c=true then u σ H1 Q else Q false H1
noncomputable def tOr (t u:TT):TT:=fun σ H Q=>t σ H fun c H1=>if c=true then Q true H1 else u σ H1 Q
noncomputable def LH (t:TT):TT:=fun σ H Q=>t σ H fun c H1=>Q (!c) H1
theorem vU (ha:PT X a tA):PW X (.BoolOp .And [a] pos) tA:=by
 intro wh pins s σ H Q I h
 refine isTrue_and (thn (ha pins s σ H Q I h) fun c s1 e=>?_)
 cases c with
 | true=>exact isTrue_and_nil e
 | false=>exact e
theorem i6 (ha:PT X a tA):PW X (.BoolOp .Or [a] pos) tA:=by
 intro wh pins s σ H Q I h
 refine isTrue_or (thn (ha pins s σ H Q I h) fun c s1 e=>?_)
 cases c with
 | false=>exact isTrue_or_nil e
 | true=>exact e
theorem zE (ha:PT X a tA)(hb:PW X (.BoolOp .And (b::mJ) pos) tB'):PW X (.BoolOp .And (a::b::mJ) pos) (LG tA tB'):=by
 intro wh pins s σ H Q I h
 refine isTrue_and (thn (ha pins s σ H _ I h) fun c s1 ⟨H1,I1,q1⟩=>?_)
 cases c with
 | true=>exact hb wh pins s1 σ H1 Q I1 q1
 | false=>exact ⟨H1,I1,q1⟩
theorem mL (ha:PT X a tA)(hb:PW X (.BoolOp .Or (b::mJ) pos) tB'):PW X (.BoolOp .Or (a::b::mJ) pos) (tOr tA tB'):=by
 intro wh pins s σ H Q I h
 refine isTrue_or (thn (ha pins s σ H _ I h) fun c s1 ⟨H1,I1,q1⟩=>?_)
 cases c with
 | true=>exact ⟨H1,I1,q1⟩
 | false=>exact hb wh pins s1 σ H1 Q I1 q1
theorem dj (ha:PT X a tA):PT X (.UnaryOp .Not a pos) (LH tA):=by
 intro pins s σ H Q I h
 exact isTrue_not (ha pins s σ H (fun c H1=>Q (!c) H1) I h)
noncomputable def Jt (ta tb:TE):TE:=fun σ H Q=>ta σ H fun x H1=>∃c,x=.bl c/\if c=true then tb σ H1 Q else Q (.bl false) H1
noncomputable def LI (ta tb:TE):TE:=fun σ H Q=>ta σ H fun x H1=>∃c,x=.bl c/\if c=true then Q (.bl true) H1 else tb σ H1 Q
noncomputable def Ju (ta:TE):TE:=fun σ H Q=>ta σ H fun x H1=>∃c,x=.bl c/\Q (.bl (!c)) H1
theorem zF {op}{t:TE}(h:PE X a t):PE X (.BoolOp op [a] pos) t:=fun pins s σ H Q I hw=>BoolOp_one (h pins s σ H Q I hw)
theorem Kc (ha:PE X a ta)(hb:PE X (.BoolOp .And (b::mJ) pos) tb):PE X (.BoolOp .And (a::b::mJ) pos) (Jt ta tb):=by
 intro pins s σ H Q I h
 refine BoolOp_and (thn (ha pins s σ H _ I h) fun v s1 ⟨x,H1,I1,r1,q1⟩=>?_)
 obtain ⟨c,rfl,q1⟩:=q1
 cases r1
 refine wpAny_truthy_bool ?_
 cases c with
 | true=>exact hb pins s1 σ H1 Q I1 q1
 | false=>exact ⟨.bl false,H1,I1,rfl,q1⟩
theorem LJ (ha:PE X a ta)(hb:PE X (.BoolOp .Or (b::mJ) pos) tb):PE X (.BoolOp .Or (a::b::mJ) pos) (LI ta tb):=by
 intro pins s σ H Q I h
 refine BoolOp_or (thn (ha pins s σ H _ I h) fun v s1 ⟨x,H1,I1,r1,q1⟩=>?_)
 obtain ⟨c,rfl,q1⟩:=q1
 cases r1
 refine wpAny_truthy_bool ?_
 cases c with
 | false=>exact hb pins s1 σ H1 Q I1 q1
 | true=>exact ⟨.bl true,H1,I1,rfl,q1⟩
theorem Kd (ha:PE X a ta):PE X (.UnaryOp .Not a pos) (Ju ta):=by
 intro pins s σ H Q I h
 refine UnaryOp_ (thn (ha pins s σ H _ I h) fun v s1 ⟨x,H1,I1,r1,q1⟩=>?_)
 obtain ⟨c,rfl,q1⟩:=q1
 cases r1
 exact not_of (wpAny_truthy_bool ⟨.bl (!c),H1,I1,rfl,q1⟩)
noncomputable def tIf (t:TT)(ta tb:TE):TE:=fun σ H Q=>t σ H fun c H1=>if c=true then ta σ H1 Q else tb σ H1 Q
theorem AS {c:Expr}(hc:PT X c tA)(ha:PE X a ta)(hb:PE X b tb):PE X (.IfExp c a b pos) (tIf tA ta tb):=by
 intro pins s σ H Q I h
 refine wpAny_IfExp (thn (hc pins s σ H _ I h) fun d s1 ⟨H1,I1,q1⟩=>?_)
 cases d with
 | true=>exact ha pins s1 σ H1 Q I1 q1
 | false=>exact hb pins s1 σ H1 Q I1 q1
end
def SqL (K:WA)(H:Hp)(a:Addr)(xs:List V):Prop:=
 Rd H a (.lst xs)\/
  ∃(o:Obj) (its:Array Value) (n:Nat),K.lookup a=some o/\o.cls=.type "list"/\o.dict=none/\o.data=.seq its n/\its.size<=sizeLine/\bF xs its.toList
def SqT (K:WA)(H:Hp)(a:Addr)(xs:List V):Prop:=
 Rd H a (.tup xs)\/
  ∃(o:Obj) (its:Array Value) (n:Nat),K.lookup a=some o/\o.cls=.type "tuple"/\o.data=.seq its n/\its.size<=sizeLine/\bF xs its.toList
noncomputable def MP:Value->Option V
 | .none=>some .non
 | .bool b=>some (.bl b)
 | .int i _=>some (.int i)
 | .str x _=>some (.str x)
 | .bytes b _=>some (.byt b)
 | .float b _=>some (.flt b)
 | .ref a=>some (.ref a)
 | .type n=>some (.ty n)
 | _=>none
theorem bX.abs {x:V}{u:Value}(r:bX x u):MP u=some x:=by
 cases x with
 | non=>cases r;rfl
 | bl _=>cases r;rfl
 | int _=>obtain ⟨t,rfl⟩:=r;rfl
 | str _=>obtain ⟨t,rfl⟩:=r;rfl
 | byt _=>obtain ⟨t,rfl⟩:=r;rfl
 | flt _=>obtain ⟨t,rfl⟩:=r;rfl
 | ref _=>cases r;rfl
 | ty _=>cases r;rfl
theorem bX.inj {x y:V}{u:Value}(r:bX x u)(q:bX y u):x=y:=Option.some.inj (r.abs.symm.trans q.abs)
theorem bF.inj:∀{xs ys:List V} {us:List Value},bF xs us->bF ys us->xs=ys
 | _,_,_,.nil,.nil=>rfl
 | _,_,_,.cons r t,.cons r' t'=>by rw [r.inj r',bF.inj t t']
section
variable {X:Cx}{pins:List (Addr×Obj)}{σ:St}{H:Hp}{s:Shared}{a:Addr}{xs ys:List V}
theorem SqL.of {K:WA}(h:H a=some (.lst xs)):SqL K H a xs:=.inl (.inl h)
theorem SqT.of {K:WA}(h:H a=some (.tup xs)):SqT K H a xs:=.inl (.inl h)
theorem Inv.list (I:Inv X pins σ H s)(h:SqL X.K H a xs):∃its:List Value,bF xs its/\PlainL s.heap a its.toArray/\xs.length<=sizeLine:=by
 rcases h with h | ⟨o,its,n,hk,hc,hd,hs,hz,r⟩
 ·obtain ⟨z,its,n,r,e⟩:=h.ok I.hok
  exact ⟨its,r,⟨_,n,e,rfl,rfl,rfl⟩,z⟩
 ·refine ⟨its.toList,r,⟨o,n,I.kIn a o hk,hc,hd,by simpa using hs⟩,?_⟩
  have e:=r.length
  simp only [Array.length_toList] at e
  omega
theorem Inv.tuple (I:Inv X pins σ H s)(h:SqT X.K H a xs):∃its:List Value,bF xs its/\IsTup s.heap a its.toArray/\xs.length<=sizeLine:=by
 rcases h with h | ⟨o,its,n,hk,hc,hs,hz,r⟩
 ·obtain ⟨z,its,r,p⟩:=h.ok I.hok
  exact ⟨its,r,p.tup,z⟩
 ·refine ⟨its.toList,r,⟨o,I.kIn a o hk,hc,n,by simpa using hs⟩,?_⟩
  have e:=r.length
  simp only [Array.length_toList] at e
  omega
theorem Inv.list_inj (I:Inv X pins σ H s)(h:SqL X.K H a xs)(h':SqL X.K H a ys):xs=ys:=by
 obtain ⟨its,r,⟨o,n,e,_,_,d⟩,_⟩:=I.list h
 obtain ⟨its',r',⟨o',n',e',_,_,d'⟩,_⟩:=I.list h'
 rw [e] at e';cases e'
 rw [d] at d'
 injection d' with d1 _
 have:its=its':=by simpa using congrArg Array.toList d1
 subst this
 exact r.inj r'
end
noncomputable abbrev Cx.wish (X:Cx)(E:Value->Shared->Prop):Cx:={X with xe:=E}
noncomputable abbrev Cx.nox (X:Cx):Cx:=X.wish fun _ _=>False
theorem Cx.Ok.wish {X:Cx}(ok:X.Ok)(E:Value->Shared->Prop):(X.wish E).Ok:=
 ⟨ok.mod,ok.kind,ok.glob,ok.blt,ok.above,ok.inj,ok.has,ok.cab,ok.hd,ok.frames,ok.stk,ok.exf,ok.bs,ok.bsz,ok.noex,ok.exfs,ok.funs,ok.frf⟩
theorem Cx.Ok.unwish {X:Cx}{E:Value->Shared->Prop}(ok:(X.wish E).Ok):X.Ok:=
 ⟨ok.mod,ok.kind,ok.glob,ok.blt,ok.above,ok.inj,ok.has,ok.cab,ok.hd,ok.frames,ok.stk,ok.exf,ok.bs,ok.bsz,ok.noex,ok.exfs,ok.funs,ok.frf⟩
section
variable {X:Cx}{pins:List (Addr×Obj)}{σ:St}{H:Hp}{s:Shared}{E:Value->Shared->Prop}
theorem Inv.wish (I:Inv X pins σ H s)(E:Value->Shared->Prop):Inv (X.wish E) pins σ H s:=⟨I.ok.wish E,I.os,I.bare,I.base,I.loc,I.cell,I.free,I.freeC,I.pin,I.hok,I.len⟩
theorem Inv.unwish (I:Inv (X.wish E) pins σ H s):Inv X pins σ H s:=⟨I.ok.unwish,I.os,I.bare,I.base,I.loc,I.cell,I.free,I.freeC,I.pin,I.hok,I.len⟩
theorem SP.unwish {D:mK}{f:Flow}{s':Shared}(h:SP (X.wish E) pins D f s'):SP X pins D f s':=by
 cases f with
 | next=>obtain ⟨σ',H',I,q⟩:=h;exact ⟨σ',H',I.unwish,q⟩
 | brk=>obtain ⟨σ',H',I,q⟩:=h;exact ⟨σ',H',I.unwish,q⟩
 | cont=>obtain ⟨σ',H',I,q⟩:=h;exact ⟨σ',H',I.unwish,q⟩
 | ret u=>obtain ⟨v,σ',H',I,r,q⟩:=h;exact ⟨v,σ',H',I.unwish,r,q⟩
theorem PSs.nox {st:List Stmt}{t:TS}(h:PSs X.nox st t):PSs X st t:=fun pins s σ H D I hw=>
 wpAny_mono (h pins s σ H D (I.wish _) hw) (fun _ _ q=>q.unwish) fun _ _ z=>False.elim z
end
section
variable {X:Cx}{st:Stmt}{mJ:List Stmt}{t u:TS}{e:Expr}{te:TE}{pos:Pos}
noncomputable def Jv:TS:=fun D σ H=>D.nx σ H
noncomputable def LK (t u:TS):TS:=fun D σ H=>t {D with nx:=u D} σ H
theorem aJ:PSs X [] Jv:=fun _ _ σ H _ I h=>wpAny_execs_nil ⟨σ,H,I,h⟩
theorem ae (h1:PS X st t)(h2:PSs X mJ u):PSs X (st::mJ) (LK t u):=by
 intro pins s σ H D I h
 refine wpAny_execs_cons (thn (h1 pins s σ H {D with nx:=u D} I h) fun f s1 q=>?_)
 cases f with
 | next=>
  obtain ⟨σ',H',I',q⟩:=q
  exact h2 pins s1 σ' H' D I' q
 | ret v=>exact q
 | brk=>exact q
 | cont=>exact q
theorem ag (h1:PS X st t):PSs X [st] t:=by
 intro pins s σ H D I h
 refine wpAny_execs_cons (thn (h1 pins s σ H D I h) fun f s1 q=>?_)
 cases f with
 | next=>exact wpAny_execs_nil q
 | ret v=>exact q
 | brk=>exact q
 | cont=>exact q
theorem Inv.quiet {pins:List (Addr×Obj)}{σ:St}{H:Hp}{s:Shared}(I:Inv X pins σ H s):interactive X.env=false:=by simp [interactive,I.ok.kind]
noncomputable def Jw (te:TE):TS:=fun D σ H=>te σ H fun _ H1=>D.nx σ H1
theorem bj (he:PE X e te)(hs:swapsWith e none pos.line X.env=pure false:=by rfl):PS X (.Expr e pos) (Jw te):=by
 intro pins s σ H D I h
 exact wpAny_Expr_any (thn (he pins s σ H _ I h) fun v s1 ⟨x,H1,I1,r1,q1⟩=>⟨σ,H1,I1,q1⟩) I.quiet hs
noncomputable def LL (te:TE):TS:=fun D σ H=>te σ H D.rt
theorem aC (he:PE X e te):PS X (.Return (some e) pos) (LL te):=by
 intro pins s σ H D I h
 exact wpAny_Return_some (thn (he pins s σ H _ I h) fun v s1 ⟨x,H1,I1,r1,q1⟩=>⟨x,σ,H1,I1,r1,q1⟩)
noncomputable def LM (c:TT)(t u:TS):TS:=fun D σ H=>c σ H fun b H1=>if b=true then t D σ H1 else u D σ H1
theorem bu {c:Expr}{a b:List Stmt}{tc:TT}(hc:PT X c tc)(ha:PSs X a t)(hb:PSs X b u):PS X (.If c a b pos) (LM tc t u):=by
 intro pins s σ H D I h
 refine wpAny_If (thn (hc pins s σ H _ I h) fun d s1 ⟨H1,I1,q1⟩=>?_)
 cases d with
 | true=>exact ha pins s1 σ H1 D I1 q1
 | false=>exact hb pins s1 σ H1 D I1 q1
end
noncomputable abbrev TG:=V->St->Hp->(St->Hp->Prop)->Prop
noncomputable abbrev TGs:=List V->St->Hp->(St->Hp->Prop)->Prop
def PG (X:Cx)(target:Expr)(t:TG):Prop:=
 ∀(pins:List (Addr×Obj)) (s:Shared) (σ:St) (H:Hp) (v:V) (u:Value) (Q:St->Hp->Prop),Inv X pins σ H s->bX v u->t v σ H Q->
  wpAny (model X.prog X.w) X.A (assign target X.env u) (fun _ s'=>∃σ' H',Inv X pins σ' H' s'/\Q σ' H') X.xe s
def PGs (X:Cx)(ts:List Expr)(t:TGs):Prop:=
 ∀(pins:List (Addr×Obj)) (s:Shared) (σ:St) (H:Hp) (vs:List V) (us:List Value) (Q:St->Hp->Prop),Inv X pins σ H s->bF vs us->t vs σ H Q->
  wpAny (model X.prog X.w) X.A (assignInOrder ((assignEach ts X.env).map (·.2)) us) (fun _ s'=>∃σ' H',Inv X pins σ' H' s'/\Q σ' H') X.xe s
noncomputable abbrev Ke:=V->V->V->Hp->(Hp->Prop)->Prop
def Kf (X:Cx)(t:Ke):Prop:=
 ∀(pins:List (Addr×Obj)) (s:Shared) (σ:St) (H:Hp) (o i v:V) (ov iv u:Value) (Q:Hp->Prop),Inv X pins σ H s->bX o ov->bX i iv->bX v u->t o i v H Q->
  wpAny (model X.prog X.w) X.A (setItem ov iv u) (fun _ s'=>∃H',Inv X pins σ H' s'/\Q H') X.xe s
section
variable {X:Cx}{pos:Pos}
noncomputable def eX (i:Nat):TG:=fun v σ H Q=>Q (σ.set i (some v)) H
theorem aW {i:Nat}{x:Str}(hN:X.N.Nodup)(hi:X.N[i]?=some x)(hx:Loc X.env.scope x)(hf:X.fn x=true\/X.env.scope.names.lookup x=some .local:=by first | exact .inl rfl | exact .inr rfl | assumption):PG X (.Name x pos) (eX i):=by
 intro pins s σ H v u Q I r h
 exact wpAny_assign_Name (sj I hN hi hx r (fun s' I'=>⟨_,H,I',h⟩) hf)
noncomputable def Kg:TGs:=fun vs σ H Q=>vs=[]/\Q σ H
noncomputable def AU (t:TG)(u:TGs):TGs:=fun vs σ H Q=>∃v r,vs=v::r/\t v σ H fun σ' H'=>u r σ' H' Q
theorem Hl:PGs X [] Kg:=by
 intro pins s σ H vs us Q I r h
 obtain ⟨e,h⟩:=h
 subst e
 cases r
 exact assignInOrder_nil ⟨σ,H,I,h⟩
theorem Fl {e:Expr}{es:List Expr}{t:TG}{u:TGs}(h1:PG X e t)(h2:PGs X es u)
  (hs:(assignEach (e::es) X.env).map (·.2)=assign e X.env::(assignEach es X.env).map (·.2):=by rfl):PGs X (e::es) (AU t u):=by
 intro pins s σ H vs us Q I r h
 obtain ⟨v,vr,e1,h⟩:=h
 subst e1
 cases r with
 | cons r rr=>
  rw [hs]
  refine assignInOrder_cons (thn (h1 pins s σ H _ _ _ I r h) fun _ s1 ⟨σ1,H1,I1,q1⟩=>?_)
  exact h2 pins s1 σ1 H1 _ _ Q I1 rr q1
noncomputable def Kh (K:WA)(n:Nat)(t:TGs):TG:=fun v σ H Q=>∃a xs,v=.ref a/\SqT K H a xs/\xs.length=n/\t xs σ H Q
theorem Ki {es:List Expr}{k:Nat}{t:TGs}{n:Nat}(hc:X.calm=true)(h:PGs X es t)
  (hn:(assignEach es X.env).length=n:=by rfl) (hst:(assignEach es X.env).findIdx? (·.1)=none:=by rfl):PG X (.Tuple es k pos) (Kh X.K n t):=by
 intro pins s σ H v u Q I r hw
 obtain ⟨a,xs,e1,hq,hl,hw⟩:=hw
 subst e1
 cases r
 obtain ⟨its,rv,ht,hz⟩:=I.tuple hq
 refine assign_Tuple_tuple (I.ok.hd hc) ht (by simp [hn,←hl,rv.length]) hst fun h' hx=>?_
 have I1:Inv X pins σ H {s with heap:=h'}:=I.kept (t':=s.toks) fun b o e=>hx b o (Nat.ne_of_lt (Heap.lt_size e)) e
 exact h pins _ σ H xs _ Q I1 (by simpa using rv) hw
noncomputable def LN (to ti:TE)(t:Ke):TG:=fun v σ H Q=>to σ H fun o H1=>ti σ H1 fun i H2=>t o i v H2 fun H3=>Q σ H3
theorem uw {o i:Expr}{to ti:TE}{t:Ke}(ho:PE X o to)(hi:PE X i ti)(hs:Kf X t)
  (ha:∀v,assign (.Subscript o i pos) X.env v=(do
   let ov ←holding [v] (eval o X.env)
   let iv ←holding [v,ov] (eval i X.env)
   standAt pos
   holding [v,ov,iv] (setItem ov iv v)
   release [v,ov,iv] []):=by intro _;rfl):PG X (.Subscript o i pos) (LN to ti t):=by
 intro pins s σ H v u Q I r h
 rw [ha]
 refine wpAny_bind (wpAny_holding (thn (ho pins s σ H _ I h) fun ov s1 ⟨x,H1,I1,r1,q1⟩=>?_))
 refine wpAny_bind (wpAny_holding (thn (hi pins s1 σ H1 _ I1 q1) fun iv s2 ⟨y,H2,I2,r2,q2⟩=>?_))
 refine wpAny_bind (wpAny_standAt (wpAny_bind (wpAny_holding (thn (hs pins s2 σ H2 x y v ov iv u _ I2 r1 r2 r q2) fun _ s3 ⟨H3,I3,q3⟩=>?_))))
 exact wpAny_release ⟨σ,H3,I3,q3⟩
noncomputable def Fm (te:TE)(g:TG):TS:=fun D σ H=>te σ H fun x H1=>g x σ H1 D.nx
theorem rz {tg e:Expr}{te:TE}{g:TG}(he:PE X e te)(hg:PG X tg g)(hs:swapsWithSole [tg] e pos.line X.env=pure false:=by rfl)(hw:swappedStores [tg] e X.env=pure none:=by rfl)
  (h1:(assignEach [tg] X.env).map (·.2)=[assign tg X.env]:=by rfl):PS X (.Assign [tg] e pos) (Fm te g):=by
 intro pins s σ H D I h
 refine wpAny_Assign_stores (thn (he pins s σ H _ I h) fun v s1 ⟨x,H1,I1,r1,q1⟩=>?_) hs hw
 rw [h1]
 exact thn (hg pins s1 σ H1 x v _ I1 r1 q1) fun _ s2 q=>q
theorem aI {i:Nat}{x:Str}{e:Expr}{te:TE}{pos':Pos}(hN:X.N.Nodup)(hi:X.N[i]?=some x)(hx:Loc X.env.scope x)(he:PE X e te)(hs:swapsWith e (some (.Name x pos')) pos.line X.env=pure false:=by rfl)(hf:X.fn x=true\/X.env.scope.names.lookup x=some .local:=by first | exact .inl rfl | exact .inr rfl | assumption) :
  PS X (.Assign [.Name x pos'] e pos) (Fm te (eX i)):=by
 intro pins s σ H D I h
 refine wpAny_Assign_Name (thn (he pins s σ H _ I h) fun v s1 ⟨y,H1,I1,r1,q1⟩=>?_) hs
 exact sj I1 hN hi hx r1 (fun s2 I2=>⟨_,H1,I2,q1⟩) hf
end
structure It where
 go:Nat->Hp->Prop
 yld:Nat->Hp->V->Hp->Prop
 stop:Nat->Hp->Prop
def ux (X:Cx)(pins:List (Addr×Obj))(H:Hp)(b:Addr):Prop:=
 H b=none/\b≠X.env.locals/\b∉X.fs/\(b∈X.ex\/X.s₀.heap.objs.size<=b)/\(∀x c,X.env.cells.lookup x=some c->c≠b)/\∀p∈X.pn++pins,p.1≠b
theorem Inv.fpOk {X:Cx}{pins:List (Addr×Obj)}{σ:St}{H H':Hp}{s:Shared}{b:Addr}(I:Inv X pins σ H s)(hb:s.heap.objs.size<=b)(hn:H' b=none):ux X pins H' b:=by
 refine ⟨hn,Nat.ne_of_gt (Nat.lt_of_lt_of_le I.lt hb),I.nofs hb,.inr (Nat.le_trans I.sz hb),fun x c e z=>?_,fun p hp z=>?_⟩
 ·obtain ⟨v,q⟩:=I.cell x c e
  exact absurd (Nat.lt_of_lt_of_le q.lt (by rw [z];exact hb)) (Nat.lt_irrefl _)
 ·exact absurd (Nat.lt_of_lt_of_le (Heap.lt_size (I.pin p hp).1) (by rw [z];exact hb)) (Nat.lt_irrefl _)
structure Et (P:Program)(w:World)(K:WA)(tg:Expr)(J:It)(fp:List Addr)(it:Addr)(tn:Nat->Heap->Prop):Prop where
 mem:it∈fp
 obj:∀i h,tn i h->∀b∈fp,∃o,h.get? b=some o/\∀v,o.data≠.cell v
 keep:∀i h h',tn i h->(∀b∈fp,∀o,h.get? b=some o->h'.get? b=some o)->tn i h'
 item:∀(X:Cx),X.prog=P->X.w=w->X.K=K->X.calm=true->∀(i:Nat) (pins:List (Addr×Obj)) (s:Shared) (σ:St) (H:Hp) (E:Value->Shared->Prop),Inv X pins σ H s->(∀b∈fp,ux X pins H b)->tn i s.heap->J.go i H->
  wpAny (model P w) X.A (pyNext (.ref it)) (fun r s1=>∃u,r=some u/\
   wpAny (model P w) X.A (letOwnedTupleGo tg (.ref it) u) (fun _ s2=>∃x H',Inv X pins σ H' s2/\bX x u/\J.yld i H x H'/\tn (i+1) s2.heap/\∀b∈fp,H' b=none) E s1) E s
 done:∀(X:Cx),X.prog=P->X.w=w->X.K=K->X.calm=true->∀(i:Nat) (pins:List (Addr×Obj)) (s:Shared) (σ:St) (H:Hp) (E:Value->Shared->Prop),Inv X pins σ H s->(∀b∈fp,ux X pins H b)->tn i s.heap->J.stop i H->
  wpAny (model P w) X.A (pyNext (.ref it)) (fun r s1=>r=none/\Inv X pins σ H s1) E s
 self:∀(A:Around) (i:Nat) (s:Shared) (Q:Value->Shared->Prop) (E:Value->Shared->Prop),tn i s.heap->Q (.ref it) s->wpAny (model P w) A (pyIter (.ref it)) Q E s
noncomputable abbrev TI:=St->Hp->(It->Hp->Prop)->Prop
def PIE (X:Cx)(pins:List (Addr×Obj))(σ:St)(tg:Expr)(R:It->Hp->Prop)(itv:Value)(s2:Shared):Prop:=
 ∃(it:Addr) (fp:List Addr) (tn:Nat->Heap->Prop) (J:It) (H':Hp),itv=.ref it/\Inv X pins σ H' s2/\Et X.prog X.w X.K tg J fp it tn/\tn 0 s2.heap/\(∀b∈fp,ux X pins H' b)/\R J H'
def PI (X:Cx)(tg iter:Expr)(wi:TI):Prop:=
 ∀(pins:List (Addr×Obj)) (s:Shared) (σ:St) (H:Hp) (R:It->Hp->Prop),Inv X pins σ H s->wi σ H R->
  wpAny (model X.prog X.w) X.A (eval iter X.env) (fun v s1=>wpAny (model X.prog X.w) X.A (pyIter v) (PIE X pins σ tg R) X.xe s1) X.xe s
theorem Jx {M:Model}{A:Around}{E:Value->Shared->Prop}{s:Shared}{tg:Expr}{it:Addr}{u:Value}{o:Obj}{n:String}{vs:Array Value}{Q:Unit->Shared->Prop}(ho:s.heap.get? it=some o)(hc:o.cls=.type n)(hd:o.data=.fields vs)
  (hn:["enumerate","zip","dict_itemiterator","dict_reverseitemiterator","odict_iterator","itertools.zip_longest","itertools.pairwise"].contains n=false) (hQ:Q () s):wpAny M A (letOwnedTupleGo tg (.ref it) u) Q E s:=by
 unfold letOwnedTupleGo
 cases tg<;>first
  | exact wpAny_pure hQ
  | (cases u<;>first
    | exact wpAny_pure hQ
    | (refine wpAny_bind (wpAny_load ho ?_)
       rw [hc,hd]
       show wpAny M A (if (["enumerate","zip","dict_itemiterator","dict_reverseitemiterator","odict_iterator","itertools.zip_longest","itertools.pairwise"].contains n && vs[0]? == some (rawInt _))=true then _ else _) Q E s
       rw [if_neg (by intro h;rw [hn,Bool.false_and] at h;cases h)]
       exact wpAny_pure hQ))
noncomputable def Itl (K:WA)(a:Addr):It:=
 ⟨fun i H=>∃xs x,SqL K H a xs/\xs[i]?=some x,fun i H x H'=>H'=H/\∀xs,SqL K H a xs->xs[i]?=some x,fun i H=>∃xs,SqL K H a xs/\xs.length<=i⟩
noncomputable def Itr (lo:Int)(n:Nat):It:=⟨fun i _=>i < n,fun i H x H'=>H'=H/\x=.int (lo+i),fun i _=>n<=i⟩
theorem Eu {P:Program}{w:World}{K:WA}{tg:Expr}(a it:Addr):Et P w K tg (Itl K a) [it] it (fun i h=>h.IsListIter it a i) where
 mem:=by simp
 obj:=fun i h st b hb=>by
  have e:b=it:=by simpa using hb
  subst e
  obtain ⟨o,e,c,d⟩:=st
  exact ⟨o,e,fun v z=>by rw [d] at z;cases z⟩
 keep:=fun i h h' st k=>st.at fun o e=>k it (by simp) o e
 item:=by
  intro X hP hw hK hc i pins s σ H E I hf st hg
  subst hP hw hK
  obtain ⟨xs,x,hq,hx⟩:=hg
  obtain ⟨its,rv,p,hz⟩:=I.list hq
  obtain ⟨u,hu,ru⟩:=rv.get hx
  obtain ⟨f0,f1,f2,f3,f4,f5⟩:=hf it (by simp)
  refine wpAny_pyNext_list_item st p.isList (x:=u) (by simpa using hu) fun h' st' sb=>?_
  have I1:Inv X pins σ H {s with heap:=h'}:=I.turned (t':=s.toks) (fun b o hb e=>(sb.2 b hb).trans e) f0 f1 f3 f4 f5
  obtain ⟨o,e,c,d⟩:=id st'
  exact ⟨u,rfl,Jx (s:={s with heap:=h'}) e c d (by decide) ⟨x,H,I1,ru,⟨rfl,fun ys hy=>by rw [I.list_inj hy hq];exact hx⟩,st',fun b hb=>(hf b hb).1⟩⟩
 done:=by
  intro X hP hw hK hc i pins s σ H E I hf st hg
  subst hP hw hK
  obtain ⟨xs,hq,hx⟩:=hg
  obtain ⟨its,rv,p,hz⟩:=I.list hq
  obtain ⟨f0,f1,f2,f3,f4,f5⟩:=hf it (by simp)
  have hl:=rv.length
  exact wpAny_pyNext_list_end (I.ok.hd hc) st p.isList (by simp;omega) fun h' eb=>⟨rfl,I.turned (t':=s.toks) (fun b o hb e=>eb b o hb e) f0 f1 f3 f4 f5⟩
 self:=fun _ _ _ _ _ st h=>wpAny_pyIter_listiter st h
theorem Cn {P:Program}{w:World}{K:WA}{tg:Expr}(it:Addr)(lo:Int)(n:Nat):Et P w K tg (Itr lo n) [it] it (fun i h=>IsRangeIter h it (lo+(i:Nat) * 1) ((n:Int) - (i:Nat)) 1) where
 mem:=by simp
 obj:=fun i h st b hb=>by
  have e:b=it:=by simpa using hb
  subst e
  exact ⟨_,st,fun v z=>by
   have z':Data.fields _=Data.cell v:=z
   cases z'⟩
 keep:=fun i h h' st k=>k it (by simp) _ st
 item:=by
  intro X hP hw hK hc i pins s σ H E I hf st hg
  subst hP hw hK
  obtain ⟨f0,f1,f2,f3,f4,f5⟩:=hf it (by simp)
  have W:=Walks.range (prog:=X.prog) (w:=X.w) (I.ok.hd hc) it lo 1 n
  refine W.item i s _ _ hg st fun v h' tk hv st' kk=>?_
  obtain ⟨t,rfl⟩:=hv
  have I1:Inv X pins σ H {s with heap:=h',toks:=tk}:=I.turned (fun b o hb e=>kk b o (by simpa using hb) e) f0 f1 f3 f4 f5
  refine ⟨_,rfl,Jx (s:={s with heap:=h',toks:=tk}) (n:="range_iterator") st' rfl rfl (by decide) ⟨.int (lo+i),H,I1,⟨t,?_⟩,⟨rfl,rfl⟩,st',fun b hb=>(hf b hb).1⟩⟩
  rw [Int.mul_one]
 done:=by
  intro X hP hw hK hc i pins s σ H E I hf st hg
  subst hP hw hK
  obtain ⟨f0,f1,f2,f3,f4,f5⟩:=hf it (by simp)
  exact wpAny_pyNext_range_end (I.ok.hd hc) st (by have:n<=i:=hg;omega) fun h' eb=>⟨rfl,I.turned (t':=s.toks) (fun b o hb e=>eb b o hb e) f0 f1 f3 f4 f5⟩
 self:=fun _ _ _ _ _ st h=>wpAny_pyIter_rangeiter st h
section
variable {X:Cx}{tg:Expr}
noncomputable def Jy (K:WA)(tl:TE):TI:=fun σ H R=>tl σ H fun x H1=>∃a,x=.ref a/\(∃xs,SqL K H1 a xs)/\R (Itl K a) H1
theorem Hm {l:Expr}{tl:TE}(hl:PE X l tl):PI X tg l (Jy X.K tl):=by
 intro pins s σ H R I h
 refine thn (hl pins s σ H _ I h) fun v s1 ⟨x,H1,I1,r1,q1⟩=>?_
 obtain ⟨a,e,⟨xs,hq⟩,q⟩:=q1
 subst e
 cases r1
 obtain ⟨its,rv,p,hz⟩:=I1.list hq
 refine wpAny_pyIter_list p.isList ?_
 refine ⟨s1.heap.objs.size,[s1.heap.objs.size],_,_,H1,rfl,I1.kept (t':=s1.toks) fun b o e=>Heap.get?_push_of_some _ e,Eu a _,⟨_,Heap.get?_push_size _ rfl,rfl,rfl⟩,fun b hb=>?_,q⟩
 have e:b=s1.heap.objs.size:=by simpa using hb
 subst e
 exact I1.fpOk (Nat.le_refl _) (I1.hok.fresh (Nat.le_refl _))
theorem AV {pins:List (Addr×Obj)}{σ:St}{H:Hp}{s:Shared}{R:It->Hp->Prop}{E:Value->Shared->Prop}{lo hi:Int}{t u v:Tok}{tk:Nat}(I:Inv X pins σ H s)(h1:-(2 ^ 62)<=lo)(h2:lo < 2 ^ 62)(h3:-(2 ^ 62)<=hi)(h4:hi < 2 ^ 62)
  (q:R (Itr lo (hi - lo).toNat) H):wpAny (model X.prog X.w) X.A (pyIter (.ref s.heap.objs.size)) (PIE X pins σ tg R) E {s with heap:=s.heap.push {cls:=.type "range",data:=.fields #[.int lo t,.int hi u,.int 1 v]},toks:=tk}:=by
 refine wpAny_pyIter_range (IsRange.new ..) (small_one h1 h2 h3 h4) ?_
 have I1:Inv X pins σ H {s with heap:=s.heap.push {cls:=.type "range",data:=.fields #[.int lo t,.int hi u,.int 1 v]},toks:=tk}:=I.kept fun b o e=>Heap.get?_push_of_some _ e
 refine ⟨(s.heap.push {cls:=.type "range",data:=.fields #[.int lo t,.int hi u,.int 1 v]}).objs.size,[(s.heap.push {cls:=.type "range",data:=.fields #[.int lo t,.int hi u,.int 1 v]}).objs.size],_,_,H,rfl,
  I1.kept (t':=tk) fun b o e=>Heap.get?_push_of_some _ e,Cn _ lo (hi - lo).toNat,?_,fun b hb=>?_,q⟩
 ·have e1:lo+((0:Nat):Int) * 1=lo:=by simp
  have e2:(((hi - lo).toNat:Nat):Int) - ((0:Nat):Int)=Builtin.Range.rangeSize lo hi 1:=by rw [rangeSize_one];split<;>omega
  show IsRangeIter _ _ (lo+((0:Nat):Int) * 1) ((((hi - lo).toNat:Nat):Int) - ((0:Nat):Int)) 1
  rw [e1,e2]
  exact Heap.get?_push_size _ rfl
 ·have e:b=(s.heap.push {cls:=.type "range",data:=.fields #[.int lo t,.int hi u,.int 1 v]}).objs.size:=by simpa using hb
  subst e
  exact I1.fpOk (Nat.le_refl _) (I1.hok.fresh (Nat.le_refl _))
noncomputable def Jz (ta:TA):TI:=fun σ H R=>ta σ H fun vs H1=>∃j:Int,vs=[.int j]/\-(2 ^ 62)<=j/\j < 2 ^ 62/\R (Itr 0 j.toNat) H1
noncomputable def JA (ta:TA):TI:=fun σ H R=>ta σ H fun vs H1=>∃i j:Int,vs=[.int i,.int j]/\(-(2 ^ 62)<=i/\i < 2 ^ 62/\-(2 ^ 62)<=j/\j < 2 ^ 62)/\R (Itr i (j - i).toNat) H1
theorem Ew {a:Expr}{ta:TA}{p pos:Pos}(hg:Gl X "range")(hm:X.mg "range"=none)(ha:PA X [a] ta)(hs:starEach [a] X.env=[(false,eval a X.env)]:=by rfl):PI X tg (.Call (.Name "range" p) [a] [] pos) (Jz ta):=by
 intro pins s σ H R I h
 refine Call_ (rq I hg hm boot_range (PyProof.Rows.callWith_type1 (thn (ha pos pins s σ H _ I h) fun us s1 ⟨vs,H1,I1,r1,q1⟩=>?_) hs rfl))
 obtain ⟨j,e,q1,q2,q⟩:=q1
 subst e
 cases r1 with
 | cons r rr=>
  cases rr
  obtain ⟨t,rfl⟩:=r
  exact call_range_1 (AV I1 (by omega) (by omega) q1 q2 (by simpa using q))
theorem Ex {a b:Expr}{ta:TA}{p pos:Pos}(hg:Gl X "range")(hm:X.mg "range"=none)(ha:PA X [a,b] ta)(hs:starEach [a,b] X.env=[(false,eval a X.env),(false,eval b X.env)]:=by rfl)(hs2:starEach [b] X.env=[(false,eval b X.env)]:=by rfl) :
  PI X tg (.Call (.Name "range" p) [a,b] [] pos) (JA ta):=by
 intro pins s σ H R I h
 refine Call_ (rq I hg hm boot_range (PyProof.Rows.callWith_type1 (thn (ha pos pins s σ H _ I h) fun us s1 ⟨vs,H1,I1,r1,q1⟩=>?_) (by rw [hs,hs2]) (by rw [hs2];rfl)))
 obtain ⟨i,j,e,⟨q1,q2,q3,q4⟩,q⟩:=q1
 subst e
 cases r1 with
 | cons r rr=>
  cases rr with
  | cons r' rr=>
   cases rr
   obtain ⟨t,rfl⟩:=r
   obtain ⟨t',rfl⟩:=r'
   exact call_range_2 (AV I1 q1 q2 q3 q4 q)
noncomputable def LO (wi:TI)(g:TG)(tb:TS):TS:=fun D σ H=>wi σ H fun J H1=>∃W:Nat->Nat->St->Hp->Prop,(∃m,W 0 m σ H1)/\∀i m σ H,W i m σ H->
 (J.stop i H/\D.nx σ H)\/(J.go i H/\∃N:St->Hp->Prop,(∀σ' H',N σ' H'->∃m',m' < m/\W (i+1) m' σ' H')/\∀x H',J.yld i H x H'->g x σ H' fun σ2 H2=>tb {D with nx:=N,ct:=N,bk:=D.nx} σ2 H2)
noncomputable def we (fp:List Addr)(h:Heap):List (Addr×Obj):=fp.filterMap fun b=>(h.get? b).map fun o=>(b,o)
theorem kG {fp:List Addr}{h:Heap}{b:Addr}{o:Obj}(hb:b∈fp)(e:h.get? b=some o):(b,o)∈we fp h:=List.mem_filterMap.mpr ⟨b,hb,by rw [e];rfl⟩
theorem Ey {fp:List Addr}{h:Heap}{p:Addr×Obj}(hp:p∈we fp h):p.1∈fp/\h.get? p.1=some p.2:=by
 obtain ⟨b,hb,e⟩:=List.mem_filterMap.mp hp
 cases q:h.get? b with
 | none=>rw [q] at e;cases e
 | some o=>
  rw [q] at e
  have e':(b,o)=p:=Option.some.inj e
  subst e'
  exact ⟨hb,q⟩
theorem Inv.pinned {pins:List (Addr×Obj)}{σ:St}{H:Hp}{s:Shared}{fp:List Addr}(I:Inv X pins σ H s)(hf:∀b∈fp,ux X pins H b)(ho:∀b∈fp,∃o,s.heap.get? b=some o/\∀v,o.data≠.cell v):Inv X (pins++we fp s.heap) σ H s:=
 I.pins_of fun p hp=>(List.mem_append.mp hp).elim (fun z=>I.pin p (List.mem_append_right _ z)) fun z=>by
  obtain ⟨hb,e⟩:=Ey z
  obtain ⟨f0,f1,f2,_⟩:=hf p.1 hb
  obtain ⟨o,e',d⟩:=ho p.1 hb
  rw [e] at e';cases e'
  exact ⟨e,f0,f1,f2,d⟩
theorem Inv.unpinned {pins pl:List (Addr×Obj)}{σ:St}{H:Hp}{s:Shared}(I:Inv X (pins++pl) σ H s):Inv X pins σ H s:=I.pins_of fun p hp=>I.pin p (List.mem_append_right _ (List.mem_append_left _ hp))
theorem dZ {iter:Expr}{body:List Stmt}{wi:TI}{g:TG}{tb:TS}{pos:Pos}(hp:PassesOwn (model X.prog X.w) X.A X.env X.xe)(hc:X.calm=true)(hi:PI X tg iter wi)(hg:PG X tg g)(hb:PSs X body tb)
  (hs:∀x,foldedSetIterable iter X.env x=pure x:=by intro _;rfl):PS X (.For tg iter body [] pos) (LO wi g tb):=by
 intro pins s σ H D I h
 refine wpAny_For (thn (hi pins s σ H _ I h) fun v s1 h1=>thn h1 fun itv s2 h2=>?_) hs
 obtain ⟨it,fp,tn,J,H2,e,I2,T,st2,f2,W,⟨m0,w0⟩,turn⟩:=h2
 subst e
 have stat:∀{H':Hp},(∀b∈fp,H' b=none)->∀b∈fp,ux X pins H' b:=fun hn b hb=>⟨hn b hb,(f2 b hb).2⟩
 refine codeAny_forLoop_any (fun n s'=>∃i σ' H',Inv X pins σ' H' s'/\tn i s'.heap/\(∀b∈fp,H' b=none)/\W i n σ' H') ?_ m0 ⟨0,σ,H2,I2,st2,fun b hb=>(f2 b hb).1,w0⟩
 rintro n s3 ⟨i,σ3,H3,I3,st3,fr3,w3⟩
 rcases turn i n σ3 H3 w3 with ⟨stop,qn⟩ | ⟨go,N,hN,step⟩
 ·refine wpAny_passesOwn hp (thn (T.done X rfl rfl rfl hc i pins s3 σ3 H3 X.xe I3 (stat fr3) st3 stop) fun r s4 ⟨hr,I4⟩=>?_)
  subst hr
  exact wpAny_execs_nil ⟨σ3,H3,I4,qn⟩
 ·refine wpAny_passesOwn hp (thn (T.item X rfl rfl rfl hc i pins s3 σ3 H3 X.xe I3 (stat fr3) st3 go) fun r s4 ⟨u,hr,h4⟩=>?_)
  subst hr
  refine wpAny_passesOwn hp (thn h4 fun _ s5 ⟨x,H5,I5,r5,y5,st5,fr5⟩=>?_)
  have I5':=I5.pinned (stat fr5) (T.obj _ _ st5)
  refine wpAny_passesOwn hp (thn (hg _ s5 σ3 H5 x u _ I5' r5 (step x H5 y5)) fun _ s6 ⟨σ6,H6,I6,q6⟩=>?_)
  refine wpAny_passesOwn hp (thn (hb _ s6 σ6 H6 _ I6 q6) fun f s7 q7=>?_)
  have again:∀{σ7:St} {H7:Hp},Inv X (pins++we fp s5.heap) σ7 H7 s7->N σ7 H7->∃m,m < n/\∃i σ' H',Inv X pins σ' H' s7/\tn i s7.heap/\(∀b∈fp,H' b=none)/\W i m σ' H':=fun {σ7 H7} I7 n7=>by
   obtain ⟨m',hm,w7⟩:=hN σ7 H7 n7
   refine ⟨m',hm,i+1,σ7,H7,I7.unpinned,T.keep _ _ _ st5 fun b hb o e=>(I7.pin (b,o) (List.mem_append_right _ (List.mem_append_right _ (kG hb e)))).1,fun b hb=>?_,w7⟩
   obtain ⟨o,e,d⟩:=T.obj _ _ st5 b hb
   exact (I7.pin (b,o) (List.mem_append_right _ (List.mem_append_right _ (kG hb e)))).2.1
  cases f with
  | next=>obtain ⟨σ7,H7,I7,n7⟩:=q7;exact again I7 n7
  | cont=>obtain ⟨σ7,H7,I7,n7⟩:=q7;exact again I7 n7
  | brk=>obtain ⟨σ7,H7,I7,q7⟩:=q7;exact ⟨σ7,H7,I7.unpinned,q7⟩
  | ret v=>obtain ⟨x7,σ7,H7,I7,r7,q7⟩:=q7;exact ⟨x7,σ7,H7,I7.unpinned,r7,q7⟩
end
theorem Fn {K:WA}{a:Addr}{xs:List V}{g:TG}{tb:TS}{D:mK}{σ:St}{H:Hp}(Pv:Nat->St->Hp->Prop)(h0:Pv 0 σ H)(hl:∀i σ H,i<=xs.length->Pv i σ H->SqL K H a xs)
  (hs:∀i x σ H,xs[i]?=some x->Pv i σ H->g x σ H fun σ2 H2=>tb {D with nx:=Pv (i+1),ct:=Pv (i+1),bk:=D.nx} σ2 H2) (hd:∀σ H,Pv xs.length σ H->D.nx σ H) :
  ∃W:Nat->Nat->St->Hp->Prop,(∃m,W 0 m σ H)/\∀i m σ H,W i m σ H->
   ((Itl K a).stop i H/\D.nx σ H)\/((Itl K a).go i H/\∃N:St->Hp->Prop,(∀σ' H',N σ' H'->∃m',m' < m/\W (i+1) m' σ' H')/\∀x H',(Itl K a).yld i H x H'->g x σ H' fun σ2 H2=>tb {D with nx:=N,ct:=N,bk:=D.nx} σ2 H2):=by
 refine ⟨fun i m σ H=>m=xs.length - i/\i<=xs.length/\Pv i σ H,⟨xs.length,by simp,Nat.zero_le _,h0⟩,?_⟩
 rintro i m σ H ⟨rfl,hi,p⟩
 have q:=hl i σ H hi p
 by_cases hlt:i < xs.length
 ·refine .inr ⟨⟨xs,xs[i],q,by simp [hlt]⟩,Pv (i+1),fun σ' H' p'=>⟨xs.length - (i+1),by omega,rfl,hlt,p'⟩,fun x H' y=>?_⟩
  obtain ⟨e,y⟩:=y
  subst e
  exact hs i x σ _ (y xs q) p
 ·have e:i=xs.length:=by omega
  subst e
  exact .inl ⟨⟨xs,q,Nat.le_refl _⟩,hd σ H p⟩
theorem Ez {lo:Int}{n:Nat}{g:TG}{tb:TS}{D:mK}{σ:St}{H:Hp}(Pv:Nat->St->Hp->Prop)(h0:Pv 0 σ H)
  (hs:∀i σ H,i < n->Pv i σ H->g (.int (lo+i)) σ H fun σ2 H2=>tb {D with nx:=Pv (i+1),ct:=Pv (i+1),bk:=D.nx} σ2 H2) (hd:∀σ H,Pv n σ H->D.nx σ H) :
  ∃W:Nat->Nat->St->Hp->Prop,(∃m,W 0 m σ H)/\∀i m σ H,W i m σ H->
   ((Itr lo n).stop i H/\D.nx σ H)\/((Itr lo n).go i H/\∃N:St->Hp->Prop,(∀σ' H',N σ' H'->∃m',m' < m/\W (i+1) m' σ' H')/\∀x H',(Itr lo n).yld i H x H'->g x σ H' fun σ2 H2=>tb {D with nx:=N,ct:=N,bk:=D.nx} σ2 H2):=by
 refine ⟨fun i m σ H=>m=n - i/\i<=n/\Pv i σ H,⟨n,by simp,Nat.zero_le _,h0⟩,?_⟩
 rintro i m σ H ⟨rfl,hi,p⟩
 by_cases hlt:i < n
 ·refine .inr ⟨hlt,Pv (i+1),fun σ' H' p'=>⟨n - (i+1),by omega,rfl,hlt,p'⟩,fun x H' y=>?_⟩
  obtain ⟨e,y⟩:=y
  subst e y
  exact hs i σ _ hlt p
 ·have e:i=n:=by omega
  subst e
  exact .inl ⟨Nat.le_refl _,hd σ H p⟩
noncomputable abbrev R2:=V->V->Hp->VK->Prop
def OpR (X:Cx)(f:Value->Value->Sem Value)(r:R2):Prop:=
 ∀(pins:List (Addr×Obj)) (s:Shared) (σ:St) (H:Hp) (x y:V) (v u:Value) (Q:VK),Inv X pins σ H s->bX x v->bX y u->r x y H Q->
  wpAny (model X.prog X.w) X.A (f v u) (EP X pins σ Q) X.xe s
def UnR (X:Cx)(f:Value->Sem Value)(r:V->Hp->VK->Prop):Prop:=
 ∀(pins:List (Addr×Obj)) (s:Shared) (σ:St) (H:Hp) (x:V) (v:Value) (Q:VK),Inv X pins σ H s->bX x v->r x H Q->
  wpAny (model X.prog X.w) X.A (f v) (EP X pins σ Q) X.xe s
def df (X:Cx)(f:Value)(r:List V->Hp->VK->Prop):Prop:=
 ∀(pins:List (Addr×Obj)) (s:Shared) (σ:St) (H:Hp) (xs:List V) (us:List Value) (Q:VK),Inv X pins σ H s->bF xs us->r xs H Q->
  wpAny (model X.prog X.w) X.A (call f us) (EP X pins σ Q) X.xe s
def MQ (X:Cx)(r:V->Hp->(Bool->Hp->Prop)->Prop):Prop:=
 ∀(pins:List (Addr×Obj)) (s:Shared) (σ:St) (H:Hp) (x:V) (v:Value) (Q:Bool->Hp->Prop),Inv X pins σ H s->bX x v->r x H Q->
  wpAny (model X.prog X.w) X.A (truthy v) (TP X pins σ Q) X.xe s
noncomputable def tOp (r:R2)(ta tb:TE):TE:=fun σ H Q=>ta σ H fun x H1=>tb σ H1 fun y H2=>r x y H2 Q
noncomputable def tUn (r:V->Hp->VK->Prop)(ta:TE):TE:=fun σ H Q=>ta σ H fun x H1=>r x H1 Q
noncomputable def rI (C:Int->Int->Prop)(g:Int->Int->V):R2:=fun x y H Q=>∃i j,x=.int i/\y=.int j/\C i j/\Q (g i j) H
noncomputable def rI0 (g:Int->Int->V):R2:=fun x y H Q=>∃i j,x=.int i/\y=.int j/\Q (g i j) H
noncomputable def rU (g:Int->V):V->Hp->VK->Prop:=fun x H Q=>∃i,x=.int i/\Q (g i) H
section
variable {X:Cx}{a b c:Expr}{ta tb tc:TE}{pos:Pos}
theorem Kj (ha:PE X a ta)(hb:PE X b tb){pins:List (Addr×Obj)}{s:Shared}{σ:St}{H:Hp}{R:V->V->Hp->Prop}(I:Inv X pins σ H s)
  (h:ta σ H fun x H1=>tb σ H1 fun y H2=>R x y H2) {Q:Value->Shared->Prop} {f:Value->Value->Sem Value}
  (hf:∀v u s2 x y H2,Inv X pins σ H2 s2->bX x v->bX y u->R x y H2->wpAny (model X.prog X.w) X.A (f v u) Q X.xe s2) :
  wpAny (model X.prog X.w) X.A (eval a X.env) (fun v s₁=>wpAny (model X.prog X.w) X.A (eval b X.env) (fun u s₂=>wpAny (model X.prog X.w) X.A (f v u) Q X.xe s₂) X.xe s₁) X.xe s:=by
 refine thn (ha pins s σ H _ I h) fun v s1 ⟨x,H1,I1,r1,q1⟩=>?_
 refine thn (hb pins s1 σ H1 _ I1 q1) fun u s2 ⟨y,H2,I2,r2,q2⟩=>?_
 exact hf v u s2 x y H2 I2 r1 r2 q2
theorem bx {op:Operator}{r:R2}(ho:OpR X (binaryOp op) r)(ha:PE X a ta)(hb:PE X b tb):PE X (.BinOp a op b pos) (tOp r ta tb):=by
 intro pins s σ H Q I h
 exact wpAny_BinOp (Kj ha hb I h fun v u s2 x y H2 I2 rx ry q=>ho pins s2 σ H2 x y v u Q I2 rx ry q)
theorem AW {op:UnaryOp}{r:V->Hp->VK->Prop}(ho:UnR X (unaryOp op) r)(ha:PE X a ta):PE X (.UnaryOp op a pos) (tUn r ta):=by
 intro pins s σ H Q I h
 exact UnaryOp_ (thn (ha pins s σ H _ I h) fun v s1 ⟨x,H1,I1,r1,q1⟩=>ho pins s1 σ H1 x v Q I1 r1 q1)
theorem opI {f:Value->Value->Sem Value}{C:Int->Int->Prop}{g:Int->Int->Int}
  (rule:∀(i j:Int) (t u:Tok) (s:Shared) (Q:Value->Shared->Prop) (E:Value->Shared->Prop),C i j->Q (.int (g i j) s.toks) {s with toks:=s.toks+1}->wpAny (model X.prog X.w) X.A (f (.int i t) (.int j u)) Q E s) :
  OpR X f (rI C fun i j=>.int (g i j)):=by
 intro pins s σ H x y v u Q I rx ry h
 obtain ⟨i,j,rfl,rfl,hc,q⟩:=h
 obtain ⟨t,rfl⟩:=rx
 obtain ⟨t',rfl⟩:=ry
 exact rule i j t t' s _ _ hc ⟨.int (g i j),H,I.tok _,⟨_,rfl⟩,q⟩
theorem LP {f:Value->Value->Sem Value}{g:Int->Int->Int}
  (rule:∀(i j:Int) (t u:Tok) (s:Shared) (Q:Value->Shared->Prop) (E:Value->Shared->Prop),Q (.int (g i j) s.toks) {s with toks:=s.toks+1}->wpAny (model X.prog X.w) X.A (f (.int i t) (.int j u)) Q E s) :
  OpR X f (rI0 fun i j=>.int (g i j)):=by
 intro pins s σ H x y v u Q I rx ry h
 obtain ⟨i,j,rfl,rfl,q⟩:=h
 obtain ⟨t,rfl⟩:=rx
 obtain ⟨t',rfl⟩:=ry
 exact rule i j t t' s _ _ ⟨.int (g i j),H,I.tok _,⟨_,rfl⟩,q⟩
theorem Hn {f:Value->Value->Sem Value}{g:Int->Int->Bool}
  (rule:∀(i j:Int) (t u:Tok) (s:Shared) (Q:Value->Shared->Prop) (E:Value->Shared->Prop),Q (.bool (g i j)) s->wpAny (model X.prog X.w) X.A (f (.int i t) (.int j u)) Q E s) :
  OpR X f (rI0 fun i j=>.bl (g i j)):=by
 intro pins s σ H x y v u Q I rx ry h
 obtain ⟨i,j,rfl,rfl,q⟩:=h
 obtain ⟨t,rfl⟩:=rx
 obtain ⟨t',rfl⟩:=ry
 exact rule i j t t' s _ _ ⟨.bl (g i j),H,I,rfl,q⟩
def Fo (i j:Int):Prop:=0 < j/\j < 1073741824
def MR (i j:Int):Prop:=0<=j/\j<=1000000/\i.natAbs < 2 ^ 64
def wg (i j:Int):Prop:=(-(2 ^ 64) < i/\i < 2 ^ 64)\/(-(2 ^ 64) < j/\j < 2 ^ 64)
theorem wg.ok {i j:Int}(h:wg i j):IntMulOk i j:=by
 rcases h with ⟨h1,h2⟩ | ⟨h1,h2⟩
 ·exact .of_left (intBits_le_64 h1 h2)
 ·exact .of_right (intBits_le_64 h1 h2)
theorem Kk:OpR X (binaryOp .Add) (rI0 fun i j=>.int (i+j)):=LP fun _ _ _ _ _ _ _ q=>add_int q
theorem Kl:OpR X (binaryOp .Sub) (rI0 fun i j=>.int (i - j)):=LP fun _ _ _ _ _ _ _ q=>sub_int q
theorem Co:OpR X (binaryOp .Mult) (rI wg fun i j=>.int (i * j)):=opI fun _ _ _ _ _ _ _ hc q=>mul_int q hc.ok
theorem Ho:OpR X (binaryOp .FloorDiv) (rI Fo fun i j=>.int (i / j)):=opI fun i j _ _ _ _ _ hc q=>by
 have h1:(0:Int) < j:=hc.1
 have h2:j < 1073741824:=hc.2
 exact floordiv_int (by omega) (by rw [Int.fdiv_eq_ediv_of_nonneg i (by omega)];exact q) (.inl (PyProof.noPylong_small (by omega)))
theorem Fp:OpR X (binaryOp .Mod) (rI (fun _ j=>0 < j) fun i j=>.int (i % j)):=opI fun i j _ _ _ _ _ hc q=>by
 have h1:(0:Int) < j:=hc
 exact mod_int' (by omega) (by rw [Int.fmod_eq_emod_of_nonneg i (by omega)];exact q)
theorem unI {f:Value->Sem Value}{g:Int->Int}
  (rule:∀(i:Int) (t:Tok) (s:Shared) (Q:Value->Shared->Prop) (E:Value->Shared->Prop),Q (.int (g i) s.toks) {s with toks:=s.toks+1}->wpAny (model X.prog X.w) X.A (f (.int i t)) Q E s) :
  UnR X f (rU fun i=>.int (g i)):=by
 intro pins s σ H x v Q I rx h
 obtain ⟨i,rfl,q⟩:=h
 obtain ⟨t,rfl⟩:=rx
 exact rule i t s _ _ ⟨.int (g i),H,I.tok _,⟨_,rfl⟩,q⟩
theorem Km:UnR X (unaryOp .USub) (rU fun i=>.int (-i)):=unI fun _ _ _ _ _ q=>neg_int q
end
noncomputable def xV:V->V->Bool
 | .non,.non=>true | .non,.int _=>true | .int _,.non=>true | .non,.bl _=>true | .bl _,.non=>true | .non,.str _=>true | .str _,.non=>true
 | .int _,.int _=>true | .bl _,.bl _=>true | .str _,.str _=>true | .byt _,.byt _=>true
 | .int _,.str _=>true | .str _,.int _=>true | .bl _,.str _=>true | .str _,.bl _=>true
 | _,_=>false
noncomputable def rEq:R2:=fun x y H Q=>xV x y=true/\Q (.bl (decide (x=y))) H
noncomputable def rNe:R2:=fun x y H Q=>xV x y=true/\Q (.bl (!decide (x=y))) H
theorem DA {i j:Int}:decide (V.int i=V.int j)=(i == j):=by
 rw [Bool.eq_iff_iff]
 simp
theorem Fq {i j:Bool}:decide (V.bl i=V.bl j)=(i == j):=by
 rw [Bool.eq_iff_iff]
 simp
theorem DB {i j:Str}:decide (V.str i=V.str j)=(i == j):=by
 rw [Bool.eq_iff_iff]
 simp
theorem DC {i j:Array UInt8}:decide (V.byt i=V.byt j)=(i.toList == j.toList):=by
 rw [Bool.eq_iff_iff]
 cases i
 cases j
 simp
section
variable {X:Cx}{a b c:Expr}{ta tb tc:TE}{pos:Pos}
theorem bY {pins:List (Addr×Obj)}{σ:St}{H:Hp}{s:Shared}{Q:VK}{k k':Bool}(I:Inv X pins σ H s)(q:Q (.bl k) H)(e:k=k'):EP X pins σ Q (.bool k') s:=by
 subst e
 exact ⟨.bl k,H,I,rfl,q⟩
theorem JB:OpR X (compareOp .Eq) rEq:=by
 intro pins s σ H x y v u Q I rx ry h
 obtain ⟨hs,q⟩:=h
 cases x with
 | non=>
  cases rx
  cases y with
  | non=>cases ry;exact PySem.EqNone.eq_none_none (bY I q (by simp))
  | bl j=>cases ry;exact PySem.EqNone.eq_none_bool (bY I q (by simp))
  | int j=>obtain ⟨t',rfl⟩:=ry;exact PySem.EqNone.eq_none_int (bY I q (by simp))
  | str j=>obtain ⟨t',rfl⟩:=ry;exact PySem.EqNone.eq_none_str (bY I q (by simp))
  | _=>exact absurd (show false=true from hs) Bool.false_ne_true
 | bl i=>
  cases rx
  cases y with
  | non=>cases ry;exact PySem.EqNone.eq_bool_none (bY I q (by simp))
  | bl j=>cases ry;exact eq_bool (bY I q Fq)
  | str j=>obtain ⟨t',rfl⟩:=ry;exact PySem.EqMixed.eq_bool_str (bY I q (by simp))
  | _=>exact absurd (show false=true from hs) Bool.false_ne_true
 | int i=>
  obtain ⟨t,rfl⟩:=rx
  cases y with
  | non=>cases ry;exact PySem.EqNone.eq_int_none (bY I q (by simp))
  | int j=>obtain ⟨t',rfl⟩:=ry;exact eq_int (bY I q DA)
  | str j=>obtain ⟨t',rfl⟩:=ry;exact PySem.EqMixed.eq_int_str (bY I q (by simp))
  | _=>exact absurd (show false=true from hs) Bool.false_ne_true
 | str i=>
  obtain ⟨t,rfl⟩:=rx
  cases y with
  | non=>cases ry;exact PySem.EqNone.eq_str_none (bY I q (by simp))
  | bl j=>cases ry;exact PySem.EqMixed.eq_str_bool (bY I q (by simp))
  | int j=>obtain ⟨t',rfl⟩:=ry;exact PySem.EqMixed.eq_str_int (bY I q (by simp))
  | str j=>obtain ⟨t',rfl⟩:=ry;exact eq_str (bY I q DB)
  | _=>exact absurd (show false=true from hs) Bool.false_ne_true
 | byt i=>
  obtain ⟨t,rfl⟩:=rx
  cases y with
  | byt j=>obtain ⟨t',rfl⟩:=ry;exact W.eq_bytes (bY I q DC)
  | _=>exact absurd (show false=true from hs) Bool.false_ne_true
 | _=>cases y<;>exact absurd (show false=true from hs) Bool.false_ne_true
theorem LQ:OpR X (compareOp .NotEq) rNe:=by
 intro pins s σ H x y v u Q I rx ry h
 obtain ⟨hs,q⟩:=h
 cases x with
 | non=>
  cases rx
  cases y with
  | non=>cases ry;exact PySem.EqNone.ne_none_none (bY I q (by simp))
  | bl j=>cases ry;exact PySem.EqNone.ne_none_bool (bY I q (by simp))
  | int j=>obtain ⟨t',rfl⟩:=ry;exact PySem.EqNone.ne_none_int (bY I q (by simp))
  | str j=>obtain ⟨t',rfl⟩:=ry;exact PySem.EqNone.ne_none_str (bY I q (by simp))
  | _=>exact absurd (show false=true from hs) Bool.false_ne_true
 | bl i=>
  cases rx
  cases y with
  | non=>cases ry;exact PySem.EqNone.ne_bool_none (bY I q (by simp))
  | bl j=>cases ry;exact ne_bool (bY I q (congrArg not Fq))
  | str j=>obtain ⟨t',rfl⟩:=ry;exact PySem.EqMixed.ne_bool_str (bY I q (by simp))
  | _=>exact absurd (show false=true from hs) Bool.false_ne_true
 | int i=>
  obtain ⟨t,rfl⟩:=rx
  cases y with
  | non=>cases ry;exact PySem.EqNone.ne_int_none (bY I q (by simp))
  | int j=>obtain ⟨t',rfl⟩:=ry;exact ne_int (bY I q (congrArg not DA))
  | str j=>obtain ⟨t',rfl⟩:=ry;exact PySem.EqMixed.ne_int_str (bY I q (by simp))
  | _=>exact absurd (show false=true from hs) Bool.false_ne_true
 | str i=>
  obtain ⟨t,rfl⟩:=rx
  cases y with
  | non=>cases ry;exact PySem.EqNone.ne_str_none (bY I q (by simp))
  | bl j=>cases ry;exact PySem.EqMixed.ne_str_bool (bY I q (by simp))
  | int j=>obtain ⟨t',rfl⟩:=ry;exact PySem.EqMixed.ne_str_int (bY I q (by simp))
  | str j=>obtain ⟨t',rfl⟩:=ry;exact ne_str (bY I q (congrArg not DB))
  | _=>exact absurd (show false=true from hs) Bool.false_ne_true
 | byt i=>
  obtain ⟨t,rfl⟩:=rx
  cases y with
  | byt j=>obtain ⟨t',rfl⟩:=ry;exact W.ne_bytes (bY I q (congrArg not DC))
  | _=>exact absurd (show false=true from hs) Bool.false_ne_true
 | _=>cases y<;>exact absurd (show false=true from hs) Bool.false_ne_true
theorem JC:OpR X (compareOp .Lt) (rI0 fun i j=>.bl (decide (i < j))):=Hn fun _ _ _ _ _ _ _ q=>lt_int q
theorem JD:OpR X (compareOp .LtE) (rI0 fun i j=>.bl (decide (i<=j))):=Hn fun _ _ _ _ _ _ _ q=>le_int q
theorem LR:OpR X (compareOp .Gt) (rI0 fun i j=>.bl (decide (j < i))):=Hn fun _ _ _ _ _ _ _ q=>gt_int q
theorem JE:OpR X (compareOp .GtE) (rI0 fun i j=>.bl (decide (j<=i))):=Hn fun _ _ _ _ _ _ _ q=>ge_int q
theorem Kn:OpR X (compareOp .Is) (fun x y H Q=>y=.non/\Q (.bl (decide (x=.non))) H):=by
 intro pins s σ H x y v u Q I rx ry h
 obtain ⟨rfl,q⟩:=h
 cases ry
 refine is_none_gen (bY I q ?_)
 cases x<;>first
  | (cases rx;rfl)
  | (obtain ⟨t,rfl⟩:=rx;rfl)
theorem Hq:OpR X (compareOp .IsNot) (fun x y H Q=>y=.non/\Q (.bl (!decide (x=.non))) H):=by
 intro pins s σ H x y v u Q I rx ry h
 obtain ⟨rfl,q⟩:=h
 cases ry
 refine isnot_none_gen (bY I q ?_)
 cases x<;>first
  | (cases rx;rfl)
  | (obtain ⟨t,rfl⟩:=rx;rfl)
theorem cG (b:Expr){op:CmpOp}(h:op≠.In:=by decide)(h2:op≠.NotIn:=by decide):behindInMarks op b=false:=by
 have e1:(op == CmpOp.In)=false:=by cases op<;>first | rfl | exact absurd rfl h
 have e2:(op == CmpOp.NotIn)=false:=by cases op<;>first | rfl | exact absurd rfl h2
 cases b<;>simp [behindInMarks,e1,e2]
theorem cZ {op:CmpOp}{r:R2}(ho:OpR X (compareOp op) r)(ha:PE X a ta)(hb:PE X b tb)(hm:behindInMarks op b=false):PE X (.Compare a [op] [b] pos) (tOp r ta tb):=by
 intro pins s σ H Q I h
 exact wpAny_Compare1 (Kj ha hb I h fun v u s2 x y H2 I2 rx ry q=>ho pins s2 σ H2 x y v u Q I2 rx ry q) hm
noncomputable def mM (t:TE):TT:=fun σ H Q=>t σ H fun x H'=>∃k,x=.bl k/\Q k H'
theorem gE {op:CmpOp}{r:R2}(ho:OpR X (compareOp op) r)(ha:PE X a ta)(hb:PE X b tb)(hm:behindInMarks op b=false):PT X (.Compare a [op] [b] pos) (mM (tOp r ta tb)):=by
 intro pins s σ H Q I h
 refine wpAny_isTrue_Compare1 (thn (ha pins s σ H _ I h) fun v s1 ⟨x,H1,I1,r1,q1⟩=>thn (hb pins s1 σ H1 _ I1 q1) fun u s2 ⟨y,H2,I2,r2,q2⟩=>
  thn (ho pins s2 σ H2 x y v u _ I2 r1 r2 q2) fun c s3 ⟨z,H3,I3,r3,k,e,q3⟩=>?_) hm
 subst e
 cases r3
 exact wpAny_truthy_bool ⟨H3,I3,q3⟩
def LS (K:WA)(x:V)(H:Hp)(k:Bool):Prop:=
 match x with
 | .non=>k=false
 | .bl b=>k=b
 | .int i=>k=(i != 0)
 | .str y=>y.length<=sizeLine/\k=((y.length:Int) != 0)
 | .byt y=>y.size<=sizeLine/\k=((y.size:Int) != 0)
 | .ref p=>(∃xs,SqL K H p xs/\k=!xs.isEmpty)\/(∃xs,SqT K H p xs/\k=!xs.isEmpty)\/∃kvs,H p=some (.dK kvs)/\k=!kvs.isEmpty
 | _=>False
theorem Cp {κ:Type}{kvs:List (κ×V)}{vs:List (κ×Value)}(r:KV kvs vs):(!vs.isEmpty)=!kvs.isEmpty:=by
 cases r<;>rfl
theorem wj {xs:List V}{its:List Value}(r:bF xs its):(!its.toArray.isEmpty)=!xs.isEmpty:=by
 cases r<;>simp
theorem uy:(sizeLine:Nat) < 2 ^ 63:=by rw [sizeLine_eq];decide
theorem Ko:MQ X (fun x H Q=>∃k,LS X.K x H k/\Q k H):=by
 intro pins s σ H x v Q I rx h
 obtain ⟨k,e,q⟩:=h
 have hl:=uy
 have hs:sizeLine=16777216:=sizeLine_eq
 cases x with
 | non=>
  cases rx
  have e':k=false:=e
  subst e'
  exact truthy_none ⟨H,I,q⟩
 | bl b=>
  cases rx
  have e':k=b:=e
  subst e'
  exact wpAny_truthy_bool ⟨H,I,q⟩
 | int i=>
  obtain ⟨t,rfl⟩:=rx
  have e':k=(i != 0):=e
  subst e'
  exact PySem.P.truthy_int ⟨H,I,q⟩
 | str y=>
  obtain ⟨t,rfl⟩:=rx
  obtain ⟨hy,e'⟩:y.length<=sizeLine/\k=((y.length:Int) != 0):=e
  subst e'
  exact PySem.P.truthy_str (by omega) ⟨H,I.tok _,q⟩
 | byt y=>
  obtain ⟨t,rfl⟩:=rx
  obtain ⟨hy,e'⟩:y.size<=sizeLine/\k=((y.size:Int) != 0):=e
  subst e'
  exact W.truthy_bytes (by omega) ⟨H,I.tok _,q⟩
 | ref p=>
  cases rx
  have e':(∃xs,SqL X.K H p xs/\k=!xs.isEmpty)\/(∃xs,SqT X.K H p xs/\k=!xs.isEmpty)\/∃kvs,H p=some (.dK kvs)/\k=!kvs.isEmpty:=e
  rcases e' with ⟨xs,hx,e'⟩ | ⟨xs,hx,e'⟩ | ⟨kvs,hx,e'⟩
  ·subst e'
   obtain ⟨its,r,pl,hz⟩:=I.list hx
   have hlen:=r.length
   exact wpAny_truthy_list pl.isList (by simp only [List.size_toArray];omega) ⟨H,I.tok _,by rw [wj r];exact q⟩
  ·subst e'
   obtain ⟨its,r,pl,hz⟩:=I.tuple hx
   have hlen:=r.length
   exact truthy_tuple pl (by simp only [List.size_toArray];omega) ⟨H,I.tok _,by rw [wj r];exact q⟩
  ·subst e'
   obtain ⟨hz,hS,vs,r,m⟩:kvs.length<=sizeLine/\(p == sysModules)=false/\∃vs,KV kvs vs/\s.heap.DictOf (zC X.prog X.w) p vs:=I.hok p _ hx
   have hlen:kvs.length=vs.length:=Paired.length r
   exact wpAny_truthy_dict hS m (by omega) ⟨H,I.tok _,by rw [Cp r];exact q⟩
 | _=>exact (show False from e).elim
theorem wm (ha:PE X a ta)(he:∀cA,isTrue a X.env cA=(do let v ←cA;standAt a.pos;holding [v] (truthy v))) :
  PT X a (fun σ H Q=>ta σ H fun x H'=>∃k,LS X.K x H' k/\Q k H'):=by
 intro pins s σ H Q I h
 exact isTrue_plain (thn (ha pins s σ H _ I h) fun v s1 ⟨x,H1,I1,r1,q1⟩=>Ko pins s1 σ H1 x v Q I1 r1 q1) (he _)
theorem AX {x:V}{us:List Value}(r:bF [x] us):∃u,us=[u]/\bX x u:=by
 cases r with
 | cons r1 r2=>cases r2;exact ⟨_,rfl,r1⟩
theorem DD {x y:V}{us:List Value}(r:bF [x,y] us):∃u w',us=[u,w']/\bX x u/\bX y w':=by
 cases r with
 | cons r1 r2=>
  cases r2 with
  | cons r3 r4=>cases r4;exact ⟨_,_,rfl,r1,r3⟩
theorem Fs:df X (.builtin "abs") (fun xs H Q=>∃i,xs=[.int i]/\Q (.int (if i < 0 then -i else i)) H):=by
 intro pins s σ H xs us Q I r h
 obtain ⟨i,rfl,q⟩:=h
 obtain ⟨u,rfl,t,rfl⟩:=AX r
 exact call_abs_int fun u tk=>⟨.int (if i < 0 then -i else i),H,I.tok _,⟨_,rfl⟩,q⟩
theorem EA (hc:X.calm=true):df X (.builtin "min") (fun xs H Q=>∃i j,xs=[.int i,.int j]/\Q (.int (if j < i then j else i)) H):=by
 intro pins s σ H xs us Q I r h
 obtain ⟨i,j,rfl,q⟩:=h
 obtain ⟨u,w',rfl,⟨t,rfl⟩,⟨t',rfl⟩⟩:=DD r
 refine min_two_ints (I.ok.hd hc) fun h' tk k=>⟨_,H,I.kept k,?_,q⟩
 by_cases hj:j < i
 ·rw [if_pos hj,if_pos hj];exact ⟨_,rfl⟩
 ·rw [if_neg hj,if_neg hj];exact ⟨_,rfl⟩
theorem EB:df X (.type "int") (fun xs H Q=>(∃i,xs=[.int i]/\Q (.int i) H)\/∃k,xs=[.bl k]/\Q (.int (if k then 1 else 0)) H):=by
 intro pins s σ H xs us Q I r h
 rcases h with ⟨i,rfl,q⟩ | ⟨k,rfl,q⟩
 ·obtain ⟨u,rfl,t,rfl⟩:=AX r
  exact call_int_int ⟨.int i,H,I,⟨_,rfl⟩,q⟩
 ·obtain ⟨u,rfl,r1⟩:=AX r
  cases r1
  exact call_int_bool ⟨.int (if k then 1 else 0),H,I.tok _,⟨_,rfl⟩,q⟩
end
structure Cq (h:Heap)(x dx C:Addr)(mA:Str->Option Value):Prop where
 obj:h.get? x=some (W.instObj C dx)
 ns:h.Ns1 dx mA
 ne:dx≠x
theorem EC {h:Heap}{dx:Addr}{mA:Str->Option Value}(n:h.Ns1 dx mA):∃od,h.get? dx=some od/\∀name,W.lookIn name od=some (mA name):=by
 obtain ⟨o,es,ep,ho,hd,hk,_,hm⟩:=n
 refine ⟨o,ho,fun name=>?_⟩
 have e:=hm name
 unfold nsFind findBy at e
 rw [←Array.find?_toList] at e
 unfold W.lookIn
 rw [hd]
 dsimp only
 split
 ·rename_i y q
  rw [q] at e
  exact congrArg some e
 ·rename_i q
  rw [q] at e
  have a:es.toList.any (·.refKey)=false:=by
   rw [List.any_eq_false]
   intro y hy
   obtain ⟨z,t,hkey⟩:=hk y (Array.mem_toList_iff.mp hy)
   simp [DictEntry.refKey,hkey]
  have a':¬es.toList.any (·.refKey)=true:=by rw [a];exact Bool.false_ne_true
  rw [if_neg a']
  exact congrArg some e
theorem Cq.look {h:Heap}{x dx C:Addr}{mA:Str->Option Value}(I:Cq h x dx C mA):∃od,W.InstAt h x (W.instObj C dx) C (some od)/\∀name,W.lookIn name od=some (mA name):=
 let ⟨od,ho,hl⟩:=EC I.ns
 ⟨od,⟨I.obj,rfl,rfl,ho⟩,hl⟩
section
variable {prog:Program}{w:World}{A:Around}{E:Value->Shared->Prop}{s:Shared}{K:WA}{x dx C f:Addr}{mA:Str->Option Value}{name:Str}{v:Value}
theorem Hr {expr:Bool}{Q:Value->Shared->Prop}(X:K.In s.heap)(I:Cq s.heap x dx C mA)(hg:W.plainGet K C name=true)(hh:W.hasDictIn K C=true)
  (ha:W.findIn K (.ref C) name=some none) (hv:mA name=some v) (hv':W.handedIn v=true) (h:Q v {s with toks:=s.toks+1}) :
  wpAny (model prog w) A (getAttr (.ref x) name expr) Q E s:=by
 obtain ⟨od,J,hl⟩:=I.look
 exact W.get_value X J (W.plainGet_of hg).1 (W.findObj_own hh ha rfl (by rw [hl,hv])) hv' h
theorem Ft {pl:Sem Bool}{Q:Value×List Value->Shared->Prop}(X:K.In s.heap)(I:Cq s.heap x dx C mA)(hg:W.plainGet K C name=true)
  (hf:W.findIn K (.ref C) name=some (some (.ref f))) (ht:W.isFn K (.ref f)=true) (hv:mA name=none) (h:Q (.ref f,[.ref x]) s) :
  wpAny (model prog w) A (getMethod (.ref x) name pl) Q E s:=by
 obtain ⟨od,J,hl⟩:=I.look
 exact W.method_fn X J (W.plainGet_of hg).1 (W.plainGet_of hg).2 hf (beq_iff_eq.mp ht) (by show (W.lookIn name od).map (·.isSome)=some false;rw [hl,hv];rfl) h
theorem Hs {ns:List Str}{Q:Unit->Shared->Prop}(X:K.In s.heap)(I:Cq s.heap x dx C mA)
  (hs:W.findIn K (.ref C) "__setattr__"=some (some (.builtin "object.__setattr__"))) (hp:W.plainOver K C=true) (ht:W.takerIn K C name=some none) (hh:W.hasDictIn K C=true)
  (hw:PySem.Within mA ns) (hsz:ns.length<=sizeLine)
  (h:∀h',Cq h' x dx C (fun y=>if y=name then some v else mA y)->Heap.SameBut dx s.heap h'->Q () {s with heap:=h',toks:=s.toks+2}) :
  wpAny (model prog w) A (setAttr (.ref x) name v) Q E s:=by
 obtain ⟨od,J,hl⟩:=I.look
 refine W.set_plain X J hs (W.osa_open (s:={s with toks:=s.toks+1}) (r:=none) X J hp ht fun b=>?_)
 obtain ⟨cd,hc,hd'⟩:=W.any_some hh
 have hx:s.heap.get? x=some ⟨.ref C,some dx,.plain,#[]⟩:=I.obj
 refine wpAny_bind (wpAny_pure (wpAny_bind (wpAny_bind (wpAny_loadPart hx (wpAny_bind (W.Looks.here (s:={s with toks:=s.toks+1}) (W.looks_clsIn X hc) ?_))))))
 rw [hd']
 refine wpAny_pure (a:=some dx) (wpAny_bind (wpAny_pure (wpAny_bind ?_)))
 refine wpAny_nsSet1 (s:={s with toks:=s.toks+1}) I.ns fun h' hn2 hs2=>?_
 obtain ⟨oD,esD,epD,hoD,hdD,hcD⟩:=hn2.count (PySem.Within.cons name v hw)
 refine wpAny_bind (wpAny_lookBehind hoD (by rw [hdD];exact pastItsLine_dict (Nat.le_trans hcD (by rw [List.length_cons];omega))) ?_)
 exact wpAny_pure (h _ ⟨(hs2.2 _ (Ne.symm I.ne)).trans I.obj,hn2,I.ne⟩ hs2)
theorem Fu {R:Result->Shared->Prop}{vs:List Value}{kw:List (Str×Value)}(X:K.In s.heap)(hm:W.makesIn K C=true)
  (hi:W.findIn K (.ref C) "__init__"=some (some (.ref f))) (hf:W.typeIn K (.ref f)=some (.type "function"))
  (h:codeAny (model prog w) (A.under (.builtin "type.__call__" ⟨.ref C::vs,kw⟩)) (.call (.ref f) ⟨.ref (s.heap.objs.size+1)::vs,kw⟩) (W.InitBack (s.heap.objs.size+1) R)
   {s with heap:=(s.heap.push W.emptyDict).push (W.instObj C s.heap.objs.size)}) :
  codeAny (model prog w) A (.call (.ref C) ⟨vs,kw⟩) R s:=by
 obtain ⟨hh,g,d,t,os⟩:=s
 exact W.make_core (W.makes_of X hm) (W.looks_findIn X hi) (fun self=>W.bind_fn X self hf) (.inl rfl) h
end
noncomputable def bD (f:Str)(v:V):List (Str×V)->List (Str×V)
 | []=>[(f,v)]
 | (g,x)::r=>if g=f then (g,v)::r else (g,x)::bD f v r
theorem u7 (f g:Str)(v:V):∀fs:List (Str×V),(bD f v fs).lookup g=if g=f then some v else fs.lookup g
 | []=>by
  show List.lookup g [(f,v)]=_
  by_cases h:g=f
  ·have hb:(g == f)=true:=beq_iff_eq.mpr h
   simp only [List.lookup,hb,if_pos h]
  ·have hb:(g == f)=false:=beq_eq_false_iff_ne.mpr h
   simp only [List.lookup,hb,if_neg h]
 | (k,x)::r=>by
  have ih:=u7 f g v r
  rw [show bD f v ((k,x)::r)=(if k=f then (k,v)::r else (k,x)::bD f v r) from rfl]
  by_cases hk:k=f
  ·rw [if_pos hk]
   by_cases h:g=k
   ·have hb:(g == k)=true:=beq_iff_eq.mpr h
    simp only [List.lookup,hb,if_pos (h.trans hk)]
   ·have hb:(g == k)=false:=beq_eq_false_iff_ne.mpr h
    simp only [List.lookup,hb,if_neg (fun e:g=f=>h (e.trans hk.symm))]
  ·rw [if_neg hk]
   by_cases h:g=k
   ·have hb:(g == k)=true:=beq_iff_eq.mpr h
    simp only [List.lookup,hb,if_neg (fun e:g=f=>hk (h.symm.trans e))]
   ·have hb:(g == k)=false:=beq_eq_false_iff_ne.mpr h
    simp only [List.lookup,hb]
    exact ih
theorem uz (f:Str)(v:V):∀fs:List (Str×V),f∈(bD f v fs).map (·.1)/\∀g,g∈fs.map (·.1)->g∈(bD f v fs).map (·.1)
 | []=>⟨by simp [bD],fun g h=>by simp at h⟩
 | (k,x)::r=>by
  obtain ⟨i1,i2⟩:=uz f v r
  rw [show bD f v ((k,x)::r)=(if k=f then (k,v)::r else (k,x)::bD f v r) from rfl]
  by_cases hk:k=f
  ·rw [if_pos hk]
   subst hk
   exact ⟨by simp,fun g h=>by simpa using h⟩
  ·rw [if_neg hk]
   refine ⟨?_,fun g h=>?_⟩
   ·rw [List.map_cons]
    exact List.mem_cons_of_mem _ i1
   ·rw [List.map_cons] at h ⊢
    rcases List.mem_cons.mp h with e | e
    ·exact List.mem_cons.mpr (.inl e)
    ·exact List.mem_cons_of_mem _ (i2 g e)
theorem mO (f:Str)(v:V):∀fs:List (Str×V),(bD f v fs).length<=fs.length+1
 | []=>by simp [bD]
 | (k,x)::r=>by
  have ih:=mO f v r
  rw [show bD f v ((k,x)::r)=(if k=f then (k,v)::r else (k,x)::bD f v r) from rfl]
  by_cases hk:k=f
  ·rw [if_pos hk,List.length_cons,List.length_cons];omega
  ·rw [if_neg hk,List.length_cons,List.length_cons];omega
theorem xU.some_of {v:V}{o:Option Value}(r:xU (some v) o):∃u,o=some u/\bX v u:=by
 cases o with
 | none=>exact (show False from r).elim
 | some u=>exact ⟨u,rfl,r⟩
theorem xU.none_of {o:Option Value}(r:xU none o):o=none:=by
 cases o with
 | none=>rfl
 | some u=>exact (show False from r).elim
theorem ED {v:V}{u:Value}(r:bX v u):W.handedIn u=true:=by
 cases v with
 | non=>cases (show u=Value.none from r);rfl
 | bl b=>cases (show u=Value.bool b from r);rfl
 | int i=>obtain ⟨t,e⟩:=(show ∃t,u=Value.int i t from r);cases e;rfl
 | str x=>obtain ⟨t,e⟩:=(show ∃t,u=Value.str x t from r);cases e;rfl
 | byt b=>obtain ⟨t,e⟩:=(show ∃t,u=Value.bytes b t from r);cases e;rfl
 | flt b=>obtain ⟨t,e⟩:=(show ∃t,u=Value.float b t from r);cases e;rfl
 | ref a=>cases (show u=Value.ref a from r);rfl
 | ty n=>cases (show u=Value.type n from r);rfl
section
variable {P:Program}{w:World}{H H':Hp}{h h':Heap}{a C dx:Addr}{fs fs':List (Str×V)}
theorem zG (hok:HOk P w H h)(e:H a=some (.ins C dx fs)):∃mA,Cq h a dx C mA/\(∀f,xU (fs.lookup f) (mA f))/\PySem.Within mA (fs.map (·.1))/\fs.length<=1000/\H dx=some (.own a):=by
 obtain ⟨d,z,ne,ob,mA,n,r,q⟩:=(show fN P w H h a (.ins C dx fs) from hok a _ e)
 exact ⟨mA,⟨ob,n,ne⟩,r,q,z,d⟩
end
structure Cls (K:WA)(C:Addr):Prop where
 pg:W.plainGet K C Str.empty=true
 hd:W.hasDictIn K C=true
 po:W.plainOver K C=true
 sa:W.findIn K (.ref C) "__setattr__"=some (some (.builtin "object.__setattr__"))
theorem Cls.get {K:WA}{C:Addr}(c:Cls K C)(f:Str):W.plainGet K C f=true:=c.pg
def bg (K:WA)(C:Addr)(f:Str):Prop:=W.findIn K (.ref C) f=some none
theorem bg.taker {K:WA}{C:Addr}{f:Str}(n:bg K C f):W.takerIn K C f=some none:=by
 unfold W.takerIn
 rw [show W.findIn K (.ref C) f=some none from n]
 rfl
structure Cr (K:WA)(C:Addr)(m:Str)(f:Addr):Prop where
 at_:W.findIn K (.ref C) m=some (some (.ref f))
 fn:W.isFn K (.ref f)=true
 kp:W.keepIn K (.ref f)=true
section
variable {X:Cx}{pins:List (Addr×Obj)}{σ:St}{H:Hp}{s:Shared}{a C dx:Addr}{fs:List (Str×V)}{f:Str}{v:V}{A:Around}{E:Value->Shared->Prop}
theorem Cs {b:Bool}{Q:Value->Shared->Prop}(I:Inv X pins σ H s)(e:H a=some (.ins C dx fs))(c:Cls X.K C)(n:bg X.K C f)(l:fs.lookup f=some v)
  (h:∀u s',Inv X pins σ H s'->bX v u->Q u s'):wpAny (model X.prog X.w) A (getAttr (.ref a) f b) Q E s:=by
 obtain ⟨mA,O,r,_,_,_⟩:=zG I.hok e
 obtain ⟨u,hu,ru⟩:=xU.some_of (v:=v) (o:=mA f) (by rw [←l];exact r f)
 exact Hr I.kIn O (c.get f) c.hd n hu (ED ru) (h u _ (I.tok _) ru)
theorem rA {m:Str}{g:Addr}{pl:Sem Bool}{Q:Value×List Value->Shared->Prop}(I:Inv X pins σ H s)(e:H a=some (.ins C dx fs))(c:Cls X.K C)(k:Cr X.K C m g)(l:fs.lookup m=none)
  (h:Q (.ref g,[.ref a]) s):wpAny (model X.prog X.w) A (getMethod (.ref a) m pl) Q E s:=by
 obtain ⟨mA,O,r,_,_,_⟩:=zG I.hok e
 have hn:mA m=none:=xU.none_of (by rw [←l];exact r m)
 exact Ft I.kIn O (c.get m) k.at_ k.fn hn h
theorem Ct {y:V}{u:Value}{Q:Unit->Shared->Prop}(I:Inv X pins σ H s)(e:H a=some (.ins C dx fs))(c:Cls X.K C)(n:bg X.K C f)(hl:fs.length < 1000)(ry:bX y u)
  (h:∀s',Inv X pins σ (upd H a (.ins C dx (bD f y fs))) s'->Q () s'):wpAny (model X.prog X.w) A (setAttr (.ref a) f u) Q E s:=by
 obtain ⟨mA,O,r,wi,_,ho⟩:=zG I.hok e
 have hz:(fs.map (·.1)).length<=sizeLine:=by rw [WB,sizeLine_eq];omega
 refine Hs I.kIn O c.sa c.po n.taker c.hd wi hz fun h' O' sb=>h _ ?_
 have hd:∃o,h'.get? dx=some o:=let ⟨o,_,_,e',_⟩:=O'.ns;⟨o,e'⟩
 refine I.write (x:=a) (e:=dx) (by rw [e];exact True.intro) (.inr ho) (fun b q hb z=>(sb.2 b hb).trans z) hd ?_
 refine ⟨by rw [aB O.ne];exact ho,?_,O.ne,O'.obj,_,O'.ns,fun g=>?_,fun g hg=>?_⟩
 ·have:=mO f y fs;omega
 ·show xU ((bD f y fs).lookup g) (if g=f then some u else mA g)
  rw [u7]
  by_cases q:g=f
  ·rw [if_pos q,if_pos q];exact ry
  ·rw [if_neg q,if_neg q];exact r g
 ·by_cases q:g=f
  ·rw [q];exact (uz f y fs).1
  ·refine (uz f y fs).2 g (wi g fun z=>hg ?_)
   show (if g=f then some u else mA g)=none
   rw [if_neg q];exact z
theorem Inv.made (I:Inv X pins σ H s):Inv X pins σ (upd (upd H s.heap.objs.size (.own (s.heap.objs.size+1))) (s.heap.objs.size+1) (.ins C s.heap.objs.size []))
  {s with heap:=(s.heap.push W.emptyDict).push (W.instObj C s.heap.objs.size)}:=by
 have e1:(s.heap.push W.emptyDict).get? s.heap.objs.size=some W.emptyDict:=Heap.get?_push_size s.heap rfl
 have e2:((s.heap.push W.emptyDict).push (W.instObj C s.heap.objs.size)).get? (s.heap.objs.size+1)=some (W.instObj C s.heap.objs.size):=by
  have:=Heap.get?_push_size (s.heap.push W.emptyDict) (o:=W.instObj C s.heap.objs.size) rfl
  rwa [Heap.size_push] at this
 have e3:(s.heap.push W.emptyDict).Ns s.heap.objs.size (fun _=>none):=⟨W.emptyDict,#[],_,e1,rfl,(fun e he=>absurd he (by simp)),fun _=>rfl⟩
 have I1:=I.laid (a:=s.heap.objs.size) (o:=.own (s.heap.objs.size+1)) (h':=s.heap.push W.emptyDict) (t':=s.toks) (fun b u q=>Heap.get?_push_of_some _ q) (Nat.le_refl _) ⟨_,e1⟩
 refine I1.laid (a:=s.heap.objs.size+1) (o:=.ins C s.heap.objs.size []) (t':=s.toks) (fun b u q=>Heap.get?_push_of_some _ q) (Nat.le_of_eq (Heap.size_push _ _)) ?_
 have ne:s.heap.objs.size≠s.heap.objs.size+1:=Nat.ne_of_lt (Nat.lt_succ_self _)
 refine ⟨by rw [aB ne,af],Nat.zero_le _,ne,e2,fun _=>none,(Heap.Ns1.of_empty e3).at fun o q=>Heap.get?_push_of_some _ q,fun _=>True.intro,fun y hy=>absurd rfl hy⟩
theorem Ht {prog:Program}{w:World}{env:Env}{e:Expr}{f:Str}{pos:Pos}{s:Shared}{Q:Value->Shared->Prop}(hb:attributeBase e f env (eval e env)=eval e env)
  (h:wpAny (model prog w) A (eval e env) (fun o s₁=>wpAny (model prog w) A (getAttr o f true) Q E s₁) E s):wpAny (model prog w) A (eval (.Attribute e f pos) env) Q E s:=
 Attribute_any_ h (by rw [arm_eval_Attribute,hb])
end
noncomputable def LU (K:WA)(ta:TE)(f:Str):TE:=fun σ H Q=>ta σ H fun x H1=>∃a C dx fs v,x=.ref a/\H1 a=some (.ins C dx fs)/\Cls K C/\bg K C f/\fs.lookup f=some v/\Q v H1
noncomputable def LV (K:WA)(ta tv:TE)(f:Str):TS:=fun D σ H=>tv σ H fun y H1=>ta σ H1 fun x H2=>∃a C dx fs,x=.ref a/\H2 a=some (.ins C dx fs)/\Cls K C/\bg K C f/\fs.length < 1000/\
 D.nx σ (upd H2 a (.ins C dx (bD f y fs)))
section
variable {X:Cx}{o e value:Expr}{f:Str}{pos pos' tpos:Pos}{ta tv:TE}
theorem Kp (he:PE X e ta)(hb:attributeBase e f X.env (eval e X.env)=eval e X.env):PE X (.Attribute e f pos) (LU X.K ta f):=by
 intro pins s σ H Q I h
 refine Ht hb (thn (he pins s σ H _ I h) fun u s1 ⟨x,H1,I1,rx,a,C,dx,fs,v,ex,ea,c,n,l,q⟩=>?_)
 subst ex
 obtain rfl:u=Value.ref a:=rx
 exact Cs I1 ea c n l fun u' s2 I2 ru=>⟨v,H1,I2,ru,q⟩
theorem Kq (ha:PE X o ta)(hv:PE X value tv)(hs:swapsWith value (some (.Attribute o f pos')) pos.line X.env=pure false):PS X (.Assign [.Attribute o f pos'] value pos) (LV X.K ta tv f):=by
 intro pins s σ H D I h
 refine plainObj_wpAny_Assign_Attribute (thn (hv pins s σ H _ I h) fun u s1 ⟨y,H1,I1,ry,q⟩=>thn (ha pins s1 σ H1 _ I1 q) fun ov s2 ⟨x,H2,I2,rx,a,C,dx,fs,ex,ea,c,n,l,q2⟩=>?_) hs
 subst ex
 obtain rfl:ov=Value.ref a:=rx
 exact Ct I2 ea c n l ry fun s3 I3=>⟨σ,_,I3,q2⟩
theorem JF {pl:Sem Bool}{m:Str}{apos:Pos}{args:List Expr}{pins:List (Addr×Obj)}{s:Shared}{σ:St}{H:Hp}{Q:Value->Shared->Prop}{te:TE}(he:PE X e te)(I:Inv X pins σ H s)
  (h:te σ H fun x H1=>∃a C dx fs g,x=.ref a/\H1 a=some (.ins C dx fs)/\Cls X.K C/\Cr X.K C m g/\fs.lookup m=none/\
   ∀s1,Inv X pins σ H1 s1->wpAny (model X.prog X.w) X.A (callWith pos (.ref g) [.ref a] (backTo pos (starEach args X.env)) (backToKw pos (keywordEach [] X.env))) Q X.xe s1)
  (ht:eval (.Call (.Attribute e m apos) args [] pos) X.env=(do
   let ov ←eval e X.env
   standAt apos.atName
   let (f,first) ←holding [ov] (getMethod ov m pl)
   callWith pos f first (backTo pos (starEach args X.env)) (backToKw pos (keywordEach [] X.env)))) :
  wpAny (model X.prog X.w) X.A (eval (.Call (.Attribute e m apos) args [] pos) X.env) Q X.xe s:=by
 refine W.methodCall_KW (pl:=pl) (thn (he pins s σ H _ I h) fun u s1 ⟨x,H1,I1,rx,a,C,dx,fs,g,ex,ea,c,k,l,q⟩=>?_) ht
 subst ex
 obtain rfl:u=Value.ref a:=rx
 exact rA I1 ea c k l (q s1 I1)
end
structure du (k:Nat)(A:Around):Prop where
 hd:A.handled=none
 dp:A.depth+3 * k+5 < recursionLimit
 un:A.units+16 * k+200 < cLine
theorem du.mono {j k:Nat}{A:Around}(r:du k A)(h:j<=k):du j A:=⟨r.hd,by have:=r.dp;omega,by have:=r.un;omega⟩
theorem du.deeper {k:Nat}{A:Around}(r:du (k+1) A)(env:Env):du k (A.deeper env):=
 ⟨r.hd,by have:=r.dp;show A.depth+1+3 * k+5 < _;omega,by have:=r.un;show A.units+3+16 * k+200 < _;omega⟩
theorem Cu {A:Around}{C:Addr}{us:List Value}{kw:List (Str×Value)}:(A.under (.builtin "type.__call__" ⟨.ref C::us,kw⟩)).depth=A.depth+1:=by
 first | rfl | simp [Around.under,Code.weight,Code.isCreation,Code.isGuard,Code.isCaller,Code.frames,Code.isFrame,guardIds]
theorem Cv {A:Around}{C:Addr}{us:List Value}{kw:List (Str×Value)}:(A.under (.builtin "type.__call__" ⟨.ref C::us,kw⟩)).units=A.units+1:=by
 first | rfl | simp [Around.under,Code.cUnits,Code.frames,Code.isFrame]
theorem du.make {k:Nat}{A:Around}(r:du (k+1) A)(C:Addr)(us:List Value)(kw:List (Str×Value)):du k (A.under (.builtin "type.__call__" ⟨.ref C::us,kw⟩)):=
 ⟨r.hd,by have:=r.dp;rw [Cu];omega,by have:=r.un;rw [Cv];omega⟩
theorem du.depth {k:Nat}{A:Around}(r:du k A):A.depth < recursionLimit:=by have:=r.dp;omega
theorem du.units0 {k:Nat}{A:Around}(r:du k A):A.units < cLine:=by have:=r.un;omega
noncomputable def xW:TA:=fun _ H Q=>Q [] H
noncomputable def mn (ta:TE)(tr:TA):TA:=fun σ H Q=>ta σ H fun x H1=>tr σ H1 fun xs H2=>Q (x::xs) H2
section
variable {X:Cx}{e:Expr}{es:List Expr}{te:TE}{t:TA}{pos:Pos}
theorem i7:PA X [] xW:=fun _ _ _ _ H Q I h=>Calls.spliced_nil ⟨[],H,I,.nil,h⟩
theorem bZ (ha:PE X e te)(hr:PA X es t)(hs:starEach (e::es) X.env=(false,eval e X.env)::starEach es X.env:=by rfl):PA X (e::es) (mn te t):=by
 intro pos pins s σ H Q I h
 rw [hs]
 show wpAny _ _ (spliced ((false,eval e X.env)::backTo pos (starEach es X.env))) _ _ s
 refine Calls.spliced_cons (thn (ha pins s σ H _ I h) fun u s1 ⟨x,H1,I1,r1,q1⟩=>?_)
 exact thn (hr pos pins s1 σ H1 _ I1 q1) fun us s2 ⟨xs,H2,I2,r2,q2⟩=>⟨x::xs,H2,I2,.cons r1 r2,q2⟩
noncomputable def LW (t:TA):TE:=fun σ H Q=>t σ H fun xs H1=>xs.length<=sizeLine/\∀p,H1 p=none->Q (.ref p) (upd H1 p (.tup xs))
noncomputable def LX (t:TA):TE:=fun σ H Q=>t σ H fun xs H1=>xs.length<=sizeLine/\∀p,H1 p=none->Q (.ref p) (upd H1 p (.lst xs))
theorem aO {x1}(h:PA X es t):PE X (.Tuple es x1 pos) (LW t):=by
 intro pins s σ H Q I hq
 refine wpAny_Tuple_spliced (thn (h pos pins s σ H _ I hq) fun us s1 ⟨xs,H1,I1,r,z,q⟩=>⟨by rw [←r.length];exact z,?_⟩)
 have hf:H1 s1.heap.objs.size=none:=I1.hok.fresh (Nat.le_refl _)
 refine ⟨.ref s1.heap.objs.size,upd H1 s1.heap.objs.size (.tup xs),I1.laid (t':=s1.toks) (fun b u e=>Heap.get?_push_of_some _ e) (Nat.le_refl _) ?_,rfl,q _ hf⟩
 exact ⟨z,us,r,⟨_,Heap.get?_push_size _ rfl,⟨rfl,_,rfl⟩,rfl⟩⟩
theorem bh (h:PA X es t):PE X (.List es pos) (LX t):=by
 intro pins s σ H Q I hq
 refine wpAny_List_spliced (thn (h pos pins s σ H _ I hq) fun us s1 ⟨xs,H1,I1,r,z,q⟩=>⟨by rw [←r.length];exact z,?_⟩)
 have hf:H1 s1.heap.objs.size=none:=I1.hok.fresh (Nat.le_refl _)
 refine ⟨.ref s1.heap.objs.size,upd H1 s1.heap.objs.size (.lst xs),I1.laid (t':=s1.toks) (fun b u e=>Heap.get?_push_of_some _ e) (Nat.le_refl _) ?_,rfl,q _ hf⟩
 exact ⟨z,us,0,r,Heap.get?_push_size _ rfl⟩
end
noncomputable abbrev Sp:=List V->Hp->VK->XK->Prop
noncomputable abbrev CXT:=List Env->Hp->Shared->XK->Value->Shared->Prop
structure Cw (P:Program)(w:World)(K:WA)(mg:Str->Option Value)(base:Heap)(A:Around)(outer:List Env)(s:Shared)(H:Hp):Prop where
 frames:A.frames=some outer
 mod:Mod K mg base
 bs:∀b o,base.get? b=some o->s.heap.get? b=some o/\H b=none
 bsz:base.objs.size<=s.heap.objs.size
 funs:s.heap.FunFrames base outer
 frf:∀b∈frs outer,H b=none
 hok:HOk P w H s.heap
 bare:AllBare s.gens
def CE (outer:List Env)(P:Program)(w:World)(H:Hp)(s:Shared)(Q:VK)(u:Value)(s':Shared):Prop:=
 ∃v H',s'.os=s.os/\AllBare s'.gens/\Un (frs outer) [] H H' s.heap s'.heap/\HOk P w H' s'.heap/\bX v u/\Q v H'
def CR (CX:CXT)(outer:List Env)(P:Program)(w:World)(H:Hp)(s:Shared)(Q:VK)(E:XK)(r:Result)(s':Shared):Prop:=
 match r with
 | .ok (.ret u)=>CE outer P w H s Q u s'
 | .ok _=>False
 | .error e=>CX outer H s E e s'
structure fU (P:Program)(w:World)(K:WA)(mg:Str->Option Value)(base:Heap)(CX:CXT)(k:Nat)(f:Addr)(fd:FuncData)(ps:List Str)(sp:Sp):Prop where
 len:∀vs H Q E,sp vs H Q E->vs.length=ps.length
 run:∀(A:Around) (outer:List Env) (s:Shared) (H:Hp) (args:Args) (us:List Value) (vs:List V) (Q:VK) (E:XK),du k A->Cw P w K mg base A outer s H->BindsTo s fd args (ps.zip us)->bF vs us->sp vs H Q E->
  codeAny (model P w) A (.call (.ref f) args) (CR CX outer P w H s Q E) s
theorem fU.imp {P:Program}{w:World}{K:WA}{mg:Str->Option Value}{base:Heap}{CX:CXT}{k:Nat}{f:Addr}{fd:FuncData}{ps:List Str}{sp sp':Sp}(F:fU P w K mg base CX k f fd ps sp)
  (h:∀vs H Q E,sp' vs H Q E->sp vs H Q E):fU P w K mg base CX k f fd ps sp':=
 ⟨fun vs H Q E q=>F.len vs H Q E (h _ _ _ _ q),fun A outer s H args us vs Q E hr he hb hv hs=>F.run A outer s H args us vs Q E hr he hb hv (h _ _ _ _ hs)⟩
theorem Cw.make {P:Program}{w:World}{K:WA}{mg:Str->Option Value}{base:Heap}{A:Around}{outer:List Env}{s:Shared}{H:Hp}(e:Cw P w K mg base A outer s H)(C:Addr)(us:List Value)(kw:List (Str×Value)) :
  Cw P w K mg base (A.under (.builtin "type.__call__" ⟨.ref C::us,kw⟩)) outer s H:=⟨by first | exact e.frames | (simpa [Around.under,Code.envs,Code.isFrame,pushEnvs] using e.frames),e.mod,e.bs,e.bsz,e.funs,e.frf,e.hok,e.bare⟩
section
variable {X:Cx}{pins:List (Addr×Obj)}{σ:St}{H:Hp}{s s':Shared}
theorem Inv.env0 (I:Inv X pins σ H s):Cw X.prog X.w X.K X.mg X.base X.A X.stack s H:=
 ⟨I.ok.frames,I.ok.mod,I.bs,Nat.le_trans I.ok.bsz I.sz,I.stack,I.stkFree,I.hok,I.bare⟩
theorem Inv.after {Q:VK}{u:Value}(I:Inv X pins σ H s)(h:CE X.stack X.prog X.w H s Q u s'):EP X pins σ Q u s':=by
 obtain ⟨v,H',os,bare,un,hok,r,q⟩:=h
 obtain ⟨hh,g,d,t,os'⟩:=s'
 obtain rfl:os'=s.os:=os
 exact ⟨v,H',I.call (h':=hh) (g':=g) (d':=d) (t':=t) (ch:=[]) un hok bare (fun b z=>absurd z (by simp)),r,q⟩
end
noncomputable def DE (sp:Sp)(dvs:List V)(E:XK)(t:TA):TE:=fun σ H Q=>t σ H fun vs H1=>sp (vs++dvs) H1 Q E
noncomputable def AY (C:Addr)(m:Str)(sp:Sp)(dvs:List V)(E:XK)(ta:TE)(t:TA):TE:=fun σ H Q=>ta σ H fun x H1=>∃a dx fs,x=.ref a/\H1 a=some (.ins C dx fs)/\fs.lookup m=none/\
 t σ H1 fun vs H2=>sp (x::(vs++dvs)) H2 Q E
noncomputable def Fv (C:Addr)(sp:Sp)(dvs:List V)(E:XK)(t:TA):TE:=fun σ H Q=>t σ H fun vs H1=>∀x dx,H1 x=none->H1 dx=none->dx≠x->
 sp (.ref x::(vs++dvs)) (upd (upd H1 dx (.own x)) x (.ins C dx [])) (fun v H2=>v=.non/\Q (.ref x) H2) E
def dG (K:WA)(fd:FuncData)(ps:List Str)(ds:List Value):Prop:=
 ∀(s:Shared) (us:List Value),K.In s.heap->(us++ds).length=ps.length->BindsTo s fd ⟨us,[]⟩ (ps.zip (us++ds))
theorem dG.all {K:WA}{fd:FuncData}{ps:List Str}(h:∀us:List Value,us.length=ps.length->bindArgs fd ⟨us,[]⟩=pure (ps.zip us)):dG K fd ps []:=fun s us _ hl=>by
 rw [List.append_nil] at hl ⊢
 exact .of_eq (h us hl)
def eY (CX:CXT)(X:Cx)(E:XK):Prop:=∀(pins:List (Addr×Obj)) (σ:St) (H:Hp) (s:Shared) (e:Value) (s':Shared),Inv X pins σ H s->CX X.stack H s E e s'->X.xe e s'
section
variable {X:Cx}{CX:CXT}{k:Nat}{f C:Addr}{fd:FuncData}{ps:List Str}{sp:Sp}{dvs:List V}{ds:List Value}{E:XK}{x m:Str}{p pos apos:Pos}{e o:Expr}{es:List Expr}{ta:TE}{t:TA}
theorem Cy {pins:List (Addr×Obj)}{σ:St}{H:Hp}{s:Shared}{Q:VK}{us:List Value}{vs:List V}(F:fU X.prog X.w X.K X.mg X.base CX k f fd ps sp)(hr:du k X.A)(hb:dG X.K fd ps ds)(hd:bF dvs ds)(hx:eY CX X E)
  (I:Inv X pins σ H s) (r:bF vs us) (h:sp (vs++dvs) H Q E):wpAny (model X.prog X.w) X.A (call (.ref f) us) (EP X pins σ Q) X.xe s:=by
 have r2:bF (vs++dvs) (us++ds):=r.append hd
 have hl:(us++ds).length=ps.length:=by rw [←r2.length];exact F.len _ _ _ _ h
 refine wpAny_call (codeAny_mono (F.run X.A X.stack s H ⟨us,[]⟩ (us++ds) (vs++dvs) Q E hr I.env0 (hb s us I.kIn hl) r2 h) fun r s' hq=>?_)
 cases r with
 | error e=>exact hx pins σ H s e s' I hq
 | ok fl=>
  cases fl with
  | ret u=>exact I.after hq
  | next=>exact False.elim hq
  | brk=>exact False.elim hq
  | cont=>exact False.elim hq
theorem Hu (F:fU X.prog X.w X.K X.mg X.base CX k f fd ps sp)(hr:du k X.A)(hg:Gl X x)(hm:X.mg x=some (.ref f))(hk:W.keepIn X.K (.ref f)=true)(hb:dG X.K fd ps ds)(hd:bF dvs ds)(hx:eY CX X E)
  (ha:PA X (e::es) t) (hdb:(x == ("__debug__":Str))=false:=by decide) (he:starEach (e::es) X.env=(false,eval e X.env)::starEach es X.env:=by rfl) (hpl:(backTo pos (starEach es X.env)).any (·.1)=false:=by rfl) :
  PE X (.Call (.Name x p) (e::es) [] pos) (DE sp dvs E t):=by
 intro pins s σ H Q I h
 refine wpAny_Call_Name_kw (pe I hg hm ?_ hdb)
 refine W.callWith_K (h₀:=X.base) I.ok.mod.kin hk (thn (ha pos pins s σ H _ I h) fun us s1 ⟨vs,H1,I1,r,q⟩=>⟨I1.kIn,?_⟩) he hpl
 exact Cy F hr hb hd hx I1 r q
theorem Hv {pl:Sem Bool}(he:PE X o ta)(c:Cls X.K C)(hm:Cr X.K C m f)(F:fU X.prog X.w X.K X.mg X.base CX k f fd ps sp)(hr:du k X.A)(hb:dG X.K fd ps ds)(hd:bF dvs ds)(hx:eY CX X E)(ha:PA X (e::es) t)
  (hst:starEach (e::es) X.env=(false,eval e X.env)::starEach es X.env:=by rfl) (hpl:(backTo pos (starEach es X.env)).any (·.1)=false:=by rfl)
  (ht:eval (.Call (.Attribute o m apos) (e::es) [] pos) X.env=(do
   let ov ←eval o X.env
   standAt apos.atName
   let (f,first) ←holding [ov] (getMethod ov m pl)
   callWith pos f first (backTo pos (starEach (e::es) X.env)) (backToKw pos (keywordEach [] X.env))):=by rfl) :
  PE X (.Call (.Attribute o m apos) (e::es) [] pos) (AY C m sp dvs E ta t):=by
 intro pins s σ H Q I h
 refine W.methodCall_KW (pl:=pl) (thn (he pins s σ H _ I h) fun u s1 ⟨x,H1,I1,rx,a,dx,fs,ex,ea,l,q⟩=>?_) ht
 subst ex
 obtain rfl:u=Value.ref a:=rx
 refine rA I1 ea c hm l ?_
 refine W.callWith_K (first:=[.ref a]) (h₀:=X.base) I.ok.mod.kin hm.kp (thn (ha pos pins s1 σ H1 _ I1 q) fun us s2 ⟨vs,H2,I2,r,q2⟩=>⟨I2.kIn,?_⟩) hst hpl
 exact Cy (us:=.ref a::us) (vs:=.ref a::vs) F hr hb hd hx I2 (.cons rfl r) q2
theorem Fw {pl:Sem Bool}(he:PE X o ta)(c:Cls X.K C)(hm:Cr X.K C m f)(F:fU X.prog X.w X.K X.mg X.base CX k f fd ps sp)(hr:du k X.A)(hb:dG X.K fd ps ds)(hd:bF dvs ds)(hx:eY CX X E)
  (ht:eval (.Call (.Attribute o m apos) [] [] pos) X.env=(do
   let ov ←eval o X.env
   standAt apos.atName
   let (f,first) ←holding [ov] (getMethod ov m pl)
   callWith pos f first (backTo pos (starEach [] X.env)) (backToKw pos (keywordEach [] X.env))):=by rfl) :
  PE X (.Call (.Attribute o m apos) [] [] pos) (AY C m sp dvs E ta xW):=by
 intro pins s σ H Q I h
 refine W.methodCall_KW (pl:=pl) (thn (he pins s σ H _ I h) fun u s1 ⟨x,H1,I1,rx,a,dx,fs,ex,ea,l,q⟩=>?_) ht
 subst ex
 obtain rfl:u=Value.ref a:=rx
 refine rA I1 ea c hm l ?_
 exact W.callWith_K0 (first:=[.ref a]) I1.kIn hm.kp (Cy (us:=[.ref a]) (vs:=[.ref a]) F hr hb hd hx I1 (.cons rfl .nil) q)
structure Mk (K:WA)(C f:Addr):Prop where
 makes:W.makesIn K C=true
 init:W.findIn K (.ref C) "__init__"=some (some (.ref f))
 fn:W.isFn K (.ref f)=true
 kp:W.keepIn K (.ref C)=true
theorem Fx {pins:List (Addr×Obj)}{σ:St}{H:Hp}{s:Shared}{Q:VK}{us:List Value}{vs:List V}(M:Mk X.K C f)(F:fU X.prog X.w X.K X.mg X.base CX k f fd ps sp)(hr:du (k+1) X.A)(hb:dG X.K fd ps ds)(hd:bF dvs ds)
  (hx:eY CX X E) (I:Inv X pins σ H s) (r:bF vs us)
  (h:∀x dx,H x=none->H dx=none->dx≠x->sp (.ref x::(vs++dvs)) (upd (upd H dx (.own x)) x (.ins C dx [])) (fun v H2=>v=.non/\Q (.ref x) H2) E) :
  wpAny (model X.prog X.w) X.A (call (.ref C) us) (EP X pins σ Q) X.xe s:=by
 have hq:=h (s.heap.objs.size+1) s.heap.objs.size (I.hok.fresh (Nat.le_succ _)) (I.hok.fresh (Nat.le_refl _)) (Nat.ne_of_lt (Nat.lt_succ_self _))
 have I2:=Inv.made (C:=C) I
 have r2:bF (V.ref (s.heap.objs.size+1)::(vs++dvs)) (Value.ref (s.heap.objs.size+1)::(us++ds)):=.cons rfl (r.append hd)
 have hl:(Value.ref (s.heap.objs.size+1)::us++ds).length=ps.length:=by
  have e:=r2.length
  rw [F.len _ _ _ _ hq] at e
  exact e.symm
 refine wpAny_call (Fu (f:=f) I.kIn M.makes M.init (beq_iff_eq.mp M.fn) (codeAny_mono (F.run _ X.stack _ _ ⟨Value.ref (s.heap.objs.size+1)::us,[]⟩ (Value.ref (s.heap.objs.size+1)::(us++ds)) _ _ E (hr.make C us [])
  (I2.env0.make C us []) (hb _ (Value.ref (s.heap.objs.size+1)::us) I2.kIn hl) r2 hq) fun r s' hq'=>?_))
 cases r with
 | error e=>exact hx pins σ _ _ e s' I2 hq'
 | ok fl=>
  cases fl with
  | ret u=>
   obtain ⟨v,H',I3,rv,ev,q3⟩:=I2.after hq'
   subst ev
   exact ⟨rv,⟨V.ref (s.heap.objs.size+1),H',I3,rfl,q3⟩⟩
  | next=>exact False.elim hq'
  | brk=>exact False.elim hq'
  | cont=>exact False.elim hq'
theorem Hw (M:Mk X.K C f)(F:fU X.prog X.w X.K X.mg X.base CX k f fd ps sp)(hr:du (k+1) X.A)(hg:Gl X x)(hm:X.mg x=some (.ref C))(hb:dG X.K fd ps ds)(hd:bF dvs ds)(hx:eY CX X E)
  (ha:PA X (e::es) t) (hdb:(x == ("__debug__":Str))=false:=by decide) (he:starEach (e::es) X.env=(false,eval e X.env)::starEach es X.env:=by rfl) (hpl:(backTo pos (starEach es X.env)).any (·.1)=false:=by rfl) :
  PE X (.Call (.Name x p) (e::es) [] pos) (Fv C sp dvs E t):=by
 intro pins s σ H Q I h
 refine wpAny_Call_Name_kw (pe I hg hm ?_ hdb)
 refine W.callWith_K (h₀:=X.base) I.ok.mod.kin M.kp (thn (ha pos pins s σ H _ I h) fun us s1 ⟨vs,H1,I1,r,q⟩=>⟨I1.kIn,?_⟩) he hpl
 exact Fx M F hr hb hd hx I1 r q
end
structure aw (N P:List Str)(sc:Scope):Prop where
 kind:sc.kind=.function
 co:sc.isCoroutine=false
 gen:sc.isGenerator=false
 nd:N.Nodup
 pre:N.take P.length=P
 par:∀x∈P,sc.names.lookup x=some .local\/sc.names.lookup x=some .cell
 nofree:∀y∈sc.names,y.2≠.free
theorem yU {kindOf:Str->Option NameKind}{x:Str}:∀{binds:List (Str×Value)} {m:Str->Option Value},(∀v,(x,v)∉binds)->bindL kindOf binds m x=m x
 | [],_,_=>rfl
 | (n,v)::r,m,h=>by
  unfold bindL
  rw [yU fun w hw=>h w (List.mem_cons_of_mem _ hw)]
  split
  ·have:x≠n:=by rintro rfl;exact h v List.mem_cons_self
   simp [this]
  ·rfl
theorem yV {kindOf:Str->Option NameKind}{x:Str}:∀{binds:List (Str×Value)} {m:Str->Option Value},(∀v,(x,v)∉binds)->bindC kindOf binds m x=m x
 | [],_,_=>rfl
 | (n,v)::r,m,h=>by
  unfold bindC
  rw [yV fun w hw=>h w (List.mem_cons_of_mem _ hw)]
  split
  ·rfl
  ·have:x≠n:=by rintro rfl;exact h v List.mem_cons_self
   simp [this]
theorem yW {kindOf:Str->Option NameKind}{x:Str}{v:Value}:∀{P:List Str} {vs:List Value} {i:Nat} {m:Str->Option Value},P.Nodup->P[i]?=some x->vs[i]?=some v->kindOf x=some .local->
  bindL kindOf (P.zip vs) m x=some v
 | [],_,_,_,_,h,_,_=>by simp at h
 | _::_,[],_,_,_,_,h,_=>by simp at h
 | p::P,w::vs,0,m,nd,h1,h2,hk=>by
  simp at h1 h2;subst h1;subst h2
  show bindL kindOf ((p,w)::P.zip vs) m p=_
  unfold bindL
  rw [yU fun v hv=>(List.nodup_cons.mp nd).1 (List.of_mem_zip hv).1,if_pos hk]
  simp
 | p::P,w::vs,i+1,m,nd,h1,h2,hk=>by
  show bindL kindOf ((p,w)::P.zip vs) m x=_
  unfold bindL
  exact yW (i:=i) (List.nodup_cons.mp nd).2 (by simpa using h1) (by simpa using h2) hk
theorem yX {kindOf:Str->Option NameKind}{x:Str}{v:Value}:∀{P:List Str} {vs:List Value} {i:Nat} {m:Str->Option Value},P.Nodup->P[i]?=some x->vs[i]?=some v->kindOf x≠some .local->
  bindC kindOf (P.zip vs) m x=some v
 | [],_,_,_,_,h,_,_=>by simp at h
 | _::_,[],_,_,_,_,h,_=>by simp at h
 | p::P,w::vs,0,m,nd,h1,h2,hk=>by
  simp at h1 h2;subst h1;subst h2
  show bindC kindOf ((p,w)::P.zip vs) m p=_
  unfold bindC
  rw [yV fun v hv=>(List.nodup_cons.mp nd).1 (List.of_mem_zip hv).1,if_neg hk]
  simp
 | p::P,w::vs,i+1,m,nd,h1,h2,hk=>by
  show bindC kindOf ((p,w)::P.zip vs) m x=_
  unfold bindC
  exact yX (i:=i) (List.nodup_cons.mp nd).2 (by simpa using h1) (by simpa using h2) hk
noncomputable def mq (N:List Str)(vs:List V):St:=vs.map some++List.replicate (N.length - vs.length) none
noncomputable def xX (CX:CXT)(P:Program)(w:World)(K:WA)(mg:Str->Option Value)(base:Heap)(N:List Str)(qual:Str)(scope:Scope)(f:Addr)(cd:Value)(A:Around)(outer:List Env)(s:Shared)(H:Hp)(E:XK):Cx where
 prog:=P
 w:=w
 K:=K
 mg:=mg
 base:=base
 A:=A.deeper (envOfC qual scope s.heap.objs.size f cd)
 N:=N
 s₀:=s
 H₀:=H
 env:=envOfC qual scope s.heap.objs.size f cd
 outer:=outer
 stack:=envOfC qual scope s.heap.objs.size f cd::outer
 ex:=[]
 calm:=true
 fn:=fun _=>true
 pn:=[]
 xe:=fun e s'=>wpAny (model P w) (A.deeper (envOfC qual scope s.heap.objs.size f cd)) (leaving (envOfC qual scope s.heap.objs.size f cd) e) (fun _ s''=>CX outer H s E e s'') (fun e' s''=>CX outer H s E e' s'') s'
theorem AZ {sc:Scope}{n:Nat}{x:Str}(h:sc.names.lookup x=some .cell):∃c,(cellsFrom n sc.names []).lookup x=some c:=by
 have q:=W.cellsFrom_some sc.names n [] (.inl h)
 exact Option.isSome_iff_exists.mp q
theorem EE {CX:CXT}{P:Program}{w:World}{K:WA}{mg:Str->Option Value}{base:Heap}{N ps:List Str}{qual:Str}{scope:Scope}{f:Addr}{cd:Value}{A:Around}{outer:List Env}{s s1:Shared}{H:Hp}{E:XK}{us:List Value}{vs:List V}
  (S:aw N ps scope) (hd:A.handled=none) (e0:Cw P w K mg base A outer s H) (hl:vs.length=ps.length) (r:bF vs us)
  (x:InCallC s s.heap.objs.size (bindL (envOfC qual scope s.heap.objs.size f cd).kindOf (ps.zip us) fun _=>none) (cellsFrom (s.heap.objs.size+1) scope.names []) (bindC (envOfC qual scope s.heap.objs.size f cd).kindOf (ps.zip us) fun _=>none) s1) :
  Inv (xX CX P w K mg base N qual scope f cd A outer s H E) [] (mq N vs) H s1:=by
 have hpl:ps.length<=N.length:=by have:=congrArg List.length S.pre;rw [List.length_take] at this;omega
 obtain ⟨h1,tk,rfl,hk⟩:=x.done
 have noA:∀b:Addr,b∉(xX CX P w K mg base N qual scope f cd A outer s H E).ex:=fun b z=>absurd (show b∈([]:List Addr) from z) (by simp)
 refine ⟨⟨e0.mod,S.kind,rfl,rfl,Nat.le_refl _,fun y z c h1 h2=>?_,fun y hy=>?_,fun y c _ h=>?_,fun _=>hd,Around.frames_deeper e0.frames,.inr ⟨rfl,rfl⟩,fun b z=>absurd z (noA b),e0.bs,e0.bsz,fun b _ _=>noA b,fun b z=>absurd z (noA b),e0.funs,e0.frf⟩,
  rfl,e0.bare,Un.kept hk,⟨_,x.toInCall.ns,fun i y v h1 h2 h3=>?_⟩,fun y c h=>⟨_,x.cell y c h⟩,e0.hok.fresh (Nat.le_refl _),fun y c h=>?_,fun p hp=>absurd (show p∈([]:List (Addr×Obj)) from hp) (by simp),e0.hok.kept hk,?_⟩
 ·exact name_of_addr x.apart (PySem.mem_of_lookup h1) (PySem.mem_of_lookup h2)
 ·have hy:scope.names.lookup y=some .cell\/scope.names.lookup y=some .free:=hy
  rcases hy with hy | hy
  ·exact AZ hy
  ·exact absurd rfl (S.nofree _ (PySem.mem_of_lookup hy))
 ·exact Nat.le_of_lt (x.above y c (PySem.mem_of_lookup h))
 ·have hi:i < vs.length:=by
   unfold mq at h2
   by_cases hi:i < vs.length
   ·exact hi
   ·rw [List.getElem?_append_right (by simpa using hi)] at h2
    rw [List.getElem?_replicate] at h2
    split at h2<;>cases h2
  have ha:vs[i]?=some v:=by
   unfold mq at h2
   rw [List.getElem?_append_left (by simpa using hi),List.getElem?_map] at h2
   cases e:vs[i]? with
   | none=>rw [e] at h2;cases h2
   | some a=>rw [e] at h2;cases h2;rfl
  obtain ⟨u,hu,rv⟩:=r.get ha
  have hp:ps[i]?=some y:=by
   rw [←S.pre,List.getElem?_take_of_lt (by omega)];exact h1
  have ndP:ps.Nodup:=by rw [←S.pre];exact S.nd.sublist (List.take_sublist _ _)
  refine ⟨u,rv,?_⟩
  rcases S.par y (List.mem_of_getElem? hp) with k | k
  ·exact .inl ⟨k,yW ndP hp hu k⟩
  ·obtain ⟨c,e⟩:=AZ (n:=s.heap.objs.size+1) k
   refine .inr ⟨.inl k,c,e,?_⟩
   have q:=x.cell y c e
   rw [yX ndP hp hu (by show scope.names.lookup y≠_;rw [k];decide)] at q
   exact q
 ·exact e0.hok.fresh (Nat.le_of_lt (x.above y c (PySem.mem_of_lookup h)))
 ·unfold mq
  show _=N.length
  rw [List.length_append,WB,List.length_replicate]
  omega
theorem JG {CX:CXT}{P:Program}{w:World}{K:WA}{mg:Str->Option Value}{base:Heap}{k:Nat}{f:Addr}{name qual:Str}{params:Arguments}{body:List Stmt}{scope:Scope}{dV kV doc pm cdv ct oc:Value}{an od:Option Addr}
  {osl:Array (Option Value)} {N ps:List Str} {sp:Sp} (lk:K.lookup f=some ⟨oc,od,.func (W.fnOf name qual params body scope dV kV doc pm an cdv ct),osl⟩) (hcd:W.codeIn K cdv qual=true) (S:aw N ps scope)
  (len:∀vs H Q E,sp vs H Q E->vs.length=ps.length)
  (hbody:∀(A:Around) (outer:List Env) (s:Shared) (H:Hp) (vs:List V) (Q:VK) (E:XK),du k (A.deeper (envOfC qual scope s.heap.objs.size f cdv))->sp vs H Q E->
   ∃t,PSs (xX CX P w K mg base N qual scope f cdv A outer s H E) body t/\t {nx:=fun _ H'=>Q .non H',rt:=Q} (mq N vs) H) :
  fU P w K mg base CX (k+1) f (W.fnOf name qual params body scope dV kV doc pm an cdv ct) ps sp:=by
 refine ⟨len,fun A outer s H args us vs Q E hr e0 hb r hsp=>?_⟩
 have hl:=len _ _ _ _ hsp
 have KX:K.In s.heap:=e0.mod.kin.keeps fun b o e=>(e0.bs b o e).1
 have lim:s.heap.NoLimit:=e0.mod.nolimit.keeps fun b o e=>(e0.bs b o e).1
 have hkind:∀y∈ps.zip us,scope.names.lookup y.1=some .local\/(scope.names.lookup y.1=some .cell/\((cellsFrom (s.heap.objs.size+1) scope.names []).lookup y.1).isSome=true):=fun ⟨n,v⟩ hy=>by
  rcases S.par n (List.of_mem_zip hy).1 with q | q
  ·exact .inl q
  ·exact .inr ⟨q,W.cellsFrom_some _ _ _ (.inl q)⟩
 refine codeAny_call_function hr.depth (KX _ _ lk) rfl S.co S.gen rfl (W.codeRec_of KX hcd) (hb _ _ _ _ ?_)
 refine wpAny_newFunctionEnv_cells S.kind hkind fun env he s1 x=>?_
 subst he
 refine ⟨lim.keeps x.toInCall.keep,codeAny_func ?_⟩
 obtain ⟨t,ht,hq⟩:=hbody A outer s H vs Q E (hr.deeper _) hsp
 have I:Inv (xX CX P w K mg base N qual scope f cdv A outer s H E) [] (mq N vs) H s1:=EE S hr.hd e0 hl r x
 refine wpAny_mono (ht [] s1 (mq N vs) H _ I hq) (fun fl s' hs=>?_) fun e s' hs=>hs
 have fin:∀{σ':St} {H':Hp} {v:V} {u:Value},Inv (xX CX P w K mg base N qual scope f cdv A outer s H E) [] σ' H' s'->bX v u->Q v H'->CE outer P w H s Q u s':=
  fun {σ' H' v u} J rv q=>⟨v,H',J.os,J.bare,J.base,J.hok,rv,q⟩
 cases fl with
 | ret u=>
  obtain ⟨v,σ',H',J,rv,q⟩:=hs
  exact fin J rv q
 | next=>
  obtain ⟨σ',H',J,q⟩:=hs
  exact fin (v:=V.non) (u:=Value.none) J rfl q
 | brk=>
  obtain ⟨_,_,_,q⟩:=hs
  exact False.elim q
 | cont=>
  obtain ⟨_,_,_,q⟩:=hs
  exact False.elim q
section
variable {X:Cx}{x:Str}{p pos:Pos}{e:Expr}{es:List Expr}{t:TA}{id T:String}{r:List V->Hp->VK->Prop}
noncomputable def tCB (r:List V->Hp->VK->Prop)(t:TA):TE:=fun σ H Q=>t σ H fun vs H1=>r vs H1 Q
theorem aD (hc:df X (.builtin id) r)(hg:Gl X x)(hm:X.mg x=none)(hv:bootBuiltins x=some (.builtin id))(ha:PA X (e::es) t)(hn:x≠"__name__":=by decide)(hdb:(x == ("__debug__":Str))=false:=by decide)
  (he:starEach (e::es) X.env=(false,eval e X.env)::starEach es X.env:=by rfl) (hpl:(backTo pos (starEach es X.env)).any (·.1)=false:=by rfl):PE X (.Call (.Name x p) (e::es) [] pos) (tCB r t):=by
 intro pins s σ H Q I h
 refine wpAny_Call_Name_kw (rq I hg hm hv ?_ hn hdb)
 exact PyProof.Rows.callWith_builtin1 (thn (ha pos pins s σ H _ I h) fun us s1 ⟨vs,H1,I1,r1,q1⟩=>hc pins s1 σ H1 vs us Q I1 r1 q1) he hpl
theorem bN (hc:df X (.type T) r)(hg:Gl X x)(hm:X.mg x=none)(hv:bootBuiltins x=some (.type T))(ha:PA X (e::es) t)(hn:x≠"__name__":=by decide)(hdb:(x == ("__debug__":Str))=false:=by decide)
  (he:starEach (e::es) X.env=(false,eval e X.env)::starEach es X.env:=by rfl) (hpl:(backTo pos (starEach es X.env)).any (·.1)=false:=by rfl):PE X (.Call (.Name x p) (e::es) [] pos) (tCB r t):=by
 intro pins s σ H Q I h
 refine wpAny_Call_Name_kw (rq I hg hm hv ?_ hn hdb)
 exact PyProof.Rows.callWith_type1 (thn (ha pos pins s σ H _ I h) fun us s1 ⟨vs,H1,I1,r1,q1⟩=>hc pins s1 σ H1 vs us Q I1 r1 q1) he hpl
end
end L2
namespace HT
open PySem PyProof.Rows
section
open PySem.SeqAt
open PySem.AutoSeq1 (wpAny_loadPart')
open PySem.MeetsSeq PySem.MeetsSeq2 PySem.MeetsSeq3
end
section
variable {prog:Program}{w:World}{A:Around}{E:Value->Shared->Prop}{s:Shared}
noncomputable def sIx (n d:Nat):Option Int->Nat
 | none=>d
 | some v=>if v < 0 then (v+(n:Int)).toNat else min v.toNat n
theorem Fy (n d:Nat):sIx n d none=d:=rfl
theorem DF (n d k:Nat):sIx n d (some (k:Int))=min k n:=by
 show (if (k:Int) < 0 then ((k:Int)+(n:Int)).toNat else min (k:Int).toNat n)=min k n
 rw [if_neg (by omega),Int.toNat_natCast]
theorem Hx (v:Int)(n d:Nat):(if v < 0 then max (v+(n:Int)) 0 else min v (n:Int))=((sIx n d (some v):Nat):Int):=by
 show (if v < 0 then max (v+(n:Int)) 0 else min v (n:Int))=(((if v < 0 then (v+(n:Int)).toNat else min v.toNat n):Nat):Int)
 by_cases hv:v < 0
 ·simp only [if_pos hv];omega
 ·simp only [if_neg hv];omega
end
end HT
namespace L2
open PySem PySem.Spec PyProof.Rows
noncomputable abbrev TO:=St->Hp->(Option Int->Hp->Prop)->Prop
def PO (X:Cx)(e:Option Expr)(t:TO):Prop:=
 ∀(pins:List (Addr×Obj)) (s:Shared) (σ:St) (H:Hp) (Q:Option Int->Hp->Prop),Inv X pins σ H s->t σ H Q->
  wpAny (model X.prog X.w) X.A (evalPart e X.env) (fun u s'=>∃o H',Inv X pins σ H' s'/\IsPart u o/\Q o H') X.xe s
noncomputable def DG:TO:=fun _ H Q=>Q none H
noncomputable def JH (t:TE):TO:=fun σ H Q=>t σ H fun x H1=>∃i,x=.int i/\Q (some i) H1
section
variable {X:Cx}{e:Expr}{te:TE}{lo hi:Option Expr}{tl th:TO}{pos p2:Pos}
theorem zH:PO X none DG:=by
 intro pins s σ H Q I h
 rw [evalPart_none]
 exact wpAny_pure ⟨none,H,I,.none,h⟩
theorem Hy (h:PE X e te):PO X (some e) (JH te):=by
 intro pins s σ H Q I hw
 rw [evalPart_some]
 refine thn (h pins s σ H _ I hw) fun u s1 ⟨x,H1,I1,r1,q1⟩=>?_
 obtain ⟨i,rfl,q⟩:=q1
 obtain ⟨t,rfl⟩:=r1
 exact ⟨some i,H1,I1,.int i t,q⟩
def SlR (X:Cx)(r:V->Option Int->Option Int->Hp->VK->Prop):Prop:=
 ∀(pins:List (Addr×Obj)) (s:Shared) (σ:St) (H:Hp) (x:V) (v vl vu:Value) (lo hi:Option Int) (sl:Addr) (Q:VK),Inv X pins σ H s->bX x v->s.heap.IsSliceOf sl vl vu .none->IsPart vl lo->IsPart vu hi->r x lo hi H Q->
  ∃T id,typeLookup (.type T) "__getitem__"=pure (some (.builtin id))/\s.TypeIs v T/\wpAny (model X.prog X.w) X.A (getItem v (.ref sl)) (EP X pins σ Q) X.xe s
noncomputable def tSl (r:V->Option Int->Option Int->Hp->VK->Prop)(te:TE)(tl th:TO):TE:=fun σ H Q=>te σ H fun x H1=>tl σ H1 fun l H2=>th σ H2 fun u H3=>r x l u H3 Q
theorem sk {r:V->Option Int->Option Int->Hp->VK->Prop}(hr:SlR X r)(he:PE X e te)(hl:PO X lo tl)(hu:PO X hi th):PE X (.Subscript e (.Slice lo hi none p2) pos) (tSl r te tl th):=by
 intro pins s σ H Q I h
 refine Subscript_ (thn (he pins s σ H _ I h) fun v s1 ⟨x,H1,I1,r1,q1⟩=>?_)
 refine wpAny_Slice (thn (hl pins s1 σ H1 _ I1 q1) fun vl s2 ⟨l,H2,I2,pl,q2⟩=>thn (hu pins s2 σ H2 _ I2 q2) fun vu s3 ⟨u,H3,I3,pu,q3⟩=>?_)
 rw [evalPart_none]
 refine wpAny_pure ?_
 have I4:Inv X pins σ H3 {s3 with heap:=s3.heap.push {cls:=.type "slice",data:=.fields #[vl,vu,.none]}}:=I3.kept (t':=s3.toks) fun b ob q=>Heap.get?_push_of_some _ q
 obtain ⟨T,id,hT,ht,hg⟩:=hr pins {s3 with heap:=s3.heap.push {cls:=.type "slice",data:=.fields #[vl,vu,.none]}} σ H3 x v vl vu l u s3.heap.objs.size Q I4 r1 (Heap.IsSliceOf.new ..) pl pu q3
 show wpAny (model X.prog X.w) X.A (subscriptTail e (.Slice lo hi none p2) v (.ref s3.heap.objs.size)) (EP X pins σ Q) X.xe {s3 with heap:=s3.heap.push {cls:=.type "slice",data:=.fields #[vl,vu,.none]}}
 exact tail_any (ops:=[.ref s3.heap.objs.size,v]) ht hT hg (by with_unfolding_all rfl)
noncomputable def vC (xs:List V)(lo hi:Option Int):List V:=(xs.drop (HT.sIx xs.length 0 lo)).take (HT.sIx xs.length xs.length hi - HT.sIx xs.length 0 lo)
theorem mP (xs:List V)(lo hi:Option Int):(vC xs lo hi).length<=xs.length:=by
 unfold vC
 rw [List.length_take,List.length_drop]
 omega
end
noncomputable def ixN (n:Nat)(i:Int):Option Nat:=if 0<=i then (if i < n then some i.toNat else none) else if -(n:Int)<=i then some (i+n).toNat else none
noncomputable def atI {α:Type}(xs:List α)(i:Int):Option α:=(ixN xs.length i).bind fun j=>xs[j]?
theorem DH {n:Nat}{i:Int}{j:Nat}(h:ixN n i=some j):seqIndex? i n=some j/\j < n/\-(n:Int)<=i/\i < n:=by
 unfold ixN at h
 by_cases h0:0<=i
 ·rw [if_pos h0] at h
  by_cases h1:i < n
  ·rw [if_pos h1] at h
   have e:i.toNat=j:=Option.some.inj h
   exact ⟨by rw [seqIndex_of h0 h1,e],by omega,by omega,h1⟩
  ·rw [if_neg h1] at h;cases h
 ·rw [if_neg h0] at h
  by_cases h1:-(n:Int)<=i
  ·rw [if_pos h1] at h
   have e:(i+n).toNat=j:=Option.some.inj h
   exact ⟨by rw [seqIndex_neg (by omega) h1,e],by omega,h1,by omega⟩
  ·rw [if_neg h1] at h;cases h
theorem zI {α:Type}{xs:List α}{i:Int}{v:α}(h:atI xs i=some v):∃j,seqIndex? i xs.length=some j/\xs[j]?=some v/\j < xs.length/\-(xs.length:Int)<=i/\i < xs.length:=by
 unfold atI at h
 cases e:ixN xs.length i with
 | none=>rw [e] at h;cases h
 | some j=>
  rw [e] at h
  obtain ⟨h1,h2,h3,h4⟩:=DH e
  exact ⟨j,h1,h,h2,h3,h4⟩
theorem DJ {α:Type}{xs:List α}{j:Nat}{v:α}(h:xs[j]?=some v):atI xs (j:Int)=some v:=by
 have hj:j < xs.length:=(List.getElem?_eq_some_iff.mp h).1
 have e:ixN xs.length (j:Int)=some j:=by
  unfold ixN
  rw [if_pos (by omega),if_pos (by omega)];simp
 unfold atI;rw [e];exact h
theorem Fz {α:Type}(xs:List α)(v:α):atI (xs++[v]) (-1)=some v:=by
 have hl:(xs++[v]).length=xs.length+1:=by simp
 have e:ixN (xs++[v]).length (-1)=some xs.length:=by
  unfold ixN
  rw [hl,if_neg (by decide),if_pos (by omega)]
  congr 1
  omega
 unfold atI
 rw [e]
 show (xs++[v])[xs.length]?=some v
 simp
def DK (b:Expr):Prop:=∀o i,subscripted b false o i=operate [o,i] (getItem o i)
def IxR (X:Cx)(r:R2):Prop:=
 ∀(value slice:Expr) (pins:List (Addr×Obj)) (s:Shared) (σ:St) (H:Hp) (x y:V) (v u:Value) (Q:VK),Inv X pins σ H s->bX x v->bX y u->r x y H Q->
  subscripted slice false v u=operate [v,u] (getItem v u)->wpAny (model X.prog X.w) X.A (subscriptTail value slice v u) (EP X pins σ Q) X.xe s
def MtR (X:Cx)(id:String)(r:V->List V->Hp->VK->Prop):Prop:=
 ∀(pins:List (Addr×Obj)) (s:Shared) (σ:St) (H:Hp) (x:V) (xs:List V) (v:Value) (us:List Value) (Q:VK),Inv X pins σ H s->bX x v->bF xs us->r x xs H Q->
  wpAny (model X.prog X.w) X.A (call (.builtin id) (v::us)) (EP X pins σ Q) X.xe s
section
variable {X:Cx}{a b:Expr}{ta tb:TE}{pos:Pos}
theorem IxR.or {r r':R2}(h:IxR X r)(h':IxR X r'):IxR X (fun x y H Q=>r x y H Q\/r' x y H Q):=by
 intro value slice pins s σ H x y v u Q I rx ry q hs
 rcases q with q | q
 ·exact h value slice pins s σ H x y v u Q I rx ry q hs
 ·exact h' value slice pins s σ H x y v u Q I rx ry q hs
theorem LY {r:R2}(hr:IxR X r)(ha:PE X a ta)(hb:PE X b tb)(hs:DK b):PE X (.Subscript a b pos) (tOp r ta tb):=by
 intro pins s σ H Q I h
 exact Subscript_ (Kj ha hb I h fun v u s2 x y H2 I2 rx ry q=>hr a b pins s2 σ H2 x y v u Q I2 rx ry q (hs _ _))
noncomputable def Kr (K:WA):R2:=fun x y H Q=>∃p xs i v,x=.ref p/\y=.int i/\SqL K H p xs/\atI xs i=some v/\Q v H
noncomputable def Ks (K:WA):R2:=fun x y H Q=>∃p xs i v,x=.ref p/\y=.int i/\SqT K H p xs/\atI xs i=some v/\Q v H
noncomputable def LZ:R2:=fun x y H Q=>∃z i c,x=.str z/\y=.int i/\z.length<=sizeLine/\atI z.cps.toList i=some c/\Q (.str ⟨#[c]⟩) H
theorem DL:IxR X (Kr X.K):=by
 intro value slice pins s σ H x y v u Q I rx ry h hs
 obtain ⟨p,xs,i,z,rfl,rfl,hq,he,q⟩:=h
 cases rx
 obtain ⟨t,rfl⟩:=ry
 obtain ⟨its,r,pl,hz⟩:=I.list hq
 obtain ⟨j,h1,h2,h3,h4,h5⟩:=zI he
 obtain ⟨w,ew,rw'⟩:=r.get h2
 have hl:=r.length
 have hn:=uy
 have fin:EP X pins σ Q w s:=⟨z,H,I,rw',q⟩
 by_cases h0:0<=i
 ·have hj:i.toNat=j:=by
   rw [seqIndex_of h0 h5] at h1
   exact Option.some.inj h1
  exact item_listR pl.isList h0 (by omega) (by rw [hj];simpa using ew) fin hs
 ·have hj:(i+(its.toArray.size:Int)).toNat=j:=by
   rw [seqIndex_neg (by omega) h4] at h1
   rw [List.size_toArray,←hl]
   exact Option.some.inj h1
  exact subscriptTail_builtinR (x:=w) pl.isList.typeIs slot_list_getitem.lookup
   (wpAny_getItem_list_neg (Q:=fun r s'=>r=w/\EP X pins σ Q r s') pl.isList (by omega) (by rw [List.size_toArray]<;>omega) (by omega) (by rw [hj];simpa using ew) ⟨rfl,fin⟩) hs
theorem FA:IxR X (Ks X.K):=by
 intro value slice pins s σ H x y v u Q I rx ry h hs
 obtain ⟨p,xs,i,z,rfl,rfl,hq,he,q⟩:=h
 cases rx
 obtain ⟨t,rfl⟩:=ry
 obtain ⟨its,r,pl,hz⟩:=I.tuple hq
 obtain ⟨j,h1,h2,h3,h4,h5⟩:=zI he
 obtain ⟨w,ew,rw'⟩:=r.get h2
 have hl:=r.length
 have hn:=uy
 have fin:EP X pins σ Q w s:=⟨z,H,I,rw',q⟩
 exact subscriptTail_builtinR (x:=w) pl.typeIs slot_tuple_getitem.lookup
  (getItem_tuple (j:=j) (Q:=fun r s'=>r=w/\EP X pins σ Q r s') pl (by omega) (by omega) (by rw [List.size_toArray,←hl];exact h1) (by simpa using ew) ⟨rfl,fin⟩) hs
theorem Ku:IxR X LZ:=by
 intro value slice pins s σ H x y v u Q I rx ry h hs
 obtain ⟨z,i,c,rfl,rfl,hz,he,q⟩:=h
 obtain ⟨t,rfl⟩:=rx
 obtain ⟨t',rfl⟩:=ry
 obtain ⟨j,h1,h2,h3,h4,h5⟩:=zI he
 have hl:z.cps.toList.length=z.length:=by simp [Str.length]
 rw [hl] at h1 h4 h5
 have hn:=uy
 exact tail_any (typeIs_str s z t) slot_str_getitem.lookup (getItem_str (c:=c) (by
  have e1:decide (i < -(2 ^ 63:Int))=false:=decide_eq_false (by omega)
  have e2:decide (i≥2 ^ 63)=false:=decide_eq_false (by omega)
  rw [e1,e2,Bool.or_false]) (by rw [h1];simpa using h2) ⟨.str ⟨#[c]⟩,H,I.tok _,⟨_,rfl⟩,q⟩) hs
noncomputable def rIx (K:WA):R2:=fun x y H Q=>Kr K x y H Q\/Ks K x y H Q\/LZ x y H Q
theorem FC:IxR X (rIx X.K):=DL.or (FA.or Ku)
theorem Cz (its:List Value)(n j:Nat)(u:Value):Obj.mapSeq (·.setIfInBounds j u) {cls:=.type "list",data:=.seq its.toArray n}={cls:=.type "list",data:=.seq (its.set j u).toArray n}:=by
 simp [Obj.mapSeq]
theorem Inv.lst {pins:List (Addr×Obj)}{σ:St}{H:Hp}{s:Shared}{p:Addr}{xs:List V}(I:Inv X pins σ H s)(h:H p=some (.lst xs)) :
  ∃(its:List Value) (n:Nat),bF xs its/\s.heap.get? p=some {cls:=.type "list",data:=.seq its.toArray n}/\xs.length<=sizeLine:=by
 obtain ⟨z,its,n,r,e⟩:=I.hok p _ h
 exact ⟨its,n,r,e,z⟩
theorem Inv.lstUpd {pins:List (Addr×Obj)}{σ:St}{H:Hp}{s:Shared}{p:Addr}{xs ys:List V}{its its':List Value}{n n':Nat}{f:Obj->Obj}(I:Inv X pins σ H s)(h:H p=some (.lst xs))
  (ho:s.heap.get? p=some {cls:=.type "list",data:=.seq its.toArray n}) (hf:f {cls:=.type "list",data:=.seq its.toArray n}={cls:=.type "list",data:=.seq its'.toArray n'}) (r:bF ys its') (hz:ys.length<=sizeLine) (t:Nat) :
  Inv X pins σ (upd H p (.lst ys)) {s with heap:=s.heap.update p f,toks:=t}:=by
 have e:(s.heap.update p f).get? p=some {cls:=.type "list",data:=.seq its'.toArray n'}:=by
  rw [Heap.get?_update_self f ho (by rw [hf]<;>rfl),hf]
 refine I.write (x:=p) (e:=p) (by rw [h];trivial) (.inl rfl) (fun b u hb q=>(Heap.get?_update_other _ _ (Ne.symm hb)).trans q) ⟨_,e⟩ ?_
 exact ⟨hz,its',n',r,e⟩
noncomputable def JI:V->V->V->Hp->(Hp->Prop)->Prop:=fun o i v H Q=>∃p xs k j,o=.ref p/\i=.int k/\H p=some (.lst xs)/\ixN xs.length k=some j/\Q (upd H p (.lst (xs.set j v)))
theorem FD:Kf X JI:=by
 intro pins s σ H o i v ov iv u Q I ro ri rv h
 obtain ⟨p,xs,k,j,rfl,rfl,hp,hj,q⟩:=h
 cases ro
 obtain ⟨t,rfl⟩:=ri
 obtain ⟨its,n,r,ho,hz⟩:=I.lst hp
 obtain ⟨h1,h2,h3,h4⟩:=DH hj
 have hl:=r.length
 have hn:=uy
 have I':Inv X pins σ (upd H p (.lst (xs.set j v))) {s with heap:=s.heap.update p (Obj.mapSeq (·.setIfInBounds j u))}:=
  I.lstUpd hp ho (Cz its n j u) (r.set rv j) (by rw [List.length_set];exact hz) s.toks
 by_cases h0:0<=k
 ·have hk:k.toNat=j:=by
   rw [seqIndex_of h0 h4] at h1
   exact Option.some.inj h1
  exact W.ki_setAt ho h0 (by omega) (by rw [List.size_toArray,←hl];exact h4) (by rw [hk];exact ⟨_,I',q⟩)
 ·have hk:(k+(its.toArray.size:Int)).toNat=j:=by
   rw [seqIndex_neg (by omega) h3] at h1
   rw [List.size_toArray,←hl]
   exact Option.some.inj h1
  exact W.ki_setBack ho (by omega) (by rw [List.size_toArray,←hl];exact h3) (by omega) (by rw [hk];exact ⟨_,I',q⟩)
theorem zJ (lo hi:Option Int)(n:Nat):(sliceBounds lo hi none n).1=((HT.sIx n 0 lo:Nat):Int)/\(sliceBounds lo hi none n).2.1=((HT.sIx n n hi:Nat):Int)/\(sliceBounds lo hi none n).2.2=1:=by
 refine ⟨?_,?_,rfl⟩
 ·cases lo with
  | none=>simp [sliceBounds,HT.sIx]
  | some i=>
   simp only [sliceBounds,HT.sIx,Option.getD_none,show (1:Int) > 0 by decide,if_true]
   by_cases h:i < 0
   ·simp only [h,if_true]<;>omega
   ·simp only [h,if_false]<;>omega
 ·cases hi with
  | none=>simp [sliceBounds,HT.sIx]
  | some i=>
   simp only [sliceBounds,HT.sIx,Option.getD_none,show (1:Int) > 0 by decide,if_true]
   by_cases h:i < 0
   ·simp only [h,if_true]<;>omega
   ·simp only [h,if_false]<;>omega
theorem xY (its:List Value)(lo hi:Option Int):slicePick its.toArray lo hi none=((its.drop (HT.sIx its.length 0 lo)).take (HT.sIx its.length its.length hi - HT.sIx its.length 0 lo)).toArray:=by
 obtain ⟨h1,h2,h3⟩:=zJ lo hi its.toArray.size
 unfold slicePick
 rw [h1,h2,h3]
 simp only [sliceRange_one,pick_run,List.size_toArray]<;>rfl
noncomputable def L3 (K:WA):V->Option Int->Option Int->Hp->VK->Prop:=fun x lo hi H Q=>∃a xs,x=.ref a/\SqL K H a xs/\∀p,H p=none->Q (.ref p) (upd H p (.lst (vC xs lo hi)))
theorem Hz:SlR X (L3 X.K):=by
 intro pins s σ H x v vl vu lo hi sl Q I rx hs pl pu h
 obtain ⟨a,xs,rfl,hx,q⟩:=h
 cases rx
 obtain ⟨its,r,ht,hz⟩:=I.list hx
 have hlen:=r.length
 refine ⟨"list",_,slot_list_getitem.lookup,ht.isList.typeIs,?_⟩
 refine wpAny_getItem_list_slice ht.isList hs pl pu .none (by simp) ?_ (by rw [List.size_toArray]<;>omega)
 rw [xY,←hlen]
 refine ⟨.ref s.heap.objs.size,_,I.laid (t':=s.toks) (o:=.lst (vC xs lo hi)) (fun b ob q=>Heap.get?_push_of_some _ q) (Nat.le_refl _) ?_,rfl,q _ (I.hok.fresh (Nat.le_refl _))⟩
 exact ⟨Nat.le_trans (mP xs lo hi) hz,_,0,(r.drop (HT.sIx xs.length 0 lo)).take (HT.sIx xs.length xs.length hi - HT.sIx xs.length 0 lo),Heap.get?_push_size _ rfl⟩
noncomputable def cD:V->Bool
 | .non=>true
 | .bl _=>true
 | .int _=>true
 | .str _=>true
 | _=>false
noncomputable def eqV:V->V->Bool
 | .non,.non=>true
 | .bl a,.bl b=>a == b
 | .bl a,.int b=>(if a then 1 else 0) == b
 | .int a,.bl b=>a == (if b then 1 else 0)
 | .int a,.int b=>a == b
 | .str a,.str b=>a == b
 | _,_=>false
theorem uA {A:Around}{s:Shared}{y x:V}{u v:Value}(ry:bX y u)(rx:bX x v)(fy:cD y=true)(fx:cD x=true):SeqAt.EqAt A s u v (eqV y x):=by
 cases y with
 | non=>
  cases ry
  cases x with
  | non=>cases rx;exact SeqAt.EqAt.same _
  | bl b=>cases rx;exact SeqAt.EqAt.none_bool b
  | int b=>obtain ⟨t,rfl⟩:=rx;exact SeqAt.EqAt.none_int b t
  | str b=>obtain ⟨t,rfl⟩:=rx;exact SeqAt.EqAt.none_str b t
  | _=>exact absurd (show false=true from fx) Bool.false_ne_true
 | bl a=>
  cases ry
  cases x with
  | non=>cases rx;exact SeqAt.EqAt.bool_none a
  | bl b=>cases rx;exact SeqAt.EqAt.bool_bool a b
  | int b=>obtain ⟨t,rfl⟩:=rx;exact SeqAt.EqAt.bool_int a b t
  | str b=>obtain ⟨t,rfl⟩:=rx;exact SeqAt.EqAt.bool_str a b t
  | _=>exact absurd (show false=true from fx) Bool.false_ne_true
 | int a=>
  obtain ⟨t',rfl⟩:=ry
  cases x with
  | non=>cases rx;exact SeqAt.EqAt.int_none a t'
  | bl b=>cases rx;exact SeqAt.EqAt.int_bool a t' b
  | int b=>obtain ⟨t,rfl⟩:=rx;exact SeqAt.EqAt.int_int a t' b t
  | str b=>obtain ⟨t,rfl⟩:=rx;exact SeqAt.EqAt.int_str a t' b t
  | _=>exact absurd (show false=true from fx) Bool.false_ne_true
 | str a=>
  obtain ⟨t',rfl⟩:=ry
  cases x with
  | non=>cases rx;exact SeqAt.EqAt.str_none a t'
  | bl b=>cases rx;exact SeqAt.EqAt.str_bool a t' b
  | int b=>obtain ⟨t,rfl⟩:=rx;exact SeqAt.EqAt.str_int a t' b t
  | str b=>obtain ⟨t,rfl⟩:=rx;exact SeqAt.EqAt.str_str a t' b t
  | _=>exact absurd (show false=true from fx) Bool.false_ne_true
 | _=>exact absurd (show false=true from fy) Bool.false_ne_true
noncomputable def eqU (x:V)(u:Value):Bool:=match u with
 | .none=>eqV .non x
 | .bool b=>eqV (.bl b) x
 | .int i _=>eqV (.int i) x
 | .str z _=>eqV (.str z) x
 | _=>false
theorem FE {x y:V}{u:Value}(r:bX y u)(f:cD y=true):eqU x u=eqV y x:=by
 cases y with
 | non=>cases r;rfl
 | bl b=>cases r;rfl
 | int i=>obtain ⟨t,rfl⟩:=r;rfl
 | str z=>obtain ⟨t,rfl⟩:=r;rfl
 | _=>exact absurd (show false=true from f) Bool.false_ne_true
theorem so {x:V}:∀{xs:List V} {us:List Value},bF xs us->xs.all cD=true->us.any (eqU x)=xs.any fun y=>eqV y x
 | _,_,.nil,_=>rfl
 | y::xs,u::us,.cons r t,f=>by
  rw [List.all_cons,Bool.and_eq_true] at f
  rw [List.any_cons,List.any_cons,FE r f.1,so t f.2]
theorem mQ {A:Around}{s:Shared}{x:V}{v:Value}(rx:bX x v)(fx:cD x=true):∀{xs:List V} {us:List Value},bF xs us->xs.all cD=true->∀u∈us,SeqAt.EqAt A s u v (eqU x u)
 | _,_,.nil,_=>fun u hu=>by cases hu
 | y::xs,u::us,.cons r t,f=>fun u' hu=>by
  rw [List.all_cons,Bool.and_eq_true] at f
  rcases List.mem_cons.mp hu with rfl | hu
  ·rw [FE r f.1];exact uA r rx f.1 fx
  ·exact mQ rx fx t f.2 u' hu
noncomputable def inV (x:V)(xs:List V):Bool:=xs.any fun y=>eqV y x
noncomputable def rIn (K:WA)(neg:Bool):R2:=fun x y H Q=>∃p xs,y=.ref p/\(SqL K H p xs\/SqT K H p xs)/\cD x=true/\xs.all cD=true/\Q (.bl (if neg then !inV x xs else inV x xs)) H
theorem EF:OpR X (compareOp .In) (rIn X.K false):=by
 intro pins s σ H x y v u Q I rx ry h
 obtain ⟨p,xs,rfl,hq,fx,fs,q⟩:=h
 cases ry
 rcases hq with hq | hq
 ·obtain ⟨its,r,pl,hz⟩:=I.list hq
  refine SeqAt.in_listAt (eqU x) pl.isList (fun w hw=>mQ rx fx r fs w (by simpa using hw)) ⟨.bl _,H,I,rfl,?_⟩
  rw [show its.toArray.any (eqU x)=its.any (eqU x) by simp,so r fs]
  exact q
 ·obtain ⟨its,r,pl,hz⟩:=I.tuple hq
  refine SeqAt.in_tupleAt (eqU x) pl (fun w hw=>mQ rx fx r fs w (by simpa using hw)) ⟨.bl _,H,I,rfl,?_⟩
  rw [show its.toArray.any (eqU x)=its.any (eqU x) by simp,so r fs]
  exact q
theorem zK:OpR X (compareOp .NotIn) (rIn X.K true):=by
 intro pins s σ H x y v u Q I rx ry h
 obtain ⟨p,xs,rfl,hq,fx,fs,q⟩:=h
 cases ry
 rcases hq with hq | hq
 ·obtain ⟨its,r,pl,hz⟩:=I.list hq
  refine SeqAt.notIn_listAt (eqU x) pl.isList (fun w hw=>mQ rx fx r fs w (by simpa using hw)) ⟨.bl _,H,I,rfl,?_⟩
  rw [show its.toArray.any (eqU x)=its.any (eqU x) by simp,so r fs]
  exact q
 ·obtain ⟨its,r,pl,hz⟩:=I.tuple hq
  refine SeqAt.notIn_tupleAt (eqU x) pl (fun w hw=>mQ rx fx r fs w (by simpa using hw)) ⟨.bl _,H,I,rfl,?_⟩
  rw [show its.toArray.any (eqU x)=its.any (eqU x) by simp,so r fs]
  exact q
theorem zL:df X (.builtin "len") (fun xs H Q=>∃p ys,xs=[.ref p]/\(SqL X.K H p ys\/SqT X.K H p ys)/\Q (.int ys.length) H):=by
 intro pins s σ H xs us Q I r h
 obtain ⟨p,ys,rfl,hq,q⟩:=h
 obtain ⟨u,rfl,rx⟩:=AX r
 cases rx
 have hn:=uy
 rcases hq with hq | hq
 ·obtain ⟨its,r',pl,hz⟩:=I.list hq
  have hlen:=r'.length
  exact Calls.call_len_list pl.isList (by simp only [List.size_toArray]<;>omega) ⟨.int ys.length,H,I.tok _,⟨s.toks+1,by rw [List.size_toArray,hlen]⟩,q⟩
 ·obtain ⟨its,r',pl,hz⟩:=I.tuple hq
  have hlen:=r'.length
  exact len_tuple pl (by simp only [List.size_toArray]<;>omega) ⟨.int ys.length,H,I.tok _,⟨s.toks+1,by rw [List.size_toArray,hlen]⟩,q⟩
theorem zM:df X (.type "list") (fun xs H Q=>∃p ys,xs=[.ref p]/\(SqL X.K H p ys\/SqT X.K H p ys)/\∀l,H l=none->Q (.ref l) (upd H l (.lst ys))):=by
 intro pins s σ H xs us Q I r h
 obtain ⟨p,ys,rfl,hq,q⟩:=h
 obtain ⟨u,rfl,rx⟩:=AX r
 cases rx
 have fin:∀(its:List Value),bF ys its->ys.length<=sizeLine->∀(h':Heap) (c':Nat),(∀b o',s.heap.get? b=some o'->h'.get? b=some o')->
   h'.get? s.heap.objs.size=some {cls:=.type "list",dict:=none,data:=.seq its.toArray c',slots:=#[]}->EP X pins σ Q (.ref s.heap.objs.size) {s with heap:=h'}:=fun its r' hz h' c' kp e=>
  ⟨.ref s.heap.objs.size,_,I.laid (t':=s.toks) kp (Nat.le_refl _) (show fN X.prog X.w _ h' _ (.lst ys) from ⟨hz,its,c',r',e⟩),rfl,q _ (I.hok.fresh (Nat.le_refl _))⟩
 rcases hq with hq | hq
 ·obtain ⟨its,r',pl,hz⟩:=I.list hq
  have hlen:=r'.length
  obtain ⟨o,ho,hc,n,hd⟩:=pl.isList
  exact call_list_seq p (.inl rfl) ho hc hd (fun h' c' kp e=>fin its r' hz h' c' kp e) (by simp only [List.size_toArray]<;>omega)
 ·obtain ⟨its,r',pl,hz⟩:=I.tuple hq
  have hlen:=r'.length
  obtain ⟨o,ho,hc,n,hd⟩:=pl
  exact call_list_seq p (.inr rfl) ho hc hd (fun h' c' kp e=>fin its r' hz h' c' kp e) (by simp only [List.size_toArray]<;>omega)
def tyV (K:WA)(T:String)(x:V)(H:Hp):Prop:=match x with
 | .str _=>T="str"
 | .int _=>T="int"
 | .ref p=>(T="list"/\∃xs,SqL K H p xs)\/(T="tuple"/\∃o,K.lookup p=some o/\o.cls=.type "tuple"/\o.dict=none)\/
   (T="dict"/\((∃kvs,H p=some (.dK kvs))\/∃kvs,H p=some (.dT kvs)))\/(T="set"/\∃S n,H p=some (.set S n))
 | _=>False
theorem FG {pins:List (Addr×Obj)}{σ:St}{H:Hp}{s:Shared}{T:String}{x:V}{v:Value}(I:Inv X pins σ H s)(r:bX x v)(ty:tyV X.K T x H) :
  s.TypeIs v T/\∀a,v=.ref a->∃ob,s.heap.get? a=some ob/\ob.dict=none:=by
 cases x with
 | str z=>
  obtain ⟨t,rfl⟩:=r
  cases (show T="str" from ty)
  exact ⟨typeIs_str s z t,fun _ e=>nomatch e⟩
 | int i=>
  obtain ⟨t,rfl⟩:=r
  cases (show T="int" from ty)
  exact ⟨typeIs_int s i t,fun _ e=>nomatch e⟩
 | ref p=>
  cases r
  rcases ty with ⟨rfl,xs,hq⟩ | ⟨rfl,o,hk,hc,hd⟩ | ⟨rfl,hk⟩ | ⟨rfl,S,n,hk⟩
  ·obtain ⟨its,_,pl,_⟩:=I.list hq
   refine ⟨pl.isList.typeIs,fun a e=>?_⟩
   cases e
   obtain ⟨o,n,e,c,hd,_⟩:=pl
   exact ⟨o,e,hd⟩
  ·refine ⟨⟨o,I.kIn p o hk,hc⟩,fun a e=>?_⟩
   cases e
   exact ⟨o,I.kIn _ o hk,hd⟩
  ·have z:∃o,s.heap.get? p=some o/\o.ExactDict:=by
    rcases hk with ⟨kvs,hk⟩ | ⟨kvs,hk⟩
    ·obtain ⟨_,_,_,_,o,_,_,e,ex,_⟩:=I.hok p _ hk
     exact ⟨o,e,ex⟩
    ·obtain ⟨_,_,_,_,o,_,_,e,ex,_⟩:=I.hok p _ hk
     exact ⟨o,e,ex⟩
   obtain ⟨o,e,ex⟩:=z
   refine ⟨⟨o,e,ex.1⟩,fun a e2=>?_⟩
   cases e2
   exact ⟨o,e,ex.2.1⟩
  ·obtain ⟨o,_,_,_,e,ex,_⟩:=I.hok p _ hk
   refine ⟨⟨o,e,ex.1⟩,fun a e2=>?_⟩
   cases e2
   exact ⟨o,e,ex.2.1⟩
 | _=>exact False.elim ty
noncomputable def Ma (K:WA)(T:String)(r:V->List V->Hp->VK->Prop)(to:TE):TE:=fun σ H Q=>to σ H fun x H1=>tyV K T x H1/\r x [] H1 Q
noncomputable def tBM (K:WA)(T:String)(r:V->List V->Hp->VK->Prop)(to:TE)(t:TA):TE:=fun σ H Q=>to σ H fun x H1=>tyV K T x H1/\t σ H1 fun xs H2=>r x xs H2 Q
variable {o e:Expr}{es:List Expr}{to:TE}{t:TA}{name:Str}{apos cpos:Pos}{T id:String}{r:V->List V->Hp->VK->Prop}
theorem Kv (pa:PlainAttrs T)(slot:Slot T name id)(hty:typeOf (.builtin id)=pure (.type "method_descriptor"))(hm:MtR X id r)(ho:PE X o to)
  (hbase:attributeBase o name X.env (eval o X.env)=eval o X.env:=by rfl) (hline:(apos.endLine == cpos.line)=true:=by rfl):PE X (.Call (.Attribute o name apos) [] [] cpos) (Ma X.K T r to):=by
 intro pins s σ H Q I h
 refine wpAny_Call_method0_late hbase hline (thn (ho pins s σ H _ I h) fun v s1 ⟨x,H1,I1,r1,ty,q1⟩=>?_)
 obtain ⟨h1,h2⟩:=FG I1 r1 ty
 exact ⟨T,id,pa,slot,hty,h1,h2,Calls.callWith_builtin rfl (PySem.evalArgs_none (hm pins s1 σ H1 x [] v [] Q I1 r1 .nil q1))⟩
theorem iP (pa:PlainAttrs T)(slot:Slot T name id)(hty:typeOf (.builtin id)=pure (.type "method_descriptor"))(hm:MtR X id r)(ho:PE X o to)(ha:PA X (e::es) t)
  (hbase:attributeBase o name X.env (eval o X.env)=eval o X.env:=by rfl)
  (hfew:((backTo cpos (starEach (e::es) X.env)).all (fun x=>!x.1) && (backToKw cpos (keywordEach [] X.env)).all (fun x=>x.1.isSome)
   && decide ((e::es).length+([]:List Keyword).length+(if ([]:List Keyword).isEmpty then 0 else 1) < 30))=true:=by rfl)
  (hline:(apos.endLine == cpos.line)=true:=by rfl) (hs:starEach (e::es) X.env=(false,eval e X.env)::starEach es X.env:=by rfl) (hplain:(backTo cpos (starEach es X.env)).any (·.1)=false:=by rfl) :
  PE X (.Call (.Attribute o name apos) (e::es) [] cpos) (tBM X.K T r to t):=by
 intro pins s σ H Q I h
 refine wpAny_Call_method_late hbase hfew hline rfl (thn (ho pins s σ H _ I h) fun v s1 ⟨x,H1,I1,r1,ty,q1⟩=>?_)
 obtain ⟨h1,h2⟩:=FG I1 r1 ty
 refine ⟨T,id,pa,slot,hty,h1,h2,?_⟩
 have hA:=ha cpos pins s1 σ H1 _ I1 q1
 rw [hs] at hA ⊢
 refine Calls.callWith_builtin (by show (false || (backTo cpos (starEach es X.env)).any (·.1))=false;rw [hplain]<;>rfl) (Calls.evalArgs_plain ?_)
 exact thn hA fun us s2 ⟨vs,H2,I2,r2,q2⟩=>hm pins s2 σ H2 x vs v us Q I2 r1 r2 q2
end
def MtM (X:Cx)(id:String)(r:V->List V->Hp->VK->Prop):Prop:=
 ∀(pins:List (Addr×Obj)) (s:Shared) (σ:St) (H:Hp) (x:V) (xs:List V) (v:Value) (us:List Value) (Q:VK),Inv X pins σ H s->bX x v->bF xs us->r x xs H Q->
  wpAny (model X.prog X.w) X.A (call (.builtin id) (v::us)) (EP X pins σ Q) X.xe s
theorem bF.one:∀{x:V} {us:List Value},bF [x] us->∃u,us=[u]/\bX x u
 | _,_,.cons r .nil=>⟨_,rfl,r⟩
theorem bF.two:∀{x y:V} {us:List Value},bF [x,y] us->∃u v,us=[u,v]/\bX x u/\bX y v
 | _,_,_,.cons r (.cons q .nil)=>⟨_,_,rfl,r,q⟩
theorem bF.zero:∀{us:List Value},bF [] us->us=[]
 | _,.nil=>rfl
theorem bF.dropLast {xs:List V}{us:List Value}(h:bF xs us):bF xs.dropLast us.dropLast:=by
 induction h with
 | nil=>exact .nil
 | cons r t ih=>
  cases t with
  | nil=>exact .nil
  | cons q t'=>exact .cons r ih
theorem bF.rep {xs:List V}{us:List Value}(h:bF xs us):∀k:Nat,bF (List.replicate k xs).flatten (List.replicate k us).flatten
 | 0=>.nil
 | k+1=>by
  rw [List.replicate_succ,List.replicate_succ,List.flatten_cons,List.flatten_cons]
  exact bF.append h (bF.rep h k)
theorem CA {α:Type}(l:List α):l.eraseIdx (l.length - 1)=l.dropLast:=by
 induction l with
 | nil=>rfl
 | cons a r ih=>
  cases r with
  | nil=>rfl
  | cons b r=>
   have e:(a::b::r).length - 1=((b::r).length - 1)+1:=by
    have h1:(a::b::r).length=r.length+2:=rfl
    have h2:(b::r).length=r.length+1:=rfl
    omega
   rw [e,List.eraseIdx_cons_succ,ih]
   all_goals rfl
theorem yY (its:List Value):∀(k:Nat) (acc:List Value),
  List.foldl (fun x1 x2=>x1++x2) acc.toArray (List.replicate k its.toArray)=(acc++(List.replicate k its).flatten).toArray
 | 0,acc=>by simp
 | k+1,acc=>by
  have e:acc.toArray++its.toArray=(acc++its).toArray:=by simp
  have e2:(acc++its)++(List.replicate k its).flatten=acc++(List.replicate (k+1) its).flatten:=by
   rw [List.replicate_succ,List.flatten_cons,List.append_assoc]
  rw [←e2,←yY its k (acc++its),←e,List.replicate_succ,List.foldl_cons]
section
variable {X:Cx}{pins:List (Addr×Obj)}{σ:St}{H:Hp}{s:Shared}{l b:Addr}{xs ys zs:List V}
theorem Inv.lset {its its':List Value}{n:Nat}{f:Array Value->Array Value}{t':Nat}(I:Inv X pins σ H s)(hH:H l=some (.lst xs))
  (e:s.heap.get? l=some {cls:=.type "list",data:=.seq its.toArray n}) (hf:f its.toArray=its'.toArray) (hv:bF ys its') (hz:ys.length<=sizeLine) :
  Inv X pins σ (upd H l (.lst ys)) {s with heap:=s.heap.update l (Obj.mapSeq f),toks:=t'}:=by
 have q:=PySem.IsL.update e f
 rw [hf] at q
 refine I.write (x:=l) (e:=l) (by rw [hH];exact trivial) (.inl rfl) (fun b' u hb hu=>(Heap.get?_update_other s.heap (Obj.mapSeq f) (Ne.symm hb)).trans hu) ⟨_,q⟩ ?_
 exact ⟨hz,its',_,hv,q⟩
theorem Inv.lnew {its:List Value}{t':Nat}(I:Inv X pins σ H s)(hv:bF ys its)(hz:ys.length<=sizeLine) :
  Inv X pins σ (upd H s.heap.objs.size (.lst ys)) {s with heap:=s.heap.push {cls:=.type "list",data:=.seq its.toArray},toks:=t'}:=
 I.laid (fun _ _ q=>Heap.get?_push_of_some _ q) (Nat.le_refl _) ⟨hz,its,0,hv,Heap.get?_push_size _ rfl⟩
theorem Inv.fresh (I:Inv X pins σ H s):H s.heap.objs.size=none:=I.hok.fresh (Nat.le_refl _)
theorem Inv.lstM (I:Inv X pins σ H s)(hH:H l=some (.lst xs)):xs.length<=sizeLine/\∃(its:List Value) (n:Nat),bF xs its/\xs.length=its.length/\s.heap.get? l=some {cls:=.type "list",data:=.seq its.toArray n}:=by
 obtain ⟨z,its,n,r,e⟩:=I.hok l _ hH
 exact ⟨z,its,n,r,r.length,e⟩
theorem A1 {n:Nat}(h:n<=sizeLine):Builtin.List.listTooLong n=false:=by
 unfold Builtin.List.listTooLong
 exact decide_eq_false (by omega)
end
section
variable {X:Cx}
noncomputable def DM:V->List V->Hp->VK->Prop:=fun x vs H Q=>∃l xs y,x=.ref l/\vs=[y]/\H l=some (.lst xs)/\xs.length < sizeLine/\Q .non (upd H l (.lst (xs++[y])))
theorem EG:MtM X "list.append" DM:=by
 intro pins s σ H x vs v us Q I rx rv h
 obtain ⟨l,xs,y,rfl,rfl,hH,hz,q⟩:=h
 cases rx
 obtain ⟨u,rfl,ru⟩:=rv.one
 obtain ⟨z,its,n,r,hl,e⟩:=I.lstM hH
 refine call_meets F.slot_list_append ⟨_,e,rfl⟩ F.entry_list_append (F.args_list_append_2 _ _) (PySem.list_append l its.toArray n u (by rw [List.size_toArray];omega)) ⟨e,?_⟩
 refine ⟨.non,_,I.lset (its':=its++[u]) hH e (by simp) (r.append (.cons ru .nil)) ?_,rfl,q⟩
 rw [List.length_append,List.length_singleton]
 omega
noncomputable def HE:V->List V->Hp->VK->Prop:=fun x vs H Q=>∃l b xs zs,x=.ref l/\vs=[.ref b]/\H l=some (.lst xs)/\H b=some (.lst zs)/\xs.length+zs.length<=sizeLine/\Q .non (upd H l (.lst (xs++zs)))
theorem LF:MtM X "list.extend" HE:=by
 intro pins s σ H x vs v us Q I rx rv h
 obtain ⟨l,b,xs,zs,rfl,rfl,hH,hB,hz,q⟩:=h
 cases rx
 obtain ⟨u,rfl,ru⟩:=rv.one
 cases ru
 obtain ⟨z,its,n,r,hl,e⟩:=I.lstM hH
 obtain ⟨z2,its2,n2,r2,hl2,e2⟩:=I.lstM hB
 have hsz:its.toArray.size+its2.toArray.size<=sizeLine:=by rw [List.size_toArray,List.size_toArray];omega
 have hlong:¬(!its.toArray.isEmpty && Builtin.List.listTooLong (its.toArray.size+its2.toArray.size))=true:=by
  rw [A1 hsz,Bool.and_false]
  exact Bool.false_ne_true
 refine call_meets F.slot_list_extend ⟨_,e,rfl⟩ F.entry_list_extend (F.args_list_extend_2 _ _)
  (AutoSeq1.list_extend_list_list_0 l its.toArray n b its2.toArray n2 hlong (by rw [List.size_toArray];omega) (by omega)) ⟨e,e2,?_⟩
 refine ⟨.non,_,I.lset (its':=its++its2) hH e (by simp) (r.append r2) ?_,rfl,q⟩
 rw [List.length_append]
 omega
noncomputable def Kw:V->List V->Hp->VK->Prop:=fun x vs H Q=>∃l xs y,x=.ref l/\vs=[]/\H l=some (.lst xs)/\xs[xs.length - 1]?=some y/\Q y (upd H l (.lst xs.dropLast))
theorem Kx:MtM X "list.pop" Kw:=by
 intro pins s σ H x vs v us Q I rx rv h
 obtain ⟨l,xs,y,rfl,rfl,hH,hy,q⟩:=h
 cases rx
 have hus:=rv.zero
 subst hus
 obtain ⟨z,its,n,r,hl,e⟩:=I.lstM hH
 obtain ⟨u,hu,ru⟩:=r.get hy
 have hy':its.toArray[its.toArray.size - 1]?=some u:=by
  show its.toArray[its.length - 1]?=some u
  rw [←Array.getElem?_toList,←hl]
  exact hu
 refine call_meets F.slot_list_pop ⟨_,e,rfl⟩ F.entry_list_pop (F.args_list_pop_1 _) (MeetsSeq.list_pop_last l its.toArray n u hy' (by rw [List.size_toArray];omega)) ⟨e,?_⟩
 refine ⟨y,_,I.lset (its':=its.dropLast) hH e ?_ r.dropLast ?_,ru,q⟩
 ·show its.toArray.eraseIdxIfInBounds (its.toArray.size - 1)=its.dropLast.toArray
  rw [List.size_toArray,List.eraseIdxIfInBounds_toArray,CA]
 ·rw [List.length_dropLast]
  omega
noncomputable def Mb:R2:=fun x y H Q=>∃l b xs zs,x=.ref l/\y=.ref b/\H l=some (.lst xs)/\H b=some (.lst zs)/\xs.length+zs.length<=sizeLine/\∀p,H p=none->Q (.ref p) (upd H p (.lst (xs++zs)))
theorem Ky:OpR X (binaryOp .Add) Mb:=by
 intro pins s σ H x y v u Q I rx ry h
 obtain ⟨l,b,xs,zs,rfl,rfl,hH,hB,hz,q⟩:=h
 cases rx
 cases ry
 obtain ⟨z,its,n,r,hl,e⟩:=I.lstM hH
 obtain ⟨z2,its2,n2,r2,hl2,e2⟩:=I.lstM hB
 refine PySem.P.add_list e e2 ?_ (by rw [List.size_toArray,List.size_toArray];omega)
 have ea:its.toArray++its2.toArray=(its++its2).toArray:=by simp
 rw [ea]
 exact ⟨.ref _,_,I.lnew (t':=s.toks) (r.append r2) (by rw [List.length_append];omega),rfl,q _ I.fresh⟩
noncomputable def Mc:R2:=fun x y H Q=>∃l k xs,x=.ref l/\y=.int k/\H l=some (.lst xs)/\-(2 ^ 63)<=k/\k < 2 ^ 63/\xs.length * k.toNat<=sizeLine/\
 ∀p,H p=none->Q (.ref p) (upd H p (.lst (List.replicate k.toNat xs).flatten))
theorem HH {α:Type}(xs:List α)(k:Nat):(List.replicate k xs).flatten.length=k * xs.length:=by
 induction k with
 | zero=>simp
 | succ k ih=>rw [List.replicate_succ,List.flatten_cons,List.length_append,ih,Nat.succ_mul,Nat.add_comm]
theorem Kz:OpR X (binaryOp .Mult) Mc:=by
 intro pins s σ H x y v u Q I rx ry h
 obtain ⟨l,k,xs,rfl,rfl,hH,h1,h2,hz,q⟩:=h
 cases rx
 obtain ⟨t,rfl⟩:=ry
 obtain ⟨z,its,n,r,hl,e⟩:=I.lstM hH
 have hlen:its.toArray.size * k.toNat<=sizeLine:=by rw [List.size_toArray,←hl];exact hz
 have hcap:¬its.toArray.size * k.toNat > (2 ^ 63 - 1) / 8:=by
  have:(sizeLine:Nat)<=(2 ^ 63 - 1) / 8:=by decide
  omega
 have hfit:¬(!Builtin.List.listFitsIndex k)=true:=by
  rw [fitsIndex_both h1 h2]
  exact Bool.false_ne_true
 have hlong:¬Builtin.List.listTooLong (its.toArray.size * k.toNat)=true:=by
  rw [A1 hlen]
  exact Bool.false_ne_true
 have hnew:List.foldl (fun x1 x2=>x1++x2) #[] (List.replicate (if its.toArray.isEmpty=true then 0 else k.toNat) its.toArray)=(List.replicate k.toNat its).flatten.toArray:=by
  have f0:∀m:Nat,List.foldl (fun x1 x2=>x1++x2) #[] (List.replicate m its.toArray)=(List.replicate m its).flatten.toArray:=fun m=>by
   have:=yY its m []
   rw [List.nil_append] at this
   exact this
  rw [f0]
  cases its with
  | nil=>simp
  | cons a r'=>rw [if_neg (by simp)]
 refine wpAny_binaryOp_repeat_ref (T:="list") (U:="int") (by decide) ⟨_,e,rfl⟩ (fun s'=>typeIs_int s' k t) noFill_list_mul F.fills_int_mul F.slot_int_rmul repeat_list F.slot_int_index.lookup
  (call_meets F.slot_int_rmul (typeIs_int s k t) F.entry_int_rmul (F.args_int_rmul_2 _ _) (int___rmul___int_list k t l its.toArray n)
   ⟨e,rfl,⟨_,e,rfl⟩,call_meets F.slot_list_mul ⟨_,e,rfl⟩ F.entry_list_mul (F.args_list_mul_2 _ _) (AutoListH.list___mul___list_int_3 l its.toArray n k t hfit hcap hlong) ⟨e,?_⟩⟩)
 rw [hnew]
 exact ⟨.ref _,_,I.lnew (t':=s.toks) (r.rep k.toNat) (by rw [HH,Nat.mul_comm];exact hz),rfl,q _ I.fresh⟩
end
section
variable {prog:Program}{w:World}{A:Around}{E:Value->Shared->Prop}{s:Shared}
set_option maxRecDepth 100000 in
end
end L2
namespace Att
open PySem PySem.W PySem.Calls PyProof.Rows
theorem vD {P:Params}{h:Heap}:∀(ns:List Int) (vs:List Value),WellAll P h vs (ns.map WData.int)->IntsAre vs ns:=by
 intro ns
 induction ns with
 | nil=>
  intro vs w
  rw [List.map_nil] at w
  cases w
  exact .nil
 | cons n ns ih=>
  intro vs w
  rw [List.map_cons] at w
  cases w with
  | cons a b=>
   cases a
   exact .cons _ _ (ih _ b)
theorem EH {l:OpenLaw}{n:Nat}(hn:l.most=some n){P:Params}{h:Heap}{args:List WData}{vals:List Value}
  (hpre:l.row.toRowW.claim.pre args=true) (hwl:WellAll P h vals args) :
  ∃a vs ns,vals=[Value.ref a]/\args=[WData.list (ns.map WData.int)]/\h.get? a=some {cls:=.type "list",data:=.seq vs.toArray}/\IntsAre vs ns/\ns.length<=n:=by
 have hsh:WShape.hasAll [] args [.list .int]=true:=(pre_splitW hpre).1
 have hc:l.pre.holds [] {args:=args}=true:=(pre_splitW hpre).2
 obtain ⟨d,r,rfl,h1,h2⟩:=hasAllW_cons hsh
 obtain rfl:=hasAllW_nil h2
 obtain ⟨xs,rfl,h3⟩:=hasW_list h1
 obtain ⟨ns,rfl⟩:=items_int h3
 have hlen:ns.length<=n:=by
  unfold OpenLaw.pre at hc
  have h4:(WTm.not (.lt (.lit (.int (n:Int))) (.len (.arg 0)))).holds [] {args:=[.list (ns.map .int)]}=true:=by
   have h4:=(holds_andW hc).1
   rw [hn] at h4
   exact h4
  have h5:=condW_of h4 (w_not (w_lt w_lit (w_len_list (w_arg rfl))))
  rw [WB] at h5
  refine Nat.le_of_not_lt fun q=>?_
  have q':(n:Int) < ((ns.length:Nat):Int):=by omega
  first
   | (rw [decide_eq_true q'] at h5;exact absurd h5 (by decide))
   | (simp at h5;omega)
 cases hwl with
 | cons w1 w2=>
  cases w2
  cases w1 with
  | list ho hall=>exact ⟨_,_,ns,rfl,rfl,ho,vD ns _ hall,hlen⟩
theorem EI (l:OpenLaw)(args:List WData):l.row.toRowW.claim.post args (.bool true) args=true:=
 postW_of (r:=l.row.toRowW) (X:=(true == true))
  (show WShape.has [] (.bool true) .bool=true by first | rfl | decide | simp [WShape.has,WShape.arms,WShape.armsAll])
  (show (WTm.eq .res (.lit (.bool true))).value [] {args:=args,res:=some (.bool true),after:=args}=some (.bool (true == true)) from w_eq_bool (w_res rfl) w_lit) rfl
theorem A2 {l:OpenLaw}{n:Nat}{q:Program}{loose:List Str}{XP:(Str->Option Value)->Heap->Prop}{YP:World->Heap->Prop}{d:DefRec}
  (hn:l.most=some n) (hdf:d.params.defaults=[])
  (call:∀(w:World) (s₀ s₁:Shared) (mg mb:Str->Option Value) (fa:Addr) (o:Obj) (pm cd doc:Value) (a:Addr) (vs:List Value) (ns:List Int),
   Ground q loose [] XP w s₀ mg mb s₁.heap->YP w s₁.heap->
   s₁.heap.get? fa=some o->o.data=.func (docDef d.name d.params d.body d.scope pm cd doc)->s₁.heap.CodeRec cd d.name->mg d.name=some (.ref fa)->
   s₁.heap.get? a=some {cls:=.type "list",data:=.seq vs.toArray}->IntsAre vs ns->ns.length<=n->s₁.gens=#[]->
   codeAny (model l.prog w) callerA (.call (.ref fa) ⟨[.ref a],[]⟩) (fun r s'=>r=.ok (.ret (.bool true))/\OldK s₁.heap s'.heap/\s'.os=s₁.os/\AllBare s'.gens) s₁) :
  WalkO q loose XP YP l.row.toRowW d [] (fun f vs=>PySem.call f vs):=by
 intro w s₀ s₁ mg mb G Y fa o pm cd doc dV kV ho hd hcd hD hmg hg args vals as hpre hlay hrd hwl hlo
 obtain rfl:dV=.none:=Dflts.none hD hdf
 obtain rfl:kV=.none:=Dflts.noKw hD
 obtain ⟨a,vs,ns,rfl,rfl,hobj,hints,hlen⟩:=EH hn hpre hwl
 refine enter_call (codeAny_mono (call w s₀ s₁ mg mb fa o pm cd doc a vs ns G Y ho (fd_plain hd) hcd hmg hobj hints hlen hg) fun r s' hq=>?_)
 obtain ⟨rfl,h2,h3,h4⟩:=hq
 exact ⟨.inl ⟨.bool true,.bool true,[],rfl,fun _=>rfl,.bool true,EI l _,fun _=>⟨List.Pairwise.nil,fun _ hm=>(nomatch hm)⟩⟩,h2,h3,h4⟩
end Att
namespace L2
open PySem PySem.Spec PyProof.Rows
theorem yZ:∀{vs:List Value} {ns:List Int},IntsAre vs ns->bF (ns.map V.int) vs
 | _,_,.nil=>.nil
 | _,_,.cons n t h=>.cons ⟨t,rfl⟩ (yZ h)
def KA (H:Hp):Prop:=∀b,H b=none\/∃o xs,H b=some (.frz o (.lst xs))
theorem FH {P:Program}{w:World}{K:WA}{mg mb:Str->Option Value}{CX:CXT}{k:Nat}{fa a:Addr}{fd:FuncData}{x:Str}{sp:Sp}{s₁:Shared}{vs:List Value}{ns:List Int}
  (KX:K.In s₁.heap) (hns:s₁.heap.Ns mainGlobals mg) (hb:s₁.heap.Ns builtinsNs mb) (hbb:∀x:Str,x≠"__name__"->mb x=bootBuiltins x) (hlim:s₁.heap.NoLimit) (hg:s₁.gens=#[])
  (ha:s₁.heap.get? a=some {cls:=.type "list",data:=.seq vs.toArray}) (hi:IntsAre vs ns) (hl:ns.length<=sizeLine) (hr:du k callerA)
  (F:∀base:Heap,K.In base->base.Ns mainGlobals mg->fU P w K mg base CX k fa fd [x] sp) (hbind:∀(s:Shared) (u:Value),BindsTo s fd ⟨[u],[]⟩ [(x,u)])
  (hsp:∀H:Hp,KA H->SqL K H a (ns.map V.int)->sp [.ref a] H (fun v _=>v=.bl true) fun _ _ _=>False)
  (hCX:∀H e s',CX [] H s₁ (fun _ _ _=>False) e s'->False) :
  codeAny (model P w) callerA (.call (.ref fa) ⟨[.ref a],[]⟩) (fun r s'=>r=.ok (.ret (.bool true))/\OldK s₁.heap s'.heap/\s'.os=s₁.os/\AllBare s'.gens) s₁:=by
 have rv:=yZ hi
 have lenV:=hi.length
 have core:∀H:Hp,KA H->SqL K H a (ns.map V.int)->HOk P w H s₁.heap->(∀b,H b≠none->b=a)->(H a≠none->K.lookup a=none)->
   codeAny (model P w) callerA (.call (.ref fa) ⟨[.ref a],[]⟩) (fun r s'=>r=.ok (.ret (.bool true))/\OldK s₁.heap s'.heap/\s'.os=s₁.os/\AllBare s'.gens) s₁:=by
  intro H hO hS hok hA hK
  have base_of:∀{b:Addr} {o:Obj},s₁.heap.get? b=some o->H b=none->(zD s₁.heap H).get? b=some o:=fun e n=>Fj e n
  have noA:∀{b:Addr} {o:Obj} {es:Array DictEntry} {ep:Nat},s₁.heap.get? b=some o->o.data=.dict es ep->H b=none:=fun {b o es ep} e d=>by
   cases q:H b with
   | none=>rfl
   | some u=>
    have e':b=a:=hA b (by rw [q];simp)
    subst e'
    rw [ha] at e;cases e
    have d':Data.seq vs.toArray _=Data.dict es ep:=d
    cases d'
  have nsK:∀{b:Addr} {m:Str->Option Value},s₁.heap.Ns b m->(zD s₁.heap H).Ns b m:=fun {b m} ⟨o,es,ep,e,d,r⟩=>⟨o,es,ep,base_of e (noA e d),d,r⟩
  have hKb:K.In (zD s₁.heap H):=fun b o e=>base_of (KX b o e) (by
   cases q:H b with
   | none=>rfl
   | some u=>
    have e':b=a:=hA b (by rw [q];simp)
    subst e'
    rw [hK (by rw [q];simp)] at e;cases e)
  have hM:Mod K mg (zD s₁.heap H):=⟨hKb,nsK hns,⟨mb,nsK hb,hbb⟩,let ⟨mc,h1,h2⟩:=hlim;⟨mc,nsK h1,h2⟩⟩
  have e0:Cw P w K mg (zD s₁.heap H) callerA [] s₁ H:=⟨rfl,hM,fun b o e=>Hj e,Nat.le_of_eq (Es _ _),trivial,fun b hb=>absurd (show b∈([]:List Addr) from hb) (by simp),hok,.of_eq hg⟩
  refine codeAny_mono ((F _ hKb (nsK hns)).run callerA [] s₁ H ⟨[.ref a],[]⟩ [.ref a] [.ref a] _ _ hr e0 (hbind s₁ (.ref a)) (.cons rfl .nil) (hsp H hO hS)) fun r s' h=>?_
  cases r with
  | error e=>exact (hCX H e s' h).elim
  | ok fl=>
   cases fl with
   | next=>exact False.elim h
   | brk=>exact False.elim h
   | cont=>exact False.elim h
   | ret u=>
    obtain ⟨v,H',os,bare,un,hok',r',q⟩:=h
    have q':v=.bl true:=q
    subst q'
    obtain rfl:u=Value.bool true:=r'
    refine ⟨rfl,OldK.of_keep fun b o e=>?_,os,bare⟩
    cases q:H b with
    | none=>exact un.keep b o e q (by intro z;exact absurd (show b∈([]:List Addr) from z) (by simp)) (by simp)
    | some u=>
     rcases hO b with z | ⟨ob,xs,z⟩
     ·rw [q] at z;cases z
     ·have z2:=un.frzs b ob _ z
      obtain ⟨e1,_⟩:=hok b _ z
      obtain ⟨e2,_⟩:=hok' b _ z2
      rw [e] at e1;cases e1
      exact e2
 cases hk:K.lookup a with
 | some o=>
  have e:=KX a o hk
  rw [ha] at e
  cases e
  refine core (fun _=>none) (fun _=>.inl rfl) (.inr ⟨_,vs.toArray,_,hk,rfl,rfl,rfl,by rw [List.size_toArray,lenV];exact hl,by simpa using rv⟩) (fun b u z=>by have z':(none:Option HO)=some u:=z;cases z') (fun b z=>absurd rfl z) fun z=>absurd rfl z
 | none=>
  refine core (fun b=>if b=a then some (.frz {cls:=.type "list",data:=.seq vs.toArray} (.lst (ns.map V.int))) else none) (fun b=>?_) (.inl (.inr ⟨{cls:=.type "list",data:=.seq vs.toArray},if_pos rfl⟩)) (fun b u z=>?_) (fun b z=>?_) fun _=>hk
  ·by_cases hb:b=a
   ·exact .inr ⟨_,_,if_pos hb⟩
   ·exact .inl (if_neg hb)
  ·by_cases hb:b=a
   ·have z':=(if_pos hb).symm.trans z
    cases z'
    subst hb
    exact ⟨ha,by rw [WB];exact hl,vs,_,rv,ha⟩
   ·have z':=(if_neg hb).symm.trans z
    cases z'
  ·by_cases hb:b=a
   ·exact hb
   ·exact absurd (if_neg hb) z
theorem HK {l:W.OpenLaw}{n k:Nat}{q:Program}{loose:List Str}{XP:(Str->Option Value)->Heap->Prop}{YP:World->Heap->Prop}{d:DefRec}{K:Params->WA}{CX:World->CXT}{sp:World->Sp}{x:Str}
  (hn:l.most=some n) (hn2:n<=sizeLine) (hdf:d.params.defaults=[]) (hr:du k callerA)
  (hY:∀(w:World) (h:Heap),YP w h->(K w.params).In h)
  (F:∀(w:World) (mg:Str->Option Value) (fa:Addr) (h:Heap),(K w.params).In h->h.Ns mainGlobals mg->mg d.name=some (.ref fa)->
   ∃fd:FuncData,(∀(s:Shared) (u:Value),BindsTo s fd ⟨[u],[]⟩ [(x,u)])/\
    ∀base:Heap,(K w.params).In base->base.Ns mainGlobals mg->fU l.prog w (K w.params) mg base (CX w) k fa fd [x] (sp w))
  (hsp:∀(w:World) (H:Hp) (a:Addr) (ns:List Int),ns.length<=n->KA H->SqL (K w.params) H a (ns.map V.int)->sp w [.ref a] H (fun v _=>v=.bl true) fun _ _ _=>False)
  (hCX:∀(w:World) (H:Hp) (s:Shared) (e:Value) (s':Shared),CX w [] H s (fun _ _ _=>False) e s'->False) :
  W.WalkO q loose XP YP l.row.toRowW d [] (fun f vs=>PySem.call f vs):=by
 refine Att.A2 hn hdf fun w s₀ s₁ mg mb fa o pm cd doc a vs ns G Y ho hd hcd hmg hobj hints hlen hg=>?_
 have KX:=hY w _ Y
 obtain ⟨fd,hb,hF⟩:=F w mg fa _ KX G.T.g hmg
 exact FH KX G.T.g G.T.b G.T.builtins G.T.nolimit hg hobj hints (Nat.le_trans hlen hn2) hr hF hb (fun H hO hS=>hsp w H a ns hlen hO hS) fun H e s'=>hCX w H s₁ e s'
noncomputable def aX (s:Stmt)(j:Nat):Stmt:=match s with
 | .ClassDef _ _ _ body _ _ _ _ _ _ _=>body.getD j (.Pass ⟨0,0,0,0⟩)
 | _=>.Pass ⟨0,0,0,0⟩
noncomputable def dw (s:Stmt):Arguments:=match s with
 | .FunctionDef _ a _ _ _ _ _ _ _ _=>a
 | _=>{posonlyargs:=[],args:=[],vararg:=none,kwonlyargs:=[],kw_defaults:=[],kwarg:=none,defaults:=[]}
noncomputable def cv (s:Stmt):List Stmt:=match s with
 | .FunctionDef _ _ b _ _ _ _ _ _ _=>b
 | _=>[]
noncomputable def ai (s:Stmt):Scope:=match s with
 | .FunctionDef _ _ _ _ _ _ sc _ _ _=>sc
 | _=>{kind:=.function,names:=[],isGenerator:=false,isCoroutine:=false}
noncomputable abbrev CX0:CXT:=fun _ _ _ _ _ _=>False
noncomputable abbrev E0:XK:=fun _ _ _=>False
theorem bw {X:Cx}:eY CX0 X E0:=fun _ _ _ _ _ _ _ h=>h.elim
structure Fun (K:WA)(x qual:Str)(st:Stmt)(f:Addr)(fd:FuncData):Prop where
 ex:∃(oc:Value) (od:Option Addr) (kV doc pm:Value) (an:Option Addr) (cdv ct:Value) (osl:Array (Option Value)),
  fd=W.fnOf x qual (dw st) (cv st) (ai st) .none kV doc pm an cdv ct/\K.lookup f=some ⟨oc,od,.func fd,osl⟩/\W.codeIn K cdv qual=true
 kp:W.keepIn K (.ref f)=true
section
variable {P:Program}{w:World}{K:WA}{mg:Str->Option Value}{base:Heap}
theorem Fun.ok {x qual:Str}{st:Stmt}{f:Addr}{fd:FuncData}{N ps:List Str}{k:Nat}{sp:Sp}(F:Fun K x qual st f fd)(S:aw N ps (ai st))(len:∀vs H Q E,sp vs H Q E->vs.length=ps.length)
  (hbody:∀(cdv:Value) (A:Around) (outer:List Env) (s:Shared) (H:Hp) (vs:List V) (Q:VK) (E:XK),du k (A.deeper (envOfC qual (ai st) s.heap.objs.size f cdv))->sp vs H Q E->
   ∃t,PSs (xX CX0 P w K mg base N qual (ai st) f cdv A outer s H E).nox (cv st) t/\t {nx:=fun _ H'=>Q .non H',rt:=Q} (mq N vs) H):fU P w K mg base CX0 (k+1) f fd ps sp:=by
 obtain ⟨oc,od,kV,doc,pm,an,cdv,ct,osl,rfl,lk,hcd⟩:=F.ex
 refine JG lk hcd S len fun A outer s H vs Q E hr hsp=>?_
 obtain ⟨t,h,q⟩:=hbody cdv A outer s H vs Q E hr hsp
 exact ⟨t,h.nox,q⟩
theorem Fun.binds {x qual:Str}{st:Stmt}{f:Addr}{fd:FuncData}{ps:List Str}(F:Fun K x qual st f fd)
  (h:∀(kV doc pm:Value) (an:Option Addr) (cdv ct:Value) (us:List Value),us.length=ps.length->bindArgs (W.fnOf x qual (dw st) (cv st) (ai st) .none kV doc pm an cdv ct) ⟨us,[]⟩=pure (ps.zip us)):dG K fd ps []:=by
 obtain ⟨oc,od,kV,doc,pm,an,cdv,ct,osl,rfl,lk,hcd⟩:=F.ex
 exact .all (h kV doc pm an cdv ct)
theorem CB {x qual:Str}{st:Stmt}{f:Addr}{oc:Value}{od an:Option Addr}{osl:Array (Option Value)}{kV doc pm cdv ct:Value}(l:K.lookup f=some ⟨oc,od,.func (W.fnOf x qual (dw st) (cv st) (ai st) .none kV doc pm an cdv ct),osl⟩)
  (c:W.codeIn K cdv qual=true) (k:W.keepIn K (.ref f)=true):Fun K x qual st f (W.fnOf x qual (dw st) (cv st) (ai st) .none kV doc pm an cdv ct):=⟨⟨oc,od,kV,doc,pm,an,cdv,ct,osl,rfl,l,c⟩,k⟩
end
theorem dQ {n:Nat}(h:n<=1000):n < sizeLine:=Nat.lt_of_le_of_lt h (by decide)
section
variable {X:Cx}
theorem pv (i:Nat){x:Str}{pos:Pos}(hN:X.N[i]?=some x:=by rfl)(hv:Vis X.env.scope x:=by first | exact Or.inl rfl | exact Or.inr (Or.inl rfl) | exact Or.inr (Or.inr rfl))(hd:(x == ("__debug__":Str))=false:=by decide)
  (hcd:(x == ("__classdict__":Str))=false:=by decide):PE X (.Name x pos) (J0 i):=Ka hN hv hd hcd
end
theorem Md {A B:Prop}(h:B):if false=true then A else B:=by
 rw [if_neg Bool.false_ne_true]
 exact h
theorem Me {A B:Prop}(h:A):if true=true then A else B:=by
 rw [if_pos rfl]
 exact h
def av (H H':Hp):Prop:=∀b o,H b=some o->H' b=some o
theorem av.refl (H:Hp):av H H:=fun _ _ h=>h
theorem av.trans {H H1 H2:Hp}(a:av H H1)(b:av H1 H2):av H H2:=fun c o h=>b c o (a c o h)
theorem av.free {H H':Hp}(e:av H H'){l:Addr}(h:H' l=Option.none):H l=Option.none:=by
 cases q:H l with
 | none=>rfl
 | some o=>
  rw [e l o q] at h
  cases h
theorem av.seq {K:WA}{H H':Hp}{a:Addr}{xs:List V}(e:av H H')(h:SqL K H a xs):SqL K H' a xs:=by
 rcases h with (h | ⟨o,h⟩) | h
 ·exact .inl (.inl (e _ _ h))
 ·exact .inl (.inr ⟨o,e _ _ h⟩)
 ·exact .inr h
end L2
set_option maxHeartbeats 4000000
namespace L2
open PySem PySem.Spec PyProof.Rows
noncomputable def iH (cells:List (Str×Addr)):List (Str×NameKind)->List (Str×Addr)->List (Str×Addr)
 | [],acc=>acc
 | (n,k)::r,acc=>if (k == NameKind.free)=true then (match cells.lookup n with | some c=>iH cells r ((n,c)::acc) | none=>iH cells r acc) else iH cells r acc
theorem mR {scope:Scope}{env:Env}(h:∀y∈scope.names,y.2=.free->∃c,env.cells.lookup y.1=some c):closureFor scope env=pure (iH env.cells scope.names []):=by
 have key:∀(l:List (Str×NameKind)) (acc:List (Str×Addr)),(∀y∈l,y.2=.free->∃c,env.cells.lookup y.1=some c)->
   (forIn l acc fun x s=>if (x.snd == NameKind.free)=true then do
       let c ←cellOf env x.fst
       pure (ForInStep.yield ((x.fst,c)::s))
      else pure (ForInStep.yield s))=(pure (iH env.cells l acc):Sem _):=by
  intro l
  induction l with
  | nil=>intro acc _;rfl
  | cons y r ih=>
   intro acc hy
   obtain ⟨n,k⟩:=y
   have ih':=fun a=>ih a fun z hz=>hy z (List.mem_cons_of_mem _ hz)
   by_cases hk:(k == NameKind.free)=true
   ·obtain ⟨c,hc⟩:=hy (n,k) List.mem_cons_self (by simpa using hk)
    have hc':env.cells.lookup n=some c:=hc
    simp only [List.forIn_cons,hk,if_true,cellOf,hc',pure_bind,iH]
    exact ih' _
   ·simp only [List.forIn_cons,hk,if_false,pure_bind,iH]
    exact ih' _
 simp only [closureFor]
 rw [key _ _ h]
 rfl
theorem vV {cells:List (Str×Addr)}:∀{l:List (Str×NameKind)} {acc:List (Str×Addr)} {x:Str} {c:Addr},(∀x c,acc.lookup x=some c->cells.lookup x=some c)->(iH cells l acc).lookup x=some c->cells.lookup x=some c
 | [],acc,x,c,h,e=>h x c e
 | (n,k)::r,acc,x,c,h,e=>by
  unfold iH at e
  split at e
  ·split at e
   ·rename_i d hd
    refine vV (l:=r) (acc:=(n,d)::acc) (fun y b hy=>?_) e
    rw [List.lookup_cons] at hy
    split at hy
    ·rename_i z
     have zn:y=n:=by simpa using z
     cases hy
     rw [zn];exact hd
    ·exact h y b hy
   ·exact vV h e
  ·exact vV h e
theorem sq {cells:List (Str×Addr)}{x:Str}:∀{l:List (Str×NameKind)} {acc:List (Str×Addr)},(∃c,acc.lookup x=some c)->∃c,(iH cells l acc).lookup x=some c
 | [],acc,h=>h
 | (n,k)::r,acc,h=>by
  unfold iH
  split
  ·split
   ·rename_i d hd
    refine sq (l:=r) ?_
    rw [List.lookup_cons]
    split
    ·exact ⟨_,rfl⟩
    ·exact h
   ·exact sq h
  ·exact sq h
theorem mS {cells:List (Str×Addr)}{x:Str}:∀{l:List (Str×NameKind)} {acc:List (Str×Addr)},l.lookup x=some .free->(∃c,cells.lookup x=some c)->∃c,(iH cells l acc).lookup x=some c
 | [],acc,h,_=>by simp at h
 | (n,k)::r,acc,h,hc=>by
  rw [List.lookup_cons] at h
  unfold iH
  split at h
  ·rename_i z
   have zn:x=n:=by simpa using z
   cases h
   subst zn
   obtain ⟨c,hc⟩:=hc
   rw [if_pos (by decide),hc]
   refine sq ⟨c,?_⟩
   rw [List.lookup_cons]
   simp
  ·split
   ·split
    ·exact mS h hc
    ·exact mS h hc
   ·exact mS h hc
theorem gA {env:Env}:∀{names:List (Str×NameKind)} {x:Str},names.lookup x=some .free->
  (names.map fun (n,k)=>if (k == NameKind.free && env.scope.kind == .function && env.kindOf n == some .cell) then (n,NameKind.cell) else (n,k)).lookup x=some .cell\/
  (names.map fun (n,k)=>if (k == NameKind.free && env.scope.kind == .function && env.kindOf n == some .cell) then (n,NameKind.cell) else (n,k)).lookup x=some .free
 | [],_,h=>by simp at h
 | (n,k)::r,x,h=>by
  have ih:=@gA env r x
  show List.lookup x ((if (k == NameKind.free && env.scope.kind == .function && env.kindOf n == some .cell)=true then (n,NameKind.cell) else (n,k))::_)=_\/List.lookup x ((if (k == NameKind.free && env.scope.kind == .function && env.kindOf n == some .cell)=true then (n,NameKind.cell) else (n,k))::_)=_
  cases hx:x == n with
  | true=>
   simp only [List.lookup_cons,hx] at h
   cases h
   by_cases hc:(NameKind.free == NameKind.free && env.scope.kind == .function && env.kindOf n == some .cell)=true
   ·rw [if_pos hc];left;simp only [List.lookup_cons,hx]
   ·rw [if_neg hc];right;simp only [List.lookup_cons,hx]
  | false=>
   simp only [List.lookup_cons,hx] at h
   by_cases hc:(k == NameKind.free && env.scope.kind == .function && env.kindOf n == some .cell)=true
   ·rw [if_pos hc];simp only [List.lookup_cons,hx];exact ih h
   ·rw [if_neg hc];simp only [List.lookup_cons,hx];exact ih h
theorem gB {env:Env}:∀{names:List (Str×NameKind)} {x:Str},(∀y∈names,y.2≠NameKind.cell)->
  ((names.map fun (n,k)=>if (k == NameKind.free && env.scope.kind == .function && env.kindOf n == some .cell) then (n,NameKind.cell) else (n,k)).lookup x=some .cell\/
  (names.map fun (n,k)=>if (k == NameKind.free && env.scope.kind == .function && env.kindOf n == some .cell) then (n,NameKind.cell) else (n,k)).lookup x=some .free)->names.lookup x=some .free
 | [],_,_,h=>by simp at h
 | (n,k)::r,x,hn,h=>by
  have ih:=@gB env r x fun y hy=>hn y (List.mem_cons_of_mem _ hy)
  have h':List.lookup x ((if (k == NameKind.free && env.scope.kind == .function && env.kindOf n == some .cell)=true then (n,NameKind.cell) else (n,k))::(r.map fun (n,k)=>if (k == NameKind.free && env.scope.kind == .function && env.kindOf n == some .cell) then (n,NameKind.cell) else (n,k)))=some .cell\/List.lookup x ((if (k == NameKind.free && env.scope.kind == .function && env.kindOf n == some .cell)=true then (n,NameKind.cell) else (n,k))::(r.map fun (n,k)=>if (k == NameKind.free && env.scope.kind == .function && env.kindOf n == some .cell) then (n,NameKind.cell) else (n,k)))=some .free:=h
  cases hx:x == n with
  | true=>
   simp only [List.lookup_cons,hx]
   by_cases hc:(k == NameKind.free && env.scope.kind == .function && env.kindOf n == some .cell)=true
   ·have hk:k=NameKind.free:=by
     rw [Bool.and_eq_true,Bool.and_eq_true] at hc
     simpa using hc.1.1
    rw [hk]
   ·rw [if_neg hc] at h'
    simp only [List.lookup_cons,hx] at h'
    rcases h' with h' | h'
    ·exact absurd (Option.some.inj h') (hn (n,k) List.mem_cons_self)
    ·exact h'
  | false=>
   simp only [List.lookup_cons,hx]
   by_cases hc:(k == NameKind.free && env.scope.kind == .function && env.kindOf n == some .cell)=true
   ·rw [if_pos hc] at h';simp only [List.lookup_cons,hx] at h';exact ih h'
   ·rw [if_neg hc] at h';simp only [List.lookup_cons,hx] at h';exact ih h'
noncomputable def blk (X:Cx)(Nc:List Str)(scope:Scope)(C:Addr)(s₀:Shared)(H₀:Hp)(ex:List Addr):Cx:=
 {X with N:=Nc,s₀:=s₀,H₀:=H₀,env:=compEnvC scope (iH X.env.cells scope.names []) C X.env,outer:=X.stack,ex:=ex,fn:=fun _=>false,pn:=[],xe:=fun _ _=>False}
noncomputable def cN (cm:List (Option Nat))(σ:St):St:=cm.map fun o=>match o with
 | none=>none
 | some i=>(σ[i]?).getD none
def Wk (σ σ':St):Prop:=σ.length=σ'.length/\∀(i:Nat) (v:V),σ[i]?=some (some v)->σ'[i]?=some (some v)
noncomputable def A3 (wi:TI)(g:TG)(tc:TT)(te:TE)(cm:List (Option Nat)):TE:=fun σ H Q=>wi σ H fun J H1=>∃W:Nat->Nat->List V->Hp->Prop,(∃m,W 0 m [] H1)/\∀i m acc H,W i m acc H->
 (J.stop i H/\∀p,H p=none->Q (.ref p) (upd H p (.lst acc)))\/
 (J.go i H/\acc.length < sizeLine/\∀x H',J.yld i H x H'->g x (cN cm σ) H' fun σ2 H2=>Wk (cN cm σ) σ2/\tc σ2 H2 fun b H3=>if b=true then te σ2 H3 fun v H4=>∃m',m' < m/\W (i+1) m' (acc++[v]) H4 else ∃m',m' < m/\W (i+1) m' acc H3)
def PIf (X:Cx)(ifs:List Expr)(t:TT):Prop:=
 ∀(pins:List (Addr×Obj)) (s:Shared) (σ:St) (H:Hp) (Q:Bool->Hp->Prop),Inv X pins σ H s->t σ H Q->
  wpAny (model X.prog X.w) X.A (forIn ifs true fun c r=>if r=true then do let ok ←isTrue c X.env (eval c X.env);pure (ForInStep.yield ok) else pure (ForInStep.yield r)) (TP X pins σ Q) X.xe s
noncomputable def xZ:TT:=fun _ H Q=>Q true H
theorem iQ {X:Cx}:PIf X [] xZ:=fun _ _ σ H _ I h=>wpAny_pure ⟨H,I,h⟩
theorem zN {X:Cx}{c:Expr}{t:TT}(h:PT X c t):PIf X [c] t:=fun pins s σ H Q I q=>wpAny_tests_one (h pins s σ H Q I q)
theorem Inv.track {X:Cx}{pins:List (Addr×Obj)}{σ:St}{H:Hp}{s:Shared}{D:Addr}{o:HO}(I:Inv X pins σ H s)(hn:H D=none)(h0:X.s₀.heap.objs.size<=D)(hL:D≠X.env.locals)
  (hcl:∀x c,X.env.cells.lookup x=some c->c≠D) (hp:∀p∈X.pn++pins,p.1≠D) (new:fN X.prog X.w (upd H D o) s.heap D o):Inv X pins σ (upd H D o) s:=by
 have hb:∀b u,X.s₀.heap.get? b=some u->b≠D:=fun b u e=>Nat.ne_of_lt (Nat.lt_of_lt_of_le (Heap.lt_size e) h0)
 refine ⟨I.ok,I.os,I.bare,⟨I.base.keep,I.base.slot,fun b u e n hx=>?_,I.base.there,fun b xs e=>?_,fun b u xs e=>?_,fun b ps e=>?_⟩,I.loc,I.cell,?_,fun x c e=>?_,fun p hpp=>?_,fun b u e=>?_,I.len⟩
 ·rw [aB (hb b u e)];exact I.base.free b u e n hx
 ·have q:=I.base.tups b xs e;rw [aB (ak q hn)];exact q
 ·have q:=I.base.frzs b u xs e;rw [aB (ak q hn)];exact q
 ·obtain ⟨more,q⟩:=I.base.tbls b ps e;exact ⟨more,by rw [aB (ak q hn)];exact q⟩
 ·rw [aB (Ne.symm hL)];exact I.free
 ·rw [aB (hcl x c e)];exact I.freeC x c e
 ·obtain ⟨a,b,c⟩:=I.pin p hpp
  exact ⟨a,by rw [aB (hp p hpp)];exact b,c⟩
 ·by_cases hb:b=D
  ·subst hb;rw [af] at e;cases e;exact new
  ·rw [aB hb] at e
   exact (I.hok b u e).stay (fun c v _ q=>q) (fun c q=>by rw [aB (ak q hn)];exact q) fun c xs q=>by rw [aB (ak q hn)];exact q
theorem fO {env:Env}{yc:Str}:∀{names:List (Str×NameKind)} {x:Str},(∀z∈names,z.2=NameKind.cell->z.1=yc)->
  ((names.map fun (n,k)=>if (k == NameKind.free && env.scope.kind == .function && env.kindOf n == some .cell) then (n,NameKind.cell) else (n,k)).lookup x=some .cell\/
  (names.map fun (n,k)=>if (k == NameKind.free && env.scope.kind == .function && env.kindOf n == some .cell) then (n,NameKind.cell) else (n,k)).lookup x=some .free)->x=yc\/names.lookup x=some .free
 | [],_,_,h=>by simp at h
 | (n,k)::r,x,hn,h=>by
  have ih:=@fO env yc r x fun y hy=>hn y (List.mem_cons_of_mem _ hy)
  have h':List.lookup x ((if (k == NameKind.free && env.scope.kind == .function && env.kindOf n == some .cell)=true then (n,NameKind.cell) else (n,k))::(r.map fun (n,k)=>if (k == NameKind.free && env.scope.kind == .function && env.kindOf n == some .cell) then (n,NameKind.cell) else (n,k)))=some .cell\/List.lookup x ((if (k == NameKind.free && env.scope.kind == .function && env.kindOf n == some .cell)=true then (n,NameKind.cell) else (n,k))::(r.map fun (n,k)=>if (k == NameKind.free && env.scope.kind == .function && env.kindOf n == some .cell) then (n,NameKind.cell) else (n,k)))=some .free:=h
  cases hx:x == n with
  | true=>
   simp only [List.lookup_cons,hx]
   by_cases hc:(k == NameKind.free && env.scope.kind == .function && env.kindOf n == some .cell)=true
   ·have hk:k=NameKind.free:=by
     rw [Bool.and_eq_true,Bool.and_eq_true] at hc
     simpa using hc.1.1
    rw [hk];exact .inr rfl
   ·rw [if_neg hc] at h'
    simp only [List.lookup_cons,hx] at h'
    rcases h' with h' | h'
    ·have e:=hn (n,k) List.mem_cons_self (Option.some.inj h')
     have:x=n:=by simpa using hx
     exact .inl (this.trans e)
    ·exact .inr h'
  | false=>
   simp only [List.lookup_cons,hx]
   by_cases hc:(k == NameKind.free && env.scope.kind == .function && env.kindOf n == some .cell)=true
   ·rw [if_pos hc] at h';simp only [List.lookup_cons,hx] at h';exact ih h'
   ·rw [if_neg hc] at h';simp only [List.lookup_cons,hx] at h';exact ih h'
noncomputable def fV (yo:Option Str)(C:Addr)(cl:List (Str×Addr)):List (Str×Addr):=match yo with | some yc=>(yc,C+1)::cl | none=>cl
noncomputable def fnG (yo:Option Str):Str->Bool:=match yo with | some yc=>fun x=>x == yc | none=>fun _=>false
noncomputable def FI (X:Cx)(Nc:List Str)(scope:Scope)(yo:Option Str)(C:Addr)(s₀:Shared)(H₀:Hp)(ex:List Addr):Cx:=
 {X with N:=Nc,s₀:=s₀,H₀:=H₀,env:=compEnvC scope (fV yo C (iH X.env.cells scope.names [])) C X.env,outer:=X.stack,ex:=ex,fn:=fnG yo,pn:=[],xe:=fun _ _=>False}
theorem uB {yo:Option Str}{C:Addr}{cl:List (Str×Addr)}{x:Str}(h:yo≠some x):(fV yo C cl).lookup x=cl.lookup x:=by
 cases yo with
 | none=>rfl
 | some yc=>show List.lookup x ((yc,C+1)::cl)=_;rw [List.lookup_cons,show (x == yc)=false by simpa using fun z=>h (by rw [z])]
theorem EJ {yo:Option Str}{C c:Addr}{cl:List (Str×Addr)}{x:Str}(e:(fV yo C cl).lookup x=some c):(yo=some x/\c=C+1)\/(yo≠some x/\cl.lookup x=some c):=by
 by_cases h:yo=some x
 ·rw [h] at e
  have e':List.lookup x ((x,C+1)::cl)=some c:=e
  rw [List.lookup_cons] at e'
  simp at e'
  exact .inl ⟨h,e'.symm⟩
 ·rw [uB h] at e
  exact .inr ⟨h,e⟩
theorem KC {yo:Option Str}{x:Str}(e:fnG yo x=true):yo=some x:=by
 cases yo with
 | none=>cases e
 | some yc=>rw [show x=yc from eq_of_beq e]
theorem mT {env:Env}{yo:Option Str}{names:List (Str×NameKind)}{x:Str}(hn:∀z∈names,z.2=NameKind.cell->yo=some z.1)
  (h:(names.map fun (n,k)=>if (k == NameKind.free && env.scope.kind == .function && env.kindOf n == some .cell) then (n,NameKind.cell) else (n,k)).lookup x=some .cell\/
  (names.map fun (n,k)=>if (k == NameKind.free && env.scope.kind == .function && env.kindOf n == some .cell) then (n,NameKind.cell) else (n,k)).lookup x=some .free):yo=some x\/names.lookup x=some .free:=by
 cases yo with
 | none=>exact .inr (gB (fun y hy e=>by cases hn y hy e) h)
 | some yc=>exact (fO (fun z hz e=>(Option.some.inj (hn z hz e)).symm) h).imp (fun e=>by rw [e]) id
section
variable {X:Cx}
theorem y0 {tg iter elt:Expr}{ifs:List Expr}{scope:Scope}{pos:Pos}{Nc:List Str}{cm:List (Option Nat)}{g:TG}{tc:TT}{te:TE}{yo:Option Str}{pins:List (Addr×Obj)}{σ:St}{it:Addr}{fp:List Addr}{tn:Nat->Heap->Prop}{J:It}{H2:Hp}{s2:Shared}{W:Nat->Nat->List V->Hp->Prop}{m0:Nat}{h₁:Heap}{QV:VK}{use:Option (Value->Sem Unit)}{R:Value->Shared->Prop}
  (hc:X.calm=true) (hkind:scope.kind=.function) (hcell:∀z∈scope.names,z.2=.cell->yo=some z.1) (hyc:∀yc,yo=some yc->scope.names.lookup yc=some .cell)
  (hfr:∀y∈scope.names,y.2=.free->∃c,X.env.cells.lookup y.1=some c) (hlen:cm.length=Nc.length)
  (hcm:∀(j:Nat) (x:Str) (i:Nat),Nc[j]?=some x->cm[j]?=some (some i)->X.N[i]?=some x/\scope.names.lookup x=some .free/\(X.env.kindOf x=some .cell\/X.env.kindOf x=some .free))
  (hg:∀C s₀ H₀ ex,PG (FI X Nc scope yo C s₀ H₀ ex) tg g) (ht:∀C s₀ H₀ ex,PIf (FI X Nc scope yo C s₀ H₀ ex) ifs tc) (he:∀C s₀ H₀ ex,PE (FI X Nc scope yo C s₀ H₀ ex) elt te)
  (I2:Inv X pins σ H2 s2) (T:Et X.prog X.w X.K tg J fp it tn) (st2:tn 0 s2.heap) (f2:∀b∈fp,ux X pins H2 b) (w0:W 0 m0 [] H2)
  (turn:∀i m acc H,W i m acc H->(J.stop i H/\∀p,H p=none->QV (.ref p) (upd H p (.lst acc)))\/(J.go i H/\acc.length < sizeLine/\∀x H',J.yld i H x H'->g x (cN cm σ) H' fun σ2 H2=>Wk (cN cm σ) σ2/\tc σ2 H2 fun b H3=>if b=true then te σ2 H3 fun v H4=>∃m',m' < m/\W (i+1) m' (acc++[v]) H4 else ∃m',m' < m/\W (i+1) m' acc H3))
  (hns₁:h₁.Ns (s2.heap.push {cls:=.type "list",dict:=none,data:=.seq ([]:List Value).toArray}).objs.size fun _=>none) (keep1:∀b u,(s2.heap.push {cls:=.type "list",dict:=none,data:=.seq ([]:List Value).toArray}).get? b=some u->h₁.get? b=some u)
  (hcl₁:∀yc,yo=some yc->h₁.IsCell ((s2.heap.push {cls:=.type "list",dict:=none,data:=.seq ([]:List Value).toArray}).objs.size+1) none)
  (fin:∀(s6:Shared) (H5:Hp) (acc:List V) (m:Str->Option Value),s6.heap.Ns (s2.heap.push {cls:=.type "list",dict:=none,data:=.seq ([]:List Value).toArray}).objs.size m->ux X pins (upd H5 s2.heap.objs.size (.lst acc)) (s2.heap.push {cls:=.type "list",dict:=none,data:=.seq ([]:List Value).toArray}).objs.size->
   (∀h',Heap.SameBut (s2.heap.push {cls:=.type "list",dict:=none,data:=.seq ([]:List Value).toArray}).objs.size s6.heap h'->Inv X pins σ (upd H5 s2.heap.objs.size (.lst acc)) {s6 with heap:=h'})->QV (.ref s2.heap.objs.size) (upd H5 s2.heap.objs.size (.lst acc))->
   ∀fl,compPost (model X.prog X.w) X.A X.xe use R (.ref s2.heap.objs.size) (s2.heap.push {cls:=.type "list",dict:=none,data:=.seq ([]:List Value).toArray}).objs.size (.ok fl) s6) :
  codeAny (model X.prog X.w) X.A (.compStart (.ListComp elt [⟨tg,iter,ifs,0⟩] scope pos) 0 (.ref it) (.ref s2.heap.objs.size) (compEnvC scope (fV yo (s2.heap.push {cls:=.type "list",dict:=none,data:=.seq ([]:List Value).toArray}).objs.size (iH X.env.cells scope.names [])) (s2.heap.push {cls:=.type "list",dict:=none,data:=.seq ([]:List Value).toArray}).objs.size X.env))
   (compPost (model X.prog X.w) X.A X.xe use R (.ref s2.heap.objs.size) (s2.heap.push {cls:=.type "list",dict:=none,data:=.seq ([]:List Value).toArray}).objs.size) {s2 with heap:=h₁,toks:=s2.toks+([]:List (Str×Value)).length}:=by
 have hk3:∀b u,s2.heap.get? b=some u->(s2.heap.push {cls:=.type "list",dict:=none,data:=.seq ([]:List Value).toArray}).get? b=some u:=fun b u q=>Heap.get?_push_of_some _ q
 have I3:Inv X pins σ H2 {s2 with heap:=s2.heap.push {cls:=.type "list",dict:=none,data:=.seq ([]:List Value).toArray},toks:=s2.toks}:=I2.kept hk3
 have hD3:(s2.heap.push {cls:=.type "list",dict:=none,data:=.seq ([]:List Value).toArray}).get? s2.heap.objs.size=some {cls:=.type "list",data:=.seq ([]:List Value).toArray}:=Heap.get?_push_size _ rfl
 have hCs:(s2.heap.push {cls:=.type "list",dict:=none,data:=.seq ([]:List Value).toArray}).objs.size=s2.heap.objs.size+1:=Heap.size_push _ _
 have hDn:H2 s2.heap.objs.size=none:=I2.hok.fresh (Nat.le_refl _)
 have st3:tn 0 (s2.heap.push {cls:=.type "list",dict:=none,data:=.seq ([]:List Value).toArray}):=T.keep _ _ _ st2 fun b _ o q=>hk3 b o q
 have fpD:∀b∈fp,b < s2.heap.objs.size:=fun b hb=>by
  obtain ⟨o,e,_⟩:=T.obj _ _ st2 b hb
  exact Heap.lt_size e
 have DX:ux X pins H2 s2.heap.objs.size:=I2.fpOk (Nat.le_refl _) hDn
 generalize hs3:s2.heap.push {cls:=.type "list",dict:=none,data:=.seq ([]:List Value).toArray}=h3 at *
 generalize hDg:s2.heap.objs.size=D at *
 have exX:∀b∈D::fp,ux X pins H2 b:=fun b hb=>by
  rcases List.mem_cons.mp hb with z | z
  ·rw [z];exact DX
  ·exact f2 b z
 have exC:∀b∈D::fp,b < h3.objs.size:=fun b hb=>by
  rcases List.mem_cons.mp hb with z | z
  ·rw [z,hCs];exact Nat.lt_succ_self _
  ·rw [hCs];exact Nat.lt_succ_of_lt (fpD b z)
 have exS:∀b∈D::fp,b∉frs X.stack:=fun b hb z=>by
  obtain ⟨_,n1,n2,_⟩:=exX b hb
  rcases List.mem_cons.mp (I2.stkSub b z) with y | y
  ·exact n1 y
  ·exact n2 y
 have clo:∀x c,(iH X.env.cells scope.names []).lookup x=some c->X.env.cells.lookup x=some c:=fun x c e=>vV (acc:=[]) (fun _ _ z=>by simp at z) e
 have ltX:∀x c,X.env.cells.lookup x=some c->c < h3.objs.size:=fun x c e=>by
  obtain ⟨v,z⟩:=I3.cell x c e
  exact z.lt
 have cloC:∀x c,(fV yo h3.objs.size (iH X.env.cells scope.names [])).lookup x=some c->(yo=some x/\c=h3.objs.size+1)\/(yo≠some x/\X.env.cells.lookup x=some c):=fun x c e=>(EJ e).imp id fun h=>⟨h.1,clo x c h.2⟩
 have cellne:∀b,b < h3.objs.size->(∀x c,X.env.cells.lookup x=some c->c≠b)->∀x c,(fV yo h3.objs.size (iH X.env.cells scope.names [])).lookup x=some c->c≠b:=fun b hb hn x c e=>by
  rcases cloC x c e with ⟨_,z⟩ | ⟨_,z⟩
  ·rw [z];exact Nat.ne_of_gt (Nat.lt_succ_of_lt hb)
  ·exact hn x c z
 let s3:Shared:={s2 with heap:=h3}
 let X':Cx:=FI X Nc scope yo h3.objs.size s3 H2 (D::fp)
 have hX':X'=FI X Nc scope yo h3.objs.size s3 H2 (D::fp):=rfl
 have okX:X'.Ok:=by
  refine ⟨I3.ok.mod,hkind,I3.ok.glob,I3.ok.blt,Nat.le_refl _,fun x y c e1 e2=>(by
   rcases cloC x c e1 with ⟨a1,a2⟩ | ⟨_,a2⟩
   ·rcases cloC y c e2 with ⟨b1,b2⟩ | ⟨_,b2⟩
    ·exact Option.some.inj (a1.symm.trans b1)
    ·exact absurd (ltX y c b2) (by rw [a2];exact Nat.not_lt.mpr (Nat.le_succ _))
   ·rcases cloC y c e2 with ⟨b1,b2⟩ | ⟨_,b2⟩
    ·exact absurd (ltX x c a2) (by rw [b2];exact Nat.not_lt.mpr (Nat.le_succ _))
    ·exact I3.ok.inj x y c a2 b2),fun x hx=>?_,fun x c e z=>(cloC x c z).elim (fun h=>by rw [h.2];exact Nat.le_succ _) (fun h=>absurd (KC e) h.1),I3.ok.hd,I3.ok.frames,.inl rfl,fun b hb=>⟨Nat.ne_of_lt (exC b hb),cellne b (exC b hb) (exX b hb).2.2.2.2.1⟩,
   I3.bs,?_,fun b o e hb=>?_,exS,I3.stack,I3.stkFree⟩
  ·rcases mT (env:=X.env) hcell hx with hx' | hx'
   ·exact ⟨h3.objs.size+1,by show List.lookup x (fV yo h3.objs.size _)=_;rw [hx'];show List.lookup x ((x,h3.objs.size+1)::_)=_;rw [List.lookup_cons];simp⟩
   have hmem:(x,NameKind.free)∈scope.names:=by
    have:∀(l:List (Str×NameKind)),l.lookup x=some .free->(x,NameKind.free)∈l:=by
     intro l
     induction l with
     | nil=>intro z;simp at z
     | cons a r ih=>
      obtain ⟨n,k⟩:=a
      intro z
      rw [List.lookup_cons] at z
      split at z
      ·rename_i y
       have yn:x=n:=by simpa using y
       cases z
       rw [yn];exact List.mem_cons_self
      ·exact List.mem_cons_of_mem _ (ih z)
    exact this _ hx'
   have nx:yo≠some x:=fun z=>by rw [hyc x z] at hx';cases hx'
   obtain ⟨c,hc⟩:=mS (acc:=[]) hx' (hfr (x,.free) hmem rfl)
   exact ⟨c,by show List.lookup x (fV yo _ _)=_;rw [uB nx];exact hc⟩
  ·exact Nat.le_trans I3.ok.bsz I3.sz
  ·rcases (exX b hb).2.2.2.1 with z | z
   ·exact I3.ok.noex b o e z
   ·exact absurd (Nat.lt_of_lt_of_le (Heap.lt_size (I3.ok.bs b o e).1) z) (Nat.lt_irrefl _)
 have hσl:(cN cm σ).length=Nc.length:=by
  unfold cN
  rw [WB];exact hlen
 have I4:Inv X' [] (cN cm σ) H2 {s2 with heap:=h₁,toks:=s2.toks+([]:List (Str×Value)).length}:=by
  refine ⟨okX,rfl,I3.bare,Un.kept keep1,⟨_,hns₁,fun j x v e1 e2 e3=>?_⟩,fun x c e=>?_,?_,fun x c e=>(cloC x c e).elim (fun h=>by rw [h.2];exact I3.hok.fresh (Nat.le_succ _)) (fun h=>I3.freeC x c h.2),(fun p hp=>absurd (show p∈([]:List (Addr×Obj)) from hp) (by simp)),I3.hok.kept keep1,hσl⟩
  ·have e2':∃i,cm[j]?=some (some i)/\σ[i]?=some (some v):=by
    unfold cN at e2
    rw [List.getElem?_map] at e2
    cases q:cm[j]? with
    | none=>rw [q] at e2;simp at e2
    | some o=>
     rw [q] at e2
     cases o with
     | none=>simp at e2
     | some i=>
      refine ⟨i,rfl,?_⟩
      simp only [Option.map_some,Option.some.injEq] at e2
      cases q2:σ[i]? with
      | none=>rw [q2] at e2;simp at e2
      | some o2=>rw [q2] at e2;simp at e2;rw [e2]
   obtain ⟨i,ej,ei⟩:=e2'
   obtain ⟨n1,n2,n3⟩:=hcm j x i e1 ej
   obtain ⟨m,hn,hl⟩:=I3.loc
   have n3':Vis X.env.scope x:=by
    rcases n3 with z | z
    ·exact .inr (.inl z)
    ·exact .inr (.inr z)
   obtain ⟨u,r,l⟩:=hl i x v n1 ei n3'
   refine ⟨u,r,?_⟩
   rcases l with ⟨l,_⟩ | ⟨_,c,ec,ic⟩
   ·rcases n3 with z | z
    ·rw [l] at z;cases z
    ·rw [l] at z;cases z
   ·obtain ⟨c',ec'⟩:=mS (cells:=X.env.cells) (acc:=[]) n2 ⟨c,ec⟩
    have hcc:=clo x c' ec'
    rw [ec] at hcc;cases hcc
    obtain ⟨oc,hoc,hdc⟩:=ic
    have nx:yo≠some x:=fun z=>by rw [hyc x z] at n2;cases n2
    refine .inr ⟨?_,c,(by show List.lookup x (fV yo _ _)=_;rw [uB nx];exact ec'),oc,keep1 _ _ hoc,hdc⟩
    exact gA (env:=X.env) n2
  ·rcases cloC x c e with ⟨z0,z⟩ | ⟨_,z⟩
   ·rw [z];exact ⟨none,hcl₁ _ z0⟩
   ·obtain ⟨v,oc,hoc,hdc⟩:=I3.cell x c z
    exact ⟨v,oc,keep1 _ _ hoc,hdc⟩
  ·exact I3.hok.fresh (Nat.le_refl _)
 have stat:∀{H':Hp} {pl:List (Addr×Obj)},(∀b∈fp,H' b=none)->(∀p∈pl,p.1=D)->∀b∈fp,ux X' pl H' b:=fun {H' pl} hn hpl b hb=>
  ⟨hn b hb,Nat.ne_of_lt (exC b (List.mem_cons_of_mem _ hb)),exS b (List.mem_cons_of_mem _ hb),.inl (List.mem_cons_of_mem _ hb),cellne b (exC b (List.mem_cons_of_mem _ hb)) (f2 b hb).2.2.2.2.1,fun p hp z=>by
   have:p∈pl:=(List.mem_append.mp hp).elim (fun z=>absurd (show p∈([]:List (Addr×Obj)) from z) (by simp)) fun z=>z
   have e:=hpl p this
   rw [e] at z
   exact absurd (fpD b hb) (by rw [←z];exact Nat.lt_irrefl _)⟩
 have hDC:D≠h3.objs.size:=by rw [hCs];exact Nat.ne_of_lt (Nat.lt_succ_self _)
 have hDs:D∉frs X.stack:=exS D List.mem_cons_self
 have loop:∀s5:Shared,s5={s2 with heap:=h₁,toks:=s2.toks+([]:List (Str×Value)).length}->
   codeAny (model X.prog X.w) X.A (.compLoop (.ListComp elt [⟨tg,iter,ifs,0⟩] scope pos) 0 (.ref it) (.ref D) (compEnvC scope (fV yo h3.objs.size (iH X.env.cells scope.names [])) h3.objs.size X.env))
    (compPost (model X.prog X.w) X.A X.xe use R (.ref D) h3.objs.size) s5:=by
  rintro s5 rfl
  refine codeAny_loop rfl (fun n s'=>∃i acc its k H',Inv X' [] (cN cm σ) H' s'/\tn i s'.heap/\(∀b∈fp,H' b=none)/\s'.heap.get? D=some {cls:=.type "list",data:=.seq (List.toArray its) k}/\H' D=none/\bF acc its/\acc.length<=sizeLine/\W i n acc H') (fun n s' hI=>?_) m0
   ⟨0,[],[],0,H2,I4,T.keep _ _ _ st3 fun b _ o q=>keep1 b o q,fun b hb=>(f2 b hb).1,keep1 _ _ hD3,hDn,.nil,Nat.zero_le _,w0⟩
  obtain ⟨i,acc,its,k,H5,J5,t5,fr5,d5,dn5,va5,ac5,w5⟩:=hI
  show wpAny _ X.A ((compTurn (.ListComp elt [⟨tg,iter,ifs,0⟩] scope pos) 0 (.ref it) (.ref D) (compEnvC scope (fV yo h3.objs.size (iH X.env.cells scope.names [])) h3.objs.size X.env)).onRaise (fun x=>do noteFrame x (compEnvC scope (fV yo h3.objs.size (iH X.env.cells scope.names [])) h3.objs.size X.env);theTreesLotGoes x)) _ _ s'
  refine wpAny_noted ?_
  rw [compTurn_list]
  have nocell:∀v,({cls:=.type "list",data:=.seq (List.toArray its) k}:Obj).data≠.cell v:=fun v z=>nomatch z
  have P5:Inv X' [(D,{cls:=.type "list",data:=.seq (List.toArray its) k})] (cN cm σ) H5 s':=J5.pins_of fun p hp=>by
   have e:p=(D,{cls:=.type "list",data:=.seq (List.toArray its) k}):=by simpa using hp
   subst e
   exact ⟨d5,dn5,hDC,hDs,nocell⟩
  have pl1:∀p∈[((D,{cls:=.type "list",data:=.seq (List.toArray its) k}):Addr×Obj)],p.1=D:=fun p hp=>by
   have e:p=(D,{cls:=.type "list",data:=.seq (List.toArray its) k}):=by simpa using hp
   rw [e]
  rcases turn i n acc H5 w5 with ⟨stop,qn⟩ | ⟨go,hsz,step⟩
  ·refine wpAny_bind (wpAny_standAt (wpAny_bind (wpAny_mono (T.done X' rfl rfl rfl hc i _ s' _ H5 (fun _ _=>False) P5 (stat fr5 pl1) t5 stop) (fun r s6 ⟨hr,J6⟩=>?_) fun _ _ f=>f.elim)))
   subst hr
   refine wpAny_pure ?_
   obtain ⟨mC,hnC,_⟩:=J6.loc
   have hCn:H5 h3.objs.size=none:=J6.free
   obtain ⟨dg,dg2,_⟩:=J6.pin (D,{cls:=.type "list",data:=.seq (List.toArray its) k}) (by simp)
   refine fin s6 H5 acc mC hnC (I3.fpOk (b:=h3.objs.size) (H':=upd H5 D (.lst acc)) (Nat.le_refl _) (by rw [aB (Ne.symm hDC)];exact hCn)) (fun h' hsb=>?_) (qn D dg2) _
   have toh:∀b u,b≠h3.objs.size->s6.heap.get? b=some u->h'.get? b=some u:=fun b u hb q=>(hsb.2 b hb).trans q
   have hok':HOk X.prog X.w H5 h':=fun a o e=>(J6.hok a o e).stay (fun b u hb q=>toh b u (by
    rintro rfl
    rcases hb with z | z
    ·rw [←z,hCn] at e;cases e
    ·rw [hCn] at z;cases z) q) (fun _ q=>q) fun _ _ q=>q
   have ltC:∀{b:Addr} {u:Obj},h3.get? b=some u->b≠h3.objs.size:=fun q=>Nat.ne_of_lt (Heap.lt_size q)
   have un':Un (frs X.stack) (D::fp) H2 H5 h3 h':=by
    have u:=J6.base
    refine ⟨fun b o e n hb hx=>toh b o (ltC e) (u.keep b o e n hb hx),fun b o e n hb hx=>?_,u.free,fun b o e hx=>?_,u.tups,u.frzs,u.tbls⟩
    ·obtain ⟨sl,q⟩:=u.slot b o e n hb hx
     exact ⟨sl,toh b _ (ltC e) q⟩
    ·obtain ⟨o',q⟩:=u.there b o e hx
     exact ⟨o',toh b _ (ltC e) q⟩
   have J7:Inv X pins σ H5 {s6 with heap:=h'}:=Inv.call' (s':={s6 with heap:=h'}) (ch:=D::fp) I3 J6.os un' hok' J6.bare fun b hb=>by
    obtain ⟨_,n1,n2,n3,n4,n5⟩:=exX b hb
    exact ⟨n3,n1,n4,n5⟩
   obtain ⟨_,n1,n2,n3,n4,n5⟩:=exX D List.mem_cons_self
   have n3':X.s₀.heap.objs.size<=D:=by
    have:=I2.sz
    rw [hDg] at this
    exact this
   exact J7.track (o:=.lst acc) dg2 n3' n1 n4 n5 ⟨ac5,its,k,va5,toh _ _ hDC dg⟩
  ·refine wpAny_bind (wpAny_standAt (wpAny_bind (wpAny_mono (T.item X' rfl rfl rfl hc i _ s' _ H5 (fun _ _=>False) P5 (stat fr5 pl1) t5 go) (fun r s6 ⟨u,hr,h6⟩=>?_) fun _ _ f=>f.elim)))
   subst hr
   refine wpAny_bind (wpAny_mono h6 (fun _ s7 ⟨x,H7,J7,r7,y7,t7,fr7⟩=>?_) fun _ _ f=>f.elim)
   have P7:=J7.pinned (stat fr7 pl1) (T.obj _ _ t7)
   refine wpAny_bind (wpAny_mono (hg _ _ _ _ _ s7 _ H7 x u _ P7 r7 (step x H7 y7)) (fun _ s8 ⟨σ8,H8,J8,wk8,q8⟩=>?_) fun _ _ f=>f.elim)
   refine wpAny_bind (wpAny_mono (ht _ _ _ _ _ s8 σ8 H8 _ J8 q8) (fun b s9 ⟨H9,J9,q9⟩=>?_) fun _ _ f=>f.elim)
   have back:∀{Ha:Hp} {sa:Shared},Inv X' ([(D,{cls:=.type "list",data:=.seq (List.toArray its) k})]++we fp s7.heap) σ8 Ha sa->
     Inv X' [] (cN cm σ) Ha sa/\tn (i+1) sa.heap/\(∀b∈fp,Ha b=none)/\sa.heap.get? D=some {cls:=.type "list",data:=.seq (List.toArray its) k}/\Ha D=none:=fun {Ha sa} Ja=>by
    refine ⟨(Ja.weak wk8.1 wk8.2).pins_of fun p hp=>absurd hp (by simp),T.keep _ _ _ t7 fun b hb o e=>(Ja.pin (b,o) (List.mem_append_right _ (List.mem_append_right _ (kG hb e)))).1,fun b hb=>?_,?_⟩
    ·obtain ⟨o,e,d⟩:=T.obj _ _ t7 b hb
     exact (Ja.pin (b,o) (List.mem_append_right _ (List.mem_append_right _ (kG hb e)))).2.1
    ·obtain ⟨z1,z2,_⟩:=Ja.pin (D,{cls:=.type "list",data:=.seq (List.toArray its) k}) (by simp)
     exact ⟨z1,z2⟩
   cases b with
   | false=>
    simp only [Bool.false_eq_true,if_false] at q9 ⊢
    obtain ⟨m',hm,w'⟩:=q9
    obtain ⟨z0,z1,z2,z3,z4⟩:=back J9
    exact wpAny_pure ⟨rfl,m',hm,i+1,acc,its,k,H9,z0,z1,z2,z3,z4,va5,ac5,w'⟩
   | true=>
    simp only [if_true] at q9 ⊢
    refine wpAny_bind (wpAny_bind (wpAny_mono (he _ _ _ _ _ s9 σ8 H9 _ J9 q9) (fun y s10 ⟨v,H10,J10,rv,q10⟩=>wpAny_bind ?_) fun _ _ f=>f.elim))
    obtain ⟨m',hm,w'⟩:=q10
    obtain ⟨z0,z1,z2,z3,z4⟩:=back J10
    have hli:=va5.length
    refine call_meets F.slot_list_append ⟨_,z3,rfl⟩ F.entry_list_append (F.args_list_append_2 _ _) (PySem.list_append D its.toArray k y (by rw [List.size_toArray];omega)) ⟨z3,?_⟩
    obtain ⟨k',q⟩:∃k',(s10.heap.update D (Obj.mapSeq (·.push y))).get? D=some {cls:=.type "list",data:=.seq (List.toArray (its++[y])) k'}:=by
     have q:=PySem.IsL.update z3 (·.push y)
     have e:its.toArray.push y=(its++[y]).toArray:=by simp
     rw [e] at q
     exact ⟨_,q⟩
    refine wpAny_pure (wpAny_pure ⟨rfl,m',hm,i+1,acc++[v],its++[y],k',H10,z0.turned (it:=D) (fun b o hb hu=>(Heap.get?_update_other s10.heap (Obj.mapSeq (·.push y)) (Ne.symm hb)).trans hu) z4 hDC (.inl List.mem_cons_self) (cellne D (exC D List.mem_cons_self) (exX D List.mem_cons_self).2.2.2.2.1) (fun p hp=>absurd (show p∈([]:List (Addr×Obj)) from hp) (by simp)),
     T.keep _ _ _ z1 fun b hb o e=>(Heap.get?_update_other s10.heap (Obj.mapSeq (·.push y)) (Nat.ne_of_gt (fpD b hb))).trans e,z2,q,z4,va5.append (.cons rv .nil),by rw [List.length_append,List.length_singleton];omega,w'⟩)
 exact codeAny_compStart_list (loop _ rfl) (T.self X.A 0 _ _ _ (T.keep _ _ _ st3 fun b _ o q=>keep1 b o q) (loop _ rfl))
theorem HQ {tg iter elt:Expr}{ifs:List Expr}{scope:Scope}{pos:Pos}{Nc:List Str}{cm:List (Option Nat)}{wi:TI}{g:TG}{tc:TT}{te:TE}
  (hc:X.calm=true) (hi:PI X tg iter wi) (hkind:scope.kind=.function) (hcell:∀y∈scope.names,y.2≠.cell) (hnames:∀y∈scope.names,y.2=.local->scope.names.lookup y.1=some .local)
  (hfree:∀y∈scope.names,y.2=.free->X.env.kindOf y.1=some .cell\/X.env.kindOf y.1=some .free) (hlen:cm.length=Nc.length)
  (hcm:∀(j:Nat) (x:Str) (i:Nat),Nc[j]?=some x->cm[j]?=some (some i)->X.N[i]?=some x/\scope.names.lookup x=some .free/\(X.env.kindOf x=some .cell\/X.env.kindOf x=some .free))
  (hg:∀C s₀ H₀ ex,PG (blk X Nc scope C s₀ H₀ ex) tg g) (ht:∀C s₀ H₀ ex,PIf (blk X Nc scope C s₀ H₀ ex) ifs tc) (he:∀C s₀ H₀ ex,PE (blk X Nc scope C s₀ H₀ ex) elt te)
  (hs:∀x,foldedSetIterable iter X.env x=pure x:=by intro _;rfl):PE X (.ListComp elt [⟨tg,iter,ifs,0⟩] scope pos) (A3 wi g tc te cm):=by
 intro pins s σ H Q I h
 rw [eval_ListComp]
 have hfr:∀y∈scope.names,y.2=.free->∃c,X.env.cells.lookup y.1=some c:=fun y hy e=>I.ok.has y.1 (hfree y hy e)
 refine wpAny_comprehension_free (use:=none) rfl hs (mR hfr) hkind hnames (thn (hi pins s σ H _ I h) fun v s1 h1=>thn h1 fun itv s2 h2=>?_)
 obtain ⟨it,fp,tn,J,H2,e,I2,T,st2,f2,W,⟨m0,w0⟩,turn⟩:=h2
 subst e
 refine wpAny_newObj_type (wpAny_newFunctionEnv hcell (by intro y hy;simp at hy) (fun h₁ hns₁ hsb₁=>?_) hkind)
 dsimp only at hns₁ hsb₁ ⊢
 have keepA:∀b u,(s2.heap.push {cls:=.type "list",dict:=none,data:=.seq ([]:List Value).toArray}).get? b=some u->h₁.get? b=some u:=fun b u q=>(hsb₁.2 b (Nat.ne_of_lt (Heap.lt_size q))).trans (Heap.get?_push_of_some _ q)
 exact y0 (yo:=none) hc hkind (fun z hz e=>absurd e (hcell z hz)) (fun _ e=>by cases e) hfr hlen hcm hg ht he I2 T st2 f2 w0 turn hns₁ keepA (fun _ e=>by cases e) fun s6 H5 acc m hm _ J qn _=>⟨m,hm,fun h' hsb=>⟨.ref s2.heap.objs.size,_,J h' hsb,rfl,qn⟩⟩
end
theorem KG {lo:Int}{n:Nat}{g:TG}{tc:TT}{te:TE}{cm:List (Option Nat)}{σ:St}{H:Hp}{Q:VK}(Pv:Nat->List V->Hp->Prop)(h0:Pv 0 [] H)
  (hs:∀i acc H,i < n->Pv i acc H->acc.length < sizeLine/\g (.int (lo+i)) (cN cm σ) H fun σ2 H2=>Wk (cN cm σ) σ2/\tc σ2 H2 fun b H3=>if b=true then te σ2 H3 fun v H4=>Pv (i+1) (acc++[v]) H4 else Pv (i+1) acc H3)
  (mono:∀x σ H N N',(∀σ2 H2,N σ2 H2->N' σ2 H2)->g x σ H N->g x σ H N':=by exact fun _ _ _ _ _ h q=>h _ _ q)
  (monoc:∀σ H N N',(∀b H2,N b H2->N' b H2)->tc σ H N->tc σ H N') (monoe:∀σ H N N',(∀v H2,N v H2->N' v H2)->te σ H N->te σ H N')
  (hd:∀acc H,Pv n acc H->∀p,H p=none->Q (.ref p) (upd H p (.lst acc))) :
  ∃W:Nat->Nat->List V->Hp->Prop,(∃m,W 0 m [] H)/\∀i m acc H,W i m acc H->
   ((Itr lo n).stop i H/\∀p,H p=none->Q (.ref p) (upd H p (.lst acc)))\/
   ((Itr lo n).go i H/\acc.length < sizeLine/\∀x H',(Itr lo n).yld i H x H'->g x (cN cm σ) H' fun σ2 H2=>Wk (cN cm σ) σ2/\tc σ2 H2 fun b H3=>if b=true then te σ2 H3 fun v H4=>∃m',m' < m/\W (i+1) m' (acc++[v]) H4 else ∃m',m' < m/\W (i+1) m' acc H3):=by
 refine ⟨fun i m acc H=>m=n - i/\i<=n/\Pv i acc H,⟨n,by simp,Nat.zero_le _,h0⟩,?_⟩
 rintro i m acc H ⟨rfl,hi,p⟩
 by_cases hlt:i < n
 ·obtain ⟨hz,q⟩:=hs i acc H hlt p
  refine .inr ⟨hlt,hz,fun x H' y=>?_⟩
  obtain ⟨e,y⟩:=y
  subst e y
  refine mono _ _ _ _ _ (fun σ2 H2 ⟨wk,q⟩=>⟨wk,monoc _ _ _ _ (fun b H3 q=>?_) q⟩) q
  cases b with
  | true=>exact monoe _ _ _ _ (fun v H4 q=>⟨n - (i+1),by omega,rfl,hlt,q⟩) q
  | false=>exact ⟨n - (i+1),by omega,rfl,hlt,q⟩
 ·have e:i=n:=by omega
  subst e
  exact .inl ⟨Nat.le_refl _,hd acc H p⟩
theorem wo {lo:Int}{n:Nat}{te:TE}{cm:List (Option Nat)}{σ:St}{H:Hp}{Q:VK}(f:Nat->V)(hn:n<=sizeLine){j:Nat}(hj:(cN cm σ)[j]?=some none)
  (hs:∀i,i < n->∀N:VK,N (f i) H->te ((cN cm σ).set j (some (.int (lo+i)))) H N)
  (hd:∀p,H p=none->Q (.ref p) (upd H p (.lst ((List.range n).map f)))) :
  ∃W:Nat->Nat->List V->Hp->Prop,(∃m,W 0 m [] H)/\∀i m acc H,W i m acc H->
   ((Itr lo n).stop i H/\∀p,H p=none->Q (.ref p) (upd H p (.lst acc)))\/
   ((Itr lo n).go i H/\acc.length < sizeLine/\∀x H',(Itr lo n).yld i H x H'->eX j x (cN cm σ) H' fun σ2 H2=>Wk (cN cm σ) σ2/\xZ σ2 H2 fun b H3=>if b=true then te σ2 H3 fun v H4=>∃m',m' < m/\W (i+1) m' (acc++[v]) H4 else ∃m',m' < m/\W (i+1) m' acc H3):=by
 refine ⟨fun i m acc H'=>m=n - i/\i<=n/\H'=H/\acc=(List.range i).map f,⟨n,by simp,Nat.zero_le _,rfl,rfl⟩,?_⟩
 rintro i m acc H' ⟨rfl,hi,rfl,rfl⟩
 by_cases hlt:i < n
 ·refine .inr ⟨hlt,by rw [WB,List.length_range];omega,fun x H' y=>?_⟩
  obtain ⟨e,y⟩:=y
  subst e y
  refine ⟨⟨by simp,fun k v e=>?_⟩,?_⟩
  ·by_cases hk:j=k
   ·subst hk;rw [hj] at e;cases e
   ·rw [List.getElem?_set_ne hk];exact e
  ·unfold xZ;dsimp only
   split
   ·refine hs i hlt _ ⟨n - (i+1),by omega,rfl,hlt,rfl,?_⟩
    rw [List.range_succ,List.map_append];rfl
   ·rename_i z;exact absurd rfl z
 ·have e:i=n:=by omega
  subst e
  exact .inl ⟨Nat.le_refl _,hd⟩
theorem yb {K:WA}{a:Addr}{xs:List V}{tc:TT}{te:TE}{cm:List (Option Nat)}{σ:St}{H:Hp}{Q:VK}(p:V->Bool)(f:V->V)(hl:SqL K H a xs)(hn:xs.length<=sizeLine){j:Nat}(hj:(cN cm σ)[j]?=some none)
  (hc:∀x,x∈xs->∀N:Bool->Hp->Prop,N (p x) H->tc ((cN cm σ).set j (some x)) H N)
  (hs:∀x,x∈xs->p x=true->∀N:VK,N (f x) H->te ((cN cm σ).set j (some x)) H N)
  (hd:∀b,H b=none->Q (.ref b) (upd H b (.lst ((xs.filter p).map f)))) :
  ∃W:Nat->Nat->List V->Hp->Prop,(∃m,W 0 m [] H)/\∀i m acc H,W i m acc H->
   ((Itl K a).stop i H/\∀p,H p=none->Q (.ref p) (upd H p (.lst acc)))\/
   ((Itl K a).go i H/\acc.length < sizeLine/\∀x H',(Itl K a).yld i H x H'->eX j x (cN cm σ) H' fun σ2 H2=>Wk (cN cm σ) σ2/\tc σ2 H2 fun b H3=>if b=true then te σ2 H3 fun v H4=>∃m',m' < m/\W (i+1) m' (acc++[v]) H4 else ∃m',m' < m/\W (i+1) m' acc H3):=by
 refine ⟨fun i m acc H'=>m=xs.length - i/\i<=xs.length/\H'=H/\acc=((xs.take i).filter p).map f,⟨xs.length,by simp,Nat.zero_le _,rfl,by simp⟩,?_⟩
 rintro i m acc H' ⟨rfl,hi,rfl,rfl⟩
 by_cases hlt:i < xs.length
 ·have hx:xs[i]?=some xs[i]:=by simp [hlt]
  have hle:(((xs.take i).filter p).map f).length < sizeLine:=by
   rw [WB]
   have:=List.length_filter_le p (xs.take i)
   rw [List.length_take] at this
   omega
  refine .inr ⟨⟨xs,xs[i],hl,hx⟩,hle,fun x H' y=>?_⟩
  obtain ⟨e,y⟩:=y
  subst e
  have hy:=y xs hl
  rw [hx] at hy;cases hy
  have hmem:xs[i]∈xs:=List.getElem_mem hlt
  refine ⟨⟨by simp,fun k v e=>?_⟩,hc _ hmem _ ?_⟩
  ·by_cases hk:j=k
   ·subst hk;rw [hj] at e;cases e
   ·rw [List.getElem?_set_ne hk];exact e
  ·have hstep:((xs.take (i+1)).filter p).map f=((xs.take i).filter p).map f++(if p xs[i] then [f xs[i]] else []):=by
    rw [take_succ_filter p xs i _ hx,List.map_append]
    cases p xs[i]<;>rfl
   cases hp:p xs[i] with
   | true=>
    refine Me (hs _ hmem hp _ ⟨xs.length - (i+1),by omega,rfl,hlt,rfl,?_⟩)
    rw [hstep,hp];rfl
   | false=>
    refine Md ⟨xs.length - (i+1),by omega,rfl,hlt,rfl,?_⟩
    rw [hstep,hp];simp
 ·have e:i=xs.length:=by omega
  subst e
  refine .inl ⟨⟨xs,hl,Nat.le_refl _⟩,?_⟩
  rw [List.take_length]
  exact hd
theorem sr {lo:Int}{n:Nat}{tc:TT}{te:TE}{cm:List (Option Nat)}{σ:St}{H:Hp}{Q:VK}(p:Nat->Bool)(f:Nat->V)(hn:n<=sizeLine){j:Nat}(hj:(cN cm σ)[j]?=some none)
  (hc:∀i,i < n->∀N:Bool->Hp->Prop,N (p i) H->tc ((cN cm σ).set j (some (.int (lo+i)))) H N)
  (hs:∀i,i < n->p i=true->∀N:VK,N (f i) H->te ((cN cm σ).set j (some (.int (lo+i)))) H N)
  (hd:∀b,H b=none->Q (.ref b) (upd H b (.lst (((List.range n).filter p).map f)))) :
  ∃W:Nat->Nat->List V->Hp->Prop,(∃m,W 0 m [] H)/\∀i m acc H,W i m acc H->
   ((Itr lo n).stop i H/\∀p,H p=none->Q (.ref p) (upd H p (.lst acc)))\/
   ((Itr lo n).go i H/\acc.length < sizeLine/\∀x H',(Itr lo n).yld i H x H'->eX j x (cN cm σ) H' fun σ2 H2=>Wk (cN cm σ) σ2/\tc σ2 H2 fun b H3=>if b=true then te σ2 H3 fun v H4=>∃m',m' < m/\W (i+1) m' (acc++[v]) H4 else ∃m',m' < m/\W (i+1) m' acc H3):=by
 refine ⟨fun i m acc H'=>m=n - i/\i<=n/\H'=H/\acc=((List.range i).filter p).map f,⟨n,by simp,Nat.zero_le _,rfl,by simp⟩,?_⟩
 rintro i m acc H' ⟨rfl,hi,rfl,rfl⟩
 by_cases hlt:i < n
 ·have hle:(((List.range i).filter p).map f).length < sizeLine:=by
   rw [WB]
   have:=List.length_filter_le p (List.range i)
   rw [List.length_range] at this
   omega
  refine .inr ⟨hlt,hle,fun x H' y=>?_⟩
  obtain ⟨e,y⟩:=y
  subst e y
  refine ⟨⟨by simp,fun k v e=>?_⟩,hc _ hlt _ ?_⟩
  ·by_cases hk:j=k
   ·subst hk;rw [hj] at e;cases e
   ·rw [List.getElem?_set_ne hk];exact e
  ·have hstep:((List.range (i+1)).filter p).map f=((List.range i).filter p).map f++(if p i then [f i] else []):=by
    rw [List.range_succ,List.filter_append,List.map_append]
    cases hp:p i<;>simp [hp]
   cases hp:p i with
   | true=>
    refine Me (hs _ hlt hp _ ⟨n - (i+1),by omega,rfl,hlt,rfl,?_⟩)
    rw [hstep,hp];rfl
   | false=>
    refine Md ⟨n - (i+1),by omega,rfl,hlt,rfl,?_⟩
    rw [hstep,hp];simp
 ·have e:i=n:=by omega
  subst e
  exact .inl ⟨Nat.le_refl _,hd⟩
section
variable {X:Cx}
def JJ (i j:Int):Prop:=0 < j/\j < 2 ^ 200
theorem FJ:OpR X (binaryOp .FloorDiv) (rI JJ fun i j=>.int (i / j)):=opI fun i j _ _ _ _ _ hc q=>by
 have hj:j.natAbs.log2 < 9000:=by
  have h1:j.natAbs < 2 ^ 200:=by have:=hc.2;have:=hc.1;omega
  have h0:j.natAbs≠0:=by have:=hc.1;omega
  exact Nat.lt_of_lt_of_le ((Nat.log2_lt h0).mpr h1) (by decide)
 have e:i.fdiv j=i / j:=Int.fdiv_eq_ediv_of_nonneg _ (Int.le_of_lt hc.1)
 exact floordiv_int (by have:=hc.1;omega) (by rw [e];exact q) (.inl (PyProof.noPylong_of_log2 hj))
end
theorem ck:bootBuiltins "len"=some (.builtin "len"):=by decide +kernel
theorem aU:bootBuiltins "isinstance"=some (.builtin "isinstance"):=by decide +kernel
theorem FK:bootBuiltins "min"=some (.builtin "min"):=by decide +kernel
theorem KH:bootBuiltins "abs"=some (.builtin "abs"):=by decide +kernel
theorem fW:bootBuiltins "int"=some (.type "int"):=by decide +kernel
theorem DN:bootBuiltins "bool"=some (.type "bool"):=by decide +kernel
theorem FL:bootBuiltins "str"=some (.type "str"):=by decide +kernel
theorem dR:bootBuiltins "list"=some (.type "list"):=by decide +kernel
theorem wq:bootBuiltins "tuple"=some (.type "tuple"):=by decide +kernel
theorem KJ:bootBuiltins "zip"=some (.type "zip"):=by decide +kernel
theorem sv:bootBuiltins "enumerate"=some (.type "enumerate"):=by decide +kernel
noncomputable def FN (X:Cx)(scope:Scope):Bool:=scope.names.all fun y=>y.2 != .free || (X.env.kindOf y.1 == some .cell || X.env.kindOf y.1 == some .free)
noncomputable def Mf (X:Cx)(scope:Scope)(Nc:List Str)(cm:List (Option Nat)):Bool:=(Nc.zip cm).all fun p=>match p.2 with
 | none=>true
 | some i=>X.N[i]? == some p.1 && (scope.names.lookup p.1 == some .free && (X.env.kindOf p.1 == some .cell || X.env.kindOf p.1 == some .free))
theorem sy {X:Cx}{tg iter elt:Expr}{ifs:List Expr}{scope:Scope}{pos:Pos}(Nc:List Str)(cm:List (Option Nat)){wi:TI}{g:TG}{tc:TT}{te:TE}
  (hi:PI X tg iter wi) (hg:∀C s₀ H₀ ex,PG (blk X Nc scope C s₀ H₀ ex) tg g) (ht:∀C s₀ H₀ ex,PIf (blk X Nc scope C s₀ H₀ ex) ifs tc) (he:∀C s₀ H₀ ex,PE (blk X Nc scope C s₀ H₀ ex) elt te)
  (hc:X.calm=true:=by rfl) (hkind:scope.kind=.function:=by rfl) (hcell:∀y∈scope.names,y.2≠.cell:=by decide +kernel) (hnames:∀y∈scope.names,y.2=.local->scope.names.lookup y.1=some .local:=by decide +kernel)
  (hfree:FN X scope=true:=by rfl) (hlen:cm.length=Nc.length:=by rfl) (hcm:Mf X scope Nc cm=true:=by rfl)
  (hs:∀x,foldedSetIterable iter X.env x=pure x:=by intro _;rfl):PE X (.ListComp elt [⟨tg,iter,ifs,0⟩] scope pos) (A3 wi g tc te cm):=by
 refine HQ hc hi hkind hcell hnames (fun y hy e=>?_) hlen (fun j x i e1 e2=>?_) hg ht he hs
 ·have h:=List.all_eq_true.mp hfree y hy
  rw [e] at h
  simpa using h
 ·have hj:(Nc.zip cm)[j]?=some (x,some i):=by
   rw [List.getElem?_zip_eq_some];exact ⟨e1,e2⟩
  have h:=List.all_eq_true.mp hcm _ (List.mem_of_getElem? hj)
  simpa using h
theorem KL {CX:CXT}{P:Program}{w:World}{K:WA}{mg:Str->Option Value}{base:Heap}{N:List Str}{qual:Str}{scope:Scope}{f:Addr}{cd:Value}{A:Around}{outer:List Env}{s:Shared}{H:Hp}{E:XK} :
  (xX CX P w K mg base N qual scope f cd A outer s H E).K=K:=rfl
theorem fH {ns:List Int}{k:Int}(h0:0<=k)(h1:k < ns.length):atI (ns.map V.int) k=some (.int (ns.getD k.toNat 0)):=by
 have hl:k.toNat < ns.length:=by omega
 have q:(ns.map V.int)[k.toNat]?=some (.int (ns.getD k.toNat 0)):=by
  rw [List.getElem?_map,List.getD_eq_getElem?_getD,List.getElem?_eq_getElem hl]
  rfl
 have q2:=DJ q
 rw [show ((k.toNat:Nat):Int)=k by omega] at q2
 exact q2
theorem A4 {ns:List Int}{k:Nat}(h1:k < ns.length):atI (ns.map V.int) (k:Int)=some (.int (ns.getD k 0)):=by
 have:=fH (ns:=ns) (k:=(k:Int)) (by omega) (by omega)
 simpa using this
theorem FO {ns:List Int}{k:Nat}(h:ns.length<=k):ns.getD k 0=0:=by
 rw [List.getD_eq_getElem?_getD,List.getElem?_eq_none_iff.mpr h];rfl
structure cn (ds:List Int):Prop where
 l2:2<=ds.length
 l6:ds.length<=6
 lo:∀d∈ds,0<=d
 hi:∀d∈ds,d<=500
 up:ds.Pairwise (· < ·)
theorem cn.get {ds:List Int}(h:cn ds){i:Nat}(hi:i < ds.length):0<=ds.getD i 0/\ds.getD i 0<=500:=by
 rw [List.getD_eq_getElem?_getD,List.getElem?_eq_getElem hi,Option.getD_some]
 exact ⟨h.lo _ (List.getElem_mem hi),h.hi _ (List.getElem_mem hi)⟩
theorem cn.lt {ds:List Int}(h:cn ds){i j:Nat}(hij:i < j)(hj:j < ds.length):ds.getD i 0 < ds.getD j 0:=by
 have hi:i < ds.length:=Nat.lt_trans hij hj
 rw [List.getD_eq_getElem?_getD,List.getElem?_eq_getElem hi,List.getD_eq_getElem?_getD,List.getElem?_eq_getElem hj,Option.getD_some,Option.getD_some]
 exact List.pairwise_iff_getElem.mp h.up i j hi hj hij
noncomputable def cA (ds:List Int):Int:=ds.getD (ds.length - 1) 0
theorem cn.even {n:Nat}{g:Int}(h2:2<=n)(h6:n<=6)(g1:1<=g)(g2:g<=100):cn ((List.range n).map fun (i:Nat)=>g * (i:Int)):=by
 refine ⟨by simpa using h2,by simpa using h6,fun d hd=>?_,fun d hd=>?_,?_⟩
 ·obtain ⟨i,hi,rfl⟩:=List.mem_map.mp hd
  exact Int.mul_nonneg (by omega) (by omega)
 ·obtain ⟨i,hi,rfl⟩:=List.mem_map.mp hd
  have hi':=List.mem_range.mp hi
  have a:g * (i:Int)<=g * 5:=Int.mul_le_mul_of_nonneg_left (by omega) (by omega)
  omega
 ·rw [List.pairwise_map]
  refine List.Pairwise.imp_of_mem (fun {a b} ha hb hab=>?_) List.pairwise_lt_range
  exact Int.mul_lt_mul_of_pos_left (by omega) (by omega)
structure kH (ds:List Int)(l:Int):Prop where
 lo:∀d∈ds,0<=d
 hi:∀d∈ds,d<=l
 up:ds.Pairwise (· < ·)
 l0:-1<=l
theorem kH.nil:kH [] (-1):=⟨by simp,by simp,List.Pairwise.nil,by omega⟩
theorem kH.snoc {ds:List Int}{l r:Int}(h:kH ds l)(h0:0<=r):kH (ds++[l+1+r]) (l+1+r):=by
 have l0:=h.l0
 refine ⟨fun d hd=>?_,fun d hd=>?_,?_,by omega⟩
 ·rcases List.mem_append.mp hd with z | z
  ·exact h.lo d z
  ·have:d=l+1+r:=by simpa using z
   omega
 ·rcases List.mem_append.mp hd with z | z
  ·have:=h.hi d z;omega
  ·have:d=l+1+r:=by simpa using z
   omega
 ·rw [List.pairwise_append]
  refine ⟨h.up,by simp,fun a ha b hb=>?_⟩
  have hb':b=l+1+r:=by simpa using hb
  have:=h.hi a ha;omega
theorem kH.shaft {ds:List Int}{l:Int}(h:kH ds l)(hl:l<=500)(h2:2<=ds.length)(h6:ds.length<=6):cn ds:=
 ⟨h2,h6,h.lo,fun d hd=>Int.le_trans (h.hi d hd) hl,h.up⟩
theorem cn.ends {ds:List Int}(h:cn ds):cn ([0]++(ds.drop 1).take (ds.length - 1 - 1)++[500]):=by
 have l2:=h.l2
 have l6:=h.l6
 have hlen:((ds.drop 1).take (ds.length - 1 - 1)).length=ds.length - 2:=by
  rw [List.length_take,List.length_drop];omega
 have hmem:∀d,d∈(ds.drop 1).take (ds.length - 1 - 1)->0 < d/\d < 500:=fun d hd=>by
  obtain ⟨i,hi,rfl⟩:=List.getElem_of_mem hd
  rw [hlen] at hi
  have e:((ds.drop 1).take (ds.length - 1 - 1))[i]'(by rw [hlen];exact hi)=ds.getD (1+i) 0:=by
   rw [List.getElem_take,List.getElem_drop,List.getD_eq_getElem?_getD,List.getElem?_eq_getElem (by omega)]
   rfl
  rw [e]
  have a:=h.lt (i:=0) (j:=1+i) (by omega) (by omega)
  have b:=h.lt (i:=1+i) (j:=ds.length - 1) (by omega) (by omega)
  have c:=(h.get (i:=0) (by omega)).1
  have d:=(h.get (i:=ds.length - 1) (by omega)).2
  omega
 refine ⟨by simp [hlen]<;>omega,by simp [hlen]<;>omega,fun d hd=>?_,fun d hd=>?_,?_⟩
 ·rcases List.mem_append.mp hd with z | z
  ·rcases List.mem_append.mp z with z | z
   ·have:d=0:=by simpa using z
    omega
   ·have:=hmem d z;omega
  ·have:d=500:=by simpa using z
   omega
 ·rcases List.mem_append.mp hd with z | z
  ·rcases List.mem_append.mp z with z | z
   ·have:d=0:=by simpa using z
    omega
   ·have:=hmem d z;omega
  ·have:d=500:=by simpa using z
   omega
 ·rw [List.pairwise_append,List.pairwise_append]
  refine ⟨⟨by simp,(h.up.drop).take,fun a ha b hb=>?_⟩,by simp,fun a ha b hb=>?_⟩
  ·have ha':a=0:=by simpa using ha
   have:=hmem b hb;omega
  ·have hb':b=500:=by simpa using hb
   rcases List.mem_append.mp ha with z | z
   ·have:a=0:=by simpa using z
    omega
   ·have:=hmem a z;omega
def DO (J:It)(g:TG)(tb:TS)(D:mK)(σ:St)(H1:Hp):Prop:=∃W:Nat->Nat->St->Hp->Prop,(∃m,W 0 m σ H1)/\∀i m σ H,W i m σ H->
 (J.stop i H/\D.nx σ H)\/(J.go i H/\∃N:St->Hp->Prop,(∀σ' H',N σ' H'->∃m',m' < m/\W (i+1) m' σ' H')/\∀x H',J.yld i H x H'->g x σ H' fun σ2 H2=>tb {D with nx:=N,ct:=N,bk:=D.nx} σ2 H2)
theorem HU (wi:TI)(g:TG)(tb:TS)(D:mK)(σ:St)(H:Hp):LO wi g tb D σ H=wi σ H fun J H1=>DO J g tb D σ H1:=rfl
def u9 (J:It)(g:TG)(tc:TT)(te:TE)(cm:List (Option Nat))(σ:St)(Q:VK)(H1:Hp):Prop:=∃W:Nat->Nat->List V->Hp->Prop,(∃m,W 0 m [] H1)/\∀i m acc H,W i m acc H->
 (J.stop i H/\∀p,H p=none->Q (.ref p) (upd H p (.lst acc)))\/
 (J.go i H/\acc.length < sizeLine/\∀x H',J.yld i H x H'->g x (cN cm σ) H' fun σ2 H2=>Wk (cN cm σ) σ2/\tc σ2 H2 fun b H3=>if b=true then te σ2 H3 fun v H4=>∃m',m' < m/\W (i+1) m' (acc++[v]) H4 else ∃m',m' < m/\W (i+1) m' acc H3)
theorem FP (wi:TI)(g:TG)(tc:TT)(te:TE)(cm:List (Option Nat))(σ:St)(H:Hp)(Q:VK):A3 wi g tc te cm σ H Q=wi σ H fun J H1=>u9 J g tc te cm σ Q H1:=rfl
theorem c6 {lo:Int}{n:Nat}{g:TG}{tb:TS}{D:mK}{σ:St}{H:Hp}(Pv:Nat->St->Hp->Prop)(h0:Pv 0 σ H)
  (hs:∀i σ H,i < n->Pv i σ H->g (.int (lo+i)) σ H fun σ2 H2=>tb {D with nx:=Pv (i+1),ct:=Pv (i+1),bk:=D.nx} σ2 H2) (hd:∀σ H,Pv n σ H->D.nx σ H):DO (Itr lo n) g tb D σ H:=Ez Pv h0 hs hd
theorem jO {K:WA}{a:Addr}(xs:List V){g:TG}{tb:TS}{D:mK}{σ:St}{H:Hp}(Pv:Nat->St->Hp->Prop)(h0:Pv 0 σ H)(hl:∀i σ H,i<=xs.length->Pv i σ H->SqL K H a xs)
  (hs:∀i x σ H,xs[i]?=some x->Pv i σ H->g x σ H fun σ2 H2=>tb {D with nx:=Pv (i+1),ct:=Pv (i+1),bk:=D.nx} σ2 H2) (hd:∀σ H,Pv xs.length σ H->D.nx σ H):DO (Itl K a) g tb D σ H:=Fn Pv h0 hl hs hd
theorem zO {lo:Int}{n:Nat}{te:TE}{cm:List (Option Nat)}{σ:St}{H:Hp}{Q:VK}(f:Nat->V)(hn:n<=sizeLine){j:Nat}(hj:(cN cm σ)[j]?=some none)
  (hs:∀i,i < n->∀N:VK,N (f i) H->te ((cN cm σ).set j (some (.int (lo+i)))) H N)
  (hd:∀p,H p=none->Q (.ref p) (upd H p (.lst ((List.range n).map f)))):u9 (Itr lo n) (eX j) xZ te cm σ Q H:=wo f hn hj hs hd
theorem mr {lo:Int}{n:Nat}{tc:TT}{te:TE}{cm:List (Option Nat)}{σ:St}{H:Hp}{Q:VK}(p:Nat->Bool)(f:Nat->V)(hn:n<=sizeLine){j:Nat}(hj:(cN cm σ)[j]?=some none)
  (hc:∀i,i < n->∀N:Bool->Hp->Prop,N (p i) H->tc ((cN cm σ).set j (some (.int (lo+i)))) H N)
  (hs:∀i,i < n->p i=true->∀N:VK,N (f i) H->te ((cN cm σ).set j (some (.int (lo+i)))) H N)
  (hd:∀b,H b=none->Q (.ref b) (upd H b (.lst (((List.range n).filter p).map f)))):u9 (Itr lo n) (eX j) tc te cm σ Q H:=sr p f hn hj hc hs hd
theorem va {K:WA}{a:Addr}{xs:List V}{tc:TT}{te:TE}{cm:List (Option Nat)}{σ:St}{H:Hp}{Q:VK}(p:V->Bool)(f:V->V)(hl:SqL K H a xs)(hn:xs.length<=sizeLine){j:Nat}(hj:(cN cm σ)[j]?=some none)
  (hc:∀x,x∈xs->∀N:Bool->Hp->Prop,N (p x) H->tc ((cN cm σ).set j (some x)) H N)
  (hs:∀x,x∈xs->p x=true->∀N:VK,N (f x) H->te ((cN cm σ).set j (some x)) H N)
  (hd:∀b,H b=none->Q (.ref b) (upd H b (.lst ((xs.filter p).map f)))):u9 (Itl K a) (eX j) tc te cm σ Q H:=yb p f hl hn hj hc hs hd
theorem upo {H:Hp}{a b:Addr}{o u:HO}(h:H b=some u)(hn:H a=none):upd H a o b=some u:=by rw [aB (ak h hn)];exact h
theorem upn {H:Hp}{a b:Addr}{o:HO}(h:upd H a o b=none):H b=none:=by
 by_cases e:b=a
 ·subst e;rw [af] at h;cases h
 ·rw [aB e] at h;exact h
theorem av.lay {H H':Hp}{a:Addr}{o:HO}(s:av H H')(hn:H' a=none):av H (upd H' a o):=fun b u e=>upo (s b u e) hn
theorem av.rewr {H H':Hp}{a:Addr}{o:HO}(s:av H H')(hn:H a=none):av H (upd H' a o):=fun b u e=>by rw [aB (ak e hn)];exact s b u e
theorem HW {n d:Nat}(h:1<=n):HT.sIx n d (some 1)=1:=by
 have:=HT.DF n d 1
 rw [show ((1:Nat):Int)=1 from rfl] at this
 omega
theorem KO {n d:Nat}(h:1<=n):HT.sIx n d (some (-1))=n - 1:=by
 have:=HT.Hx (-1) n d
 rw [if_pos (by decide)] at this
 omega
theorem FQ (ds:List Int)(h:2<=ds.length):vC (ds.map V.int) (some 1) (some (-1))=((ds.drop 1).take (ds.length - 1 - 1)).map V.int:=by
 unfold vC
 rw [WB,HW (by omega),KO (by omega),List.map_take,List.map_drop]
theorem KP {ds:List Int}(h:0 < ds.length):atI (ds.map V.int) (-1)=some (.int (cA ds)):=by
 unfold atI ixN
 rw [if_neg (by decide),WB,if_pos (by omega),Option.bind_some,List.getElem?_map,show (-1+(ds.length:Int)).toNat=ds.length - 1 by omega,List.getElem?_eq_getElem (by omega)]
 unfold cA
 rw [List.getD_eq_getElem?_getD,List.getElem?_eq_getElem (by omega)]
 rfl
theorem zP (a b:Int):eqV (.int a) (.int b)=decide (a=b):=by
 simp [eqV,Bool.beq_eq_decide_eq]
theorem zQ (d:Int)(ds:List Int):inV (.int d) (ds.map V.int)=decide (d∈ds):=by
 unfold inV
 rw [List.any_map]
 by_cases h:d∈ds
 ·rw [decide_eq_true h,List.any_eq_true]
  exact ⟨d,h,by simp [zP]⟩
 ·rw [decide_eq_false h,List.any_eq_false]
  intro x hx
  simp [zP]
  rintro rfl
  exact h hx
theorem kI {xs:List Int}{i:Nat}{x:V}(h:(xs.map V.int)[i]?=some x):∃z,x=V.int z/\xs[i]?=some z/\z∈xs:=by
 rw [List.getElem?_map] at h
 cases e:xs[i]? with
 | none=>rw [e] at h;cases h
 | some z=>rw [e] at h;exact ⟨z,(Option.some.inj h).symm,rfl,List.mem_of_getElem? e⟩
theorem DP (d x y:Int):inV (.int d) [.int x,.int y]=decide (d=x\/d=y):=by
 have:=zQ d [x,y]
 simpa [eq_comm] using this
end L2
namespace L2
theorem HX {x y i:Int}(h:i=0\/i=1):∃m,(m=x\/m=y)/\atI [V.int x,V.int y] i=some (.int m):=by
 rcases h with rfl | rfl
 ·exact ⟨x,.inl rfl,rfl⟩
 ·exact ⟨y,.inr rfl,rfl⟩
end L2
namespace L2
open PySem PySem.Spec PyProof.Rows
noncomputable def CXf (P:Program)(w:World):CXT:=fun outer H s E e s'=>
 ∃(x:Addr) (cls a0:Value) (H':Hp) (B:Heap),e=.ref x/\s'.os=s.os/\AllBare s'.gens/\Un (frs outer) [] H H' s.heap s'.heap/\HOk P w H' s'.heap/\Heap.FlyingW B outer x cls a0 s'.heap/\
  (∀b o,s'.heap.get? b=some o->(H' b≠none\/∃o0,s.heap.get? b=some o0)->b∉frs outer->B.get? b=some o)/\(∀o,s.heap.get? x≠some o)/\H' x=none/\E cls none H'
theorem fN.there {P:Program}{w:World}{H:Hp}{h:Heap}{a:Addr}{o:HO}(l:fN P w H h a o):∃ob,h.get? a=some ob:=by
 cases o with
 | lst xs=>obtain ⟨_,its,n,_,e⟩:=l;exact ⟨_,e⟩
 | tup xs=>obtain ⟨_,its,_,ob,e,_⟩:=l;exact ⟨_,e⟩
 | dK kvs=>obtain ⟨_,_,_,_,ob,_,_,e,_⟩:=l;exact ⟨_,e⟩
 | dT kvs=>obtain ⟨_,_,_,_,ob,_,_,e,_⟩:=l;exact ⟨_,e⟩
 | set S n=>obtain ⟨ob,_,_,_,e,_⟩:=l;exact ⟨_,e⟩
 | ins C dx fs=>obtain ⟨_,_,_,e,_⟩:=l;exact ⟨_,e⟩
 | own y=>exact l
 | xd fs=>obtain ⟨mA,⟨od,_,_,e,_⟩,_⟩:=l;exact ⟨_,e⟩
 | rng lo hi=>obtain ⟨_,_,_,e⟩:=l;exact ⟨_,e⟩
 | frz ob u=>obtain ⟨e,_⟩:=l;exact ⟨_,e⟩
 | tbl ps=>exact ⟨_,l⟩
 | met f y=>exact ⟨_,l⟩
 | ext φ=>obtain ⟨_,h,_⟩:=l;exact h
section
variable {P:Program}{w:World}{K:WA}{mg:Str->Option Value}{base:Heap}{N:List Str}{qual:Str}{scope:Scope}{f:Addr}{cd:Value}{A:Around}{outer:List Env}{s:Shared}{H:Hp}{E:XK}
noncomputable abbrev cxF (P:Program)(w:World)(K:WA)(mg:Str->Option Value)(base:Heap)(N:List Str)(qual:Str)(scope:Scope)(f:Addr)(cd:Value)(A:Around)(outer:List Env)(s:Shared)(H:Hp)(E:XK):Cx:=
 xX (CXf P w) P w K mg base N qual scope f cd A outer s H E
theorem DQ {pins:List (Addr×Obj)}{σ:St}{H1:Hp}{s1:Shared}{h2:Heap}{x:Addr}{cls a0:Value}{B:Heap}(I:Inv (cxF P w K mg base N qual scope f cd A outer s H E) pins σ H1 s1)
  (hB:∀b o,s1.heap.get? b=some o->(H1 b≠none\/∃o0,s.heap.get? b=some o0)->b∉frs (cxF P w K mg base N qual scope f cd A outer s H E).stack->B.get? b=some o)
  (hfl:Heap.FlyingW B outer x cls a0 h2) (hsl:∀b o,s1.heap.get? b=some o->(∀vs,o.data≠.fields vs)->∃sl,h2.get? b=some {o with slots:=sl}) (hx:∀o,s.heap.get? x≠some o) (hx1:H1 x=none) (q:E cls none H1) :
  CXf P w outer H s E (.ref x) {s1 with heap:=h2}:=by
 have neL:∀b o,s.heap.get? b=some o->b≠s.heap.objs.size:=fun b o e=>Nat.ne_of_lt (Heap.lt_size e)
 have stk:∀b,b∈frs (cxF P w K mg base N qual scope f cd A outer s H E).stack->b=s.heap.objs.size\/b∈frs outer:=fun b hb=>by
  rcases List.mem_cons.mp (I.stkSub b hb) with z | z
  ·exact .inl z
  ·exact .inr z
 have hfree:H1 s.heap.objs.size=none:=I.free
 have st:B.StaysIn h2:=hfl.1
 have frD:∀b∈frs outer,∃o,s.heap.get? b=some o/\∀vs,o.data≠.fields vs:=fun b hb=>(I.ok.funs.mem hb).2
 have u:=I.base
 have nf:∀b o,s.heap.get? b=some o->b∉frs outer->b∉frs (cxF P w K mg base N qual scope f cd A outer s H E).stack:=fun b o e hb z=>(stk b z).elim (neL b o e) hb
 have up:∀b∈frs outer,∀o,s.heap.get? b=some o->∃sl,h2.get? b=some {o with slots:=sl}:=fun b hb o e=>by
  obtain ⟨o',e',d⟩:=frD b hb
  rw [e] at e';cases e'
  obtain ⟨sl,q1⟩:=u.any (b:=b) e (I.ok.frf b hb) (by intro z;exact nomatch z)
  obtain ⟨sl',q2⟩:=hsl b _ q1 d
  exact ⟨sl',q2⟩
 refine ⟨x,cls,a0,H1,B,rfl,I.os,I.bare,⟨fun b o e n hb _=>?_,fun b o e n hb _=>up b hb o e,u.free,fun b o e _=>?_,u.tups,u.frzs,u.tbls⟩,fun b o e=>?_,hfl,fun b o e hh hb=>?_,hx,hx1,q⟩
 ·exact st b o (hB b o (u.keep b o e n hb (by intro z;exact nomatch z)) (.inr ⟨o,e⟩) (nf b o e hb))
 ·by_cases hb:b∈frs outer
  ·obtain ⟨sl,q⟩:=up b hb o e
   exact ⟨_,q⟩
  ·obtain ⟨o',e'⟩:=u.there b o e (by intro z;exact nomatch z)
   exact ⟨o',st b o' (hB b o' e' (.inr ⟨o,e⟩) (nf b o e hb))⟩
 ·have ne:b≠s.heap.objs.size:=fun z=>by rw [z,hfree] at e;cases e
  have inB:∀c v,H1 c≠none->s1.heap.get? c=some v->h2.get? c=some v:=fun c v hc q=>st c v (hB c v q (.inl hc) fun z=>by
   rcases stk c z with y | y
   ·rw [y] at hc;exact hc hfree
   ·obtain ⟨o',e',_⟩:=frD c y
    exact hc (u.free c o' e' (I.ok.frf c y) (by intro z;exact nomatch z)))
  refine (I.hok b o e).stay (fun c v hc q=>inB c v ?_ q) (fun _ q=>q) fun _ _ q=>q
  rcases hc with z | z
  ·rw [z,e];simp
  ·rw [z];simp
 ·
  have there1:∃o1,s1.heap.get? b=some o1:=by
   rcases hh with z | ⟨o0,z⟩
   ·cases q:H1 b with
    | none=>exact absurd q z
    | some v=>exact (I.hok b v q).there
   ·exact u.there b o0 z (by intro z;exact nomatch z)
  obtain ⟨o1,e1⟩:=there1
  have nfb:b∉frs (cxF P w K mg base N qual scope f cd A outer s H E).stack:=fun z=>by
   rcases stk b z with y | y
   ·rcases hh with t | ⟨o0,t⟩
    ·rw [y] at t;exact t hfree
    ·exact neL b o0 t y
   ·exact hb y
  have e2:=hB b o1 e1 hh nfb
  have e3:=st b o1 e2
  have e':h2.get? b=some o:=e
  rw [e3] at e';cases e'
  exact e2
theorem EK {pins:List (Addr×Obj)}{σ:St}{H1:Hp}{s1:Shared}{h':Heap}{x:Addr}{cls:Value}{args:List Value}(I:Inv (cxF P w K mg base N qual scope f cd A outer s H E) pins σ H1 s1)
  (hx:Heap.MadeExcOf s1.heap h' x cls args) (q:E cls none H1):(cxF P w K mg base N qual scope f cd A outer s H E).xe (.ref x) {s1 with heap:=h'}:=by
 have hn:=hx.new
 have hin:∀env∈(cxF P w K mg base N qual scope f cd A outer s H E).stack,∀b,env.frame=some b->b∈frs (cxF P w K mg base N qual scope f cd A outer s H E).stack:=fun env he b hb=>List.mem_filterMap.mpr ⟨env,he,hb⟩
 have hx1:H1 x=none:=by
  cases q:H1 x with
  | none=>rfl
  | some v=>
   obtain ⟨ob,e⟩:=(I.hok x v q).there
   rw [hn] at e;cases e
 refine wpAny_leaves_madeW (base:=W.hideAll s1.heap (frs (cxF P w K mg base N qual scope f cd A outer s H E).stack)) (h:=s1.heap) (s:={s1 with heap:=h'}) I.ok.frames rfl (fun b o q=>W.of_hideAll _ q) (W.funFrames_hide I.stack hin) hx fun h2 t f1 f2 f3 f4=>?_
 refine DQ (s1:=s1) I (fun b o e _ hb=>W.hideAll_get _ e hb) f1 (fun b o e d=>f4 b o (hx.keeps b o e) d) (fun o e=>?_) hx1 q
 obtain ⟨o',e'⟩:=I.base.there x o e (by intro z;exact nomatch z)
 rw [hn] at e';cases e'
theorem bU:eY (CXf P w) (cxF P w K mg base N qual scope f cd A outer s H E) E:=by
 rintro pins σ H1 s1 e s2 I ⟨x,cls,a0,H2,B,rfl,os,bare,un,hok,hfl,hB,hx,hx2,q⟩
 have I2:Inv (cxF P w K mg base N qual scope f cd A outer s H E) pins σ H2 s2:=I.call' os un hok bare fun b hb=>absurd hb (by simp)
 refine wpAny_leaves_onW (s:=s2) I.ok.frames rfl hfl fun h2 f1 f2=>?_
 refine DQ I2 (fun b o e hh hb=>hB b o e ?_ hb) f1 (fun b o e d=>f2 b o e d) (fun o e=>?_) hx2 q
 ·rcases hh with z | ⟨o0,z⟩
  ·exact .inl z
  ·obtain ⟨o1,e1⟩:=I.base.there b o0 z (by intro z;exact nomatch z)
   exact .inr ⟨o1,e1⟩
 ·obtain ⟨o1,e1⟩:=I.base.there x o e (by intro z;exact nomatch z)
  exact hx o1 e1
theorem A5:PassesOwn (model P w) (cxF P w K mg base N qual scope f cd A outer s H E).A (cxF P w K mg base N qual scope f cd A outer s H E).env (cxF P w K mg base N qual scope f cd A outer s H E).xe:=PassesOwn.leaving
structure ExC (K:WA)(C:Addr):Prop where
 ex:∃(nm q:Str) (N:Addr) (bs bm:List Value) (hdct:Bool) (sn:List Str) (sub:List Value) (ab:Bool) (col:Option Bool) (dd:Option Addr) (k0 k1 k2 k3 k5:Option Value) (mN:Str->Option Value),
  ∀h,K.In h->h.get? C=some (excClassObj nm q C N bs bm hdct sn sub ab col dd k0 k1 k2 k3 k5 "ValueError.__new__")/\h.Ns N mN/\(∀n∈quietNames,mN n=none)/\OwnTailQ h [.type "ValueError",.type "Exception",.type "BaseException",.type "object"] bm
noncomputable def pj (es:Array DictEntry):Bool:=es.toList.all fun e=>match e.key with | .str _ _=>true | _=>false
theorem JK {K:WA}{h:Heap}{N:Addr}{c:Value}{d:Option Addr}{es:Array DictEntry}{ep:Nat}{sl:Array (Option Value)}(X:K.In h)(l:K.lookup N=some ⟨c,d,.dict es ep,sl⟩)(k:pj es=true):h.Ns N (nsFind es):=by
 refine ⟨_,es,ep,X _ _ l,rfl,fun e he=>?_,fun _=>rfl⟩
 have z:=List.all_eq_true.mp k e (by simpa using he)
 split at z
 ·rename_i n t q;exact ⟨n,t,q⟩
 ·cases z
theorem KQ {K:WA}{C N C0 N0:Addr}{nm q:Str}{bs:List Value}{hdct:Bool}{sn:List Str}{sub:List Value}{ab:Bool}{col:Option Bool}{dd:Option Addr}{k0 k1 k2 k3 k5:Option Value}
  {c1 c2 c0:Value} {d1 d2 dd0:Option Addr} {es es0:Array DictEntry} {ep ep0:Nat} {sl1 sl2 sl0:Array (Option Value)} {cd0:ClassData}
  (lC:K.lookup C=some (excClassObj nm q C N bs [.ref C0,.type "ValueError",.type "Exception",.type "BaseException",.type "object"] hdct sn sub ab col dd k0 k1 k2 k3 k5 "ValueError.__new__"))
  (lN:K.lookup N=some ⟨c1,d1,.dict es ep,sl1⟩) (kN:pj es=true) (iN:(quietNames.all fun n=>(nsFind es n).isNone)=true)
  (l0:K.lookup C0=some ⟨c0,dd0,.cls cd0,sl0⟩) (e0:cd0.ns=N0) (lN0:K.lookup N0=some ⟨c2,d2,.dict es0 ep0,sl2⟩) (kN0:pj es0=true) (iN0:(quietNames.all fun n=>(nsFind es0 n).isNone)=true):ExC K C:=
 ⟨nm,q,N,bs,_,hdct,sn,sub,ab,col,dd,k0,k1,k2,k3,k5,nsFind es,fun h X=>⟨X _ _ lC,JK X lN kN,fun n hn=>Option.isNone_iff_eq_none.mp (List.all_eq_true.mp iN n hn),.own (X _ _ l0) (e0▸JK X lN0 kN0) (fun n hn=>Option.isNone_iff_eq_none.mp (List.all_eq_true.mp iN0 n hn)) .base⟩⟩
noncomputable def FR (E:XK)(C:Addr)(t:TA):TS:=fun _ σ H=>t σ H fun vs H1=>vs.length<=sizeLine/\E (.ref C) none H1
theorem bA {x:Str}{C:Addr}{e:Expr}{es:List Expr}{t:TA}{np cpos pos:Pos}(O:ExC K C)(hg:Gl (cxF P w K mg base N qual scope f cd A outer s H E) x)(hm:mg x=some (.ref C))
  (ha:PA (cxF P w K mg base N qual scope f cd A outer s H E) (e::es) t) (hdb:(x == ("__debug__":Str))=false:=by decide)
  (he:starEach (e::es) (cxF P w K mg base N qual scope f cd A outer s H E).env=(false,eval e (cxF P w K mg base N qual scope f cd A outer s H E).env)::starEach es (cxF P w K mg base N qual scope f cd A outer s H E).env:=by rfl)
  (hpl:(backTo cpos (starEach es (cxF P w K mg base N qual scope f cd A outer s H E).env)).any (·.1)=false:=by rfl) :
  PS (cxF P w K mg base N qual scope f cd A outer s H E) (.Raise (some (.Call (.Name x np) (e::es) [] cpos)) none pos) (FR E C t):=by
 intro pins s1 σ H1 D I h
 obtain ⟨nm,q,N,bs,bm,hdct,sn,sub,ab,col,dd,k0,k1,k2,k3,k5,mN,O⟩:=O.ex
 obtain ⟨_,_,hni,T0⟩:=O _ I.kIn
 refine wpAny_Raise_call_subU (C:=C) (nm:=nm) (q:=q) (N:=N) (bs:=bs) (bm:=bm) (hdct:=hdct) (sn:=sn) (sub:=sub) (ab:=ab) (col:=col) (dd:=dd) (k0:=k0) (k1:=k1) (k2:=k2) (k3:=k3) (k5:=k5)
  PySem.F.excBase_ValueError (by decide +kernel) PySem.F.excBase_ValueError (mN:=mN) (T0.tail.hasType PySem.F.excBase_ValueError.hasBase) (I.ok.hd rfl) (by rw [he];show (false || (backTo cpos (starEach es _)).any (·.1))=false;rw [hpl];rfl) (hni _ (.head _)) (pe I hg hm ⟨rfl,?_⟩ hdb)
 have ha':=ha cpos pins s1 σ H1 _ I h
 rw [he] at ha' ⊢
 refine Calls.evalArgs_plain (wpAny_mono ha' (fun us s2 h2=>?_) fun _ _ y=>y)
 obtain ⟨vs,H2,I2,rv,hlen,qE⟩:=h2
 obtain ⟨a1,a2,_,a4⟩:=O _ I2.kIn
 exact ⟨rfl,by rw [←rv.length];exact hlen,a1,a2,a4.tail,fun h' e hx=>EK I2 hx qE⟩
theorem Fun.okF {x qual:Str}{st:Stmt}{f:Addr}{fd:FuncData}{N ps:List Str}{k:Nat}{sp:Sp}(F:Fun K x qual st f fd)(S:aw N ps (ai st))(len:∀vs H Q E,sp vs H Q E->vs.length=ps.length)
  (hbody:∀(cdv:Value) (A:Around) (outer:List Env) (s:Shared) (H:Hp) (vs:List V) (Q:VK) (E:XK),du k (A.deeper (envOfC qual (ai st) s.heap.objs.size f cdv))->sp vs H Q E->
   ∃t,PSs (cxF P w K mg base N qual (ai st) f cdv A outer s H E) (cv st) t/\t {nx:=fun _ H'=>Q .non H',rt:=Q} (mq N vs) H):fU P w K mg base (CXf P w) (k+1) f fd ps sp:=by
 obtain ⟨oc,od,kV,doc,pm,an,cdv,ct,osl,rfl,lk,hcd⟩:=F.ex
 refine JG lk hcd S len fun A outer s H vs Q E hr hsp=>?_
 exact hbody cdv A outer s H vs Q E hr hsp
end
noncomputable abbrev XT:=Value->St->Hp->Prop
noncomputable def Xt (X:Cx)(pins:List (Addr×Obj))(E':XT):Cx:=
 {X with pn:=X.pn++pins,xe:=fun e s'=>∃σ H s,Inv X pins σ H s/\CXf X.prog X.w X.stack H s (fun cls _ H'=>E' cls σ H') e s'}
noncomputable def Xh (X:Cx)(e:Value):Cx:={X with A:=X.A.mark (some e),calm:=false,xe:=fun _ _=>False}
section
variable {X:Cx}{pins pins':List (Addr×Obj)}{σ:St}{H:Hp}{s:Shared}{E':XT}{e:Value}
theorem Cx.Ok.toT (ok:X.Ok):(Xt X pins E').Ok:=⟨ok.mod,ok.kind,ok.glob,ok.blt,ok.above,ok.inj,ok.has,ok.cab,ok.hd,ok.frames,ok.stk,ok.exf,ok.bs,ok.bsz,ok.noex,ok.exfs,ok.funs,ok.frf⟩
theorem Cx.Ok.ofT (ok:(Xt X pins E').Ok):X.Ok:=⟨ok.mod,ok.kind,ok.glob,ok.blt,ok.above,ok.inj,ok.has,ok.cab,ok.hd,ok.frames,ok.stk,ok.exf,ok.bs,ok.bsz,ok.noex,ok.exfs,ok.funs,ok.frf⟩
theorem Inv.toT (I:Inv X pins σ H s):Inv (Xt X pins E') [] σ H s:=⟨I.ok.toT,I.os,I.bare,I.base,I.loc,I.cell,I.free,I.freeC,fun p hp=>I.pin p (by simpa [Xt] using hp),I.hok,I.len⟩
theorem Inv.ofT (I:Inv (Xt X pins E') pins' σ H s):Inv X pins σ H s:=⟨I.ok.ofT,I.os,I.bare,I.base,I.loc,I.cell,I.free,I.freeC,fun p hp=>I.pin p (List.mem_append_left _ hp),I.hok,I.len⟩
theorem Inv.toH (I:Inv X pins σ H s):Inv (Xh X e) pins σ H s:=
 ⟨⟨I.ok.mod,I.ok.kind,I.ok.glob,I.ok.blt,I.ok.above,I.ok.inj,I.ok.has,I.ok.cab,fun z=>(Bool.false_ne_true z).elim,I.ok.frames,I.ok.stk,I.ok.exf,I.ok.bs,I.ok.bsz,I.ok.noex,I.ok.exfs,I.ok.funs,I.ok.frf⟩,I.os,I.bare,I.base,I.loc,I.cell,I.free,I.freeC,I.pin,I.hok,I.len⟩
theorem Inv.ofH (ok:X.Ok)(I:Inv (Xh X e) pins σ H s):Inv X pins σ H s:=⟨ok,I.os,I.bare,I.base,I.loc,I.cell,I.free,I.freeC,I.pin,I.hok,I.len⟩
theorem Inv.flown {H1:Hp}{s1:Shared}{h2:Heap}{B:Heap}(I:Inv X pins σ H s)(os:s1.os=s.os)(bare:AllBare s1.gens)(un:Un (frs X.stack) [] H H1 s.heap s1.heap)(hok:HOk X.prog X.w H1 s1.heap)
  (hB:∀b o,s1.heap.get? b=some o->(H1 b≠none\/∃o0,s.heap.get? b=some o0)->b∉frs X.stack->B.get? b=some o) (st:B.StaysIn h2) (hsl:s1.heap.UpToSlots h2):Inv X pins σ H1 {s1 with heap:=h2}:=by
 have frD:∀b∈frs X.stack,∃o,s.heap.get? b=some o/\∀vs,o.data≠.fields vs:=fun b hb=>(I.stack.mem hb).2
 have up:∀b∈frs X.stack,∀o,s.heap.get? b=some o->∃sl,h2.get? b=some {o with slots:=sl}:=fun b hb o e=>by
  obtain ⟨o',e',d⟩:=frD b hb
  rw [e] at e';cases e'
  obtain ⟨sl,q1⟩:=un.any (b:=b) e (I.stkFree b hb) (by intro z;exact nomatch z)
  obtain ⟨sl',q2⟩:=hsl b _ q1 d
  exact ⟨sl',q2⟩
 refine I.call' (s':={s1 with heap:=h2}) (ch:=[]) os ⟨fun b o e n hb _=>?_,fun b o e n hb _=>up b hb o e,un.free,fun b o e _=>?_,un.tups,un.frzs,un.tbls⟩ (fun b o e=>?_) bare fun b hb=>absurd hb (by simp)
 ·exact st b o (hB b o (un.keep b o e n hb (by intro z;exact nomatch z)) (.inr ⟨o,e⟩) hb)
 ·by_cases hb:b∈frs X.stack
  ·obtain ⟨sl,q⟩:=up b hb o e
   exact ⟨_,q⟩
  ·obtain ⟨o',e'⟩:=un.there b o e (by intro z;exact nomatch z)
   exact ⟨o',st b o' (hB b o' e' (.inr ⟨o,e⟩) hb)⟩
 ·have inB:∀c v,H1 c≠none->s1.heap.get? c=some v->h2.get? c=some v:=fun c v hc q=>st c v (hB c v q (.inl hc) fun z=>by
   obtain ⟨o',e',_⟩:=frD c z
   exact hc (un.free c o' e' (I.stkFree c z) (by intro z;exact nomatch z)))
  refine (hok b o e).stay (fun c v hc q=>inB c v ?_ q) (fun _ q=>q) fun _ _ q=>q
  rcases hc with z | z
  ·rw [z,e];simp
  ·rw [z];simp
noncomputable def FT (y:Addr)(cls:Value):HO:=.ext fun h=>∃o vs,h.get? y=some o/\o.cls=cls/\o.data=.fields vs
theorem EL {H1:Hp}{s1:Shared}{x:Addr}{cls:Value}{oe:Obj}{vs:Array Value}(I0:Inv X pins σ H s)(I:Inv X pins σ H1 s1)(hx:∀o,s.heap.get? x≠some o)(hx1:H1 x=none)(he:s1.heap.get? x=some oe)(hc:oe.cls=cls)(hd:oe.data=.fields vs)
  (hxl:x≠X.env.locals) (hxc:∀y c,X.env.cells.lookup y=some c->c≠x):Inv X pins σ (upd H1 x (FT x cls)) s1:=by
 have hb:∀b u,X.s₀.heap.get? b=some u->b∉X.ex->b≠x:=fun b u e hbx z=>by
  obtain ⟨o',e'⟩:=I0.base.there b u e hbx
  rw [z] at e'
  exact hx o' e'
 refine ⟨I.ok,I.os,I.bare,⟨I.base.keep,I.base.slot,fun b u e n hbx=>?_,I.base.there,fun b xs e=>?_,fun b u xs e=>?_,fun b ps e=>?_⟩,I.loc,I.cell,?_,fun y c e=>?_,fun p hpp=>?_,fun b u e=>?_,I.len⟩
 ·rw [aB (hb b u e hbx)];exact I.base.free b u e n hbx
 ·have q:=I.base.tups b xs e;rw [aB (ak q hx1)];exact q
 ·have q:=I.base.frzs b u xs e;rw [aB (ak q hx1)];exact q
 ·obtain ⟨more,q⟩:=I.base.tbls b ps e;exact ⟨more,by rw [aB (ak q hx1)];exact q⟩
 ·rw [aB (Ne.symm hxl)];exact I.free
 ·rw [aB (hxc y c e)];exact I.freeC y c e
 ·obtain ⟨a,b,c⟩:=I.pin p hpp
  refine ⟨a,?_,c⟩
  rw [aB (fun z=>?_)];exact b
  have:=(I0.pin p hpp).1
  rw [z] at this
  exact hx _ this
 ·by_cases hbb:b=x
  ·subst hbb;rw [af] at e;cases e
   exact ⟨⟨oe,vs,he,hc,hd⟩,⟨oe,he⟩,fun h1 h2 ⟨o,v,a,b,c⟩ k=>⟨o,v,k _ a,b,c⟩⟩
  ·rw [aB hbb] at e
   exact (I.hok b u e).stay (fun c v _ q=>q) (fun c q=>by rw [aB (ak q hx1)];exact q) fun c xs q=>by rw [aB (ak q hx1)];exact q
theorem pk {i:Nat}{n:Str}{pos:Pos}{A:Around}{M:Model}{Er:Value->Shared->Prop}{Q:Unit->Shared->Prop}(I:Inv X pins σ H s)(hN:X.N.Nodup)(hi:X.N[i]?=some n)(hk:X.env.scope.names.lookup n=some .local)
  (h:∀s',Inv X pins (σ.set i none) H s'->Q () s'):wpAny M A (do bindName X.env n .none;unbindBehindTheSuite X.env n pos) Q Er s:=by
 refine wpAny_bind (wpAny_bindName (sj (v:=V.non) I hN hi (.inl hk) rfl (fun s1 I1=>?_) (.inr hk)))
 unfold unbindBehindTheSuite
 refine wpAny_onRaise ?_
 obtain ⟨m,hn,hl⟩:=id I1.loc
 have hiσ:i < σ.length:=by rw [I.len];exact (List.getElem?_eq_some_iff.mp hi).1
 obtain ⟨u,ru,lk⟩:=hl i n .non hi (List.getElem?_set_self hiσ) (.inl hk)
 have hv:m n=some u:=by
  rcases lk with ⟨_,z⟩ | ⟨z,_⟩
  ·exact z
  ·have hk':X.env.kindOf n=some .local:=hk
   rcases z with z | z
   ·rw [hk'] at z;cases z
   ·rw [hk'] at z;cases z
 have hcls:(X.env.scope.kind == .class || (X.env.scope.kind == .module && X.env.locals != X.env.globals))=false:=by rw [I.ok.kind];rfl
 refine wpAny_unbindName_local hk hn hv hcls fun h' u' hn' hs=>?_
 have ne:∀b o,X.s₀.heap.get? b=some o->b≠X.env.locals:=fun b o e=>Nat.ne_of_lt (Nat.lt_of_lt_of_le (Heap.lt_size e) I.ok.above)
 refine h _ ⟨I1.ok,I1.os,I1.bare,⟨fun b o e n hb hx=>(hs.2 b (ne b o e)).trans (I1.base.keep b o e n hb hx),fun b o e n hb hx=>?_,I1.base.free,fun b o e hx=>?_,I1.base.tups,I1.base.frzs,I1.base.tbls⟩,⟨_,hn',fun j y v' e1 e2 e3=>?_⟩,fun y c e=>?_,I1.free,I1.freeC,fun p hp=>?_,fun b ob e=>?_,?_⟩
 ·obtain ⟨sl,e1⟩:=I1.base.slot b o e n hb hx
  exact ⟨sl,(hs.2 b (ne b o e)).trans e1⟩
 ·obtain ⟨o',e1⟩:=I1.base.there b o e hx
  exact ⟨o',(hs.2 b (ne b o e)).trans e1⟩
 ·by_cases hj:j=i
  ·subst hj
   rw [List.getElem?_set_self hiσ] at e2
   cases e2
  ·rw [List.getElem?_set_ne (Ne.symm hj)] at e2
   obtain ⟨u2,r2,q⟩:=hl j y v' e1 (by rw [List.getElem?_set_ne (Ne.symm hj)];exact e2) e3
   refine ⟨u2,r2,?_⟩
   rcases q with ⟨k,e⟩ | ⟨k,c,e,z⟩
   ·refine .inl ⟨k,?_⟩
    have:y≠n:=fun e=>hj (wc hN e1 (e▸hi))
    simp [this,e]
   ·exact .inr ⟨k,c,e,z.sameBut hs (I1.cne y c e)⟩
 ·obtain ⟨w',z⟩:=I1.cell y c e
  exact ⟨w',z.sameBut hs (I1.cne y c e)⟩
 ·obtain ⟨e,n,ne',nf,d⟩:=I1.pin p hp
  exact ⟨(hs.2 p.1 ne').trans e,n,ne',nf,d⟩
 ·refine (I1.hok b ob e).stay (fun c w' hc q=>(hs.2 c ?_).trans q) (fun _ q=>q) fun _ _ q=>q
  rintro rfl
  rcases hc with z | z
  ·rw [←z,I1.free] at e;cases e
  ·rw [I1.free] at z;cases z
 ·rw [List.length_set];exact I.len
end
section
variable {X:Cx}
noncomputable def Mg (K:WA)(C:Addr)(i:Nat)(tb:XT->TS)(th:TS):TS:=fun D σ H=>
 tb (fun cls σ' H'=>W.exmOne K cls (.ref C)=some true/\∀y,H' y=none->
  th {nx:=fun σ H=>D.nx (σ.set i none) H,rt:=D.rt,bk:=fun σ H=>D.bk (σ.set i none) H,ct:=fun σ H=>D.ct (σ.set i none) H} (σ'.set i (some (.ref y))) (upd H' y (FT y cls))) D σ H
theorem KR {body suite:List Stmt}{b₀:Stmt}{x n:Str}{C:Addr}{i:Nat}{tb:XT->TS}{th:TS}{np hpos pos:Pos}(hst:X.stack=X.env::X.outer)(hfr:X.env.frame=some X.env.locals)
  (hb:∀pins E',PSs (Xt X pins E') body (tb E')) (hh:∀e,PSs (Xh X e) (b₀::suite) th) (hN:X.N.Nodup) (hi:X.N[i]?=some n) (hk:X.env.scope.names.lookup n=some .local) (hg:Gl X x) (hm:X.mg x=some (.ref C))
  (hdb:(x == ("__debug__":Str))=false:=by decide):PS X (.Try body [.ExceptHandler (some (.Name x np)) (some n) (b₀::suite) hpos] [] [] pos) (Mg X.K C i tb th):=by
 intro pins s σ H D I h
 refine wpAny_Try_except (wpAny_mono (hb pins _ [] s σ H D I.toT h) (fun f s1 h1=>?_) fun e s1 h1=>?_)
 ·cases f with
  | next=>obtain ⟨σ',H',J,q⟩:=h1;exact wpAny_execs_nil ⟨σ',H',J.ofT,q⟩
  | brk=>obtain ⟨σ',H',J,q⟩:=h1;exact ⟨σ',H',J.ofT,q⟩
  | cont=>obtain ⟨σ',H',J,q⟩:=h1;exact ⟨σ',H',J.ofT,q⟩
  | ret u=>obtain ⟨v,σ',H',J,r,q⟩:=h1;exact ⟨v,σ',H',J.ofT,r,q⟩
 ·obtain ⟨σ0,H0,s0,I0,y,cls,a0,H1,B,rfl,os,bare,un,hok,hfl,hB,hx,hx1,em,q⟩:=h1
  have frames:X.A.frames=some (X.env::X.outer):=by rw [←hst];exact I0.ok.frames
  rw [hst] at hfl
  refine wpAny_looks_onW frames hfr hfl fun h4 held4 sm4=>wpAny_landsW held4 fun h5 fl5 sm5=>?_
  have I5:Inv X pins σ0 H1 {s1 with heap:=h5}:=I0.flown os bare un hok hB fl5.1 (sm4.trans sm5)
  refine wpAny_handleBy_cons (codeAny_handlers_test (pe (X:=Xh X (.ref y)) (I5.toH) hg hm ?_ hdb)) (by intro q;cases q)
  obtain ⟨ob,hob,hobc⟩:=fl5.there
  have LT:W.Looks (model X.prog X.w) h5 (typeOf (.ref y)) cls:=hobc▸(W.Looks.ld hob).andThen .now
  refine (W.exm_one (M:=model X.prog X.w) I5.kIn LT em) _ _ _ _ (fun _ _ e=>e) ?_
  refine codeAny_handlers_suite_as ?_
  refine lands_againW fl5 fun h6 fl6 sm6=>?_
  have I6:Inv X pins σ0 H1 {s1 with heap:=h6}:=I0.flown os bare un hok hB fl6.1 ((sm4.trans sm5).trans sm6)
  obtain ⟨_,_,_,oe,vs,T,oT,ts,he,hc,hd,_⟩:=id fl6
  have hyl:y≠X.env.locals:=fun z=>by
   obtain ⟨m,⟨o,es,ep,ho,hod,_⟩,_⟩:=I0.loc
   rw [←z] at ho
   exact hx o ho
  have hyc:∀z c,X.env.cells.lookup z=some c->c≠y:=fun z c e t=>by
   obtain ⟨v,o,ho,_⟩:=I0.cell z c e
   rw [t] at ho
   exact hx o ho
  have I6t:=EL (s1:={s1 with heap:=h6}) I0 I6 hx hx1 he hc.1 hd hyl hyc
  refine sj (X:=Xh X (.ref y)) (v:=V.ref y) (I6t.toH) hN hi (.inl hk) rfl (fun s7 I7=>?_) (.inr hk)
  refine wpAny_mono (hh (.ref y) pins s7 _ _ _ I7 (q y hx1)) (fun f s8 h8=>?_) fun _ _ z=>z.elim
  cases f with
  | next=>obtain ⟨σ8,H8,J,q8⟩:=h8;exact pk (J.ofH I.ok) hN hi hk fun s9 J9=>⟨_,_,J9,q8⟩
  | brk=>obtain ⟨σ8,H8,J,q8⟩:=h8;exact pk (J.ofH I.ok) hN hi hk fun s9 J9=>⟨_,_,J9,q8⟩
  | cont=>obtain ⟨σ8,H8,J,q8⟩:=h8;exact pk (J.ofH I.ok) hN hi hk fun s9 J9=>⟨_,_,J9,q8⟩
  | ret u=>obtain ⟨v,σ8,H8,J,r,q8⟩:=h8;exact pk (J.ofH I.ok) hN hi hk fun s9 J9=>⟨v,_,_,J9,r,q8⟩
noncomputable def CC (sp:Sp)(dvs:List V)(E':XT)(t:TA):TE:=fun σ H Q=>t σ H fun vs H1=>sp (vs++dvs) H1 Q fun cls _ H'=>E' cls σ H'
theorem FU {pins:List (Addr×Obj)}{E':XT}{k:Nat}{f:Addr}{fd:FuncData}{ps:List Str}{sp:Sp}{dvs:List V}{ds:List Value}{x:Str}{p pos:Pos}{e:Expr}{es:List Expr}{t:TA}
  (F:fU X.prog X.w X.K X.mg X.base (CXf X.prog X.w) k f fd ps sp) (hr:du k X.A) (hg:Gl X x) (hm:X.mg x=some (.ref f)) (hk:W.keepIn X.K (.ref f)=true) (hb:dG X.K fd ps ds) (hd:bF dvs ds)
  (ha:PA (Xt X pins E') (e::es) t) (hdb:(x == ("__debug__":Str))=false:=by decide) (he:starEach (e::es) X.env=(false,eval e X.env)::starEach es X.env:=by rfl) (hpl:(backTo pos (starEach es X.env)).any (·.1)=false:=by rfl) :
  PE (Xt X pins E') (.Call (.Name x p) (e::es) [] pos) (CC sp dvs E' t):=by
 intro pins' s σ H Q I h
 refine wpAny_Call_Name_kw (pe (X:=Xt X pins E') I hg hm ?_ hdb)
 refine W.callWith_K (h₀:=X.base) I.ok.mod.kin hk (thn (ha pos pins' s σ H _ I h) fun us s1 ⟨vs,H1,I1,r,q⟩=>⟨I1.kIn,?_⟩) he hpl
 have r2:bF (vs++dvs) (us++ds):=r.append hd
 have hl:(us++ds).length=ps.length:=by rw [←r2.length];exact F.len _ _ _ _ q
 refine wpAny_call (codeAny_mono (F.run X.A X.stack s1 H1 ⟨us,[]⟩ (us++ds) (vs++dvs) Q _ hr I1.env0 (hb s1 us I1.kIn hl) r2 q) fun r s' hq=>?_)
 cases r with
 | error e=>exact ⟨σ,H1,s1,I1.ofT,hq⟩
 | ok fl=>
  cases fl with
  | ret u=>exact I1.after hq
  | next=>exact False.elim hq
  | brk=>exact False.elim hq
  | cont=>exact False.elim hq
end
end L2
namespace L2
open PySem PySem.W PySem.Spec PyProof.Rows
structure ExI (K:Frag)(C:Addr):Prop where
 ex:ExC K C
 ca:findIn K (.ref C) "__class__"=some (some (.builtin "object.__class__"))
 mo:mroIn K C (.type "object")=some true
section
variable {prog:Program}{w:World}{A:Around}{E:Value->Shared->Prop}{h:Heap}{g:Array GenState}{d:Drawn}{t:Nat}{os:OsState}{a:Addr}{o:Obj}{vs:Array Value}{K:Frag}{C:Addr}
theorem HY {R:Result->Shared->Prop}{tp:Value}(X:K.In h)(O:ExI K C)(hx:h.get? a=some o)(hc:o.cls=.ref C)(hq:R (.ok (.ret (.ref C))) ⟨h,g,d,t,os⟩) :
  codeAny (model prog w) A (.call (.builtin "getset_descriptor.__get__") ⟨[.builtin "object.__class__",.ref a,tp],[]⟩) R ⟨h,g,d,t,os⟩:=by
 have L0:Looks (model prog w) h (typeOf (.ref a)) (.ref C):=hc▸(Looks.ld hx).andThen .now
 have L1:=looks_mroIn (M:=model prog w) X O.mo
 refine codeAny_call_builtin KF.slot_gs.plain KF.entry_gs (KF.slot_gs.check _ _ _ _ _ _ _ _ KF.type_class (KF.args_gs _ _ _) ?_)
 unfold Builtin.«getset_descriptor.__get__» Builtin.Getset_descriptor.descrGet
 rw [dga_obj]
 refine wpAny_bind (wpAny_pure ?_)
 unfold Builtin.Getset_descriptor.descrGetter Builtin.Getset_descriptor.descrCheckInstance Builtin.Getset_descriptor.descrNameAndClass isInstance
 simp only [KF.owner_class]
 repeat lk
 refine ⟨Code.quiet_builtin _ (by decide +kernel),codeAny_builtin KF.entry_class ?_⟩
 unfold Builtin.«object.__class__» shownTypeOf
 repeat lk
 exact hq
theorem EM {tk:Tok}{Q:PySem.Fin->Shared->Prop}(X:K.In h)(O:ExI K C)(hx:h.get? a=some o)(hc:o.cls=.ref C)(hq:Q (.done (.ret (.ref C))) ⟨h,g,d,t,os⟩) :
  wpAny (model prog w) A (Builtin.«object.__getattribute__» ⟨[.ref a,.str "__class__" tk],[]⟩) Q E ⟨h,g,d,t,os⟩:=by
 have L2:=looks_findIn (M:=model prog w) X O.ca
 have f5:=KF.type_class
 have f6:=KF.slot_gs.lookup
 have f7:=PySem.F.slot_gs_set.lookup
 repeat (any_goals (first | assumption | (with_reducible refine wpAny_loadPart_at hx ?_;rw [hc]) | with_reducible refine L2.at ?_ | wp_step))
 refine HY X O hx hc ?_
 repeat (any_goals (first | assumption | wp_step))
theorem FV {tk:Tok}{R:Result->Shared->Prop}(X:K.In h)(O:ExI K C)(hx:h.get? a=some o)(hc:o.cls=.ref C)(hq:R (.ok (.ret (.ref C))) ⟨h,g,d,t,os⟩) :
  codeAny (model prog w) A (.call (.builtin "BaseException.__getattribute__") ⟨[.ref a,.str "__class__" tk],[]⟩) R ⟨h,g,d,t,os⟩:=by
 obtain ⟨nm,q,N,bs,bm,hdct,sn,sub,ab,col,dd,k0,k1,k2,k3,k5,mN,Oe⟩:=O.ex.ex
 obtain ⟨hC,hN,hmN,T⟩:=Oe h X
 exact codeAny_call_builtin PySem.F.attrBase_ValueError.ga.plain PySem.F.entry_bexc_ga (wpAny_check_ga_own PySem.F.attrBase_ValueError hC T hx hc (EM X O hx hc hq))
theorem KS {tk:Tok}{fill expr:Bool}{Q:Value->Shared->Prop}(X:K.In h)(O:ExI K C)(hx:h.get? a=some o)(hc:o.cls=.ref C)(hq:Q (.ref C) ⟨h,g,d,t,os⟩) :
  wpAny (model prog w) A (getAttrBy (.ref a) (.str "__class__" tk) fill expr) Q E ⟨h,g,d,t,os⟩:=by
 obtain ⟨nm,q,N,bs,bm,hdct,sn,sub,ab,col,dd,k0,k1,k2,k3,k5,mN,Oe⟩:=O.ex.ex
 obtain ⟨hC,hN,hmN,T⟩:=Oe h X
 have FB:=PySem.F.attrBase_ValueError
 have f3:=FB.ga.bind (.ref a)
 have hx0:(expr && onTheHeap (Value.builtin "BaseException.__getattribute__"))=false:=by cases expr<;>rfl
 have hx2:(Value.builtin "BaseException.__getattribute__" == Value.builtin "object.__getattribute__")=false:=by decide +kernel
 have hx1:(onTheHeap (Value.ref C) && Value.builtin "BaseException.__getattribute__" == Value.builtin "object.__getattribute__")=false:=by rw [hx2];rfl
 have hm1:("__getattribute__":Str)∈quietNames:=.tail _ (.head _)
 have hm2:("__getattr__":Str)∈quietNames:=.tail _ (.tail _ (.head _))
 repeat (any_goals (first | assumption | (with_reducible refine wpAny_loadPart_at hx ?_;rw [hc]) | with_reducible refine wpAny_typeLookup_tailQ hm1 hC hN hmN T FB.mro FB.ga.lookup ?_ | with_reducible refine wpAny_typeLookup_tailQ hm2 hC hN hmN T FB.mro FB.noGetattr ?_ | wp_step))
 refine FV X O hx hc ?_
 repeat (any_goals (first | assumption | wp_step))
theorem FW {Q:Option Value->Shared->Prop}(X:K.In h)(O:ExI K C)(hx:h.get? a=some o)(hc:o.cls=.ref C)(hq:Q (some (.ref C)) ⟨h,g,d,t+1,os⟩) :
  wpAny (model prog w) A (getAttr? (.ref a) "__class__") Q E ⟨h,g,d,t,os⟩:=by
 unfold getAttr? getAttrBy?
 repeat (any_goals (first | assumption | with_reducible apply KS X O hx hc | wp_step))
theorem FX (O:ExI K C):KitX K (.ref a) (.ref C) (fun h=>∃o vs,h.get? a=some o/\o.cls=.ref C/\o.data=.fields vs) where
 ty:=fun _ _ _ ⟨o,vs,h1,h2,_⟩=>h2▸(Looks.ld h1).andThen .now
 it:=fun M h X _=>by
  obtain ⟨nm,q,N,bs,bm,hdct,sn,sub,ab,col,dd,k0,k1,k2,k3,k5,mN,Oe⟩:=O.ex.ex
  obtain ⟨hC,_⟩:=Oe h X
  intro A' Q' E' s' k q
  unfold isType loadHead
  exact wpAny_bind (wpAny_loadPart (k _ _ hC) (wpAny_pure q))
 ne:=fun h tp dd its n sl X htp=>by
  obtain ⟨nm,q,N,bs,bm,hdct,sn,sub,ab,col,dd',k0,k1,k2,k3,k5,mN,Oe⟩:=O.ex.ex
  obtain ⟨hC,_⟩:=Oe h X
  refine Bool.eq_false_iff.mpr fun q=>?_
  have e:C=tp:=Value.ref.inj (beq_iff_eq.mp q)
  subst e
  have z:=congrArg Obj.data (Option.some.inj (hC.symm.trans htp))
  exact nomatch z
 ca:=fun {_ _ _ _ _ s} X ⟨o,vs,h1,h2,_⟩ k=>by
  obtain ⟨h,g,d,t,os⟩:=s
  exact FW X O h1 h2 k
end
noncomputable def EN:V->Value
 | .ref a=>.ref a
 | .ty n=>.type n
 | _=>.none
noncomputable def fz (K:Frag):List V->Hp->VK->Prop:=fun xs H Q=>∃y c C b,xs=[.ref y,c]/\EN c≠.none/\H y=some (FT y (.ref C))/\ExI K C/\kitOne K (.ref C) (EN c)=some b/\Q (.bl b) H
theorem dk {X:Cx}:df X (.builtin "isinstance") (fz X.K):=by
 intro pins s σ H xs us Q I r h
 obtain ⟨y,c,C,b,rfl,hc,hy,O,e,q⟩:=h
 obtain ⟨u,v,rfl,ru,rv⟩:=DD r
 cases ru
 have hv:v=EN c:=by
  cases c with
  | ref a=>exact rv
  | ty n=>exact rv
  | _=>exact absurd rfl hc
 rw [hv]
 obtain ⟨φ,_,_⟩:=I.hok y _ hy
 exact kia_one (FX O) I.kIn φ e (fun z=>nomatch z) fun tk=>⟨.bl b,H,I.tok tk,rfl,q⟩
end L2
namespace L2
open PySem PySem.Spec PyProof.Rows
theorem c3 {X:Cx}{x:Str}{v:V}{pos:Pos}(hg:Gl X x)(h:∃u,X.mg x=some u/\bX v u)(hd:(x == ("__debug__":Str))=false:=by decide):PE X (.Name x pos) (tC v):=
 let ⟨_,hm,r⟩:=h
 dF hg hm r hd
theorem uC {K:WA}{H:Hp}{Q:VK}{y C:Addr}{c:V}{b:Bool}(hy:H y=some (FT y (.ref C)))(O:ExI K C)(e:W.kitOne K (.ref C) (EN c)=some b)(hc:EN c≠.none)(q:Q (.bl b) H):fz K [.ref y,c] H Q:=
 ⟨y,c,C,b,rfl,hc,hy,O,e,q⟩
theorem dq {a:Addr}:EN (.ref a)≠.none:=by intro h;cases h
noncomputable def eqL:List V->List V->Bool
 | [],[]=>true
 | x::xs,y::ys=>eqV x y && eqL xs ys
 | _,_=>false
theorem vW:∀{xs ys:List V},eqL xs ys=true->xs.length=ys.length
 | [],[],_=>rfl
 | _::_,_::_,h=>by
  unfold eqL at h
  rw [Bool.and_eq_true] at h
  simp [vW h.2]
 | [],_::_,h=>by cases h
 | _::_,[],h=>by cases h
noncomputable def KU (K:WA):R2:=fun x y H Q=>∃a b xs ys,x=.ref a/\y=.ref b/\SqL K H a xs/\SqL K H b ys/\xs.all cD=true/\ys.all cD=true/\Q (.bl (eqL xs ys)) H
theorem vX:∀{xs ys:List V},xs.length=ys.length->(List.range xs.length).all (fun j=>eqV (xs.getD j .non) (ys.getD j .non))=eqL xs ys
 | [],[],_=>rfl
 | x::xs,y::ys,h=>by
  have ih:=vX (xs:=xs) (ys:=ys) (by simpa using h)
  rw [List.length_cons,List.range_succ_eq_map,List.all_cons,List.all_map]
  show (eqV x y && (List.range xs.length).all (fun j=>eqV (xs.getD j .non) (ys.getD j .non)))=(eqV x y && eqL xs ys)
  rw [ih]
 | [],_::_,h=>by simp at h
 | _::_,[],h=>by simp at h
theorem KW {X:Cx}(hu:X.A.units < cLine):OpR X (compareOp .Eq) (KU X.K):=by
 intro pins s σ H x y u v Q I rx ry h
 obtain ⟨a,b,xs,ys,rfl,rfl,ha,hb,fa,fb,q⟩:=h
 cases rx;cases ry
 obtain ⟨ia,ra,pa,za⟩:=I.list ha
 obtain ⟨ib,rb,pb,zb⟩:=I.list hb
 have la:=ra.length
 have lb:=rb.length
 by_cases hl:xs.length=ys.length
 ·refine PySem.SeqAt.eq_listAt (e:=fun j=>eqV (xs.getD j .non) (ys.getD j .non)) pa.isList pb.isList (by simp only [List.size_toArray];omega) hu (fun j h1 h2=>?_) ?_
  ·simp only [List.size_toArray] at h1 h2
   have hx:xs[j]?=some (xs.getD j .non):=by
    rw [List.getD_eq_getElem?_getD,List.getElem?_eq_getElem (by omega)];rfl
   have hy:ys[j]?=some (ys.getD j .non):=by
    rw [List.getD_eq_getElem?_getD,List.getElem?_eq_getElem (by omega)];rfl
   obtain ⟨u,eu,ru⟩:=ra.get hx
   obtain ⟨v,ev,rv⟩:=rb.get hy
   have e1:ia.toArray[j]=u:=by
    have:=List.getElem?_eq_some_iff.mp eu
    simpa using this.2
   have e2:ib.toArray[j]=v:=by
    have:=List.getElem?_eq_some_iff.mp ev
    simpa using this.2
   rw [e1,e2]
   exact uA ru rv (List.all_eq_true.mp fa _ (List.mem_of_getElem? hx)) (List.all_eq_true.mp fb _ (List.mem_of_getElem? hy))
  ·have e:(List.range ia.toArray.size).all (fun j=>eqV (xs.getD j .non) (ys.getD j .non))=eqL xs ys:=by
    rw [List.size_toArray,←la]
    exact vX hl
   rw [e]
   exact ⟨.bl (eqL xs ys),H,I,rfl,q⟩
 ·refine PySem.SeqAt.eq_list_lengthsAt pa.isList pb.isList (by simp only [List.size_toArray,bne_iff_ne,ne_eq];omega) hu ?_
  have e:eqL xs ys=false:=by
   cases z:eqL xs ys with
   | false=>rfl
   | true=>exact absurd (vW z) hl
  rw [e] at q
  exact ⟨.bl false,H,I,rfl,q⟩
end L2
namespace L2
theorem cn.of {ds:List Int}(l2:2<=ds.length)(l6:ds.length<=6)(b:∀i,i < ds.length->0<=ds.getD i 0/\ds.getD i 0<=500)(u:∀i,i+1 < ds.length->ds.getD i 0 < ds.getD (i+1) 0):cn ds:=by
 have get:∀i (h:i < ds.length),ds[i]=ds.getD i 0:=fun i h=>by rw [List.getD_eq_getElem?_getD,List.getElem?_eq_getElem h];rfl
 have up:∀k i,i+k+1 < ds.length->ds.getD i 0 < ds.getD (i+k+1) 0:=by
  intro k
  induction k with
  | zero=>intro i h;exact u i h
  | succ k ih=>
   intro i h
   have h1:=ih i (by omega)
   have h2:=u (i+k+1) (by omega)
   rw [show i+(k+1)+1=i+k+1+1 by omega]
   omega
 refine ⟨l2,l6,fun d hd=>?_,fun d hd=>?_,List.pairwise_iff_getElem.mpr fun i j hi hj hij=>?_⟩
 ·obtain ⟨i,hi,rfl⟩:=List.getElem_of_mem hd
  rw [get i hi];exact (b i hi).1
 ·obtain ⟨i,hi,rfl⟩:=List.getElem_of_mem hd
  rw [get i hi];exact (b i hi).2
 ·rw [get i hi,get j hj]
  have:=up (j - i - 1) i (by omega)
  rw [show i+(j - i - 1)+1=j by omega] at this
  exact this
end L2
namespace L2
end L2
namespace L2
open PySem PySem.W PySem.Spec PyProof.Rows
noncomputable def wt:V->Option String
 | .non=>some "NoneType"
 | .bl _=>some "bool"
 | .int _=>some "int"
 | .str _=>some "str"
 | _=>none
def TyX (K:Frag)(H:Hp)(x:V)(T:String):Prop:=wt x=some T\/(∃a xs,x=.ref a/\SqL K H a xs/\T="list")\/∃a xs,x=.ref a/\SqT K H a xs/\T="tuple"
noncomputable def iR:List String:=["NoneType","bool","int","str","list","tuple"]
noncomputable def A6 (T n:String):Bool:=T == n || (T == "bool" && n == "int")
theorem DR {K:Frag}{T n:String}(hT:T∈iR)(hn:n∈iR):kitOne K (.type T) (.type n)=some (A6 T n):=by
 simp only [iR,List.mem_cons,List.not_mem_nil,or_false] at hT hn
 rcases hT with rfl | rfl | rfl | rfl | rfl | rfl<;>rcases hn with rfl | rfl | rfl | rfl | rfl | rfl<;>with_unfolding_all rfl
theorem DS {K:Frag}{T:String}(hT:T∈iR):∀{ns:List String},(∀n∈ns,n∈iR)->kitAny K (.type T) (ns.map Value.type)=some (ns.any (A6 T))
 | [],_=>rfl
 | n::r,h=>by
  have ih:=DS (K:=K) hT (ns:=r) fun m hm=>h m (List.mem_cons_of_mem _ hm)
  rw [List.map_cons,List.any_cons]
  unfold kitAny
  rw [DR hT (h n List.mem_cons_self)]
  cases e:A6 T n with
  | true=>rfl
  | false=>rw [Bool.false_or];exact ih
section
variable {X:Cx}{pins:List (Addr×Obj)}{σ:St}{H:Hp}{s:Shared}
theorem y1 {K:Frag}{x:V}{T:String}(h:TyX K H x T):T∈iR:=by
 rcases h with h | ⟨_,_,_,_,rfl⟩ | ⟨_,_,_,_,rfl⟩
 ·cases x<;>simp only [wt,Option.some.injEq,reduceCtorEq] at h<;>subst h<;>decide
 ·decide
 ·decide
theorem A7 (I:Inv X pins σ H s){x:V}{u:Value}{T:String}(rx:bX x u)(ty:TyX X.K H x T):∃φ:Heap->Prop,KitX X.K u (.type T) φ/\φ s.heap/\u≠.builtin "__main__.__loader__#opaque":=by
 rcases ty with h | ⟨a,xs,rfl,h,rfl⟩ | ⟨a,xs,rfl,h,rfl⟩
 ·cases x with
  | non=>cases rx;cases h;exact ⟨_,kitx_none,trivial,fun z=>nomatch z⟩
  | bl b=>cases rx;cases h;exact ⟨_,kitx_bool,trivial,fun z=>nomatch z⟩
  | int i=>obtain ⟨t,rfl⟩:=rx;cases h;exact ⟨_,kitx_int,trivial,fun z=>nomatch z⟩
  | str i=>obtain ⟨t,rfl⟩:=rx;cases h;exact ⟨_,kitx_str,trivial,fun z=>nomatch z⟩
  | _=>cases h
 ·cases rx
  obtain ⟨its,r,pl,hz⟩:=I.list h
  obtain ⟨o,ho,hc,_⟩:=pl.isList
  exact ⟨_,kitx_list,⟨o,ho,hc⟩,fun z=>nomatch z⟩
 ·cases rx
  obtain ⟨its,r,⟨o,ho,hc,_⟩,hz⟩:=I.tuple h
  exact ⟨_,kitx_tuple,⟨o,ho,hc⟩,fun z=>nomatch z⟩
noncomputable def Mh (K:Frag):List V->Hp->VK->Prop:=fun xs H Q=>∃x n T,xs=[x,.ty n]/\TyX K H x T/\n∈iR/\Q (.bl (A6 T n)) H
theorem gO:df X (.builtin "isinstance") (Mh X.K):=by
 intro pins s σ H xs us Q I r h
 obtain ⟨x,n,T,rfl,ty,hn,q⟩:=h
 obtain ⟨u,v,rfl,ru,rv⟩:=DD r
 cases rv
 obtain ⟨φ,Z,p,ne⟩:=A7 I ru ty
 exact kia_one Z I.kIn p (DR (y1 ty) hn) ne fun tk=>⟨.bl _,H,I.tok tk,rfl,q⟩
noncomputable def Mi (K:Frag):List V->Hp->VK->Prop:=fun xs H Q=>∃(x:V) (tp:Addr) (ns:List String) (T:String),xs=[x,.ref tp]/\SqT K H tp (ns.map V.ty)/\TyX K H x T/\(∀n∈ns,n∈iR)/\Q (.bl (ns.any (A6 T))) H
theorem DT:∀{ns:List String} {its:List Value},bF (ns.map V.ty) its->its=ns.map Value.type
 | [],_,h=>by cases h;rfl
 | n::r,_,h=>by
  cases h with
  | cons a b=>rw [DT b];cases a;rfl
theorem uD:df X (.builtin "isinstance") (Mi X.K):=by
 intro pins s σ H xs us Q I r h
 obtain ⟨x,tp,ns,T,rfl,ht,ty,hn,q⟩:=h
 obtain ⟨u,v,rfl,ru,rv⟩:=DD r
 cases rv
 obtain ⟨φ,Z,p,ne⟩:=A7 I ru ty
 obtain ⟨its,rt,⟨o,ho,hc,n,hd⟩,hz⟩:=I.tuple ht
 obtain rfl:=DT rt
 obtain ⟨c,d,dt,sl⟩:=o
 dsimp only at hc hd
 subst hc hd
 exact kia_tup Z I.kIn p ho (DS (y1 ty) hn) ne fun tk=>⟨.bl _,H,I.tok tk,rfl,q⟩
end
inductive Dt where
 | flat (v:V)
 | lst (ds:List Dt)
 | tup (ds:List Dt)
inductive Rep (K:Frag)(H:Hp):Nat->V->Dt->Prop
 | flat {n:Nat} {v:V} (h:cD v=true):Rep K H n v (.flat v)
 | lst {n:Nat} {a:Addr} {xs:List V} {ds:List Dt} (hs:SqL K H a xs) (hb:xs.length<=100000) (hl:xs.length=ds.length) (hr:∀(i:Nat) x d,xs[i]?=some x->ds[i]?=some d->Rep K H n x d):Rep K H (n+1) (.ref a) (.lst ds)
 | tup {n:Nat} {a:Addr} {xs:List V} {ds:List Dt} (hs:SqT K H a xs) (hb:xs.length<=100000) (hl:xs.length=ds.length) (hr:∀(i:Nat) x d,xs[i]?=some x->ds[i]?=some d->Rep K H n x d):Rep K H (n+1) (.ref a) (.tup ds)
theorem av.tup {K:Frag}{H H':Hp}{a:Addr}{xs:List V}(e:av H H')(h:SqT K H a xs):SqT K H' a xs:=by
 rcases h with (h | ⟨o,h⟩) | h
 ·exact .inl (.inl (e _ _ h))
 ·exact .inl (.inr ⟨o,e _ _ h⟩)
 ·exact .inr h
theorem Rep.same {K:Frag}{H H':Hp}(s:av H H'){n:Nat}{x:V}{d:Dt}(h:Rep K H n x d):Rep K H' n x d:=by
 induction h with
 | flat h=>exact .flat h
 | lst hs hb hl _ ih=>exact .lst (s.seq hs) hb hl ih
 | tup hs hb hl _ ih=>exact .tup (s.tup hs) hb hl ih
theorem FY {P:Program}{w:World}{K:Frag}{mg:Str->Option Value}{base:Heap}{CX:CXT}{k:Nat}{f:Addr}{fd:FuncData}{ps:List Str}:fU P w K mg base CX k f fd ps (fun _ _ _ _=>False):=
 ⟨fun _ _ _ _ h=>h.elim,fun _ _ _ _ _ _ _ _ _ _ _ _ _ h=>h.elim⟩
theorem eZ {α:Type}{xs:List α}{k:Nat}{v:α}(h:xs[k]?=some v):atI xs (k:Int)=some v:=DJ h
end L2
namespace L2
open PySem PySem.Spec PyProof.Rows
noncomputable abbrev Ld:=Str×Int×Int
noncomputable def ldV (x:Ld):List V:=[.str x.1,.int x.2.1,.int x.2.2]
def CD (K:WA)(H:Hp)(as:List Addr)(ls:List Ld):Prop:=as.length=ls.length/\∀(i:Nat) a x,as[i]?=some a->ls[i]?=some x->SqT K H a (ldV x)
def dS (K:WA)(H:Hp)(l:Addr)(ls:List Ld):Prop:=∃as:List Addr,SqL K H l (as.map V.ref)/\CD K H as ls
def rB (m:Int)(x:Ld):Prop:=(0<=x.2.1/\x.2.1 < m)/\(0<=x.2.2/\x.2.2 < m)
theorem CD.same {K:WA}{H H':Hp}{as:List Addr}{ls:List Ld}(s:av H H')(h:CD K H as ls):CD K H' as ls:=⟨h.1,fun i a x e1 e2=>s.tup (h.2 i a x e1 e2)⟩
theorem dS.same {K:WA}{H H':Hp}{l:Addr}{ls:List Ld}(s:av H H')(h:dS K H l ls):dS K H' l ls:=by
 obtain ⟨as,a,b⟩:=h
 exact ⟨as,s.seq a,b.same s⟩
theorem CD.nil {K:WA}{H:Hp}:CD K H [] []:=⟨rfl,fun i a x e _=>by simp at e⟩
theorem CF {α:Type}(as:List α)(f:α->V)(k:Nat)(h:k<=as.length):vC (as.map f) none (some (k:Int))=(as.take k).map f:=by
 unfold vC
 rw [HT.Fy,HT.DF,WB,List.drop_zero,←List.map_take,show min k as.length - 0=k by omega]
theorem SqT.rew {K:WA}{H:Hp}{a l:Addr}{xs ys:List V}{o:HO}(h:SqT K H a xs)(hl:H l=some (.lst ys)):SqT K (upd H l o) a xs:=by
 rcases h with (h | ⟨o',h⟩) | h
 ·refine .inl (.inl ?_)
  rw [aB (fun e=>by rw [e,hl] at h;cases h)];exact h
 ·refine .inl (.inr ⟨o',?_⟩)
  rw [aB (fun e=>by rw [e,hl] at h;cases h)];exact h
 ·exact .inr h
theorem zR {J:It}{g:TG}{tc:TT}{te:TE}{cm:List (Option Nat)}{σ:St}{Q:VK}{H:Hp}(n:Nat)(Pv:Nat->List V->Hp->Prop)(h0:Pv 0 [] H)
  (hgo:∀i acc H,i < n->Pv i acc H->J.go i H) (hst:∀acc H,Pv n acc H->J.stop n H)
  (hs:∀i acc H,i < n->Pv i acc H->acc.length < sizeLine/\∀x H',J.yld i H x H'->∀M:List V->Hp->Prop,(∀acc' H',Pv (i+1) acc' H'->M acc' H')->g x (cN cm σ) H' fun σ2 H2=>Wk (cN cm σ) σ2/\tc σ2 H2 fun b H3=>if b=true then te σ2 H3 fun v H4=>M (acc++[v]) H4 else M acc H3)
  (hd:∀acc H,Pv n acc H->∀p,H p=none->Q (.ref p) (upd H p (.lst acc))):u9 J g tc te cm σ Q H:=by
 refine ⟨fun i m acc H=>m=n - i/\i<=n/\Pv i acc H,⟨n,by simp,Nat.zero_le _,h0⟩,?_⟩
 rintro i m acc H ⟨rfl,hi,p⟩
 by_cases hlt:i < n
 ·obtain ⟨hz,q⟩:=hs i acc H hlt p
  refine .inr ⟨hgo i acc H hlt p,hz,fun x H' y=>q x H' y (fun acc' H4=>∃m',m' < n - i/\m'=n - (i+1)/\i+1<=n/\Pv (i+1) acc' H4) fun acc' H4 q=>⟨n - (i+1),by omega,rfl,hlt,q⟩⟩
 ·have e:i=n:=by omega
  subst e
  exact .inl ⟨hst acc H p,hd acc H p⟩
theorem KY {σ:St}{j:Nat}{x:V}(hj:σ[j]?=some none):Wk σ (σ.set j (some x)):=by
 refine ⟨by simp,fun k v e=>?_⟩
 by_cases hk:j=k
 ·subst hk;rw [hj] at e;cases e
 ·rw [List.getElem?_set_ne hk];exact e
theorem zS {lo:Int}{n:Nat}{te:TE}{cm:List (Option Nat)}{σ:St}{H:Hp}{Q:VK}(Pv:Nat->List V->Hp->Prop)(h0:Pv 0 [] H){j:Nat}(hj:(cN cm σ)[j]?=some none)
  (hs:∀i acc H,i < n->Pv i acc H->acc.length < sizeLine/\∀N:VK,(∀v H',Pv (i+1) (acc++[v]) H'->N v H')->te ((cN cm σ).set j (some (.int (lo+i)))) H N)
  (hd:∀acc H,Pv n acc H->∀p,H p=none->Q (.ref p) (upd H p (.lst acc))):u9 (Itr lo n) (eX j) xZ te cm σ Q H:=by
 refine zR n Pv h0 (fun i _ _ hi _=>hi) (fun _ _ _=>Nat.le_refl _) (fun i acc H hi p=>⟨(hs i acc H hi p).1,fun x H' y M hM=>?_⟩) hd
 obtain ⟨e,y⟩:=y
 subst e y
 refine ⟨KY hj,?_⟩
 unfold xZ;dsimp only
 split
 ·exact (hs i acc H' hi p).2 _ fun v H4 q=>hM _ _ q
 ·rename_i z;exact absurd rfl z
theorem jP {K:WA}{H:Hp}{a:Addr}{xs:List V}{n:Nat}(h:SqT K H a xs)(hb:xs.length<=100000)(hf:∀x∈xs,cD x=true):Rep K H (n+1) (.ref a) (.tup (xs.map Dt.flat)):=by
 refine .tup h hb (by rw [WB]) fun i y d e1 e2=>?_
 rw [List.getElem?_map,e1] at e2
 cases e2
 exact .flat (hf y (List.mem_of_getElem? e1))
section
variable {X:Cx}
theorem Inv.turnedL {pins:List (Addr×Obj)}{σ:St}{H:Hp}{s:Shared}{h':Heap}{t':Nat}{fp:List Addr}(I:Inv X pins σ H s)(k:∀b o,b∉fp->s.heap.get? b=some o->h'.get? b=some o)(hf:∀b∈fp,ux X pins H b) :
  Inv X pins σ H {s with heap:=h',toks:=t'}:=by
 have nit:∀b u,H b=some u->b∉fp:=fun b u e z=>by rw [(hf b z).1] at e;cases e
 refine I.step (g':=s.gens) (d':=s.drawn) (ch:=fp) (fun b hb=>⟨(hf b hb).2.2.2.1,(hf b hb).2.1,(hf b hb).2.2.2.2.1,(hf b hb).2.2.2.2.2⟩) (fun b o _ _ hc e _=>k b o hc e) (fun b o _ _ hc e _=>⟨o.slots,k b o hc e⟩) (fun _ _ _ _ n=>n)
  (fun b o hc e=>⟨o,k b o hc e⟩) (fun _ _ e=>e) (fun _ _ _ e=>e) (fun b ps e=>⟨#[],by rw [e];simp⟩) (fun m hm=>?_) (fun b u e=>?_) I.bare
 ·obtain ⟨o,es,ep,ho,r⟩:=hm
  exact ⟨o,es,ep,k _ o (fun z=>(hf _ z).2.1 rfl) ho,r⟩
 ·refine (I.hok b u e).stay (fun c v hc q=>k c v ?_ q) (fun _ q=>q) fun _ _ q=>q
  rcases hc with z | z
  ·exact z▸nit b u e
  ·exact nit c _ z
theorem Inv.handed {pins:List (Addr×Obj)}{σ:St}{H:Hp}{s:Shared}{h':Heap}{t':Nat}{fp:List Addr}{xs:List V}{us:List Value}{T:Addr}{n:Nat}(I:Inv X pins σ H s)(k:∀b o,b∉fp->s.heap.get? b=some o->h'.get? b=some o)(hf:∀b∈fp,ux X pins H b)
  (hT:s.heap.objs.size<=T) (hz:xs.length<=sizeLine) (r:bF xs us) (e:h'.get? T=some {cls:=.type "tuple",data:=.seq us.toArray n}):Inv X pins σ (upd H T (.tup xs)) {s with heap:=h',toks:=t'}:=by
 have I1:Inv X pins σ H {s with heap:=h',toks:=t'}:=I.turnedL k hf
 have hn:H T=none:=I.hok.fresh hT
 obtain ⟨f0,f1,f2,f3,f4,f5⟩:=I.fpOk hT hn
 have h0:X.s₀.heap.objs.size<=T:=Nat.le_trans I.sz hT
 exact I1.track hn h0 f1 f4 f5 ⟨hz,us,r,⟨_,e,⟨rfl,_,rfl⟩,rfl⟩⟩
noncomputable def Ite (K:WA)(a:Addr):It:=
 ⟨fun i H=>∃xs x,SqL K H a xs/\xs[i]?=some x,fun i H y H'=>∃t x,y=.ref t/\H t=none/\H'=upd H t (.tup [.int (i:Nat),x])/\∀xs,SqL K H a xs->xs[i]?=some x,fun i H=>∃xs,SqL K H a xs/\xs.length<=i⟩
theorem EO {P:Program}{w:World}{K:WA}{elts:List Expr}{x1:Nat}{tpos:Pos}(a e it:Addr)(hne:e≠it):Et P w K (.Tuple elts x1 tpos) (Ite K a) [e,it] e (fun i h=>(∃old,IsEnum h e it (i:Nat) old)/\h.IsListIter it a i) where
 mem:=by simp
 obj:=fun i h st b hb=>by
  obtain ⟨⟨old,h1⟩,o,h2,_,h3⟩:=st
  rcases List.mem_cons.mp hb with rfl | hb
  ·exact ⟨_,h1,fun v z=>by
    have z':Data.fields _=Data.cell v:=z
    cases z'⟩
  ·rw [List.mem_singleton] at hb
   subst hb
   exact ⟨o,h2,fun v z=>by rw [h3] at z;cases z⟩
 keep:=fun i h h' st k=>by
  obtain ⟨⟨old,h1⟩,h2⟩:=st
  exact ⟨⟨old,k e (by simp) _ h1⟩,h2.at fun o q=>k it (by simp) o q⟩
 item:=by
  intro X hP hw hK hc i pins s σ H E I hf st hg
  subst hP hw hK
  obtain ⟨xs,x,hq,hx⟩:=hg
  obtain ⟨its,rv,p,hz⟩:=I.list hq
  obtain ⟨u,hu,ru⟩:=rv.get hx
  obtain ⟨⟨old,h1⟩,h2⟩:=st
  have hel:e < s.heap.objs.size:=Heap.lt_size h1
  have hil:it < s.heap.objs.size:=by
   obtain ⟨o,q,_⟩:=h2
   exact Heap.lt_size q
  refine wpAny_pyNext_enum_item h1 h2 p.isList (x:=u) (by simpa using hu) hne fun h' g1 g2 g3 g4 g5=>?_
  have kf:∀b o,b∉[e,it]->s.heap.get? b=some o->h'.get? b=some o:=fun b o hb q=>g5 b o (fun z=>hb (by simp [z])) (fun z=>hb (by simp [z])) q
  have I1:Inv X pins σ (upd H s.heap.objs.size (.tup [.int (i:Nat),x])) {s with heap:=h',toks:=s.toks+1}:=I.handed (us:=[Value.int (i:Nat) s.toks,u]) kf hf (Nat.le_refl _) (by show 2<=sizeLine;decide) (.cons ⟨_,rfl⟩ (.cons ru .nil)) g3
  have hn:H s.heap.objs.size=none:=I.hok.fresh (Nat.le_refl _)
  have hf1:∀b∈[e,it],upd H s.heap.objs.size (.tup [.int (i:Nat),x]) b=none:=fun b hb=>by
   have hlt:b < s.heap.objs.size:=by
    rcases List.mem_cons.mp hb with rfl | hb
    ·exact hel
    ·rw [List.mem_singleton] at hb
     subst hb
     exact hil
   rw [aB (Nat.ne_of_lt hlt)]
   exact (hf b hb).1
  refine ⟨_,rfl,wpAny_letOwnedTupleGo_enum (s:={s with heap:=h',toks:=s.toks+1}) g1 fun h2' q1 q2=>?_⟩
  have I2:Inv X pins σ (upd H s.heap.objs.size (.tup [.int (i:Nat),x])) {s with heap:=h2',toks:=s.toks+1}:=I1.turnedL (s:={s with heap:=h',toks:=s.toks+1}) (t':=s.toks+1) (fp:=[e,it]) (fun b o hb q=>(q2.2 b (fun z=>hb (by simp [z]))).trans q) fun b hb=>⟨hf1 b hb,(hf b hb).2⟩
  refine ⟨.ref s.heap.objs.size,_,I2,rfl,⟨_,x,rfl,hn,rfl,fun ys hy=>by rw [I.list_inj hy hq];exact hx⟩,⟨⟨u,?_⟩,?_⟩,hf1⟩
  ·have:((i+1:Nat):Int)=(i:Int)+1:=by omega
   rw [this]
   exact q1
  ·exact g2.at fun o q=>(q2.2 it (Ne.symm hne)).trans q
 done:=by
  intro X hP hw hK hc i pins s σ H E I hf st hg
  subst hP hw hK
  obtain ⟨xs,hq,hx⟩:=hg
  obtain ⟨its,rv,p,hz⟩:=I.list hq
  have hl:=rv.length
  obtain ⟨⟨old,h1⟩,h2⟩:=st
  exact wpAny_pyNext_enum_end (I.ok.hd hc) h1 h2 p.isList (by simp;omega) fun h' eb=>⟨rfl,I.turnedL (t':=s.toks) (fun b o hb q=>eb b o (fun z=>hb (by simp [z])) q) hf⟩
 self:=fun _ _ _ _ _ st h=>by
  obtain ⟨⟨old,h1⟩,h2⟩:=st
  exact wpAny_pyIter_enum h1 h
noncomputable def JL (K:WA)(te:TE):TI:=fun σ H R=>te σ H fun x H1=>∃a,x=.ref a/\(∃xs,SqL K H1 a xs)/\R (Ite K a) H1
theorem HZ {a:Expr}{te:TE}{p pos tpos:Pos}{elts:List Expr}{x1:Nat}(hg:Gl X "enumerate")(hm:X.mg "enumerate"=none)(hb:bootBuiltins "enumerate"=some (.type "enumerate"))(he:PE X a te)(hs:starEach [a] X.env=[(false,eval a X.env)]:=by rfl) :
  PI X (.Tuple elts x1 tpos) (.Call (.Name "enumerate" p) [a] [] pos) (JL X.K te):=by
 intro pins s σ H R I h
 refine Call_ (rq I hg hm hb (PyProof.Rows.callWith_type1 ?_ hs rfl))
 rw [hs]
 refine Calls.spliced_cons (thn (he pins s σ H _ I h) fun u s1 ⟨x,H1,I1,r1,l,ex,⟨xs,hq⟩,q⟩=>?_)
 subst ex
 cases r1
 refine Calls.spliced_nil ?_
 obtain ⟨its,rv,pl,hz⟩:=I1.list hq
 refine call_enumerate_list pl.isList fun h' h1 h2 h3 h4=>?_
 refine wpAny_pyIter_enum h1 ?_
 have hne:s1.heap.objs.size+1≠s1.heap.objs.size:=Nat.ne_of_gt (Nat.lt_succ_self _)
 refine ⟨s1.heap.objs.size+1,[s1.heap.objs.size+1,s1.heap.objs.size],_,_,H1,rfl,I1.kept (t':=s1.toks) h4,EO l _ _ hne,⟨⟨_,h1⟩,h2⟩,fun b hb=>?_,q⟩
 rcases List.mem_cons.mp hb with rfl | hb
 ·exact I1.fpOk (Nat.le_succ _) (I1.hok.fresh (Nat.le_succ _))
 ·rw [List.mem_singleton] at hb
  subst hb
  exact I1.fpOk (Nat.le_refl _) (I1.hok.fresh (Nat.le_refl _))
noncomputable def Itz (K:WA)(a b:Addr):It:=
 ⟨fun i H=>∃xs ys x y,SqL K H a xs/\SqL K H b ys/\xs[i]?=some x/\ys[i]?=some y,fun i H v H'=>∃t x y,v=.ref t/\H t=none/\H'=upd H t (.tup [x,y])/\(∀xs,SqL K H a xs->xs[i]?=some x)/\∀ys,SqL K H b ys->ys[i]?=some y,
  fun i H=>∃xs ys,SqL K H a xs/\SqL K H b ys/\(xs.length<=i\/ys.length<=i)⟩
theorem FZ {P:Program}{w:World}{K:WA}{elts:List Expr}{x1:Nat}{tpos:Pos}(l1 l2 z TI TO i1 i2:Addr)(D:ZipApart z TI TO i1 i2 l1 l2) :
  Et P w K (.Tuple elts x1 tpos) (Itz K l1 l2) [z,TI,TO,i1,i2] z (fun i h=>IsZip h z TI TO .none/\IsPair h TI (.ref i1) (.ref i2)/\(∃u v,IsPair h TO u v)/\h.IsListIter i1 l1 i/\h.IsListIter i2 l2 i) where
 mem:=by simp
 obj:=fun i h st b hb=>by
  obtain ⟨h1,h2,⟨u,v,h3⟩,⟨o4,h4,_,d4⟩,⟨o5,h5,_,d5⟩⟩:=st
  simp only [List.mem_cons,List.not_mem_nil,or_false] at hb
  rcases hb with rfl | rfl | rfl | rfl | rfl
  ·exact ⟨_,h1,fun v z=>by
    have z':Data.fields _=Data.cell v:=z
    cases z'⟩
  ·exact ⟨_,h2,fun v z=>by
    have z':Data.seq _ _=Data.cell v:=z
    cases z'⟩
  ·exact ⟨_,h3,fun v z=>by
    have z':Data.seq _ _=Data.cell v:=z
    cases z'⟩
  ·exact ⟨o4,h4,fun v z=>by rw [d4] at z;cases z⟩
  ·exact ⟨o5,h5,fun v z=>by rw [d5] at z;cases z⟩
 keep:=fun i h h' st k=>by
  obtain ⟨h1,h2,⟨u,v,h3⟩,h4,h5⟩:=st
  exact ⟨k z (by simp) _ h1,k TI (by simp) _ h2,⟨u,v,k TO (by simp) _ h3⟩,h4.at fun o q=>k i1 (by simp) o q,h5.at fun o q=>k i2 (by simp) o q⟩
 item:=by
  intro X hP hw hK hc i pins s σ H E I hf st hg
  subst hP hw hK
  obtain ⟨xs,ys,x,y,hq1,hq2,hx,hy⟩:=hg
  obtain ⟨its1,rv1,p1,hz1⟩:=I.list hq1
  obtain ⟨its2,rv2,p2,hz2⟩:=I.list hq2
  obtain ⟨u,hu,ru⟩:=rv1.get hx
  obtain ⟨v,hv,rv⟩:=rv2.get hy
  obtain ⟨h1,h2,⟨c1,c2,h3⟩,h4,h5⟩:=st
  have lt:∀b∈[z,TI,TO,i1,i2],b < s.heap.objs.size:=fun b hb=>by
   simp only [List.mem_cons,List.not_mem_nil,or_false] at hb
   rcases hb with rfl | rfl | rfl | rfl | rfl
   ·exact Heap.lt_size h1
   ·exact Heap.lt_size h2
   ·exact Heap.lt_size h3
   ·obtain ⟨o,q,_⟩:=h4;exact Heap.lt_size q
   ·obtain ⟨o,q,_⟩:=h5;exact Heap.lt_size q
  refine wpAny_pyNext_zip_item D h1 h2 h3 h4 h5 p1.isList p2.isList (x:=u) (y:=v) (by simpa using hu) (by simpa using hv) fun h' g1 g2 g3 g4 g5 g6 g7=>?_
  have kf:∀b o,b∉[z,TI,TO,i1,i2]->s.heap.get? b=some o->h'.get? b=some o:=fun b o hb q=>g7 b o (fun e=>hb (by simp [e])) (fun e=>hb (by simp [e])) (fun e=>hb (by simp [e])) (fun e=>hb (by simp [e])) q
  have I1:Inv X pins σ (upd H s.heap.objs.size (.tup [x,y])) {s with heap:=h',toks:=s.toks}:=I.handed (us:=[u,v]) kf hf (Nat.le_refl _) (by show 2<=sizeLine;decide) (.cons ru (.cons rv .nil)) g5
  have hn:H s.heap.objs.size=none:=I.hok.fresh (Nat.le_refl _)
  have hf1:∀b∈[z,TI,TO,i1,i2],upd H s.heap.objs.size (.tup [x,y]) b=none:=fun b hb=>by
   rw [aB (Nat.ne_of_lt (lt b hb))]
   exact (hf b hb).1
  refine ⟨_,rfl,wpAny_letOwnedTupleGo_zip (s:={s with heap:=h'}) g1 fun h2' q1 q2=>?_⟩
  have I2:Inv X pins σ (upd H s.heap.objs.size (.tup [x,y])) {s with heap:=h2',toks:=s.toks}:=I1.turnedL (s:={s with heap:=h',toks:=s.toks}) (t':=s.toks) (fp:=[z,TI,TO,i1,i2]) (fun b o hb q=>(q2.2 b (fun e=>hb (by simp [e]))).trans q) fun b hb=>⟨hf1 b hb,(hf b hb).2⟩
  have k2:∀b o,b≠z->h'.get? b=some o->h2'.get? b=some o:=fun b o hb q=>(q2.2 b hb).trans q
  have gTI:IsPair h' TI (.ref i1) (.ref i2):=g7 TI _ D.TIz D.TITO D.TIi1 D.TIi2 h2
  refine ⟨.ref s.heap.objs.size,_,I2,rfl,⟨_,x,y,rfl,hn,rfl,fun zs hz=>by rw [I.list_inj hz hq1];exact hx,fun zs hz=>by rw [I.list_inj hz hq2];exact hy⟩,⟨q1,k2 _ _ D.TIz gTI,⟨u,v,k2 _ _ D.TOz g2⟩,g3.at fun o q=>k2 _ _ D.i1z q,g4.at fun o q=>k2 _ _ D.i2z q⟩,hf1⟩
 done:=by
  intro X hP hw hK hc i pins s σ H E I hf st hg
  subst hP hw hK
  obtain ⟨xs,ys,hq1,hq2,hend⟩:=hg
  obtain ⟨its1,rv1,p1,hz1⟩:=I.list hq1
  obtain ⟨its2,rv2,p2,hz2⟩:=I.list hq2
  have hl1:=rv1.length
  have hl2:=rv2.length
  obtain ⟨h1,h2,⟨c1,c2,h3⟩,h4,h5⟩:=st
  refine wpAny_pyNext_zip_end (I.ok.hd hc) D h1 h2 h3 h4 h5 p1.isList p2.isList ?_ fun h' eb=>⟨rfl,I.turnedL (t':=s.toks) (fun b o hb q=>eb b o (fun e=>hb (by simp [e])) (fun e=>hb (by simp [e])) (fun e=>hb (by simp [e])) (fun e=>hb (by simp [e])) q) hf⟩
  rcases hend with e | e
  ·left;simp;omega
  ·right;simp;omega
 self:=fun _ _ _ _ _ st h=>wpAny_pyIter_zip st.1 h
noncomputable def Mj (K:WA)(ta tb:TE):TI:=fun σ H R=>ta σ H fun x H1=>tb σ H1 fun y H2=>∃a b,x=.ref a/\y=.ref b/\(∃xs,SqL K H2 a xs)/\(∃ys,SqL K H2 b ys)/\R (Itz K a b) H2
theorem KZ {a b:Expr}{ta tb:TE}{p pos tpos:Pos}{elts:List Expr}{x1:Nat}(hg:Gl X "zip")(hm:X.mg "zip"=none)(hb:bootBuiltins "zip"=some (.type "zip"))(ha:PE X a ta)(hb2:PE X b tb)(hs:starEach [a,b] X.env=[(false,eval a X.env),(false,eval b X.env)]:=by rfl)(hs2:starEach [b] X.env=[(false,eval b X.env)]:=by rfl) :
  PI X (.Tuple elts x1 tpos) (.Call (.Name "zip" p) [a,b] [] pos) (Mj X.K ta tb):=by
 intro pins s σ H R I h
 refine Call_ (rq I hg hm hb (PyProof.Rows.callWith_type1 ?_ (by rw [hs,hs2]) (by rw [hs2];rfl)))
 rw [hs]
 refine Calls.spliced_cons (thn (ha pins s σ H _ I h) fun u s1 ⟨x,H1,I1,r1,q1⟩=>?_)
 refine Calls.spliced_cons (thn (hb2 pins s1 σ H1 _ I1 q1) fun v s2 ⟨y,H2,I2,r2,l1,l2,ex,ey,⟨xs,hq1⟩,⟨ys,hq2⟩,q⟩=>?_)
 subst ex ey
 cases r1
 cases r2
 refine Calls.spliced_nil ?_
 obtain ⟨its1,rv1,p1,hz1⟩:=I2.list hq1
 obtain ⟨its2,rv2,p2,hz2⟩:=I2.list hq2
 have a1:l1 < s2.heap.objs.size:=by obtain ⟨o,q,_⟩:=p1.isList;exact Heap.lt_size q
 have a2:l2 < s2.heap.objs.size:=by obtain ⟨o,q,_⟩:=p2.isList;exact Heap.lt_size q
 refine call_zip_2 p1.isList p2.isList fun h' h1 h2 h3 h4 h5 h6 h7=>?_
 refine wpAny_pyIter_zip h1 ?_
 have n0:∀l:Nat,l < s2.heap.objs.size->∀k:Nat,l≠s2.heap.objs.size+k:=fun l hl k=>by omega
 have n1:∀j k:Nat,j≠k->s2.heap.objs.size+j≠s2.heap.objs.size+k:=fun j k hjk=>by omega
 refine ⟨s2.heap.objs.size+4,[s2.heap.objs.size+4,s2.heap.objs.size+2,s2.heap.objs.size+3,s2.heap.objs.size+0,s2.heap.objs.size+1],_,_,H2,rfl,I2.kept (t':=s2.toks) h7,
  FZ l1 l2 _ _ _ _ _ ⟨n1 2 4 (by decide),n1 3 4 (by decide),n1 0 4 (by decide),n1 1 4 (by decide),n1 2 3 (by decide),n1 2 0 (by decide),n1 2 1 (by decide),n1 3 0 (by decide),n1 3 1 (by decide),n1 0 1 (by decide),n0 _ a1 4,n0 _ a1 3,n0 _ a1 0,n0 _ a1 1,n0 _ a2 4,n0 _ a2 3,n0 _ a2 0,n0 _ a2 1⟩,⟨h1,h2,⟨_,_,h3⟩,h4,h5⟩,fun b hb=>?_,q⟩
 have hle:s2.heap.objs.size<=b:=by
  simp only [List.mem_cons,List.not_mem_nil,or_false] at hb
  rcases hb with rfl | rfl | rfl | rfl | rfl<;>exact Nat.le_add_right _ _
 exact I2.fpOk hle (I2.hok.fresh hle)
end
theorem A8 {J:It}{g:TG}{tb:TS}{D:mK}{σ:St}{H:Hp}(n:Nat)(Pv:Nat->St->Hp->Prop)(h0:Pv 0 σ H)(hgo:∀i σ H,i < n->Pv i σ H->J.go i H)(hst:∀σ H,Pv n σ H->J.stop n H)
  (hs:∀i σ H,i < n->Pv i σ H->∀x H',J.yld i H x H'->g x σ H' fun σ2 H2=>tb {D with nx:=Pv (i+1),ct:=Pv (i+1),bk:=D.nx} σ2 H2) (hd:∀σ H,Pv n σ H->D.nx σ H):DO J g tb D σ H:=by
 refine ⟨fun i m σ H=>m=n - i/\i<=n/\Pv i σ H,⟨n,by simp,Nat.zero_le _,h0⟩,?_⟩
 rintro i m σ H ⟨rfl,hi,p⟩
 by_cases hlt:i < n
 ·exact .inr ⟨hgo i σ H hlt p,Pv (i+1),fun σ' H' q=>⟨n - (i+1),by omega,rfl,hlt,q⟩,fun x H' y=>hs i σ H hlt p x H' y⟩
 ·have e:i=n:=by omega
  subst e
  exact .inl ⟨hst σ H p,hd σ H p⟩
section
variable {X:Cx}
noncomputable def K0 (K:WA):V->List V->Hp->VK->Prop:=fun x vs H Q=>∃(l:Addr) (ns:List Int) (k:Int),x=.ref l/\vs=[.int k]/\SqL K H l (ns.map V.int)/\k∈ns/\Q (.int (ns.idxOf k:Nat)) H
end
def ax (p:Addr)(H H':Hp):Prop:=∀b o,b≠p->H b=some o->H' b=some o
theorem ax.of {p:Addr}{H H':Hp}(s:av H H'):ax p H H':=fun b o _ e=>s b o e
theorem ax.trans {p:Addr}{H H1 H2:Hp}(a:ax p H H1)(b:ax p H1 H2):ax p H H2:=fun c o n e=>b c o n (a c o n e)
theorem ax.put {p:Addr}{H H':Hp}{o:HO}(s:ax p H H'):ax p H (upd H' p o):=fun b u n e=>by rw [aB n];exact s b u n e
theorem Rd.keep {p a:Addr}{H H':Hp}{u:HO}(s:ax p H H')(n:a≠p)(h:Rd H a u):Rd H' a u:=by
 rcases h with h | ⟨o,h⟩
 ·exact .inl (s _ _ n h)
 ·exact .inr ⟨o,s _ _ n h⟩
theorem SqT.keep {K:WA}{p a:Addr}{H H':Hp}{xs ys:List V}(s:ax p H H')(hp:H p=some (.lst ys))(h:SqT K H a xs):SqT K H' a xs:=by
 rcases h with h | h
 ·refine .inl (h.keep s fun z=>?_)
  subst z
  rcases h with h | ⟨o,h⟩
  ·rw [hp] at h;cases h
  ·rw [hp] at h;cases h
 ·exact .inr h
theorem Rd.keepI {p a C dx:Addr}{H H':Hp}{fs:List (Str×V)}{u:HO}(s:ax p H H')(hp:H p=some (.ins C dx fs))(hu:∀C dx fs,u≠.ins C dx fs)(h:Rd H a u):Rd H' a u:=by
 refine h.keep s fun z=>?_
 subst z
 rcases h with h | ⟨o,h⟩
 ·rw [hp] at h;cases h;exact hu _ _ _ rfl
 ·rw [hp] at h;cases h
theorem SqL.keepI {K:WA}{p a C dx:Addr}{H H':Hp}{xs:List V}{fs:List (Str×V)}(s:ax p H H')(hp:H p=some (.ins C dx fs))(h:SqL K H a xs):SqL K H' a xs:=by
 rcases h with h | h
 ·exact .inl (h.keepI s hp fun _ _ _ z=>HO.noConfusion z)
 ·exact .inr h
theorem SqT.keepI {K:WA}{p a C dx:Addr}{H H':Hp}{xs:List V}{fs:List (Str×V)}(s:ax p H H')(hp:H p=some (.ins C dx fs))(h:SqT K H a xs):SqT K H' a xs:=by
 rcases h with h | h
 ·exact .inl (h.keepI s hp fun _ _ _ z=>HO.noConfusion z)
 ·exact .inr h
theorem dS.keepI {K:WA}{p l C dx:Addr}{H H':Hp}{ls:List Ld}{fs:List (Str×V)}(s:ax p H H')(hp:H p=some (.ins C dx fs))(h:dS K H l ls):dS K H' l ls:=by
 obtain ⟨as,a,b⟩:=h
 exact ⟨as,a.keepI s hp,b.1,fun i a x e1 e2=>(b.2 i a x e1 e2).keepI s hp⟩
structure c7 (C:Addr)(H:Hp)(y kn wh:Addr)(ks:List Str)(ws:List Int)(m:Int):Prop where
 ob:∃dx,H y=some (.ins C dx [("kinds",.ref kn),("where",.ref wh),("many",.int m)])
 okn:H kn=some (.lst (ks.map V.str))
 owh:H wh=some (.lst (ws.map V.int))
theorem c7.same {C:Addr}{H H':Hp}{y kn wh:Addr}{ks:List Str}{ws:List Int}{m:Int}(h:c7 C H y kn wh ks ws m)(s:av H H'):c7 C H' y kn wh ks ws m:=by
 obtain ⟨⟨dx,a⟩,b,c⟩:=h
 exact ⟨⟨dx,s _ _ a⟩,s _ _ b,s _ _ c⟩
theorem c7.off {C:Addr}{H H':Hp}{p y kn wh:Addr}{ks:List Str}{ws:List Int}{m:Int}{ys:List V}(h:c7 C H y kn wh ks ws m)(s:ax p H H')(hp:H p=some (.lst ys))(n1:kn≠p)(n2:wh≠p):c7 C H' y kn wh ks ws m:=by
 obtain ⟨⟨dx,a⟩,b,c⟩:=h
 exact ⟨⟨dx,s _ _ (fun z=>by rw [z,hp] at a;cases a) a⟩,s _ _ n1 b,s _ _ n2 c⟩
theorem c7.put {C:Addr}{H H':Hp}{y kn wh:Addr}{ks:List Str}{ws ws':List Int}{m:Int}(h:c7 C H y kn wh ks ws m)(s:ax wh H H')(n1:kn≠wh)(e:H' wh=some (.lst (ws'.map V.int))):c7 C H' y kn wh ks ws' m:=by
 obtain ⟨⟨dx,a⟩,b,c⟩:=h
 exact ⟨⟨dx,s _ _ (fun z=>by rw [z,c] at a;cases a) a⟩,s _ _ n1 b,e⟩
theorem Ga {K:WA}{l:Addr}{ls:List Ld}{te:TE}{cm:List (Option Nat)}{σ:St}{H:Hp}{Q:VK}(f:Ld->V)(hL:dS K H l ls)(hn:ls.length<=sizeLine)(hcm:cN cm σ=[none,none,none])
  (he:∀x∈ls,∀N:VK,N (f x) H->te [some (.str x.1),some (.int x.2.1),some (.int x.2.2)] H N)
  (hd:∀p,H p=none->Q (.ref p) (upd H p (.lst (ls.map f)))):u9 (Itl K l) (Kh K 3 (AU (eX 0) (AU (eX 1) (AU (eX 2) Kg)))) xZ te cm σ Q H:=by
 obtain ⟨as,hS,hlen,hT⟩:=hL
 refine zR ls.length (fun i acc H'=>H'=H/\acc=(ls.take i).map f) ⟨rfl,by simp⟩ ?_ ?_ ?_ ?_
 ·rintro i acc H' hi ⟨rfl,_⟩
  have ha:as[i]?=some as[i]:=List.getElem?_eq_getElem (by omega)
  exact ⟨_,.ref as[i],hS,by rw [List.getElem?_map,ha];rfl⟩
 ·rintro acc H' ⟨rfl,_⟩
  exact ⟨_,hS,by rw [WB];omega⟩
 ·rintro i acc H' hi ⟨rfl,rfl⟩
  have ha:as[i]?=some as[i]:=List.getElem?_eq_getElem (by omega)
  have hx:ls[i]?=some ls[i]:=List.getElem?_eq_getElem hi
  refine ⟨by rw [WB,List.length_take];omega,fun x H2 y M hM=>?_⟩
  obtain ⟨e,y⟩:=y
  subst e
  have hy:=y _ hS
  rw [List.getElem?_map,ha] at hy
  cases hy
  rw [hcm]
  refine ⟨_,_,rfl,hT i _ _ ha hx,rfl,_,_,rfl,_,_,rfl,_,_,rfl,rfl,⟨rfl,fun k v e=>?_⟩,?_⟩
  ·match k,e with
   | 0,e=>cases e
   | 1,e=>cases e
   | 2,e=>cases e
  ·unfold xZ;dsimp only
   split
   ·refine he ls[i] (List.getElem_mem _) _ (hM _ _ ⟨rfl,?_⟩)
    rw [List.take_succ_eq_append_getElem hi,List.map_append];rfl
   ·rename_i z;exact absurd rfl z
 ·rintro acc H' ⟨rfl,rfl⟩ p hp
  rw [List.take_length]
  exact hd p hp
theorem uE {n:Nat}{i:Int}(h0:0<=i)(h1:i < n):ixN n i=some i.toNat:=by
 unfold ixN
 rw [if_pos h0,if_pos h1]
theorem gP {ds:List Int}{i:Nat}(h:i < ds.length):ds.getD i 0∈ds:=by
 rw [List.getD_eq_getElem?_getD,List.getElem?_eq_getElem h]
 exact List.getElem_mem h
theorem wu {ds:List Int}{i:Nat}(h:i < ds.length):ds[i]?=some (ds.getD i 0):=by
 rw [List.getD_eq_getElem?_getD,List.getElem?_eq_getElem h];rfl
theorem y3 {c:Int}(h0:0<=c)(h1:c < 2):atI [V.int 10,V.int 11] c=some (.int (10+c)):=by
 rcases (by omega:c=0\/c=1) with rfl | rfl<;>rfl
theorem ER {ws:List Int}{k:Int}{i:Nat}(hi:i < ws.length)(he:ws.getD i 0=k)(hn:∀j,j < i->ws.getD j 0≠k):ws.idxOf k=i:=by
 have hm:k∈ws:=he▸gP hi
 have hlt:ws.idxOf k < ws.length:=List.idxOf_lt_length_iff.mpr hm
 have e1:ws.getD (ws.idxOf k) 0=k:=by
  rw [List.getD_eq_getElem?_getD,List.getElem?_eq_getElem hlt]
  exact List.getElem_idxOf hlt
 rcases Nat.lt_trichotomy (ws.idxOf k) i with h | h | h
 ·exact absurd e1 (hn _ h)
 ·exact h
 ·have:=ne_of_lt_idxOf (ns:=ws) (k:=k) h (by omega)
  rw [List.getD_eq_getElem?_getD,List.getElem?_eq_getElem hi] at he
  exact absurd he (by simpa using this)
section
variable {X:Cx}
theorem CG {tg iter elt:Expr}{ifs:List Expr}{scope:Scope}{pos spos py:Pos}{Nc:List Str}{cm:List (Option Nat)}{wi:TI}{g:TG}{tc:TT}{te:TE}{iy:Nat}{y:Str}(hN:X.N.Nodup)(hiy:X.N[iy]?=some y)(hly:X.env.scope.names.lookup y=some .local)
  (hsw:swapsWith (.ListComp elt [⟨tg,iter,ifs,0⟩] scope pos) (some (.Name y py)) spos.line X.env=pure true)
  (hc:X.calm=true) (hi:PI X tg iter wi) (hkind:scope.kind=.function) (hcell:∀y∈scope.names,y.2≠.cell) (hnames:∀y∈scope.names,y.2=.local->scope.names.lookup y.1=some .local)
  (hfree:∀y∈scope.names,y.2=.free->X.env.kindOf y.1=some .cell\/X.env.kindOf y.1=some .free) (hlen:cm.length=Nc.length)
  (hcm:∀(j:Nat) (x:Str) (i:Nat),Nc[j]?=some x->cm[j]?=some (some i)->X.N[i]?=some x/\scope.names.lookup x=some .free/\(X.env.kindOf x=some .cell\/X.env.kindOf x=some .free))
  (hg:∀C s₀ H₀ ex,PG (blk X Nc scope C s₀ H₀ ex) tg g) (ht:∀C s₀ H₀ ex,PIf (blk X Nc scope C s₀ H₀ ex) ifs tc) (he:∀C s₀ H₀ ex,PE (blk X Nc scope C s₀ H₀ ex) elt te)
  (hs:∀x,foldedSetIterable iter X.env x=pure x:=by intro _;rfl):PS X (.Assign [.Name y py] (.ListComp elt [⟨tg,iter,ifs,0⟩] scope pos) spos) (Fm (A3 wi g tc te cm) (eX iy)):=by
 intro pins s σ H D0 I h
 rw [exec_Assign_Name_used _ _ _ _ hsw]
 refine wpAny_bind (wpAny_standAt (wpAny_bind ?_))
 show wpAny _ X.A (do let _ ←comprehension (.ListComp elt [⟨tg,iter,ifs,0⟩] scope pos) scope X.env _ (newList []) false (eval iter X.env) (some (assign (.Name y py) X.env))) _ _ s
 refine wpAny_bind (wpAny_mono (Q:=fun _ s'=>SP X pins D0 .next s') ?_ (fun _ s' hq=>wpAny_pure (wpAny_pure hq)) fun _ _ e=>e)
 have hfr:∀y∈scope.names,y.2=.free->∃c,X.env.cells.lookup y.1=some c:=fun y hy e=>I.ok.has y.1 (hfree y hy e)
 refine wpAny_comprehension_free (use:=some (assign (.Name y py) X.env)) (Q:=fun _ s'=>SP X pins D0 .next s') rfl hs (mR hfr) hkind hnames (thn (hi pins s σ H _ I h) fun v s1 h1=>thn h1 fun itv s2 h2=>?_)
 obtain ⟨it,fp,tn,J,H2,e,I2,T,st2,f2,W,⟨m0,w0⟩,turn⟩:=h2
 subst e
 refine wpAny_newObj_type (wpAny_newFunctionEnv hcell (by intro y hy;simp at hy) (fun h₁ hns₁ hsb₁=>?_) hkind)
 dsimp only at hns₁ hsb₁ ⊢
 have keepA:∀b u,(s2.heap.push {cls:=.type "list",dict:=none,data:=.seq ([]:List Value).toArray}).get? b=some u->h₁.get? b=some u:=fun b u q=>(hsb₁.2 b (Nat.ne_of_lt (Heap.lt_size q))).trans (Heap.get?_push_of_some _ q)
 refine y0 (yo:=none) (QV:=fun x H1=>eX iy x σ H1 D0.nx) hc hkind (fun z hz e=>absurd e (hcell z hz)) (fun _ e=>by cases e) hfr hlen hcm hg ht he I2 T st2 f2 w0 turn hns₁ keepA (fun _ e=>by cases e) (fun s6 H5 acc m hm fc J qn _=>?_)
 obtain ⟨fc0,fc1,fc2,fc3,fc4,fc5⟩:=fc
 refine wpAny_assign_Name (yT (s:=s6) (v:=.ref s2.heap.objs.size) (J s6.heap ⟨rfl,fun _ _=>rfl⟩) hN hiy (.inl hly) rfl (fun s7 J9 hsa=>?_) (.inr hly))
 obtain ⟨aa,hsa,hwh⟩:=hsa
 exact ⟨m,hm.sameBut hsa (by rcases hwh with z | z;rw [z];exact fc1;exact (fc4 _ _ z).symm),fun h7 hs7=>⟨_,_,J9.turned (it:=(s2.heap.push {cls:=.type "list",dict:=none,data:=.seq ([]:List Value).toArray}).objs.size) (t':=s7.toks) (fun b o hb hu=>(hs7.2 b hb).trans hu) fc0 fc1 fc3 fc4 fc5,qn⟩⟩
end
theorem JM {X:Cx}{tg iter elt:Expr}{ifs:List Expr}{scope:Scope}{pos spos py:Pos}(Nc:List Str)(cm:List (Option Nat)){wi:TI}{g:TG}{tc:TT}{te:TE}{iy:Nat}{y:Str}(hN:X.N.Nodup)(hiy:X.N[iy]?=some y)(hly:X.env.scope.names.lookup y=some .local)
  (hi:PI X tg iter wi) (hg:∀C s₀ H₀ ex,PG (blk X Nc scope C s₀ H₀ ex) tg g) (ht:∀C s₀ H₀ ex,PIf (blk X Nc scope C s₀ H₀ ex) ifs tc) (he:∀C s₀ H₀ ex,PE (blk X Nc scope C s₀ H₀ ex) elt te)
  (hsw:swapsWith (.ListComp elt [⟨tg,iter,ifs,0⟩] scope pos) (some (.Name y py)) spos.line X.env=pure true:=by rfl)
  (hc:X.calm=true:=by rfl) (hkind:scope.kind=.function:=by rfl) (hcell:∀y∈scope.names,y.2≠.cell:=by decide +kernel) (hnames:∀y∈scope.names,y.2=.local->scope.names.lookup y.1=some .local:=by decide +kernel)
  (hfree:FN X scope=true:=by rfl) (hlen:cm.length=Nc.length:=by rfl) (hcm:Mf X scope Nc cm=true:=by rfl)
  (hs:∀x,foldedSetIterable iter X.env x=pure x:=by intro _;rfl):PS X (.Assign [.Name y py] (.ListComp elt [⟨tg,iter,ifs,0⟩] scope pos) spos) (Fm (A3 wi g tc te cm) (eX iy)):=by
 refine CG hN hiy hly hsw hc hi hkind hcell hnames (fun y hy e=>?_) hlen (fun j x i e1 e2=>?_) hg ht he hs
 ·have h:=List.all_eq_true.mp hfree y hy
  rw [e] at h
  simpa using h
 ·have hj:(Nc.zip cm)[j]?=some (x,some i):=by
   rw [List.getElem?_zip_eq_some];exact ⟨e1,e2⟩
  have h:=List.all_eq_true.mp hcm _ (List.mem_of_getElem? hj)
  simpa using h
theorem fU.calm {P:Program}{w:World}{K:WA}{mg:Str->Option Value}{base:Heap}{k:Nat}{f:Addr}{fd:FuncData}{ps:List Str}{sp:Sp}(F:fU P w K mg base (CXf P w) k f fd ps sp)
  (h:∀vs H Q E,sp vs H Q E->sp vs H Q E0):fU P w K mg base CX0 k f fd ps sp:=by
 refine ⟨F.len,fun A outer s H args us vs Q E hr he hb hv hs=>?_⟩
 refine codeAny_mono (F.run A outer s H args us vs Q E0 hr he hb hv (h _ _ _ _ hs)) fun r s' q=>?_
 cases r with
 | ok fl=>cases fl<;>exact q
 | error e=>
  obtain ⟨x,cls,a0,H',B,_,_,_,_,_,_,_,_,_,z⟩:=q
  exact z.elim
def cS {α:Type}(f:α->List V)(K:WA)(H:Hp)(as:List Addr)(ls:List α):Prop:=as.length=ls.length/\∀(i:Nat) a x,as[i]?=some a->ls[i]?=some x->SqT K H a (f x)
def i8 {α:Type}(f:α->List V)(K:WA)(H:Hp)(l:Addr)(ls:List α):Prop:=∃as:List Addr,SqL K H l (as.map V.ref)/\cS f K H as ls
section
variable {α:Type}{f:α->List V}{K:WA}{H H':Hp}{as bs:List Addr}{ls ks:List α}{l p:Addr}
theorem cS.same (s:av H H')(h:cS f K H as ls):cS f K H' as ls:=⟨h.1,fun i a x e1 e2=>s.tup (h.2 i a x e1 e2)⟩
theorem i8.same (s:av H H')(h:i8 f K H l ls):i8 f K H' l ls:=by
 obtain ⟨as,a,b⟩:=h
 exact ⟨as,s.seq a,b.same s⟩
theorem cS.nil:cS f K H [] []:=⟨rfl,fun i a x e _=>by simp at e⟩
theorem cS.app (h:cS f K H as ls)(g:cS f K H bs ks):cS f K H (as++bs) (ls++ks):=by
 refine ⟨by rw [List.length_append,List.length_append,h.1,g.1],fun i a x e1 e2=>?_⟩
 by_cases hi:i < as.length
 ·rw [List.getElem?_append_left hi] at e1
  rw [List.getElem?_append_left (by rw [←h.1];exact hi)] at e2
  exact h.2 i a x e1 e2
 ·rw [List.getElem?_append_right (by omega)] at e1
  rw [List.getElem?_append_right (by rw [←h.1];omega),←h.1] at e2
  exact g.2 _ a x e1 e2
theorem cS.one {a:Addr}{x:α}(h:SqT K H a (f x)):cS f K H [a] [x]:=by
 refine ⟨rfl,fun i b y e1 e2=>?_⟩
 cases i with
 | zero=>cases e1;cases e2;exact h
 | succ i=>simp at e1
theorem cS.rew {ys:List V}{o:HO}(h:cS f K H as ls)(hl:H l=some (.lst ys)):cS f K (upd H l o) as ls:=⟨h.1,fun i a x e1 e2=>(h.2 i a x e1 e2).rew hl⟩
theorem cS.keep {ys:List V}(s:ax p H H')(hp:H p=some (.lst ys))(h:cS f K H as ls):cS f K H' as ls:=⟨h.1,fun i a x e1 e2=>(h.2 i a x e1 e2).keep s hp⟩
theorem cS.keepI {C dx:Addr}{fs:List (Str×V)}(s:ax p H H')(hp:H p=some (.ins C dx fs))(h:cS f K H as ls):cS f K H' as ls:=⟨h.1,fun i a x e1 e2=>(h.2 i a x e1 e2).keepI s hp⟩
theorem i8.keepI {C dx:Addr}{fs:List (Str×V)}(s:ax p H H')(hp:H p=some (.ins C dx fs))(h:i8 f K H l ls):i8 f K H' l ls:=by
 obtain ⟨as,a,b⟩:=h
 exact ⟨as,a.keepI s hp,b.keepI s hp⟩
end
noncomputable abbrev Cd:=Int×Int
noncomputable def cdV (x:Cd):List V:=[.int x.1,.int x.2]
def dM (x:Cd):Prop:=(1<=x.1/\x.1<=9)/\(1<=x.2/\x.2<=9)/\x.1≠x.2
end L2
namespace L2
open PySem PySem.Spec PyProof.Rows PySem.SeqAt
theorem vE {M:Model}{A:Around}{E:Value->Shared->Prop}{s:Shared}{β:Type}{c:β}{f:Nat->β->Sem (ForInStep β)}{Q:β->Shared->Prop}{n:Nat}(hn:n=2)
  (h:wpAny M A (f 0 c) (fun r s1=>match r with | .done b=>Q b s1 | .yield b=>wpAny M A (f 1 b) (fun r s2=>match r with | .done b=>Q b s2 | .yield b=>Q b s2) E s1) E s) :
  wpAny M A (forIn ([:n]:Std.Legacy.Range) c f) Q E s:=by
 subst hn
 rw [Std.Legacy.Range.forIn_eq_forIn_range']
 show wpAny M A (forIn [0,1] c f) Q E s
 rw [List.forIn_cons]
 refine wpAny_bind (wpAny_mono h ?_ (fun _ _ z=>z))
 intro r s1 h1
 cases r with
 | done b=>exact wpAny_pure h1
 | yield b=>
  show wpAny M A (forIn [1] b f) Q E s1
  rw [List.forIn_cons]
  refine wpAny_bind (wpAny_mono h1 ?_ (fun _ _ z=>z))
  intro r s2 h2
  cases r with
  | done b=>exact wpAny_pure h2
  | yield b=>
   show wpAny M A (forIn [] b f) Q E s2
   rw [List.forIn_nil]
   exact wpAny_pure h2
theorem zT (l:Addr)(items:Array Value)(a b:Value)(n:Nat)(dd:Option Addr)(sl:Array (Option Value))(x:Value)(e0 e1:Bool)(he:(e0 || e1)=true)(hsz:items.size=2)(i0:items[0]?=some a)(i1:items[1]?=some b) :
  Meets (Builtin.«tuple.index» ⟨[.ref l,x],[]⟩)
   (fun A R s=>s.heap.get? l=some {cls:=.type "tuple",dict:=dd,data:=.seq items n,slots:=sl}/\EqAt A.in1 s a x e0/\EqAt A.in1 s b x e1/\R (.ok (.ret (.int (if e0=true then 0 else 1) s.toks))) {s with toks:=s.toks+1}):=
 .of_wp fun prog w A R s h=>by
  obtain ⟨hp,g,d,tk,os⟩:=s;obtain ⟨hl,h0,h1,h⟩:=h
  wp_walk using wpAny_loadPart' hl,vE (show min items.size items.size=2 by omega)
  rw [i0]
  refine wpAny_bind (h0 prog w _ _ ?_)
  cases e0 with
  | true=>
   wp_walk
   exact ⟨_,rfl,h⟩
  | false=>
   wp_walk
   rw [i1]
   refine wpAny_bind (h1 prog w _ _ ?_)
   have e1t:e1=true:=by simpa using he
   subst e1t
   wp_walk
   exact ⟨_,rfl,h⟩
section
variable {X:Cx}
noncomputable def DU (K:WA):V->List V->Hp->VK->Prop:=fun x vs H Q=>∃(l:Addr) (a b k:V),x=.ref l/\vs=[k]/\SqT K H l [a,b]/\cD a=true/\cD b=true/\cD k=true/\(eqV a k || eqV b k)=true/\Q (.int (if eqV a k=true then 0 else 1)) H
theorem ES:MtR X "tuple.index" (DU X.K):=by
 intro pins s σ H x vs v us Q I rx rv h
 obtain ⟨l,a,b,k,rfl,rfl,hq,fa,fb,fk,hk,q⟩:=h
 cases rx
 obtain ⟨u,rfl,ru⟩:=rv.one
 obtain ⟨its,r,pl,hz⟩:=I.tuple hq
 obtain ⟨u1,u2,rfl,r1,r2⟩:=r.two
 obtain ⟨⟨cls,dd,data,sl⟩,ho,hc,n,hd⟩:=id pl
 simp only at hc hd
 subst hc hd
 refine call_meets PySem.F.slot_tuple_index ⟨_,ho,rfl⟩ PySem.F.entry_tuple_index (PySem.F.args_tuple_index_2 _ _)
  (zT l _ u1 u2 n dd sl u (eqV a k) (eqV b k) hk rfl rfl rfl) ⟨ho,uA r1 ru fa fk,uA r2 ru fb fk,?_⟩
 exact ⟨.int _,H,I.tok _,⟨_,rfl⟩,q⟩
noncomputable def Ml (K:WA):R2:=fun x y H Q=>∃a b xs ys,x=.ref a/\y=.ref b/\SqT K H a xs/\SqT K H b ys/\xs.all cD=true/\ys.all cD=true/\Q (.bl (!eqL xs ys)) H
theorem Ia {xs ys:List V}:((List.range (min xs.length ys.length)).all (fun j=>eqV (xs.getD j .non) (ys.getD j .non)) && xs.length == ys.length)=eqL xs ys:=by
 by_cases hl:xs.length=ys.length
 ·rw [show min xs.length ys.length=xs.length by omega,vX hl,hl]
  simp
 ·have e:eqL xs ys=false:=by
   cases z:eqL xs ys with
   | false=>rfl
   | true=>exact absurd (vW z) hl
  rw [e]
  simp [hl]
theorem K1 (hu:X.A.units < cLine):OpR X (compareOp .NotEq) (Ml X.K):=by
 intro pins s σ H x y u v Q I rx ry h
 obtain ⟨a,b,xs,ys,rfl,rfl,ha,hb,fa,fb,q⟩:=h
 cases rx;cases ry
 obtain ⟨ia,ra,pa,za⟩:=I.tuple ha
 obtain ⟨ib,rb,pb,zb⟩:=I.tuple hb
 have la:=ra.length
 have lb:=rb.length
 refine RcNeAt.tuples (e:=fun j=>eqV (xs.getD j .non) (ys.getD j .non)) pa pb hu (fun j h1 h2=>?_) X.prog X.w _ _ ?_
 ·simp only [List.size_toArray] at h1 h2
  have hx:xs[j]?=some (xs.getD j .non):=by
   rw [List.getD_eq_getElem?_getD,List.getElem?_eq_getElem (by omega)];rfl
  have hy:ys[j]?=some (ys.getD j .non):=by
   rw [List.getD_eq_getElem?_getD,List.getElem?_eq_getElem (by omega)];rfl
  obtain ⟨u,eu,ru⟩:=ra.get hx
  obtain ⟨v,ev,rv⟩:=rb.get hy
  have e1:ia.toArray[j]=u:=by
   have:=List.getElem?_eq_some_iff.mp eu
   simpa using this.2
  have e2:ib.toArray[j]=v:=by
   have:=List.getElem?_eq_some_iff.mp ev
   simpa using this.2
  rw [e1,e2]
  exact uA ru rv (List.all_eq_true.mp fa _ (List.mem_of_getElem? hx)) (List.all_eq_true.mp fb _ (List.mem_of_getElem? hy))
 ·have e:=Ia (xs:=xs) (ys:=ys)
  simp only [List.size_toArray]
  rw [←la,←lb,e]
  exact ⟨.bl (!eqL xs ys),H,I,rfl,q⟩
end
end L2
namespace L2
open PySem PySem.Spec PyProof.Rows
inductive Eng where
 | no | wait (l r:Int) | armed (l r:Int) | other (l r s:Int) | used (l r:Int)
 deriving DecidableEq
noncomputable def vF:Eng->List V
 | .no=>[.str "not rung",.non,.non,.non]
 | .wait l r=>[.str "not repeated",.int l,.int r,.non]
 | .armed l r=>[.str "armed",.int l,.int r,.int r]
 | .other l r s=>[.str "repeated otherwise",.int l,.int r,.int s]
 | .used l r=>[.str "used up",.int l,.int r,.int r]
theorem y4 (e:Eng):∀x∈vF e,cD x=true:=by cases e<;>simp [vF,cD]
theorem Gb (e:Eng):(vF e).length=4:=by cases e<;>rfl
theorem ax.free {p x:Addr}{H H':Hp}(k:ax p H H')(n:x≠p)(h:H' x=none):H x=none:=by
 cases e:H x with
 | none=>rfl
 | some o=>have:=k x o n e;rw [h] at this;cases this
structure bH (C:Addr)(K:WA)(H:Hp)(b cs fl st:Addr)(ls:List Cd)(fs:List Bool)(e:Eng):Prop where
 ob:∃dx,H b=some (.ins C dx [("codes",.ref cs),("failed",.ref fl),("state",.ref st)])
 oc:∃as:List Addr,H cs=some (.lst (as.map V.ref))/\cS cdV K H as ls
 of:H fl=some (.lst (fs.map V.bl))
 os:SqT K H st (vF e)
 nn:cs≠fl
 ln:fs.length=ls.length
theorem bH.rows {C:Addr}{K:WA}{H:Hp}{b cs fl st:Addr}{ls:List Cd}{fs:List Bool}{e:Eng}(h:bH C K H b cs fl st ls fs e):i8 cdV K H cs ls:=by
 obtain ⟨as,a,t⟩:=h.oc
 exact ⟨as,SqL.of a,t⟩
theorem bH.same {C:Addr}{K:WA}{H H':Hp}{b cs fl st:Addr}{ls:List Cd}{fs:List Bool}{e:Eng}(h:bH C K H b cs fl st ls fs e)(s:av H H'):bH C K H' b cs fl st ls fs e:=by
 obtain ⟨⟨dx,a⟩,⟨as,c,t⟩,f,g,n,l⟩:=h
 exact ⟨⟨dx,s _ _ a⟩,⟨as,s _ _ c,t.same s⟩,s _ _ f,s.tup g,n,l⟩
theorem bH.state {C:Addr}{K:WA}{H H':Hp}{b cs fl st st' dx:Addr}{ls:List Cd}{fs:List Bool}{e e':Eng}(h:bH C K H b cs fl st ls fs e)(k:ax b H H')
  (a:H' b=some (.ins C dx [("codes",.ref cs),("failed",.ref fl),("state",.ref st')])) (g:SqT K H' st' (vF e')):bH C K H' b cs fl st' ls fs e':=by
 obtain ⟨⟨dx0,a0⟩,⟨as,c,t⟩,f,_,n,l⟩:=h
 exact ⟨⟨dx,a⟩,⟨as,k _ _ (fun z=>by rw [z,a0] at c;cases c) c,t.keepI k a0⟩,k _ _ (fun z=>by rw [z,a0] at f;cases f) f,g,n,l⟩
theorem bH.fail {C:Addr}{K:WA}{H H':Hp}{b cs fl st:Addr}{ls:List Cd}{fs fs':List Bool}{e:Eng}(h:bH C K H b cs fl st ls fs e)(k:ax fl H H')(g:H' fl=some (.lst (fs'.map V.bl)))(hl:fs'.length=fs.length):bH C K H' b cs fl st ls fs' e:=by
 obtain ⟨⟨dx0,a0⟩,⟨as,c,t⟩,f,o,n,l⟩:=h
 exact ⟨⟨dx0,k _ _ (fun z=>by rw [z,f] at a0;cases a0) a0⟩,⟨as,k _ _ n c,t.keep k f⟩,g,o.keep k f,n,hl.trans l⟩
noncomputable def ba (ls:List Cd)(l:Int):Cd:=ls.getD l.toNat (0,0)
noncomputable def cO (ls:List Cd)(l:Int)(k:Str):Int:=if k="men" then (ba ls l).1 else (ba ls l).2
theorem DV {K:WA}{H:Hp}{as:List Addr}{ls:List Cd}{l:Int}(t:cS cdV K H as ls)(h0:0<=l)(h1:l < ls.length):∃a,atI (as.map V.ref) l=some (.ref a)/\SqT K H a (cdV (ba ls l)):=by
 obtain ⟨n,rfl⟩:=Int.eq_ofNat_of_zero_le h0
 have hn:n < ls.length:=by omega
 have ha:as[n]?=some (as[n]'(by rw [t.1];exact hn)):=List.getElem?_eq_getElem _
 refine ⟨as[n]'(by rw [t.1];exact hn),eZ (by rw [List.getElem?_map,ha];rfl),t.2 n _ _ ha ?_⟩
 rw [ba,Int.toNat_natCast,List.getD_eq_getElem?_getD,List.getElem?_eq_getElem hn];rfl
theorem i9 {fs:List Bool}{l:Int}(h0:0<=l)(h1:l < fs.length):atI (fs.map V.bl) l=some (.bl (fs.getD l.toNat false)):=by
 obtain ⟨n,rfl⟩:=Int.eq_ofNat_of_zero_le h0
 have hn:n < fs.length:=by omega
 refine eZ ?_
 rw [List.getElem?_map,List.getElem?_eq_getElem hn,Int.toNat_natCast,List.getD_eq_getElem?_getD,List.getElem?_eq_getElem hn];rfl
noncomputable def lvl (ds:List Int)(d:Int):Option Int:=if d∈ds then some (ds.idxOf d:Nat) else none
noncomputable def lvV:Option Int->V
 | none=>.non
 | some i=>.int i
theorem gU {ds:List Int}(h:cn ds){i:Nat}{d:Int}(hi:i < ds.length)(e:ds.getD i 0=d):lvl ds d=some (i:Int):=by
 have hm:d∈ds:=e▸gP hi
 rw [lvl,if_pos hm]
 have hlt:=List.idxOf_lt_length_iff.mpr hm
 have e2:ds.getD (ds.idxOf d) 0=d:=by
  rw [List.getD_eq_getElem?_getD,List.getElem?_eq_getElem hlt]
  exact List.getElem_idxOf hlt
 have:ds.idxOf d=i:=by
  rcases Nat.lt_trichotomy (ds.idxOf d) i with z | z | z
  ·have:=h.lt z hi;omega
  ·exact z
  ·have:=h.lt z hlt;omega
 rw [this]
theorem Gc {ds:List Int}{d:Int}(h:∀i,i < ds.length->ds.getD i 0≠d):lvl ds d=none:=by
 rw [lvl,if_neg fun hm=>?_]
 have hlt:=List.idxOf_lt_length_iff.mpr hm
 refine h _ hlt ?_
 rw [List.getD_eq_getElem?_getD,List.getElem?_eq_getElem hlt]
 exact List.getElem_idxOf hlt
noncomputable def cQ (ds:List Int)(p c:Int):Option Int:=if c=0 then lvl ds p else lvl ds (cA ds - p)
inductive Stp where
 | wind (c l:Int) | load (k c:Int) | unload (k c:Int)
noncomputable def Mm (lv:Option Int)(x:List Int):Stp->Option (List Int)
 | .wind _ _=>none
 | .load k c=>match lv with | none=>none | some l=>if x.getD (k.toNat+1) 0=l/\¬10+c∈x.tail then some (x.set (k.toNat+1) (10+c)) else none
 | .unload k c=>match lv with | none=>none | some l=>if x.getD (k.toNat+1) 0=10+c then some (x.set (k.toNat+1) l) else none
noncomputable def K2:Stp->Int
 | .wind c _=>c
 | .load _ c=>c
 | .unload _ c=>c
noncomputable def stK:Stp->Int
 | .wind _ _=>0
 | .load k _=>k
 | .unload k _=>k
noncomputable def after (ds dead:List Int)(x:List Int):Stp->Option (List Int)
 | .wind c l=>if l < 0\/(ds.length:Int)<=l\/l∈dead then none else some ((if c=0 then ds.getD l.toNat 0 else cA ds - ds.getD l.toNat 0)::x.tail)
 | s=>if stK s < 0\/(x.length:Int)<=stK s+1 then none else Mm (cQ ds (x.getD 0 0) (K2 s)) x s
theorem A9 {K:WA}{H:Hp}{a:Addr}{xs:List Int}{n:Nat}(h:SqL K H a (xs.map V.int))(hb:xs.length<=100000):Rep K H (n+1) (.ref a) (.lst ((xs.map V.int).map Dt.flat)):=by
 refine .lst h (by rw [WB];exact hb) (by simp) fun i y d e1 e2=>?_
 rw [List.getElem?_map,e1] at e2
 cases e2
 obtain ⟨z,rfl,_⟩:=kI e1
 exact .flat rfl
structure Cl where
 (B Y S K W:Addr)
structure a8 where
 place:Int
 gates:List Bool
 fs:List Bool
 e:Eng
 ws:List Int
structure Cfg where
 ds:List Int
 ls:List Cd
 slow:Int
 fast:Int
 goals:List Int
 ks:List Str
 N:Addr->Prop:=fun _=>False
structure SA where
 (dx ol b cs fl st y kn wh:Addr)
structure Mn (rl:Addr)(A:SA):Prop where
 r1:A.ol≠rl
 r2:A.cs≠rl
 r3:A.fl≠rl
 r4:A.kn≠rl
 r5:A.wh≠rl
 o1:A.cs≠A.ol
 o2:A.fl≠A.ol
 o3:A.kn≠A.ol
 o4:A.wh≠A.ol
 f1:A.ol≠A.fl
 f2:A.kn≠A.fl
 f3:A.wh≠A.fl
 w1:A.ol≠A.wh
 w2:A.cs≠A.wh
 w3:A.fl≠A.wh
 w4:A.kn≠A.wh
structure Off (H:Hp)(rl:Addr)(N:Addr->Prop)(A:SA):Prop where
 al:∀p,N p->∃ys,H p=some (.lst ys)
 nr:∀p,N p->rl≠p
 no:∀p,N p->A.ol≠p
 nc:∀p,N p->A.cs≠p
 nf:∀p,N p->A.fl≠p
 nk:∀p,N p->A.kn≠p
 nw:∀p,N p->A.wh≠p
theorem Off.keep {H H':Hp}{rl q:Addr}{N:Addr->Prop}{A:SA}(h:Off H rl N A)(k:ax q H H')(hq:∀p,N p->q≠p):Off H' rl N A:=⟨fun p hp=>by
 obtain ⟨ys,e⟩:=h.al p hp
 exact ⟨ys,k _ _ (hq p hp).symm e⟩,h.nr,h.no,h.nc,h.nf,h.nk,h.nw⟩
theorem Off.same {H H':Hp}{rl:Addr}{N:Addr->Prop}{A:SA}(h:Off H rl N A)(k:av H H'):Off H' rl N A:=⟨fun p hp=>by
 obtain ⟨ys,e⟩:=h.al p hp
 exact ⟨ys,k _ _ e⟩,h.nr,h.no,h.nc,h.nf,h.nk,h.nw⟩
theorem Off.keepI {H H':Hp}{rl q C dx:Addr}{fs:List (Str×V)}{N:Addr->Prop}{A:SA}(h:Off H rl N A)(k:ax q H H')(hq:H q=some (.ins C dx fs)):Off H' rl N A:=h.keep k fun p hp z=>by
 obtain ⟨ys,e⟩:=h.al p hp
 rw [←z,hq] at e
 cases e
structure a9 (C:Cl)(K:WA)(H:Hp)(rl:Addr)(g:Cfg)(s:Addr)(A:SA)(n:a8):Prop where
 ob:H s=some (.ins C.S A.dx [("place",.int n.place),("opened",.ref A.ol),("bells",.ref A.b),("yard",.ref A.y)])
 go:H A.ol=some (.lst (n.gates.map V.bl))
 be:bH C.B K H A.b A.cs A.fl A.st g.ls n.fs n.e
 ya:c7 C.Y H A.y A.kn A.wh g.ks n.ws g.ds.length
 ap:Mn rl A
 nn:Off H rl g.N A
def dH (C:Cl)(K:WA)(H:Hp)(rl:Addr)(g:Cfg)(s:Addr)(n:a8):Prop:=∃A,a9 C K H rl g s A n
theorem bH.off {C:Addr}{K:WA}{H H':Hp}{p b cs fl st:Addr}{ls:List Cd}{fs:List Bool}{e:Eng}{ys:List V}(h:bH C K H b cs fl st ls fs e)(s:ax p H H')(hp:H p=some (.lst ys))(n1:cs≠p)(n2:fl≠p):bH C K H' b cs fl st ls fs e:=by
 obtain ⟨⟨dx,a⟩,⟨as,c,t⟩,f,g,n,l⟩:=h
 exact ⟨⟨dx,s _ _ (fun z=>by rw [z,hp] at a;cases a) a⟩,⟨as,s _ _ n1 c,t.keep s hp⟩,s _ _ n2 f,g.keep s hp,n,l⟩
theorem bH.offI {C D dp:Addr}{K:WA}{H H':Hp}{p b cs fl st:Addr}{ls:List Cd}{fs:List Bool}{e:Eng}{us:List (Str×V)}(h:bH C K H b cs fl st ls fs e)(s:ax p H H')(hp:H p=some (.ins D dp us))(n1:b≠p):bH C K H' b cs fl st ls fs e:=by
 obtain ⟨⟨dx,a⟩,⟨as,c,t⟩,f,g,n,l⟩:=h
 exact ⟨⟨dx,s _ _ n1 a⟩,⟨as,s _ _ (fun z=>by rw [z,hp] at c;cases c) c,t.keepI s hp⟩,s _ _ (fun z=>by rw [z,hp] at f;cases f) f,g.keepI s hp,n,l⟩
theorem c7.offI {C D dp:Addr}{H H':Hp}{p y kn wh:Addr}{ks:List Str}{ws:List Int}{m:Int}{us:List (Str×V)}(h:c7 C H y kn wh ks ws m)(s:ax p H H')(hp:H p=some (.ins D dp us))(n1:y≠p):c7 C H' y kn wh ks ws m:=by
 obtain ⟨⟨dx,a⟩,b,c⟩:=h
 exact ⟨⟨dx,s _ _ n1 a⟩,s _ _ (fun z=>by rw [z,hp] at b;cases b) b,s _ _ (fun z=>by rw [z,hp] at c;cases c) c⟩
section
variable {C:Cl}{K:WA}{H H':Hp}{rl s a w bk:Addr}{g:Cfg}{A:SA}{n n0:a8}
theorem a9.same (h:a9 C K H rl g s A n)(e:av H H'):a9 C K H' rl g s A n:=⟨e _ _ h.ob,e _ _ h.go,h.be.same e,h.ya.same e,h.ap,h.nn.same e⟩
theorem a9.keep {ys:List V}(h:a9 C K H rl g s A n)(e:ax rl H H')(hr:H rl=some (.lst ys)):a9 C K H' rl g s A n:=
 ⟨e _ _ (fun z=>by have:=h.ob;rw [z,hr] at this;cases this) h.ob,e _ _ h.ap.r1 h.go,h.be.off e hr h.ap.r2 h.ap.r3,h.ya.off e hr h.ap.r4 h.ap.r5,h.ap,h.nn.keep e h.nn.nr⟩
theorem a9.at (h:a9 C K H rl g s A n):dH C K H rl g s n:=⟨A,h⟩
theorem dH.same (h:dH C K H rl g s n)(e:av H H'):dH C K H' rl g s n:=by
 obtain ⟨A,h⟩:=h
 exact ⟨A,h.same e⟩
theorem dH.keep {ys:List V}(h:dH C K H rl g s n)(e:ax rl H H')(hr:H rl=some (.lst ys)):dH C K H' rl g s n:=by
 obtain ⟨A,h⟩:=h
 exact ⟨A,h.keep e hr⟩
theorem a9.gates (h:a9 C K H rl g s A n)(e:ax A.ol H H'){gs:List Bool}(hg:H' A.ol=some (.lst (gs.map V.bl))):a9 C K H' rl g s A {n with gates:=gs}:=
 ⟨e _ _ (fun z=>by have:=h.ob;rw [z,h.go] at this;cases this) h.ob,hg,h.be.off e h.go h.ap.o1 h.ap.o2,h.ya.off e h.go h.ap.o3 h.ap.o4,h.ap,h.nn.keep e h.nn.no⟩
structure Row where
 began:Int
 ended:Int
 deed:List V
 speed:Int
 sn:a8
def sE (C:Cl)(K:WA)(H:Hp)(rl:Addr)(g:Cfg)(a:Addr)(r:Row):Prop:=∃dd s,SqT K H a [.int r.began,.int r.ended,.ref dd,.int r.speed,.ref s]/\SqT K H dd r.deed/\dH C K H rl g s r.sn
theorem sE.same {r:Row}(h:sE C K H rl g a r)(e:av H H'):sE C K H' rl g a r:=by
 obtain ⟨dd,s,h1,h2,h3⟩:=h
 exact ⟨dd,s,e.tup h1,e.tup h2,h3.same e⟩
theorem sE.keep {r:Row}{ys:List V}(h:sE C K H rl g a r)(e:ax rl H H')(hr:H rl=some (.lst ys)):sE C K H' rl g a r:=by
 obtain ⟨dd,s,h1,h2,h3⟩:=h
 exact ⟨dd,s,h1.keep e hr,h2.keep e hr,h3.keep e hr⟩
def uF (C:Cl)(K:WA)(H:Hp)(rl:Addr)(g:Cfg)(as:List Addr)(rs:List Row):Prop:=as.length=rs.length/\∀(i:Nat) a r,as[i]?=some a->rs[i]?=some r->sE C K H rl g a r
theorem uF.same {as:List Addr}{rs:List Row}(h:uF C K H rl g as rs)(e:av H H'):uF C K H' rl g as rs:=⟨h.1,fun i a r e1 e2=>(h.2 i a r e1 e2).same e⟩
theorem uF.keep {as:List Addr}{rs:List Row}{ys:List V}(h:uF C K H rl g as rs)(e:ax rl H H')(hr:H rl=some (.lst ys)):uF C K H' rl g as rs:=⟨h.1,fun i a r e1 e2=>(h.2 i a r e1 e2).keep e hr⟩
theorem uF.push {as:List Addr}{rs:List Row}{r:Row}(h:uF C K H rl g as rs)(hr:sE C K H rl g a r):uF C K H rl g (as++[a]) (rs++[r]):=by
 refine ⟨by rw [List.length_append,List.length_append,h.1];rfl,fun i b x e1 e2=>?_⟩
 by_cases hi:i < as.length
 ·rw [List.getElem?_append_left hi] at e1
  rw [List.getElem?_append_left (by rw [←h.1];exact hi)] at e2
  exact h.2 i b x e1 e2
 ·rw [List.getElem?_append_right (by omega)] at e1
  rw [List.getElem?_append_right (by rw [←h.1];omega),←h.1] at e2
  have hz:i - as.length=0:=by
   have:=(List.getElem?_eq_some_iff.mp e1).1
   simp at this
   omega
  rw [hz] at e1 e2
  cases e1
  cases e2
  exact hr
noncomputable def aj (n0:a8)(rs:List Row):a8:=match rs.getLast? with | none=>n0 | some r=>r.sn
noncomputable def eG (rs:List Row):Int:=match rs.getLast? with | none=>0 | some r=>r.ended
structure BAt (C:Cl)(K:WA)(H:Hp)(bk rl:Addr)(g:Cfg)(n0:a8)(rs:List Row):Prop where
 ob:∃dx f,H bk=some (.ins C.K dx [("first",.ref f),("most",.int 300),("rows",.ref rl)])/\dH C K H rl g f n0
 ro:∃as,H rl=some (.lst (as.map V.ref))/\uF C K H rl g as rs
theorem BAt.same {rs:List Row}(h:BAt C K H bk rl g n0 rs)(e:av H H'):BAt C K H' bk rl g n0 rs:=by
 obtain ⟨⟨dx,f,h1,h2⟩,as,h3,h4⟩:=h
 exact ⟨⟨dx,f,e _ _ h1,h2.same e⟩,as,e _ _ h3,h4.same e⟩
structure WAt (C:Cl)(K:WA)(H:Hp)(w bk rl:Addr)(g:Cfg)(n0:a8)(rs:List Row):Prop where
 ob:∃dx dl gl,H w=some (.ins C.W dx [("depths",.ref dl),("slow",.int g.slow),("fast",.int g.fast),("goals",.ref gl),("log",.ref bk)])/\H dl=some (.lst (g.ds.map V.int))/\H gl=some (.lst (g.goals.map V.int))/\dl≠rl/\gl≠rl/\(∀p,g.N p->dl≠p)/\∀p,g.N p->gl≠p
 bo:BAt C K H bk rl g n0 rs
theorem WAt.same {rs:List Row}(h:WAt C K H w bk rl g n0 rs)(e:av H H'):WAt C K H' w bk rl g n0 rs:=by
 obtain ⟨⟨dx,dl,gl,h1,h2,h3,h4⟩,h5⟩:=h
 exact ⟨⟨dx,dl,gl,e _ _ h1,e _ _ h2,e _ _ h3,h4⟩,h5.same e⟩
theorem WAt.keep {rs rs':List Row}{ys:List V}(h:WAt C K H w bk rl g n0 rs)(e:ax rl H H')(hr:H rl=some (.lst ys))(hb:BAt C K H' bk rl g n0 rs'):WAt C K H' w bk rl g n0 rs':=by
 obtain ⟨⟨dx,dl,gl,h1,h2,h3,h4,h6⟩,h5⟩:=h
 exact ⟨⟨dx,dl,gl,e _ _ (fun z=>by rw [z,hr] at h1;cases h1) h1,e _ _ h4 h2,e _ _ h6.1 h3,h4,h6⟩,hb⟩
end
theorem fP {α:Type}(l:List α):l=[]\/∃l' a,l=l'++[a]:=by
 rcases List.eq_nil_or_concat l with h | ⟨l',a,h⟩
 ·exact .inl h
 ·exact .inr ⟨l',a,by rw [h,List.concat_eq_append]⟩
theorem uF.last {C:Cl}{K:WA}{H:Hp}{rl:Addr}{g:Cfg}{as:List Addr}{rs:List Row}{r:Row}(h:uF C K H rl g as (rs++[r])):∃as' a,as=as'++[a]/\uF C K H rl g as' rs/\sE C K H rl g a r:=by
 have hl:=h.1
 rw [List.length_append,List.length_singleton] at hl
 rcases fP as with rfl | ⟨as',a,rfl⟩
 ·cases hl
 ·have hl':as'.length=rs.length:=by rw [List.length_append,List.length_singleton] at hl;omega
  refine ⟨as',a,rfl,⟨hl',fun i b x e1 e2=>?_⟩,?_⟩
  ·have hi:=(List.getElem?_eq_some_iff.mp e1).1
   exact h.2 i b x (by rw [List.getElem?_append_left hi];exact e1) (by rw [List.getElem?_append_left (by omega)];exact e2)
  ·refine h.2 as'.length a r ?_ ?_
   ·rw [List.getElem?_append_right (Nat.le_refl _)];simp
   ·rw [List.getElem?_append_right (by omega),hl'];simp
theorem y6 {as:List Addr}{a:Addr}:atI ((as++[a]).map V.ref) (((as++[a]).map V.ref).length - 1:Int)=some (.ref a):=by
 rw [show ((((as++[a]).map V.ref).length:Int) - 1)=((as.length:Nat):Int) by rw [WB,List.length_append];simp]
 exact eZ (by rw [List.map_append,List.getElem?_append_right (by rw [WB];exact Nat.le_refl _),WB];simp)
theorem uG (rs:List Row)(r:Row):eG (rs++[r])=r.ended:=by simp [eG]
theorem fQ (n0:a8)(rs:List Row)(r:Row):aj n0 (rs++[r])=r.sn:=by simp [aj]
theorem fR {H H':Hp}{x dx:Addr}{o1 o2:HO}(hx:H x=none)(hdx:H dx=none)(kp:ax x (upd (upd H dx o1) x o2) H'):av H H':=fun b o e=>kp b o (ak e hx) (by rw [aB (ak e hx),aB (ak e hdx)];exact e)
theorem fe {H:Hp}{x dx z:Addr}{o1 o2:HO}(h:upd (upd H dx o1) x o2 z=none):H z=none:=upn (upn h)
noncomputable def ET (ks:List Str)(ws:List Int):Bool:=(ks.zip ws).any fun p=>decide (p.1="men") && decide (p.2=10\/p.2=11)
theorem EU {ks:List Str}{ws:List Int}{i:Nat}(h:∀j k x,j < i->ks[j]?=some k->ws[j]?=some x->(decide (k="men") && decide (x=10\/x=11))=false)(hi:ks.length<=i\/ws.length<=i):ET ks ws=false:=by
 unfold ET
 rw [List.any_eq_false]
 intro p hp
 obtain ⟨j,hj⟩:=List.getElem?_of_mem hp
 rw [List.getElem?_zip_eq_some] at hj
 have h1:=(List.getElem?_eq_some_iff.mp hj.1).1
 have h2:=(List.getElem?_eq_some_iff.mp hj.2).1
 rw [h j p.1 p.2 (by omega) hj.1 hj.2]
 exact Bool.false_ne_true
theorem Gd {ks:List Str}{ws:List Int}{i:Nat}{k:Str}{x:Int}(h1:ks[i]?=some k)(h2:ws[i]?=some x)(hk:k="men")(hx:x=10\/x=11):ET ks ws=true:=by
 unfold ET
 rw [List.any_eq_true]
 refine ⟨(k,x),List.mem_of_getElem? (i:=i) (by rw [List.getElem?_zip_eq_some];exact ⟨h1,h2⟩),?_⟩
 simp [hk,hx]
theorem y8 (x:Int):inV (.int x) [.int 10,.int 11]=decide (x=10\/x=11):=by
 have:=zQ x [10,11]
 rw [show ([10,11]:List Int).map V.int=[V.int 10,V.int 11] from rfl] at this
 rw [this]
 simp
noncomputable def inC (ws:List Int)(c:Int):V:=if 10+c∈ws then .int (ws.idxOf (10+c):Nat) else .non
noncomputable def fI (ds:List Int)(pl:Int):List Int:=((List.range ds.length).filter fun i=>decide (ds.getD i 0=pl\/ds.getD i 0=cA ds - pl)).map fun (i:Nat)=>(i:Int)
structure sF (g:Cfg):Prop where
 sh:cn g.ds
 lc:g.ls.length=g.ds.length
 gc:∀x∈g.ls,dM x
 s1:1<=g.slow
 sf:g.slow<=g.fast
 f5:g.fast<=500
 gk:g.goals.length=g.ks.length
 k30:g.ks.length<=30
noncomputable def fB (g:Cfg)(n:a8):Int:=if ET g.ks n.ws=true then g.slow else g.fast
theorem sF.speed {g:Cfg}(h:sF g)(n:a8):1<=fB g n/\fB g n<=500:=by
 have:=h.s1;have:=h.sf;have:=h.f5
 unfold fB;split<;>omega
inductive Dd where
 | ring (l s:Int) | rept (s:Int) | opn (l:Int) | sht (l:Int) | load (k c:Int) | unload (c:Int) | wind (c l:Int) (k:Str) | fail (l:Int)
noncomputable def ddV:Dd->List V
 | .ring l s=>[.str "ring",.int l,.int s]
 | .rept s=>[.str "repeat",.int s]
 | .opn l=>[.str "open",.int l]
 | .sht l=>[.str "shut",.int l]
 | .load k c=>[.str "load",.int k,.int c]
 | .unload c=>[.str "unload",.int c]
 | .wind c l k=>[.str "wind",.int c,.int l,.str k]
 | .fail l=>[.str "fail",.int l]
theorem wx (d:Dd):∀x∈ddV d,cD x=true:=by
 cases d<;>intro x hx<;>simp only [ddV,List.mem_cons,List.not_mem_nil,or_false] at hx<;>rcases hx with h | h | h | h<;>(try subst h)<;>(try rfl)<;>simp_all [cD]
theorem zU (d:Dd):(ddV d).length<=4:=by cases d<;>simp [ddV]
noncomputable def wz:Dd->Prop
 | .load _ c=>0<=c/\c < 2
 | .unload c=>0<=c/\c < 2
 | .wind c _ k=>(0<=c/\c < 2)/\(k="men"\/k="coal")
 | _=>True
inductive Rw where
 | lv | db | nc | nr | ch | na | ul | nt | ct | gs | ce | go
 deriving DecidableEq
def unk (l:Int)(m:Nat):Prop:=¬(0<=l/\l < m)
instance (l:Int) (m:Nat):Decidable (unk l m):=inferInstanceAs (Decidable (¬_))
noncomputable def ja (g:Cfg)(n:a8):Bool:=(fI g.ds n.place).any fun x=>n.gates.getD x.toNat false
noncomputable def c8 (g:Cfg)(n:a8):Dd->Option Rw
 | .ring l s=>if unk l g.ds.length then some .lv else if n.fs.getD l.toNat false=true then some .db else if s=(ba g.ls l).1\/s=(ba g.ls l).2 then none else some .nc
 | .rept s=>match n.e with | .wait _ _=>if 1<=s/\s<=9 then none else some .nc | _=>some .nr
 | .opn l=>if unk l g.ds.length then some .lv else if n.gates.getD l.toNat false=true then some .ch else none
 | .sht l=>if unk l g.ds.length then some .lv else if n.gates.getD l.toNat false=false then some .ch else none
 | .load k c=>if unk k n.ws.length then some .ul else match cQ g.ds n.place c with
  | none=>some .nt
  | some l=>if n.ws.getD k.toNat 0≠l then some .nt else if 10+c∈n.ws then some .ct else if n.gates.getD l.toNat false=true then none else some .gs
 | .unload c=>if ¬10+c∈n.ws then some .ce else match cQ g.ds n.place c with
  | none=>some .nt
  | some l=>if n.gates.getD l.toNat false=true then none else some .gs
 | .wind _ l k=>if unk l g.ds.length then some .lv else if ja g n=true then some .go else if n.e=.armed l (cO g.ls l k) then none else some .na
 | .fail l=>if unk l g.ds.length then some .lv else if n.fs.getD l.toNat false=true then some .ch else none
noncomputable def mU (ds:List Int)(c l:Int):Int:=if c=0 then ds.getD l.toNat 0 else cA ds - ds.getD l.toNat 0
noncomputable def zV (g:Cfg)(n:a8):Dd->Eng
 | .ring l s=>.wait l s
 | .rept s=>match n.e with | .wait l r=>if s=r then .armed l r else .other l r s | e=>e
 | .wind _ l k=>.used l (cO g.ls l k)
 | _=>n.e
noncomputable def bK (g:Cfg)(n:a8)(d:Dd):a8:=
 {place:=match d with | .wind c l _=>mU g.ds c l | _=>n.place
  gates:=match d with | .opn l=>n.gates.set l.toNat true | .sht l=>n.gates.set l.toNat false | _=>n.gates
  fs:=match d with | .fail l=>n.fs.set l.toNat true | _=>n.fs
  e:=zV g n d
  ws:=match d with | .load k c=>n.ws.set k.toNat (10+c) | .unload c=>n.ws.set (n.ws.idxOf (10+c)) ((cQ g.ds n.place c).getD (-1)) | _=>n.ws}
noncomputable def MS (x:Int):Int:=if x < 0 then -x else x
noncomputable def K3 (way sp:Int):Int:=(way+sp - 1) / sp
noncomputable def kK (g:Cfg)(n:a8):Dd->Int
 | .wind c l _=>K3 (MS (mU g.ds c l - n.place)) (fB g n)
 | _=>1
noncomputable def iS (g:Cfg)(n0:a8)(rs:List Row)(d:Dd):Row:=⟨eG rs,eG rs+kK g (aj n0 rs) d,ddV d,fB g (bK g (aj n0 rs) d),bK g (aj n0 rs) d⟩
structure jb (g:Cfg)(n:a8):Prop where
 gl:n.gates.length=g.ds.length
 fl:n.fs.length=g.ds.length
 wl:n.ws.length=g.ks.length
 wr:∀x∈n.ws,(0<=x/\x < g.ds.length)\/x=10\/x=11
 un:∀i j,i < n.ws.length->j < n.ws.length->10<=n.ws.getD i 0->n.ws.getD i 0=n.ws.getD j 0->i=j
 st:∃c,(c=0\/c=1)/\∃l,cQ g.ds n.place c=some l
 ew:∀l r,n.e=.wait l r\/n.e=.armed l r->0<=l/\l < g.ds.length/\(r=(ba g.ls l).1\/r=(ba g.ls l).2)
theorem pq (ws:List Int)(n i:Nat)(v:Int)(hi:i < ws.length):(ws.set n v).getD i 0=if n=i then v else ws.getD i 0:=by
 rw [List.getD_eq_getElem?_getD,List.getD_eq_getElem?_getD,List.getElem?_set]
 split
 ·rename_i e
  subst e
  rw [if_pos hi];rfl
 ·rfl
theorem Ba {ds:List Int}{d l:Int}(h:lvl ds d=some l):0<=l/\l < ds.length/\ds.getD l.toNat 0=d:=by
 unfold lvl at h
 split at h
 ·rename_i hm
  cases h
  have hlt:=List.idxOf_lt_length_iff.mpr hm
  refine ⟨Int.natCast_nonneg _,by omega,?_⟩
  rw [Int.toNat_natCast,List.getD_eq_getElem?_getD,List.getElem?_eq_getElem hlt]
  exact List.getElem_idxOf hlt
 ·cases h
theorem rC {ds:List Int}{p c l:Int}(h:cQ ds p c=some l):0<=l/\l < ds.length/\ds.getD l.toNat 0=(if c=0 then p else cA ds - p):=by
 unfold cQ at h
 split at h
 ·rename_i e;rw [if_pos e];exact Ba h
 ·rename_i e;rw [if_neg e];exact Ba h
theorem Bb {ws:List Int}{n:Nat}{v x:Int}(h:x∈ws.set n v):x∈ws\/x=v:=List.mem_or_eq_of_mem_set h
theorem CH {ds:List Int}(hs:cn ds){c l:Int}(hc:0<=c/\c < 2)(hl:0<=l/\l < ds.length):cQ ds (mU ds c l) c=some l:=by
 obtain ⟨k,rfl⟩:=Int.eq_ofNat_of_zero_le hl.1
 unfold cQ mU
 split
 ·exact gU hs (by omega) (by rw [Int.toNat_natCast])
 ·exact gU hs (by omega) (by rw [Int.toNat_natCast];omega)
theorem ifn {c:Prop}[Decidable c]{a:Rw}{x:Option Rw}(h:(if c then some a else x)=none):¬c/\x=none:=by
 split at h
 ·cases h
 ·rename_i n;exact ⟨n,h⟩
theorem ify {c:Prop}[Decidable c]{a:Rw}(h:(if c then none else some a)=none):c:=by
 split at h
 ·assumption
 ·cases h
theorem zW {l:Int}{m:Nat}(h:¬unk l m):0<=l/\l < m:=Decidable.not_not.mp h
theorem Ge {g:Cfg}{n:a8}{l s:Int}(h:c8 g n (.ring l s)=none):(0<=l/\l < g.ds.length)/\n.fs.getD l.toNat false=false/\(s=(ba g.ls l).1\/s=(ba g.ls l).2):=by
 obtain ⟨h1,h⟩:=ifn h
 obtain ⟨h2,h⟩:=ifn h
 exact ⟨zW h1,by simpa using h2,ify h⟩
theorem Gf {g:Cfg}{n:a8}{s:Int}(h:c8 g n (.rept s)=none):∃l r,n.e=.wait l r/\1<=s/\s<=9:=by
 simp only [c8] at h
 split at h
 ·rename_i l r e;exact ⟨l,r,e,ify h⟩
 ·cases h
theorem Gg {g:Cfg}{n:a8}{k c:Int}(h:c8 g n (.load k c)=none):(0<=k/\k < n.ws.length)/\∃l,cQ g.ds n.place c=some l/\n.ws.getD k.toNat 0=l/\¬10+c∈n.ws/\n.gates.getD l.toNat false=true:=by
 obtain ⟨h1,h⟩:=ifn h
 refine ⟨zW h1,?_⟩
 cases e:cQ g.ds n.place c with
 | none=>rw [e] at h;cases h
 | some l=>
  rw [e] at h
  obtain ⟨h2,h⟩:=ifn h
  obtain ⟨h3,h⟩:=ifn h
  exact ⟨l,rfl,Decidable.not_not.mp h2,h3,ify h⟩
theorem CI {g:Cfg}{n:a8}{c:Int}(h:c8 g n (.unload c)=none):10+c∈n.ws/\∃l,cQ g.ds n.place c=some l/\n.gates.getD l.toNat false=true:=by
 obtain ⟨h1,h⟩:=ifn h
 refine ⟨Decidable.not_not.mp h1,?_⟩
 cases e:cQ g.ds n.place c with
 | none=>rw [e] at h;cases h
 | some l=>rw [e] at h;exact ⟨l,rfl,ify h⟩
theorem Gh {g:Cfg}{n:a8}{c l:Int}{k:Str}(h:c8 g n (.wind c l k)=none):(0<=l/\l < g.ds.length)/\ja g n=false/\n.e=.armed l (cO g.ls l k):=by
 obtain ⟨h1,h⟩:=ifn h
 obtain ⟨h2,h⟩:=ifn h
 exact ⟨zW h1,by simpa using h2,ify h⟩
theorem jb.next {g:Cfg}{n:a8}{d:Dd}(hg:sF g)(h:jb g n)(ok:wz d)(hr:c8 g n d=none):jb g (bK g n d):=by
 have hds:=hg.sh.l6
 cases d with
 | ring l s=>
  obtain ⟨h1,_,h3⟩:=Ge hr
  exact ⟨h.gl,h.fl,h.wl,h.wr,h.un,h.st,fun l' r e=>by
   simp only [bK,zV] at e
   rcases e with e | e
   ·cases e;exact ⟨h1.1,h1.2,h3⟩
   ·cases e⟩
 | rept s=>
  refine ⟨h.gl,h.fl,h.wl,h.wr,h.un,h.st,fun l' r e=>?_⟩
  simp only [bK,zV] at e
  obtain ⟨l0,r0,e0,_⟩:=Gf hr
  rw [e0] at e
  simp only at e
  have:=h.ew l0 r0 (.inl e0)
  split at e
  ·rcases e with e | e
   ·cases e
   ·cases e;exact this
  ·rcases e with e | e<;>cases e
 | opn l=>exact ⟨by simp only [bK];rw [List.length_set];exact h.gl,h.fl,h.wl,h.wr,h.un,h.st,h.ew⟩
 | sht l=>exact ⟨by simp only [bK];rw [List.length_set];exact h.gl,h.fl,h.wl,h.wr,h.un,h.st,h.ew⟩
 | fail l=>exact ⟨h.gl,by simp only [bK];rw [List.length_set];exact h.fl,h.wl,h.wr,h.un,h.st,h.ew⟩
 | load k c=>
  obtain ⟨h1,l,hl,h3,h4,_⟩:=Gg hr
  have hc:0<=c/\c < 2:=ok
  refine ⟨h.gl,h.fl,by simp only [bK];rw [List.length_set];exact h.wl,fun x hx=>?_,fun i j hi hj h10 e=>?_,h.st,h.ew⟩
  ·rcases Bb hx with hx | rfl
   ·exact h.wr x hx
   ·omega
  ·simp only [bK,List.length_set] at hi hj h10 e
   rw [pq _ _ _ _ hi] at h10 e
   rw [pq _ _ _ _ hj] at e
   split at e<;>split at e
   ·omega
   ·exact absurd (e▸gP hj) h4
   ·exact absurd (e▸gP hi) h4
   ·rename_i n1 n2;rw [if_neg n1] at h10;exact h.un i j hi hj h10 e
 | unload c=>
  obtain ⟨h1,l,hl,_⟩:=CI hr
  obtain ⟨l0,l1,l2⟩:=rC hl
  refine ⟨h.gl,h.fl,by simp only [bK];rw [List.length_set];exact h.wl,fun x hx=>?_,fun i j hi hj h10 e=>?_,h.st,h.ew⟩
  ·simp only [bK,hl,Option.getD_some] at hx
   rcases Bb hx with hx | rfl
   ·exact h.wr x hx
   ·exact .inl ⟨l0,l1⟩
  ·simp only [bK,List.length_set,hl,Option.getD_some] at hi hj h10 e
   rw [pq _ _ _ _ hi] at h10 e
   rw [pq _ _ _ _ hj] at e
   split at e
   ·rename_i n1;rw [if_pos n1] at h10;omega
   ·rename_i n1
    rw [if_neg n1] at h10
    split at e
    ·omega
    ·exact h.un i j hi hj h10 e
 | wind c l k=>
  obtain ⟨h1,_⟩:=Gh hr
  refine ⟨h.gl,h.fl,h.wl,h.wr,h.un,⟨c,by have:=ok.1;omega,l,CH hg.sh ok.1 h1⟩,fun l' r e=>?_⟩
  simp only [bK,zV] at e
  rcases e with e | e<;>cases e
noncomputable def rD (fs:List Bool)(i:Nat):List Int:=((List.range i).filter fun j=>fs.getD j false).map fun (j:Nat)=>(j:Int)
noncomputable def DW (fs:List Bool):List Int:=rD fs fs.length
theorem Bc (fs:List Bool)(i:Nat):rD fs (i+1)=rD fs i++(if fs.getD i false=true then [(i:Int)] else []):=by
 unfold rD
 rw [List.range_succ,List.filter_append,List.map_append]
 by_cases h:fs.getD i false=true
 ·rw [if_pos h,List.filter_cons,if_pos h];rfl
 ·rw [if_neg h,List.filter_cons,if_neg h];rfl
theorem wA (fs:List Bool)(i:Nat):(rD fs i).length<=i:=by
 unfold rD
 rw [WB]
 exact Nat.le_trans (List.length_filter_le _ _) (by rw [List.length_range];exact Nat.le_refl _)
theorem av.keeps {H H1 H2:Hp}{p:Addr}(s:av H H1)(k:ax p H1 H2)(hp:H p=none):av H H2:=fun b o e=>k b o (ak e hp) (s b o e)
section
variable {C:Cl}{K:WA}{H H':Hp}{rl s:Addr}{g:Cfg}{A:SA}{n:a8}
theorem a9.ne_b (h:a9 C K H rl g s A n):s≠A.b:=fun z=>by
 obtain ⟨dx,hb⟩:=h.be.ob
 have:=h.ob
 rw [z,hb] at this
 injection this with this
 injection this with _ _ this
 injection this with this _
 injection this with this _
 exact absurd this (by decide)
theorem a9.ne_y (h:a9 C K H rl g s A n):s≠A.y:=fun z=>by
 obtain ⟨dx,hb⟩:=h.ya.ob
 have:=h.ob
 rw [z,hb] at this
 injection this with this
 injection this with _ _ this
 injection this with this _
 injection this with this _
 exact absurd this (by decide)
theorem a9.ne_by (h:a9 C K H rl g s A n):A.y≠A.b:=fun z=>by
 obtain ⟨dx,hb⟩:=h.ya.ob
 obtain ⟨dx2,hb2⟩:=h.be.ob
 rw [z,hb2] at hb
 injection hb with this
 injection this with _ _ this
 injection this with this _
 injection this with this _
 exact absurd this (by decide)
theorem a9.bells {st':Addr}{e':Eng}(h:a9 C K H rl g s A n)(k:ax A.b H H')(hb:bH C.B K H' A.b A.cs A.fl st' g.ls n.fs e'):a9 C K H' rl g s {A with st:=st'} {n with e:=e'}:=by
 obtain ⟨dx,hb0⟩:=h.be.ob
 refine ⟨k _ _ h.ne_b h.ob,k _ _ (fun z=>?_) h.go,hb,h.ya.offI k hb0 h.ne_by,⟨h.ap.r1,h.ap.r2,h.ap.r3,h.ap.r4,h.ap.r5,h.ap.o1,h.ap.o2,h.ap.o3,h.ap.o4,h.ap.f1,h.ap.f2,h.ap.f3,h.ap.w1,h.ap.w2,h.ap.w3,h.ap.w4⟩,⟨(h.nn.keepI k hb0).al,h.nn.nr,h.nn.no,h.nn.nc,h.nn.nf,h.nn.nk,h.nn.nw⟩⟩
 have:=h.go
 rw [z,hb0] at this
 cases this
theorem a9.fail {fs':List Bool}(h:a9 C K H rl g s A n)(k:ax A.fl H H')(hf:H' A.fl=some (.lst (fs'.map V.bl)))(hl:fs'.length=n.fs.length):a9 C K H' rl g s A {n with fs:=fs'}:=by
 refine ⟨k _ _ (fun z=>?_) h.ob,k _ _ h.ap.f1 h.go,h.be.fail k hf hl,h.ya.off k h.be.of h.ap.f2 h.ap.f3,h.ap,h.nn.keep k h.nn.nf⟩
 have:=h.be.of
 rw [←z,h.ob] at this
 cases this
theorem a9.spots {ws':List Int}(h:a9 C K H rl g s A n)(k:ax A.wh H H')(hw:H' A.wh=some (.lst (ws'.map V.int))):a9 C K H' rl g s A {n with ws:=ws'}:=by
 refine ⟨k _ _ (fun z=>?_) h.ob,k _ _ h.ap.w1 h.go,h.be.off k h.ya.owh h.ap.w2 h.ap.w3,h.ya.put k h.ap.w4 hw,h.ap,h.nn.keep k h.nn.nw⟩
 have:=h.ya.owh
 rw [←z,h.ob] at this
 cases this
theorem a9.placed {pl:Int}(h:a9 C K H rl g s A n)(k:ax s H H')(hp:H' s=some (.ins C.S A.dx [("place",.int pl),("opened",.ref A.ol),("bells",.ref A.b),("yard",.ref A.y)])):a9 C K H' rl g s A {n with place:=pl}:=by
 refine ⟨hp,k _ _ (fun z=>?_) h.go,h.be.offI k h.ob h.ne_b.symm,h.ya.offI k h.ob h.ne_y.symm,h.ap,h.nn.keepI k h.ob⟩
 have:=h.go
 rw [z,h.ob] at this
 cases this
theorem a9.own {p:Addr}{ys:List V}(h:a9 C K H rl g s A n)(hp:g.N p)(k:ax p H H')(e:H' p=some (.lst ys)):a9 C K H' rl g s A n:=by
 obtain ⟨zs,hz⟩:=h.nn.al p hp
 refine ⟨k _ _ (fun z=>by have:=h.ob;rw [z,hz] at this;cases this) h.ob,k _ _ (h.nn.no p hp) h.go,h.be.off k hz (h.nn.nc p hp) (h.nn.nf p hp),h.ya.off k hz (h.nn.nk p hp) (h.nn.nw p hp),h.ap,⟨fun q hq=>?_,h.nn.nr,h.nn.no,h.nn.nc,h.nn.nf,h.nn.nk,h.nn.nw⟩⟩
 by_cases e1:q=p
 ·subst e1;exact ⟨ys,e⟩
 ·obtain ⟨us,hu⟩:=h.nn.al q hq
  exact ⟨us,k _ _ e1 hu⟩
noncomputable def Cfg.plus (g:Cfg)(p:Addr):Cfg:={g with N:=fun q=>g.N q\/q=p}
theorem a9.grow {p:Addr}{ys:List V}(h:a9 C K H rl g s A n)(hr:rl≠p)(hn:H p=none)(k:av H H')(e:H' p=some (.lst ys)):a9 C K H' rl (g.plus p) s A n:=by
 have h':=h.same k
 obtain ⟨_,⟨as,oc,_⟩,of,_⟩:=id h.be
 obtain ⟨_,okn,owh⟩:=id h.ya
 refine ⟨h'.ob,h'.go,h'.be,h'.ya,h'.ap,⟨fun q hq=>?_,fun q hq=>?_,fun q hq=>?_,fun q hq=>?_,fun q hq=>?_,fun q hq=>?_,fun q hq=>?_⟩⟩
 ·rcases hq with hq | rfl
  ·exact h'.nn.al q hq
  ·exact ⟨ys,e⟩
 ·rcases hq with hq | rfl
  ·exact h.nn.nr q hq
  ·exact hr
 ·rcases hq with hq | rfl
  ·exact h.nn.no q hq
  ·exact ak h.go hn
 ·rcases hq with hq | rfl
  ·exact h.nn.nc q hq
  ·exact ak oc hn
 ·rcases hq with hq | rfl
  ·exact h.nn.nf q hq
  ·exact ak of hn
 ·rcases hq with hq | rfl
  ·exact h.nn.nk q hq
  ·exact ak okn hn
 ·rcases hq with hq | rfl
  ·exact h.nn.nw q hq
  ·exact ak owh hn
end
section
variable {C:Cl}{K:WA}{H H':Hp}{rl s w bk:Addr}{g:Cfg}{n n0:a8}{rs:List Row}
theorem WAt.rows (h:WAt C K H w bk rl g n0 rs):∃as:List Addr,H rl=some (.lst (as.map V.ref)):=by
 obtain ⟨as,hr,_⟩:=h.bo.ro
 exact ⟨as,hr⟩
theorem WAt.own {p:Addr}{ys:List V}(h:WAt C K H w bk rl g n0 rs)(hp:g.N p)(k:ax p H H')(e:H' p=some (.lst ys)):WAt C K H' w bk rl g n0 rs:=by
 obtain ⟨⟨dx,dl,gl,h1,h2,h3,h4,h5,h6,h7⟩,⟨dy,f,h8,A,h9⟩,as,h10,h11⟩:=h
 obtain ⟨zs,hz⟩:=h9.nn.al p hp
 refine ⟨⟨dx,dl,gl,k _ _ (fun z=>by rw [z,hz] at h1;cases h1) h1,k _ _ (h6 p hp) h2,k _ _ (h7 p hp) h3,h4,h5,h6,h7⟩,⟨dy,f,k _ _ (fun z=>by rw [z,hz] at h8;cases h8) h8,A,h9.own hp k e⟩,as,k _ _ (h9.nn.nr p hp) h10,h11.1,fun i a r e1 e2=>?_⟩
 obtain ⟨dd,s,u1,u2,A',u3⟩:=h11.2 i a r e1 e2
 exact ⟨dd,s,u1.keep k hz,u2.keep k hz,A',u3.own hp k e⟩
theorem WAt.grow {p:Addr}{ys:List V}(h:WAt C K H w bk rl g n0 rs)(hn:H p=none)(k:av H H')(e:H' p=some (.lst ys)):WAt C K H' w bk rl (g.plus p) n0 rs:=by
 obtain ⟨⟨dx,dl,gl,h1,h2,h3,h4,h5,h6,h7⟩,⟨dy,f,h8,A,h9⟩,as,h10,h11⟩:=h
 have hr:rl≠p:=ak h10 hn
 refine ⟨⟨dx,dl,gl,k _ _ h1,k _ _ h2,k _ _ h3,h4,h5,fun q hq=>?_,fun q hq=>?_⟩,⟨dy,f,k _ _ h8,A,h9.grow hr hn k e⟩,as,k _ _ h10,h11.1,fun i a r e1 e2=>?_⟩
 ·rcases hq with hq | rfl
  ·exact h6 q hq
  ·exact ak h2 hn
 ·rcases hq with hq | rfl
  ·exact h7 q hq
  ·exact ak h3 hn
 ·obtain ⟨dd,s,u1,u2,A',u3⟩:=h11.2 i a r e1 e2
  exact ⟨dd,s,k.tup u1,k.tup u2,A',u3.grow hr hn k e⟩
end
noncomputable def qG (ds:List Int)(ls:List Cd)(slow fast:Int)(lds:List Ld)(N:Addr->Prop):Cfg:=⟨ds,ls,slow,fast,lds.map (·.2.2),lds.map (·.1),N⟩
noncomputable def mV (ds:List Int)(ls:List Cd)(lds:List Ld):a8:=⟨ds.getD 0 0,ds.map fun _=>false,ls.map fun _=>false,.no,lds.map (·.2.1)⟩
theorem a9.keepI {C:Cl}{K:WA}{H H':Hp}{rl s x D dp:Addr}{g:Cfg}{A:SA}{n:a8}{us:List (Str×V)}(h:a9 C K H rl g s A n)(k:ax x H H')(hx:H x=some (.ins D dp us))(n1:s≠x)(n2:A.b≠x)(n3:A.y≠x):a9 C K H' rl g s A n:=by
 refine ⟨k _ _ n1 h.ob,k _ _ (fun z=>?_) h.go,h.be.offI k hx n2,h.ya.offI k hx n3,h.ap,h.nn.keepI k hx⟩
 have:=h.go
 rw [z,hx] at this
 cases this
theorem K4 {ds:List Int}{ls:List Cd}{slow fast:Int}{lds:List Ld}{N:Addr->Prop}(h1:cn ds)(h2:ls.length=ds.length)(h3:∀x∈ls,dM x)(h4:1<=slow/\slow<=fast/\fast<=500)(h5:lds.length<=30):sF (qG ds ls slow fast lds N):=
 ⟨h1,h2,h3,h4.1,h4.2.1,h4.2.2,by simp [qG],by simpa [qG] using h5⟩
theorem Ib {ds:List Int}{ls:List Cd}{slow fast:Int}{lds:List Ld}{N:Addr->Prop}(h1:cn ds)(h2:ls.length=ds.length)(h6:∀x∈lds,rB ds.length x):jb (qG ds ls slow fast lds N) (mV ds ls lds):=by
 have l2:=h1.l2
 have l6:=h1.l6
 refine ⟨by simp [qG,mV],by simp [qG,mV,h2],by simp [qG,mV],fun x hx=>?_,fun i j hi hj h10 e=>?_,⟨0,.inl rfl,0,?_⟩,fun l r e=>?_⟩
 ·simp only [mV,List.mem_map] at hx
  obtain ⟨y,hy,rfl⟩:=hx
  exact .inl (h6 y hy).1
 ·exfalso
  have hm:(mV ds ls lds).ws.getD i 0∈(mV ds ls lds).ws:=gP hi
  simp only [mV,List.mem_map] at hm
  obtain ⟨y,hy,e1⟩:=hm
  have:=(h6 y hy).1
  simp only [mV] at h10
  omega
 ·exact gU h1 (i:=0) (by omega) rfl
 ·rcases e with e | e<;>cases e
end L2
namespace PySem
open PySem.Spec PyProof.Rows
section
variable {prog:Program}{w:World}{A:Around}{E:Value->Shared->Prop}{s:Shared}
theorem y9 {it t:Addr}{items:Array Value}(hne:t≠it):∀(n i:Nat) (s:Shared) (Q:List Value->Shared->Prop),s.heap.IsListIter it t i->s.heap.IsList t items->i+n<=items.size->
  (∀h',Heap.IsListIter h' it t (i+n)->Heap.SameBut it s.heap h'->Q ((items.toList.drop i).take n) {s with heap:=h'})->wpAny (model prog w) A (draw (.ref it) n) Q E s
 | 0,i,s,Q,hit,_,_,hQ=>by
  show wpAny _ _ (pure []) Q E s
  exact wpAny_pure (by simpa using hQ s.heap hit (Heap.SameBut.refl ..))
 | n+1,i,s,Q,hit,ht,hle,hQ=>by
  have hlt:i < items.size:=by omega
  show wpAny _ _ (pyNext (.ref it) >>= _) Q E s
  refine wpAny_bind (wpAny_pyNext_list_item hit ht (x:=items[i]) (by simp [hlt]) fun h₁ hit₁ hs₁=>?_)
  refine wpAny_bind (wpAny_holding (y9 hne n (i+1) _ _ hit₁ (ht.extBut hs₁.extBut hne) (by omega) fun h₂ hit₂ hs₂=>wpAny_pure ?_))
  have hd:items.toList.drop i=items[i]::items.toList.drop (i+1):=by simp [List.drop_eq_getElem_cons,hlt]
  have:=hQ h₂ (by rw [show i+(n+1)=i+1+n by omega];exact hit₂) (hs₁.trans hs₂)
  rw [hd,List.take_succ_cons] at this
  exact this
theorem uH {t:Addr}{items:Array Value}{Q:List Value->Shared->Prop}(hh:A.handled=none)(ht:s.heap.IsList t items)
  (hQ:∀h',Heap.ExtBut s.heap.objs.size s.heap h'->Q items.toList {s with heap:=h'}):wpAny (model prog w) A (unpackItems (.ref t) items.size none) Q E s:=by
 have hlt:t≠s.heap.objs.size:=by obtain ⟨o,ho,_⟩:=ht;exact Nat.ne_of_lt (Heap.lt_size ho)
 unfold unpackItems
 refine wpAny_bind ?_
 ·unfold notIterableAtAll
  refine wpAny_bind (wpAny_specialOf ht.typeIs slot_list_iter.lookup ?_)
  refine wpAny_pure ?_
  simp only [Bool.false_eq_true,if_false]
  refine wpAny_bind (wpAny_holding (wpAny_pyIter_list ht ?_))
  refine wpAny_bind (wpAny_holding (y9 hlt items.size 0 _ _ ⟨_,Heap.get?_push_size _ rfl,rfl,rfl⟩ (ht.push _) (by omega) fun h₁ hit₁ hs₁=>?_))
  have hall:List.take items.size (List.drop 0 items.toList)=items.toList:=by
   rw [List.drop_zero];exact List.take_of_length_le (by simp)
  rw [hall]
  rw [if_neg (by simp)]
  have ht₁:Heap.IsList h₁ t items:=(ht.push _).extBut hs₁.extBut hlt
  refine wpAny_bind (wpAny_holding (wpAny_pyNext_list_end hh hit₁ ht₁ (by simp) fun h₂ he₂=>?_))
  simp only [Option.isSome_none,Bool.false_eq_true,if_false]
  refine wpAny_pure (hQ h₂ fun b o hb e=>he₂ b o hb (hs₁.extBut b o hb (Heap.get?_push_of_some _ e)))
theorem Be {t:Addr}{items:Array Value}{targets:List (Bool×(Value->Sem Unit))}{Q:Unit->Shared->Prop}(hh:A.handled=none)(ht:s.heap.IsList t items)
  (hn:targets.length=items.size) (hstar:targets.findIdx? (·.1)=none)
  (h:∀h',Heap.ExtBut s.heap.objs.size s.heap h'->wpAny (model prog w) A (assignInOrder (targets.map (·.2)) items.toList) Q E {s with heap:=h'}) :
  wpAny (model prog w) A (unpack (.ref t) targets) Q E s:=by
 unfold unpack
 rw [hn,hstar]
 exact wpAny_bind (wpAny_holding (uH hh ht h))
theorem sH {env:Env}{elts:List Expr}{x1}{pos:Pos}{t:Addr}{items:Array Value}{Q:Unit->Shared->Prop}(hh:A.handled=none)(ht:s.heap.IsList t items)
  (hn:(assignEach elts env).length=items.size) (hstar:(assignEach elts env).findIdx? (·.1)=none)
  (h:∀h',Heap.ExtBut s.heap.objs.size s.heap h'->wpAny (model prog w) A (assignInOrder ((assignEach elts env).map (·.2)) items.toList) Q E {s with heap:=h'}) :
  wpAny (model prog w) A (assign (.Tuple elts x1 pos) env (.ref t)) Q E s:=by
 rw [assign_Tuple]
 exact wpAny_bind (wpAny_standAt (Be hh ht hn hstar h))
end
end PySem
namespace L2
open PySem PySem.Spec PyProof.Rows PySem.SeqAt
section
variable {X:Cx}{pos:Pos}
noncomputable def JN (K:WA)(n:Nat)(t:TGs):TG:=fun v σ H Q=>∃a xs,v=.ref a/\SqL K H a xs/\xs.length=n/\t xs σ H Q
theorem K5 {es:List Expr}{k:Nat}{t:TGs}{n:Nat}(hc:X.calm=true)(h:PGs X es t)
  (hn:(assignEach es X.env).length=n:=by rfl) (hst:(assignEach es X.env).findIdx? (·.1)=none:=by rfl):PG X (.Tuple es k pos) (JN X.K n t):=by
 intro pins s σ H v u Q I r hw
 obtain ⟨a,xs,e1,hq,hl,hw⟩:=hw
 subst e1
 cases r
 obtain ⟨its,rv,ht,hz⟩:=I.list hq
 refine sH (I.ok.hd hc) ht.isList (by simp [hn,←hl,rv.length]) hst fun h' hx=>?_
 have I1:Inv X pins σ H {s with heap:=h'}:=I.kept (t':=s.toks) fun b o e=>hx b o (Nat.ne_of_lt (Heap.lt_size e)) e
 exact h pins _ σ H xs _ Q I1 (by simpa using rv) hw
noncomputable def K6 (K:WA):R2:=fun x y H Q=>∃a b xs ys,x=.ref a/\y=.ref b/\SqL K H a xs/\SqL K H b ys/\xs.all cD=true/\ys.all cD=true/\Q (.bl (!eqL xs ys)) H
theorem K7 (hu:X.A.units < cLine):OpR X (compareOp .NotEq) (K6 X.K):=by
 intro pins s σ H x y u v Q I rx ry h
 obtain ⟨a,b,xs,ys,rfl,rfl,ha,hb,fa,fb,q⟩:=h
 cases rx;cases ry
 obtain ⟨ia,ra,pa,za⟩:=I.list ha
 obtain ⟨ib,rb,pb,zb⟩:=I.list hb
 have la:=ra.length
 have lb:=rb.length
 by_cases hl:xs.length=ys.length
 ·refine RcNeAt.lists (e:=fun j=>eqV (xs.getD j .non) (ys.getD j .non)) pa.isList pb.isList (by simp only [List.size_toArray];omega) hu (fun j h1 h2=>?_) X.prog X.w _ _ ?_
  ·simp only [List.size_toArray] at h1 h2
   have hx:xs[j]?=some (xs.getD j .non):=by
    rw [List.getD_eq_getElem?_getD,List.getElem?_eq_getElem (by omega)];rfl
   have hy:ys[j]?=some (ys.getD j .non):=by
    rw [List.getD_eq_getElem?_getD,List.getElem?_eq_getElem (by omega)];rfl
   obtain ⟨u,eu,ru⟩:=ra.get hx
   obtain ⟨v,ev,rv⟩:=rb.get hy
   have e1:ia.toArray[j]=u:=by
    have:=List.getElem?_eq_some_iff.mp eu
    simpa using this.2
   have e2:ib.toArray[j]=v:=by
    have:=List.getElem?_eq_some_iff.mp ev
    simpa using this.2
   rw [e1,e2]
   exact uA ru rv (List.all_eq_true.mp fa _ (List.mem_of_getElem? hx)) (List.all_eq_true.mp fb _ (List.mem_of_getElem? hy))
  ·have e:(List.range ia.toArray.size).all (fun j=>eqV (xs.getD j .non) (ys.getD j .non))=eqL xs ys:=by
    rw [List.size_toArray,←la]
    exact vX hl
   rw [e]
   exact ⟨.bl (!eqL xs ys),H,I,rfl,q⟩
 ·refine RcNeAt.lists_lengths pa.isList pb.isList (by simp only [List.size_toArray,bne_iff_ne,ne_eq];omega) hu X.prog X.w _ _ ?_
  have e:eqL xs ys=false:=by
   cases he:eqL xs ys with
   | false=>rfl
   | true=>exact absurd (vW he) hl
  rw [e] at q
  exact ⟨.bl true,H,I,rfl,q⟩
end
end L2
namespace L2
open PySem PySem.Spec PyProof.Rows
inductive Run (g:Cfg)(n0:a8):List Row->Prop
 | nil:Run g n0 []
 | snoc {rs:List Row} {d:Dd} (h:Run g n0 rs) (ok:wz d) (hr:c8 g (aj n0 rs) d=none):Run g n0 (rs++[iS g n0 rs d])
theorem Bf {α:Type}{xs ys:List α}{a b:α}(h:xs++[a]=ys++[b]):xs=ys/\a=b:=by
 have:=List.append_inj' h rfl
 exact ⟨this.1,by simpa using this.2⟩
theorem Run.inv {g:Cfg}{n0:a8}{rs:List Row}{r:Row}(h:Run g n0 (rs++[r])):Run g n0 rs/\∃d,wz d/\c8 g (aj n0 rs) d=none/\r=iS g n0 rs d:=by
 generalize e:rs++[r]=rs' at h
 cases h with
 | nil=>simp at e
 | @snoc rs2 d h ok hr=>
  obtain ⟨rfl,rfl⟩:=Bf e
  exact ⟨h,d,ok,hr,rfl⟩
theorem Run.snap {g:Cfg}{n0:a8}{rs:List Row}(hg:sF g)(h0:jb g n0)(h:Run g n0 rs):jb g (aj n0 rs):=by
 induction h with
 | nil=>exact h0
 | snoc h ok hr ih=>
  rw [fQ]
  exact ih.next hg ok hr
theorem Run.deeds {g:Cfg}{n0:a8}{rs:List Row}(h:Run g n0 rs):∀r∈rs,∃d,r.deed=ddV d:=by
 induction h with
 | nil=>intro r hr;cases hr
 | @snoc rs d h ok hr ih=>
  intro r hr
  rcases List.mem_append.mp hr with hr | hr
  ·exact ih r hr
  ·rw [List.mem_singleton] at hr
   subst hr
   exact ⟨d,rfl⟩
def zX (K:WA)(H:Hp)(a:Addr)(r:Row):Prop:=∃dd,SqT K H a [.int r.began,.int r.ended,.ref dd]/\SqT K H dd r.deed
def eH (K:WA)(H:Hp)(as:List Addr)(rs:List Row):Prop:=as.length=rs.length/\∀(i:Nat) a r,as[i]?=some a->rs[i]?=some r->zX K H a r
theorem eH.same {K:WA}{H H':Hp}{as:List Addr}{rs:List Row}(h:eH K H as rs)(e:av H H'):eH K H' as rs:=⟨h.1,fun i a r e1 e2=>by
 obtain ⟨dd,h1,h2⟩:=h.2 i a r e1 e2
 exact ⟨dd,e.tup h1,e.tup h2⟩⟩
theorem eH.nil {K:WA}{H:Hp}:eH K H [] []:=⟨rfl,fun i a r e _=>by simp at e⟩
theorem eH.push {K:WA}{H:Hp}{as:List Addr}{rs:List Row}{a:Addr}{r:Row}(h:eH K H as rs)(hr:zX K H a r):eH K H (as++[a]) (rs++[r]):=by
 refine ⟨by rw [List.length_append,List.length_append,h.1];rfl,fun i b x e1 e2=>?_⟩
 by_cases hi:i < as.length
 ·rw [List.getElem?_append_left hi] at e1
  rw [List.getElem?_append_left (by rw [←h.1];exact hi)] at e2
  exact h.2 i b x e1 e2
 ·rw [List.getElem?_append_right (by omega)] at e1
  rw [List.getElem?_append_right (by rw [←h.1];omega),←h.1] at e2
  have hz:i - as.length=0:=by
   have:=(List.getElem?_eq_some_iff.mp e1).1
   simp at this
   omega
  rw [hz] at e1 e2
  cases e1
  cases e2
  exact hr
noncomputable def JO (r:Row):Dt:=.tup [.flat (.int r.began),.flat (.int r.ended),.tup (r.deed.map Dt.flat)]
noncomputable def Mo (rs:List Row):Dt:=.lst (rs.map JO)
theorem EV {K:WA}{H:Hp}{a:Addr}{r:Row}{n:Nat}(h:zX K H a r)(hd:∃d,r.deed=ddV d):Rep K H (n+2) (.ref a) (JO r):=by
 obtain ⟨dd,h1,h2⟩:=h
 obtain ⟨d,hd⟩:=hd
 refine .tup h1 (by show 3<=100000;decide) rfl fun i x y e1 e2=>?_
 match i,e1,e2 with
 | 0,e1,e2=>cases e1;cases e2;exact .flat rfl
 | 1,e1,e2=>cases e1;cases e2;exact .flat rfl
 | 2,e1,e2=>
  cases e1;cases e2
  have:=zU d
  exact jP h2 (by rw [hd];omega) (by rw [hd];exact wx d)
 | i+3,e1,e2=>simp at e1
theorem Bg {K:WA}{H:Hp}{p:Addr}{as:List Addr}{rs:List Row}{n:Nat}(hp:SqL K H p (as.map V.ref))(h:eH K H as rs)(hd:∀r∈rs,∃d,r.deed=ddV d)(hl:rs.length<=100000):Rep K H (n+3) (.ref p) (Mo rs):=by
 refine .lst hp (by rw [WB,h.1];exact hl) (by rw [WB,WB,h.1]) fun i x y e1 e2=>?_
 rw [List.getElem?_map] at e1 e2
 cases ea:as[i]? with
 | none=>rw [ea] at e1;cases e1
 | some a=>
  cases er:rs[i]? with
  | none=>rw [er] at e2;cases e2
  | some r=>
   rw [ea] at e1;rw [er] at e2
   cases e1;cases e2
   exact EV (h.2 i a r ea er) (hd r (List.mem_of_getElem? er))
theorem EW {K:WA}{H:Hp}{a:Addr}{bs:List Bool}{n:Nat}(h:SqL K H a (bs.map V.bl))(hb:bs.length<=100000):Rep K H (n+1) (.ref a) (.lst ((bs.map V.bl).map Dt.flat)):=by
 refine .lst h (by rw [WB];exact hb) (by simp) fun i x y e1 e2=>?_
 rw [List.getElem?_map,e1] at e2
 cases e2
 rw [List.getElem?_map] at e1
 cases eb:bs[i]? with
 | none=>rw [eb] at e1;cases e1
 | some b=>rw [eb] at e1;cases e1;exact .flat rfl
theorem WAt.off {C:Cl}{K:WA}{H:Hp}{w bk rl:Addr}{g:Cfg}{n0:a8}{rs:List Row}(h:WAt C K H w bk rl g n0 rs)(p:Addr)(hp:g.N p):rl≠p:=by
 obtain ⟨dx,f,_,A,hA⟩:=h.bo.ob
 exact hA.nn.nr p hp
end L2
namespace PySem
open Sem (wp)
open Builtin PySem.Spec PyProof.Rows PySem.SeqAt
end PySem
namespace L2
open PySem PySem.Spec PyProof.Rows PySem.SeqAt
end L2
namespace L2
open PySem PySem.Spec PyProof.Rows
def dh {α:Type}(P:Addr->α->Prop)(as:List Addr)(xs:List α):Prop:=as.length=xs.length/\∀(i:Nat) a x,as[i]?=some a->xs[i]?=some x->P a x
section
variable {α:Type}{P Q:Addr->α->Prop}{as:List Addr}{xs:List α}{a:Addr}{x:α}
theorem dh.imp (h:dh P as xs)(f:∀a x,P a x->Q a x):dh Q as xs:=⟨h.1,fun i a x e1 e2=>f _ _ (h.2 i a x e1 e2)⟩
theorem dh.nil:dh P [] []:=⟨rfl,fun i a r e _=>by simp at e⟩
theorem dh.push (h:dh P as xs)(hr:P a x):dh P (as++[a]) (xs++[x]):=by
 refine ⟨by rw [List.length_append,List.length_append,h.1];rfl,fun i b y e1 e2=>?_⟩
 by_cases hi:i < as.length
 ·rw [List.getElem?_append_left hi] at e1
  rw [List.getElem?_append_left (by rw [←h.1];exact hi)] at e2
  exact h.2 i b y e1 e2
 ·rw [List.getElem?_append_right (by omega)] at e1
  rw [List.getElem?_append_right (by rw [←h.1];omega),←h.1] at e2
  have hz:i - as.length=0:=by
   have:=(List.getElem?_eq_some_iff.mp e1).1
   simp at this
   omega
  rw [hz] at e1 e2
  cases e1
  cases e2
  exact hr
theorem dh.last (h:dh P as (xs++[x])):∃as' a,as=as'++[a]/\dh P as' xs/\P a x:=by
 have hl:=h.1
 rw [List.length_append,List.length_singleton] at hl
 rcases fP as with rfl | ⟨as',a,rfl⟩
 ·cases hl
 ·have hl':as'.length=xs.length:=by rw [List.length_append,List.length_singleton] at hl;omega
  refine ⟨as',a,rfl,⟨hl',fun i b y e1 e2=>?_⟩,?_⟩
  ·have hi:=(List.getElem?_eq_some_iff.mp e1).1
   exact h.2 i b y (by rw [List.getElem?_append_left hi];exact e1) (by rw [List.getElem?_append_left (by omega)];exact e2)
  ·refine h.2 as'.length a x ?_ ?_
   ·rw [List.getElem?_append_right (Nat.le_refl _)];simp
   ·rw [List.getElem?_append_right (by omega),hl'];simp
theorem dh.get (h:dh P as xs){i:Nat}{x:α}(e:xs[i]?=some x):∃a,as[i]?=some a/\P a x:=by
 have hi:=(List.getElem?_eq_some_iff.mp e).1
 have hi2:i < as.length:=by rw [h.1];exact hi
 have ha:as[i]?=some as[i]:=List.getElem?_eq_getElem hi2
 exact ⟨_,ha,h.2 i _ _ ha e⟩
end
theorem Ic {as:List Addr}{a:Addr}:atI ((as++[a]).map V.ref) (-1)=some (.ref a):=by
 rw [List.map_append]
 exact Fz _ _
noncomputable def MT (K:WA)(H:Hp)(n:a8)(t:Int):Dd->V->Prop
 | .rept s,v=>∃(p:Addr) (l r:Int),v=.ref p/\n.e=.wait l r/\SqT K H p [.bl (decide (s=r)),.int r,.int s]
 | _,v=>v=.int t
end L2
namespace L2
open PySem PySem.Spec PyProof.Rows PySem.SeqAt
theorem gQ (fs:List Bool)(n i:Nat)(v:Bool):(fs.set n v).getD i false=if n=i/\i < fs.length then v else fs.getD i false:=by
 rw [List.getD_eq_getElem?_getD,List.getD_eq_getElem?_getD,List.getElem?_set]
 by_cases e:n=i
 ·subst e
  by_cases h:n < fs.length
  ·rw [if_pos rfl,if_pos h,if_pos ⟨rfl,h⟩];rfl
  ·rw [if_pos rfl,if_neg h,if_neg (fun z=>h z.2),List.getElem?_eq_none (by omega)]
 ·rw [if_neg e,if_neg (fun z=>e z.1)]
theorem EX (fs:List Bool):(DW fs).length<=fs.length:=wA fs fs.length
end L2
namespace L2
open PySem PySem.Spec PyProof.Rows
def onI (x:V)(P:Int->Prop):Prop:=match x with | .int i=>P i | _=>False
def onB (x:V)(P:Bool->Prop):Prop:=match x with | .bl i=>P i | _=>False
def onR (x:V)(P:Addr->Prop):Prop:=match x with | .ref i=>P i | _=>False
def onO (x:Option (Option V))(P:V->Prop):Prop:=match x with | some (some v)=>P v | _=>False
def onC (xs:List V)(P:V->List V->Prop):Prop:=match xs with | v::r=>P v r | []=>False
def onN (xs:List V)(P:Prop):Prop:=match xs with | []=>P | _=>False
theorem Ie (i:Int)(P:Int->Prop):onI (.int i) P=P i:=rfl
theorem K8 (i:Bool)(P:Bool->Prop):onB (.bl i) P=P i:=rfl
theorem Ig (i:Addr)(P:Addr->Prop):onR (.ref i) P=P i:=rfl
theorem Gi (v:V)(P:V->Prop):onO (some (some v)) P=P v:=rfl
theorem Gj (v:V)(r:List V)(P:V->List V->Prop):onC (v::r) P=P v r:=rfl
theorem Ih (P:Prop):onN [] P=P:=rfl
theorem zY {x:V}{P:Int->Prop}:(∃i,x=.int i/\P i)↔onI x P:=by cases x<;>simp [onI]
theorem vY {x:V}{P:Bool->Prop}:(∃i,x=.bl i/\P i)↔onB x P:=by cases x<;>simp [onB]
theorem zZ {x:V}{P:Addr->Prop}:(∃i,x=.ref i/\P i)↔onR x P:=by cases x<;>simp [onR]
theorem kL {x:V}{P:Addr->Prop}(h:onR x P):∃i,x=.ref i/\P i:=zZ.mpr h
theorem uI {x:V}{P:Int->Prop}(h:onI x P):∃i,x=.int i/\P i:=zY.mpr h
theorem Ii {x:Option (Option V)}{P:V->Prop}:(∃v,x=some (some v)/\P v)↔onO x P:=by
 rcases x with _ | _ | v<;>simp [onO]
theorem Ij {xs:List V}{P:V->List V->Prop}:(∃v r,xs=v::r/\P v r)↔onC xs P:=by
 cases xs with
 | nil=>exact ⟨fun ⟨_,_,e,_⟩=>(List.cons_ne_nil _ _ e.symm).elim,fun h=>False.elim h⟩
 | cons v r=>exact ⟨fun ⟨_,_,e,h⟩=>by cases e;exact h,fun h=>⟨v,r,rfl,h⟩⟩
theorem Ik {xs:List V}{P:Prop}:(xs=[]/\P)↔onN xs P:=by cases xs<;>simp [onN]
theorem MU {α β:Type}(f:α->β)(a:α)(l:List α):List.map f (a::l)=f a::List.map f l:=rfl
theorem MV {α β:Type}(f:α->β):List.map f ([]:List α)=[]:=rfl
theorem MW {α:Type}(a:α)(l m:List α):(a::l)++m=a::(l++m):=rfl
theorem MX {α:Type}(m:List α):([]:List α)++m=m:=rfl
theorem Mp {α:Type}(a:α)(l:List α):(a::l)[0]?=some a:=rfl
theorem Mq {α:Type}(a:α)(l:List α)(n:Nat):(a::l)[n+1]?=l[n]?:=rfl
theorem Mr {α:Type}(a b:α)(l:List α):(a::l).set 0 b=b::l:=rfl
theorem Ms {α:Type}(a b:α)(l:List α)(n:Nat):(a::l).set (n+1) b=a::l.set n b:=rfl
theorem MY {α:Type}(a:α)(n:Nat):List.replicate (n+1) a=a::List.replicate n a:=rfl
theorem MZ {α:Type}(a:α):List.replicate 0 a=[]:=rfl
theorem K9 (N:List Str)(vs:List V):L2.mq N vs=vs.map some++List.replicate (N.length - vs.length) none:=rfl
theorem σN (cm:List (Option Nat))(σ:St):cN (none::cm) σ=none::cN cm σ:=rfl
theorem σS (i:Nat)(cm:List (Option Nat))(σ:St):cN (some i::cm) σ=(σ[i]?).getD none::cN cm σ:=rfl
theorem σ0 (σ:St):cN [] σ=[]:=rfl
theorem Mt {α:Type}(a b:α):(some a).getD b=a:=rfl
theorem M0 {α:Type}(a:α)(l:List α):(a::l).length=l.length+1:=rfl
theorem M3 {α:Type}:([]:List α).length=0:=rfl
theorem Mu {A B:Prop}:(if true=true then A else B)=A:=rfl
theorem Mv {A B:Prop}:(if false=true then A else B)=B:=rfl
theorem M4 {p:Prop}[Decidable p]{A B:Prop}(h:if p then A else B):if decide p=true then A else B:=by
 by_cases e:p
 ·rw [if_pos e] at h;rw [if_pos (decide_eq_true e)];exact h
 ·rw [if_neg e] at h;rw [if_neg (by simp [e])];exact h
section
variable {α β:Type}
theorem ceq {f g:α->β->Prop}(h:∀x y,f x y↔g x y):f=g:=funext fun x=>funext fun y=>propext (h x y)
noncomputable def Gk (i:Nat):TE:=fun σ H Q=>onO σ[i]? fun v=>Q v H
theorem Il (i:Nat):J0 i=Gk i:=funext fun σ=>funext fun H=>funext fun Q=>propext Ii
noncomputable def tB' (t:TE):TT:=fun σ H Q=>t σ H fun x H1=>onB x fun c=>Q c H1
theorem JP (t:TE):tB t=tB' t:=funext fun σ=>funext fun H=>funext fun Q=>congrArg (t σ H) (ceq fun _ _=>vY)
theorem Gm (t:TE):mM t=tB' t:=JP t
noncomputable def CJ (g:Int->Int->V):R2:=fun x y H Q=>onI x fun i=>onI y fun j=>Q (g i j) H
theorem two_iff {x y:V}{P:Int->Int->Prop}:(∃i j,x=.int i/\y=.int j/\P i j)↔onI x fun i=>onI y fun j=>P i j:=⟨fun ⟨i,j,e,f,h⟩=>by subst e f;exact h,fun h=>let ⟨i,e,h⟩:=uI h;let ⟨j,f,h⟩:=uI h;⟨i,j,e,f,h⟩⟩
theorem wB (g:Int->Int->V):rI0 g=CJ g:=funext fun x=>funext fun y=>ceq fun _ _=>two_iff
noncomputable def rI' (C:Int->Int->Prop)(g:Int->Int->V):R2:=fun x y H Q=>onI x fun i=>onI y fun j=>C i j/\Q (g i j) H
theorem Gn (C:Int->Int->Prop)(g:Int->Int->V):rI C g=rI' C g:=funext fun x=>funext fun y=>ceq fun _ _=>two_iff
noncomputable def rU' (g:Int->V):V->Hp->VK->Prop:=fun x H Q=>onI x fun i=>Q (g i) H
theorem Mw (g:Int->V):rU g=rU' g:=funext fun x=>ceq fun _ _=>zY
def eqP (x y:V)(P:Bool->Prop):Prop:=match x,y with
 | .int i,.int j=>P (decide (i=j))
 | .str i,.str j=>P (decide (i=j))
 | .bl i,.bl j=>P (decide (i=j))
 | x,y=>xV x y=true/\P (decide (x=y))
theorem DY {x y:V}{P:Bool->Prop}:(xV x y=true/\P (decide (x=y)))↔eqP x y P:=by
 cases x<;>cases y<;>simp [eqP,xV]
theorem Im (i j:Int)(P:Bool->Prop):eqP (.int i) (.int j) P=P (decide (i=j)):=rfl
theorem Io (i j:Str)(P:Bool->Prop):eqP (.str i) (.str j) P=P (decide (i=j)):=rfl
theorem La (i j:Bool)(P:Bool->Prop):eqP (.bl i) (.bl j) P=P (decide (i=j)):=rfl
noncomputable def Lb:R2:=fun x y H Q=>eqP x y fun b=>Q (.bl b) H
theorem Lc:rEq=Lb:=funext fun x=>funext fun y=>ceq fun H Q=>DY (P:=fun b=>Q (.bl b) H)
noncomputable def qH (p:Int->Int->Prop)[d:∀i j,Decidable (p i j)](ta tb:TE):TT:=fun σ H Q=>ta σ H fun x H1=>tb σ H1 fun y H2=>onI x fun i=>onI y fun j=>if p i j then Q true H2 else Q false H2
theorem CK {p:Prop}[Decidable p]{Q:Bool->Prop}:Q (decide p)=if p then Q true else Q false:=by
 by_cases h:p
 ·rw [if_pos h,decide_eq_true h]
 ·rw [if_neg h,decide_eq_false h]
theorem vZ (p:Int->Int->Prop)[d:∀i j,Decidable (p i j)](ta tb:TE):mM (tOp (rI0 fun i j=>.bl (decide (p i j))) ta tb)=qH p ta tb:=by
 funext σ H Q
 refine congrArg (ta σ H) (funext fun x=>funext fun H1=>congrArg (tb σ H1) (ceq fun y H2=>?_))
 cases x<;>cases y<;>simp [rI0,onI,CK (Q:=fun b=>Q b H2)]
theorem Le (ta tb:TE):mM (tOp (rI0 fun i j=>.bl (decide (i < j))) ta tb)=qH (fun i j=>i < j) ta tb:=vZ _ ta tb
theorem Lf (ta tb:TE):mM (tOp (rI0 fun i j=>.bl (decide (i<=j))) ta tb)=qH (fun i j=>i<=j) ta tb:=vZ _ ta tb
theorem Lg (ta tb:TE):mM (tOp (rI0 fun i j=>.bl (decide (j < i))) ta tb)=qH (fun i j=>j < i) ta tb:=vZ _ ta tb
theorem Lh (ta tb:TE):mM (tOp (rI0 fun i j=>.bl (decide (j<=i))) ta tb)=qH (fun i j=>j<=i) ta tb:=vZ _ ta tb
def eqT (x y:V)(Y N:Prop):Prop:=match x,y with
 | .int i,.int j=>if i=j then Y else N
 | .str i,.str j=>if i=j then Y else N
 | .bl i,.bl j=>if i=j then Y else N
 | x,y=>xV x y=true/\if x=y then Y else N
theorem Ip (i j:Int)(Y N:Prop):eqT (.int i) (.int j) Y N=if i=j then Y else N:=rfl
theorem Iq (i j:Str)(Y N:Prop):eqT (.str i) (.str j) Y N=if i=j then Y else N:=rfl
theorem Li (i j:Bool)(Y N:Prop):eqT (.bl i) (.bl j) Y N=if i=j then Y else N:=rfl
theorem DZ {x y:V}{Q:Bool->Prop}:(xV x y=true/\Q (decide (x=y)))↔eqT x y (Q true) (Q false):=by
 rw [CK (Q:=Q)]
 cases x<;>cases y<;>simp [eqT,xV]
def neT (x y:V)(Y N:Prop):Prop:=match x,y with
 | .int i,.int j=>if ¬i=j then Y else N
 | .str i,.str j=>if ¬i=j then Y else N
 | .bl i,.bl j=>if ¬i=j then Y else N
 | x,y=>xV x y=true/\if ¬x=y then Y else N
theorem Ir (i j:Int)(Y N:Prop):neT (.int i) (.int j) Y N=if ¬i=j then Y else N:=rfl
theorem Iu (i j:Str)(Y N:Prop):neT (.str i) (.str j) Y N=if ¬i=j then Y else N:=rfl
theorem Lj (i j:Bool)(Y N:Prop):neT (.bl i) (.bl j) Y N=if ¬i=j then Y else N:=rfl
theorem Iv {x y:V}{Y N:Prop}:eqT x y N Y↔neT x y Y N:=by
 have h:∀(p:Prop) [Decidable p],(if p then N else Y)=if ¬p then Y else N:=fun p _=>by by_cases e:p<;>simp [e]
 cases x<;>cases y<;>first | exact iff_of_eq (h _) | exact and_congr Iff.rfl (iff_of_eq (h _))
noncomputable def Lk (ta tb:TE):TT:=fun σ H Q=>ta σ H fun x H1=>tb σ H1 fun y H2=>eqT x y (Q true H2) (Q false H2)
noncomputable def Ll (ta tb:TE):TT:=fun σ H Q=>ta σ H fun x H1=>tb σ H1 fun y H2=>neT x y (Q true H2) (Q false H2)
theorem Iw (ta tb:TE):mM (tOp rEq ta tb)=Lk ta tb:=by
 funext σ H Q
 refine congrArg (ta σ H) (funext fun x=>funext fun H1=>congrArg (tb σ H1) (ceq fun y H2=>?_))
 refine Iff.trans ?_ (DZ (Q:=fun b=>Q b H2))
 exact ⟨fun ⟨a,k,e,q⟩=>⟨a,by cases e;exact q⟩,fun ⟨a,q⟩=>⟨a,_,rfl,q⟩⟩
theorem Iy (ta tb:TE):mM (tOp rNe ta tb)=Ll ta tb:=by
 funext σ H Q
 refine congrArg (ta σ H) (funext fun x=>funext fun H1=>congrArg (tb σ H1) (ceq fun y H2=>?_))
 refine Iff.trans (Iff.trans ?_ (DZ (Q:=fun b=>Q (!b) H2))) Iv
 exact ⟨fun ⟨a,k,e,q⟩=>⟨a,by cases e;exact q⟩,fun ⟨a,q⟩=>⟨a,_,rfl,q⟩⟩
noncomputable def sJ (K:WA)(n:Nat)(t:TGs):TG:=fun v σ H Q=>onR v fun a=>∃xs,SqT K H a xs/\xs.length=n/\t xs σ H Q
theorem wC {x:V}{γ:Type}{P:Addr->γ->Prop}:(∃a z,x=.ref a/\P a z)↔onR x fun a=>∃z,P a z:=by cases x<;>simp [onR]
theorem Ea (K:WA)(n:Nat)(t:TGs):Kh K n t=sJ K n t:=funext fun v=>funext fun σ=>ceq fun _ _=>wC
noncomputable def CL (K:WA)(n:Nat)(t:TGs):TG:=fun v σ H Q=>onR v fun a=>∃xs,SqL K H a xs/\xs.length=n/\t xs σ H Q
theorem Gp (K:WA)(n:Nat)(t:TGs):JN K n t=CL K n t:=funext fun v=>funext fun σ=>ceq fun _ _=>wC
noncomputable def uJ (t:TG)(u:TGs):TGs:=fun vs σ H Q=>onC vs fun v r=>t v σ H fun σ' H'=>u r σ' H' Q
theorem sQ (t:TG)(u:TGs):AU t u=uJ t u:=funext fun v=>funext fun σ=>ceq fun _ _=>Ij
noncomputable def Eb:TGs:=fun vs σ H Q=>onN vs (Q σ H)
theorem Ec:Kg=Eb:=funext fun v=>funext fun σ=>ceq fun _ _=>Ik
noncomputable def wD (K:WA):R2:=fun x y H Q=>onR x fun p=>onI y fun i=>∃xs,SqL K H p xs/\∃v,atI xs i=some v/\Q v H
theorem Iz (K:WA):Kr K=wD K:=funext fun x=>funext fun y=>ceq fun H Q=>⟨fun ⟨p,xs,i,v,e,f,h1,h2,h3⟩=>by subst e f;exact ⟨xs,h1,v,h2,h3⟩,fun h=>let ⟨p,e,h⟩:=kL h;let ⟨i,f,xs,h1,v,h2,h3⟩:=uI h;⟨p,xs,i,v,e,f,h1,h2,h3⟩⟩
noncomputable def Gq (K:WA):R2:=fun x y H Q=>onR x fun p=>onI y fun i=>∃xs,SqT K H p xs/\∃v,atI xs i=some v/\Q v H
theorem IA (K:WA):Ks K=Gq K:=funext fun x=>funext fun y=>ceq fun H Q=>⟨fun ⟨p,xs,i,v,e,f,h1,h2,h3⟩=>by subst e f;exact ⟨xs,h1,v,h2,h3⟩,fun h=>let ⟨p,e,h⟩:=kL h;let ⟨i,f,xs,h1,v,h2,h3⟩:=uI h;⟨p,xs,i,v,e,f,h1,h2,h3⟩⟩
noncomputable def CM (ta tb:TE):TE:=fun σ H Q=>ta σ H fun x H1=>onB x fun c=>if c=true then tb σ H1 Q else Q (.bl false) H1
theorem Gr (ta tb:TE):Jt ta tb=CM ta tb:=funext fun σ=>funext fun H=>funext fun Q=>congrArg (ta σ H) (ceq fun _ _=>vY)
noncomputable def Gs (ta tb:TE):TE:=fun σ H Q=>ta σ H fun x H1=>onB x fun c=>if c=true then Q (.bl true) H1 else tb σ H1 Q
theorem IB (ta tb:TE):LI ta tb=Gs ta tb:=funext fun σ=>funext fun H=>funext fun Q=>congrArg (ta σ H) (ceq fun _ _=>vY)
noncomputable def CN (ta:TE):TE:=fun σ H Q=>ta σ H fun x H1=>onB x fun c=>Q (.bl (!c)) H1
theorem Gu (ta:TE):Ju ta=CN ta:=funext fun σ=>funext fun H=>funext fun Q=>congrArg (ta σ H) (ceq fun _ _=>vY)
noncomputable def Gv (K:WA)(ta:TE)(f:Str):TE:=fun σ H Q=>ta σ H fun x H1=>onR x fun a=>∃C dx fs,H1 a=some (.ins C dx fs)/\Cls K C/\bg K C f/\∃v,fs.lookup f=some v/\Q v H1
theorem IC (K:WA)(ta:TE)(f:Str):LU K ta f=Gv K ta f:=funext fun σ=>funext fun H=>funext fun Q=>congrArg (ta σ H) (ceq fun x H1=>by cases x<;>simp [onR])
noncomputable def Gw (K:WA)(ta tv:TE)(f:Str):TS:=fun D σ H=>tv σ H fun y H1=>ta σ H1 fun x H2=>onR x fun a=>∃C dx fs,H2 a=some (.ins C dx fs)/\Cls K C/\bg K C f/\fs.length < 1000/\D.nx σ (upd H2 a (.ins C dx (bD f y fs)))
theorem ID (K:WA)(ta tv:TE)(f:Str):LV K ta tv f=Gw K ta tv f:=funext fun D=>funext fun σ=>funext fun H=>congrArg (tv σ H) (funext fun y=>funext fun H1=>congrArg (ta σ H1) (ceq fun x H2=>by cases x<;>simp [onR]))
noncomputable def Aa (C:Addr)(m:Str)(sp:Sp)(dvs:List V)(E:XK)(ta:TE)(t:TA):TE:=fun σ H Q=>ta σ H fun x H1=>onR x fun a=>∃dx fs,H1 a=some (.ins C dx fs)/\fs.lookup m=none/\t σ H1 fun vs H2=>sp (.ref a::(vs++dvs)) H2 Q E
theorem Bh (C:Addr)(m:Str)(sp:Sp)(dvs:List V)(E:XK)(ta:TE)(t:TA):AY C m sp dvs E ta t=Aa C m sp dvs E ta t:=funext fun σ=>funext fun H=>funext fun Q=>congrArg (ta σ H) (ceq fun x H1=>by cases x<;>simp [onR])
noncomputable def sT:V->List V->Hp->VK->Prop:=fun x vs H Q=>onR x fun l=>onC vs fun y r=>onN r (∃xs,H l=some (.lst xs)/\xs.length < sizeLine/\Q .non (upd H l (.lst (xs++[y]))))
theorem CO:DM=sT:=funext fun x=>funext fun vs=>ceq fun H Q=>⟨fun ⟨l,xs,y,e,f,h⟩=>by subst e f;exact ⟨xs,h⟩,fun h=>by
 obtain ⟨l,rfl,z⟩:=kL h
 match vs,z with
 | [v],⟨xs,z⟩=>exact ⟨l,xs,v,rfl,rfl,z⟩⟩
noncomputable def CP (t:TE):TO:=fun σ H Q=>t σ H fun x H1=>onI x fun i=>Q (some i) H1
theorem Gx (t:TE):JH t=CP t:=funext fun σ=>funext fun H=>funext fun Q=>congrArg (t σ H) (ceq fun _ _=>zY)
noncomputable def CQ (K:WA)(tl:TE):TI:=fun σ H R=>tl σ H fun x H1=>onR x fun a=>(∃xs,SqL K H1 a xs)/\R (Itl K a) H1
theorem Gy (K:WA)(tl:TE):Jy K tl=CQ K tl:=funext fun σ=>funext fun H=>funext fun R=>congrArg (tl σ H) (ceq fun _ _=>zZ)
noncomputable def CS (ta:TA):TI:=fun σ H R=>ta σ H fun vs H1=>onC vs fun v r=>onN r (onI v fun j=>-(2 ^ 62)<=j/\j < 2 ^ 62/\R (Itr 0 j.toNat) H1)
theorem Gz (ta:TA):Jz ta=CS ta:=funext fun σ=>funext fun H=>funext fun R=>congrArg (ta σ H) (ceq fun vs H1=>by
 rcases vs with _ | ⟨y,_ | ⟨z,vs⟩⟩<;>(try cases y)<;>simp [onI,onC,onN])
noncomputable def IE (K:WA):List V->Hp->VK->Prop:=fun vs H Q=>onC vs fun v r=>onN r (onR v fun p=>∃ys,(SqL K H p ys\/SqT K H p ys)/\Q (.int ys.length) H)
theorem IF (K:WA)(t:TA):tCB (fun xs H Q=>∃p ys,xs=[.ref p]/\(SqL K H p ys\/SqT K H p ys)/\Q (.int ys.length) H) t=tCB (IE K) t:=by
 refine congrArg (fun r=>tCB r t) (funext fun vs=>ceq fun H Q=>?_)
 rcases vs with _ | ⟨y,_ | ⟨z,vs⟩⟩<;>(try cases y)<;>simp [IE,onR,onC,onN]
noncomputable def v7 (K:WA):List V->Hp->VK->Prop:=fun vs H Q=>onC vs fun v r=>onN r (onR v fun p=>∃ys,(SqL K H p ys\/SqT K H p ys)/\∀l,H l=none->Q (.ref l) (upd H l (.lst ys)))
theorem CT (K:WA)(t:TA):tCB (fun xs H Q=>∃p ys,xs=[.ref p]/\(SqL K H p ys\/SqT K H p ys)/\∀l,H l=none->Q (.ref l) (upd H l (.lst ys))) t=tCB (v7 K) t:=by
 refine congrArg (fun r=>tCB r t) (funext fun vs=>ceq fun H Q=>?_)
 rcases vs with _ | ⟨y,_ | ⟨z,vs⟩⟩<;>(try cases y)<;>simp [v7,onR,onC,onN]
noncomputable def CU:V->V->V->Hp->(Hp->Prop)->Prop:=fun o i v H Q=>onR o fun p=>onI i fun k=>∃xs,H p=some (.lst xs)/\∃j,ixN xs.length k=some j/\Q (upd H p (.lst (xs.set j v)))
theorem GA:JI=CU:=funext fun o=>funext fun i=>funext fun v=>ceq fun H Q=>⟨fun ⟨p,xs,k,j,e,f,h1,h2,h3⟩=>by subst e f;exact ⟨xs,h1,j,h2,h3⟩,fun h=>let ⟨p,e,h⟩:=kL h;let ⟨k,f,xs,h1,j,h2,h3⟩:=uI h;⟨p,xs,k,j,e,f,h1,h2,h3⟩⟩
theorem M5 {p:Prop}[Decidable p]{A B:Prop}(h:if ¬p then A else B):if (!decide p)=true then A else B:=by
 by_cases e:p
 ·rw [if_neg (fun z=>z e)] at h;rw [if_neg (by simp [e])];exact h
 ·rw [if_pos e] at h;rw [if_pos (by simp [e])];exact h
noncomputable def tU1 (f:Int->V)(ta:TE):TE:=fun σ H Q=>ta σ H fun x H1=>onI x fun i=>Q (f i) H1
theorem GB {k:Int}(hk:0 < k)(ta:TE)(g:Int->Int->V):tOp (rI (fun _ j=>0 < j) g) ta (tC (.int k))=tU1 (fun i=>g i k) ta:=funext fun σ=>funext fun H=>funext fun Q=>congrArg (ta σ H) (ceq fun x H1=>by
 cases x<;>simp [rI,tC,onI,hk])
theorem GC {k:Int}(h1:0 < k)(h2:k < 1073741824)(ta:TE)(g:Int->Int->V):tOp (rI Fo g) ta (tC (.int k))=tU1 (fun i=>g i k) ta:=funext fun σ=>funext fun H=>funext fun Q=>congrArg (ta σ H) (ceq fun x H1=>by
 have hc:∀i,Fo i k:=fun i=>by unfold Fo;omega
 cases x<;>simp [rI,tC,onI,hc])
theorem GD {k:Int}(h1:-4294967296 < k)(h2:k < 4294967296)(ta:TE)(g:Int->Int->V):tOp (rI wg g) ta (tC (.int k))=tU1 (fun i=>g i k) ta:=funext fun σ=>funext fun H=>funext fun Q=>congrArg (ta σ H) (ceq fun x H1=>by
 have hc:∀i,wg i k:=fun i=>by unfold wg;omega
 cases x<;>simp [rI,tC,onI,hc])
theorem EY {k:Int}(h1:-4294967296 < k)(h2:k < 4294967296)(tb:TE)(g:Int->Int->V):tOp (rI wg g) (tC (.int k)) tb=tU1 (fun i=>g k i) tb:=funext fun σ=>funext fun H=>funext fun Q=>congrArg (tb σ H) (ceq fun x H1=>by
 have hc:∀i,wg k i:=fun i=>by unfold wg;omega
 cases x<;>simp [rI,onI,hc])
noncomputable def GF (K:WA):V->Option Int->Option Int->Hp->VK->Prop:=fun x lo hi H Q=>onR x fun a=>∃xs,SqL K H a xs/\∀p,H p=none->Q (.ref p) (upd H p (.lst (vC xs lo hi)))
theorem IG (K:WA):L3 K=GF K:=funext fun x=>funext fun lo=>funext fun hi=>ceq fun _ _=>wC
noncomputable def GG:R2:=fun x y H Q=>onR x fun l=>onR y fun b=>∃xs,H l=some (.lst xs)/\∃zs,H b=some (.lst zs)/\xs.length+zs.length<=sizeLine/\∀p,H p=none->Q (.ref p) (upd H p (.lst (xs++zs)))
theorem IH:Mb=GG:=funext fun x=>funext fun y=>ceq fun H Q=>⟨fun ⟨l,b,xs,zs,e,f,h1,h2,h3⟩=>by subst e f;exact ⟨xs,h1,zs,h2,h3⟩,fun h=>let ⟨l,e,h⟩:=kL h;let ⟨b,f,xs,h1,zs,h2,h3⟩:=kL h;⟨l,b,xs,zs,e,f,h1,h2,h3⟩⟩
noncomputable def EZ (K:WA)(neg:Bool):R2:=fun x y H Q=>onR y fun p=>∃xs,(SqL K H p xs\/SqT K H p xs)/\cD x=true/\xs.all cD=true/\Q (.bl (if neg=true then !inV x xs else inV x xs)) H
theorem GH (K:WA)(neg:Bool):rIn K neg=EZ K neg:=funext fun x=>funext fun y=>ceq fun H Q=>by cases y<;>simp [rIn,EZ,onR]
theorem Mx {b c:Bool}:(if true=true then b else c)=b:=rfl
theorem My {b c:Bool}:(if false=true then b else c)=c:=rfl
noncomputable def CV (ta:TA):TI:=fun σ H R=>ta σ H fun vs H1=>onC vs fun v r=>onC r fun u r2=>onN r2 (onI v fun i=>onI u fun j=>(-(2 ^ 62)<=i/\i < 2 ^ 62/\-(2 ^ 62)<=j/\j < 2 ^ 62)/\R (Itr i (j - i).toNat) H1)
theorem zc {vs:List V}{P:Int->Int->Prop}:(∃i j,vs=[.int i,.int j]/\P i j)↔onC vs fun v r=>onC r fun u r2=>onN r2 (onI v fun i=>onI u fun j=>P i j):=by
 constructor
 ·rintro ⟨i,j,rfl,h⟩;exact h
 ·intro h
  rcases vs with _ | ⟨y,_ | ⟨z,_ | ⟨u,vs⟩⟩⟩
  ·exact h.elim
  ·exact h.elim
  ·cases y<;>cases z<;>first | exact ⟨_,_,rfl,h⟩ | exact h.elim
  ·exact h.elim
theorem GI (ta:TA):JA ta=CV ta:=funext fun σ=>funext fun H=>funext fun R=>congrArg (ta σ H) (ceq fun vs H1=>zc)
noncomputable def CW (K:WA)(te:TE):TI:=fun σ H R=>te σ H fun x H1=>onR x fun a=>(∃xs,SqL K H1 a xs)/\R (Ite K a) H1
theorem GJ (K:WA)(te:TE):JL K te=CW K te:=funext fun σ=>funext fun H=>funext fun R=>congrArg (te σ H) (ceq fun _ _=>zZ)
noncomputable def GK (K:WA)(ta tb:TE):TI:=fun σ H R=>ta σ H fun x H1=>tb σ H1 fun y H2=>onR x fun a=>onR y fun b=>(∃xs,SqL K H2 a xs)/\(∃ys,SqL K H2 b ys)/\R (Itz K a b) H2
theorem IJ (K:WA)(ta tb:TE):Mj K ta tb=GK K ta tb:=funext fun σ=>funext fun H=>funext fun R=>congrArg (ta σ H) (funext fun x=>funext fun H1=>congrArg (tb σ H1) (ceq fun y H2=>⟨fun ⟨a,b,e,f,h⟩=>by subst e f;exact h,fun h=>let ⟨a,e,h⟩:=kL h;let ⟨b,f,h⟩:=kL h;⟨a,b,e,f,h⟩⟩))
noncomputable def Ed:V->List V->Hp->VK->Prop:=fun x vs H Q=>onR x fun l=>onN vs (∃xs,H l=some (.lst xs)/\∃y,xs[xs.length - 1]?=some y/\Q y (upd H l (.lst xs.dropLast)))
theorem IK:Kw=Ed:=funext fun x=>funext fun vs=>ceq fun H Q=>by cases vs<;>cases x<;>simp [Kw,Ed,onR,onN]
noncomputable def IL:List V->Hp->VK->Prop:=fun vs H Q=>onC vs fun v r=>onN r (onI v fun i=>Q (.int (if i < 0 then -i else i)) H)
theorem IM (t:TA):tCB (fun xs H Q=>∃i,xs=[.int i]/\Q (.int (if i < 0 then -i else i)) H) t=tCB IL t:=by
 refine congrArg (fun r=>tCB r t) (funext fun vs=>ceq fun H Q=>?_)
 rcases vs with _ | ⟨y,_ | ⟨z,vs⟩⟩<;>(try cases y)<;>simp [IL,onI,onC,onN]
noncomputable def GL:List V->Hp->VK->Prop:=fun vs H Q=>onC vs fun v r=>onC r fun u r2=>onN r2 (onI v fun i=>onI u fun j=>Q (.int (if j < i then j else i)) H)
theorem GN (t:TA):tCB (fun xs H Q=>∃i j,xs=[.int i,.int j]/\Q (.int (if j < i then j else i)) H) t=tCB GL t:=by
 refine congrArg (fun r=>tCB r t) (funext fun vs=>ceq fun H Q=>?_)
 exact zc
def IP (v:V)(P:Int->Prop):Prop:=match v with | .int i=>P i | .bl k=>P (if k=true then 1 else 0) | _=>False
theorem GO (i:Int)(P:Int->Prop):IP (.int i) P=P i:=rfl
theorem IQ (k:Bool)(P:Int->Prop):IP (.bl k) P=P (if k=true then 1 else 0):=rfl
noncomputable def Ee:List V->Hp->VK->Prop:=fun vs H Q=>onC vs fun v r=>onN r (IP v fun i=>Q (.int i) H)
theorem GP (t:TA):tCB (fun xs H Q=>(∃i,xs=[.int i]/\Q (.int i) H)\/∃k,xs=[.bl k]/\Q (.int (if k=true then 1 else 0)) H) t=tCB Ee t:=by
 refine congrArg (fun r=>tCB r t) (funext fun vs=>ceq fun H Q=>?_)
 rcases vs with _ | ⟨y,_ | ⟨z,vs⟩⟩<;>(try cases y)<;>simp [Ee,onC,onN,IP]
noncomputable def GQ (ta:TE):TT:=fun σ H Q=>ta σ H fun x H1=>if x=.non then Q true H1 else Q false H1
theorem GR (ta:TE):mM (tOp (fun x y H Q=>y=.non/\Q (.bl (decide (x=.non))) H) ta (tC .non))=GQ ta:=funext fun σ=>funext fun H=>funext fun Q=>congrArg (ta σ H) (ceq fun x H1=>by
 refine Iff.trans ?_ (iff_of_eq (CK (p:=x=.non) (Q:=fun b=>Q b H1)))
 exact ⟨fun ⟨_,k,e,q⟩=>by cases e;exact q,fun q=>⟨rfl,_,rfl,q⟩⟩)
noncomputable def CY (ta:TE):TT:=fun σ H Q=>ta σ H fun x H1=>if ¬x=.non then Q true H1 else Q false H1
theorem IS {p:Prop}[Decidable p]{Q:Bool->Prop}:Q (!decide p)=if ¬p then Q true else Q false:=by
 by_cases h:p
 ·rw [if_neg (fun z=>z h),decide_eq_true h];rfl
 ·rw [if_pos h,decide_eq_false h];rfl
theorem E1 (ta:TE):mM (tOp (fun x y H Q=>y=.non/\Q (.bl (!decide (x=.non))) H) ta (tC .non))=CY ta:=funext fun σ=>funext fun H=>funext fun Q=>congrArg (ta σ H) (ceq fun x H1=>by
 refine Iff.trans ?_ (iff_of_eq (IS (p:=x=.non) (Q:=fun b=>Q b H1)))
 exact ⟨fun ⟨_,k,e,q⟩=>by cases e;exact q,fun q=>⟨rfl,_,rfl,q⟩⟩)
theorem uK {K:WA}{l:Addr}{ls:List Ld}{te:TE}{cm:List (Option Nat)}{σ:St}{H:Hp}{Q:VK}(f:Ld->V)(hL:dS K H l ls)(hn:ls.length<=sizeLine)(hcm:cN cm σ=[none,none,none])
  (he:∀x∈ls,∀N:VK,N (f x) H->te [some (.str x.1),some (.int x.2.1),some (.int x.2.2)] H N)
  (hd:∀p,H p=none->Q (.ref p) (upd H p (.lst (ls.map f)))):u9 (Itl K l) (sJ K 3 (uJ (eX 0) (uJ (eX 1) (uJ (eX 2) Eb)))) xZ te cm σ Q H:=by
 rw [←Ea,←Ec,←sQ,←sQ,←sQ]
 exact Ga f hL hn hcm he hd
noncomputable def GS:R2:=fun x y H Q=>onR x fun l=>onI y fun k=>∃xs,H l=some (.lst xs)/\-(2 ^ 63)<=k/\k < 2 ^ 63/\xs.length * k.toNat<=sizeLine/\∀p,H p=none->Q (.ref p) (upd H p (.lst (List.replicate k.toNat xs).flatten))
theorem IT:Mc=GS:=funext fun x=>funext fun y=>ceq fun H Q=>⟨fun ⟨l,k,v,e,f,h⟩=>by subst e f;exact ⟨v,h⟩,fun h=>let ⟨l,e,h⟩:=kL h;let ⟨k,f,v,h⟩:=uI h;⟨l,k,v,e,f,h⟩⟩
end
noncomputable def Ef (K:WA):R2:=fun x y H Q=>onR x fun a=>onR y fun b=>∃xs,SqL K H a xs/\∃ys,SqL K H b ys/\xs.all cD=true/\ys.all cD=true/\Q (.bl (!eqL xs ys)) H
theorem IU (K:WA):K6 K=Ef K:=funext fun x=>funext fun y=>ceq fun H Q=>by cases x<;>cases y<;>simp [K6,Ef,onR]
noncomputable def Eg (K:WA):R2:=fun x y H Q=>onR x fun a=>onR y fun b=>∃xs,SqL K H a xs/\∃ys,SqL K H b ys/\xs.all cD=true/\ys.all cD=true/\Q (.bl (eqL xs ys)) H
theorem IV (K:WA):KU K=Eg K:=funext fun x=>funext fun y=>ceq fun H Q=>by cases x<;>cases y<;>simp [KU,Eg,onR]
theorem Mz {b:Bool}{A B:Prop}(h:if b=false then A else B):if (!b)=true then A else B:=by cases b<;>exact h
theorem kM {g:Cfg}{n:a8}{l:Int}(h0:0<=l)(h1:l < g.ds.length)(h:n.gates.getD l.toNat false=false):c8 g n (.opn l)=none:=(if_neg (fun z=>z ⟨h0,h1⟩)).trans (if_neg (by rw [h];decide))
theorem kO {g:Cfg}{n:a8}{l:Int}(h0:0<=l)(h1:l < g.ds.length)(h:n.gates.getD l.toNat false=true):c8 g n (.sht l)=none:=(if_neg (fun z=>z ⟨h0,h1⟩)).trans (if_neg (by rw [h];decide))
theorem vb {g:Cfg}{n:a8}{l s:Int}(h0:0<=l)(h1:l < g.ds.length)(h:n.fs.getD l.toNat false=false)(hs:s=(ba g.ls l).1\/s=(ba g.ls l).2):c8 g n (.ring l s)=none:=(if_neg (fun z=>z ⟨h0,h1⟩)).trans ((if_neg (by rw [h];decide)).trans (if_pos hs))
theorem mW {g:Cfg}{n:a8}{l:Int}(h0:0<=l)(h1:l < g.ds.length)(h:n.fs.getD l.toNat false=false):c8 g n (.fail l)=none:=(if_neg (fun z=>z ⟨h0,h1⟩)).trans (if_neg (by rw [h];decide))
theorem vc {g:Cfg}{n:a8}{l r s:Int}(h:n.e=.wait l r)(h1:1<=s)(h2:s<=9):c8 g n (.rept s)=none:=by
 simp only [c8,h]
 exact if_pos ⟨h1,h2⟩
theorem Bi {g:Cfg}{n:a8}{c l:Int}{k:Str}(h0:0<=l)(h1:l < g.ds.length)(h:ja g n=false)(he:n.e=.armed l (cO g.ls l k)):c8 g n (.wind c l k)=none:=(if_neg (fun z=>z ⟨h0,h1⟩)).trans ((if_neg (by rw [h];decide)).trans (if_pos he))
theorem yd {g:Cfg}{n:a8}{c l:Int}(h:10+c∈n.ws)(hl:cQ g.ds n.place c=some l)(ho:n.gates.getD l.toNat false=true):c8 g n (.unload c)=none:=by
 refine (if_neg (fun z=>z h)).trans ?_
 rw [hl]
 exact if_pos ho
theorem Bj {g:Cfg}{n:a8}{k c l:Int}(h0:0<=k)(h1:k < n.ws.length)(hl:cQ g.ds n.place c=some l)(hk:n.ws.getD k.toNat 0=l)(hc:¬10+c∈n.ws)(ho:n.gates.getD l.toNat false=true):c8 g n (.load k c)=none:=by
 refine (if_neg (fun z=>z ⟨h0,h1⟩)).trans ?_
 rw [hl]
 exact (if_neg (fun z=>z hk)).trans ((if_neg hc).trans (if_pos ho))
inductive pB (K:WA)(H:Hp)(n:Nat):List V->List Dt->Prop
 | nil:pB K H n [] []
 | cons {x:V} {d:Dt} {xs:List V} {ds:List Dt} (h:Rep K H n x d) (t:pB K H n xs ds):pB K H n (x::xs) (d::ds)
theorem pB.len {K:WA}{H:Hp}{n:Nat}{xs:List V}{ds:List Dt}(h:pB K H n xs ds):xs.length=ds.length:=by
 induction h with
 | nil=>rfl
 | cons h t ih=>rw [List.length_cons,List.length_cons,ih]
theorem pB.get {K:WA}{H:Hp}{n:Nat}{xs:List V}{ds:List Dt}(h:pB K H n xs ds):∀(i:Nat) x d,xs[i]?=some x->ds[i]?=some d->Rep K H n x d:=by
 induction h with
 | nil=>intro i x d e;simp at e
 | cons h t ih=>
  intro i x d e1 e2
  cases i with
  | zero=>cases e1;cases e2;exact h
  | succ i=>exact ih i x d e1 e2
theorem pB.rep {K:WA}{H:Hp}{n:Nat}{a:Addr}{xs:List V}{ds:List Dt}(h:pB K H n xs ds)(hs:SqL K H a xs)(hb:xs.length<=100000):Rep K H (n+1) (.ref a) (.lst ds):=.lst hs hb h.len h.get
theorem pB.same {K:WA}{H H':Hp}{n:Nat}{xs:List V}{ds:List Dt}(h:pB K H n xs ds)(s:av H H'):pB K H' n xs ds:=by
 induction h with
 | nil=>exact .nil
 | cons h t ih=>exact .cons (h.same s) ih
def DI (K:WA)(x:Str)(st:Stmt):Prop:=∃f fd,W.nsIn K mainGlobals x=some (some (.ref f))/\Fun K x x st f fd
theorem DI.mk {K:WA}{x:Str}{st:Stmt}{f:Addr}{oc:Value}{od an:Option Addr}{osl:Array (Option Value)}{kV doc pm cdv ct:Value}(a:W.nsIn K mainGlobals x=some (some (.ref f)))(l:K.lookup f=some ⟨oc,od,.func (W.fnOf x x (dw st) (cv st) (ai st) .none kV doc pm an cdv ct),osl⟩)
  (c:W.codeIn K cdv x=true) (k:W.keepIn K (.ref f)=true):DI K x st:=⟨f,_,a,CB l c k⟩
def MI (K:WA)(C:Addr)(m q:Str)(st:Stmt):Prop:=∃f fd,Cr K C m f/\Fun K m q st f fd
theorem MI.mk {K:WA}{C:Addr}{m q:Str}{st:Stmt}{f:Addr}{oc:Value}{od an:Option Addr}{osl:Array (Option Value)}{kV doc pm cdv ct:Value}(a:W.findIn K (.ref C) m=some (some (.ref f)))(fn:W.isFn K (.ref f)=true)(l:K.lookup f=some ⟨oc,od,.func (W.fnOf m q (dw st) (cv st) (ai st) .none kV doc pm an cdv ct),osl⟩)
  (c:W.codeIn K cdv q=true) (k:W.keepIn K (.ref f)=true):MI K C m q st:=⟨f,_,⟨a,fn,k⟩,CB l c k⟩
def II (K:WA)(C:Addr)(q:Str)(st:Stmt):Prop:=∃f fd,Mk K C f/\Fun K "__init__" q st f fd
theorem II.mk {K:WA}{C:Addr}{q:Str}{st:Stmt}{f:Addr}{oc:Value}{od an:Option Addr}{osl:Array (Option Value)}{kV doc pm cdv ct:Value}(a:W.findIn K (.ref C) "__init__"=some (some (.ref f)))(fn:W.isFn K (.ref f)=true)(mk:W.makesIn K C=true)(kc:W.keepIn K (.ref C)=true)(l:K.lookup f=some ⟨oc,od,.func (W.fnOf "__init__" q (dw st) (cv st) (ai st) .none kV doc pm an cdv ct),osl⟩)
  (c:W.codeIn K cdv q=true) (k:W.keepIn K (.ref f)=true):II K C q st:=⟨f,_,⟨mk,a,fn,kc⟩,CB l c k⟩
def C0I (K:WA)(C0:Addr):Prop:=∃(c0 c2:Value) (dd0 d2:Option Addr) (cd0:ClassData) (sl0 sl2:Array (Option Value)) (es0:Array DictEntry) (ep0:Nat),K.lookup C0=some ⟨c0,dd0,.cls cd0,sl0⟩/\K.lookup cd0.ns=some ⟨c2,d2,.dict es0 ep0,sl2⟩/\pj es0=true/\(quietNames.all fun n=>(nsFind es0 n).isNone)=true
theorem C0I.mk {K:WA}{C0 N0:Addr}{c0 c2:Value}{dd0 d2:Option Addr}{cd0:ClassData}{sl0 sl2:Array (Option Value)}{es0:Array DictEntry}{ep0:Nat}(l0:K.lookup C0=some ⟨c0,dd0,.cls cd0,sl0⟩)(e0:cd0.ns=N0)(lN0:K.lookup N0=some ⟨c2,d2,.dict es0 ep0,sl2⟩)(kN0:pj es0=true)(iN0:(quietNames.all fun n=>(nsFind es0 n).isNone)=true):C0I K C0:=
 ⟨c0,c2,dd0,d2,cd0,sl0,sl2,es0,ep0,l0,e0▸lN0,kN0,iN0⟩
def XI (K:WA)(C0 C:Addr):Prop:=C0I K C0->ExI K C
theorem XI.mk {K:WA}{C N C0:Addr}{nm q:Str}{bs:List Value}{hdct:Bool}{sn:List Str}{sub:List Value}{ab:Bool}{col:Option Bool}{dd:Option Addr}{k0 k1 k2 k3 k5:Option Value}{c1:Value}{d1:Option Addr}{es:Array DictEntry}{ep:Nat}{sl1:Array (Option Value)}
  (lC:K.lookup C=some (excClassObj nm q C N bs [.ref C0,.type "ValueError",.type "Exception",.type "BaseException",.type "object"] hdct sn sub ab col dd k0 k1 k2 k3 k5 "ValueError.__new__"))
  (lN:K.lookup N=some ⟨c1,d1,.dict es ep,sl1⟩) (kN:pj es=true) (iN:(quietNames.all fun n=>(nsFind es n).isNone)=true) (ca:W.findIn K (.ref C) "__class__"=some (some (.builtin "object.__class__"))) (mo:W.mroIn K C (.type "object")=some true):XI K C0 C:=by
 rintro ⟨c0,c2,dd0,d2,cd0,sl0,sl2,es0,ep0,l0,lN0,kN0,iN0⟩
 exact ⟨KQ lC lN kN iN l0 rfl lN0 kN0 iN0,ca,mo⟩
def NI (K:WA)(x:Str)(a:Addr):Prop:=W.nsIn K mainGlobals x=some (some (.ref a))
def KI (K:WA)(x:Str)(v:Int):Prop:=∃tk,W.nsIn K mainGlobals x=some (some (.int v tk))
theorem KI.mk {K:WA}{x:Str}{v:Int}{tk:Tok}(h:W.nsIn K mainGlobals x=some (some (.int v tk))):KI K x v:=⟨tk,h⟩
theorem KI.txt {K:WA}{h:Heap}{mg:Str->Option Value}{x:Str}{v:Int}(X:K.In h)(G:h.Ns mainGlobals mg)(k:KI K x v):∃u,mg x=some u/\bX (.int v) u:=let ⟨_,k⟩:=k;⟨_,W.mg_of X G k,⟨_,rfl⟩⟩
theorem bM {H H1:Hp}{p:Addr}{o:HO}(e:upd H p o=H1)(h:H p=none):av H H1:=e▸(av.refl H).lay h
theorem aZ {H H1:Hp}{p:Addr}{o:HO}(e:upd H p o=H1):H1 p=some o:=e▸af
theorem seg {X:Cx}{b:List Stmt}{R:TS->Prop}(j:Nat){t:TS}(h:PSs X (b.drop j) t)(k:∀t',PSs X (b.drop j) t'->t'=t->∃u,PSs X b u/\R u):∃u,PSs X b u/\R u:=k t h rfl
theorem kP {t t':TS}(e:t=t'){D:mK}{σ:St}{H:Hp}(h:t' D σ H):t D σ H:=e▸h
theorem a6 {N P:List Str}{sc:Scope}(kind:sc.kind=.function:=by rfl)(co:sc.isCoroutine=false:=by rfl)(gen:sc.isGenerator=false:=by rfl)(nd:N.Nodup:=by decide +kernel)(pre:N.take P.length=P:=by rfl)(par:∀x∈P,sc.names.lookup x=some .local\/sc.names.lookup x=some .cell:=by decide +kernel)(nofree:∀y∈sc.names,y.2≠.free:=by decide +kernel):aw N P sc:=⟨kind,co,gen,nd,pre,par,nofree⟩
section
variable {K:WA}{x qual:Str}{st:Stmt}{f:Addr}{fd:FuncData}{ps:List Str}
theorem Fun.b0 (F:Fun K x qual st f fd)(hl:ps.length=0:=by rfl)(h:∀(kV doc pm:Value) (an:Option Addr) (cdv ct:Value),bindArgs (W.fnOf x qual (dw st) (cv st) (ai st) .none kV doc pm an cdv ct) ⟨[],[]⟩=pure (ps.zip []):=by intros;rfl):dG K fd ps []:=F.binds fun kV doc pm an cdv ct us e=>match us,e.trans hl with | [],_=>h kV doc pm an cdv ct
theorem Fun.b1 (F:Fun K x qual st f fd)(hl:ps.length=1:=by rfl)(h:∀(kV doc pm:Value) (an:Option Addr) (cdv ct:Value) (a0:Value), bindArgs (W.fnOf x qual (dw st) (cv st) (ai st) .none kV doc pm an cdv ct) ⟨[a0],[]⟩=pure (ps.zip [a0]):=by intros;rfl):dG K fd ps []:=F.binds fun kV doc pm an cdv ct us e=>match us,e.trans hl with | [a0],_=>h kV doc pm an cdv ct a0
theorem Fun.b2 (F:Fun K x qual st f fd)(hl:ps.length=2:=by rfl)(h:∀(kV doc pm:Value) (an:Option Addr) (cdv ct:Value) (a0 a1:Value), bindArgs (W.fnOf x qual (dw st) (cv st) (ai st) .none kV doc pm an cdv ct) ⟨[a0,a1],[]⟩=pure (ps.zip [a0,a1]):=by intros;rfl):dG K fd ps []:=F.binds fun kV doc pm an cdv ct us e=>match us,e.trans hl with | [a0,a1],_=>h kV doc pm an cdv ct a0 a1
theorem Fun.b3 (F:Fun K x qual st f fd)(hl:ps.length=3:=by rfl)(h:∀(kV doc pm:Value) (an:Option Addr) (cdv ct:Value) (a0 a1 a2:Value), bindArgs (W.fnOf x qual (dw st) (cv st) (ai st) .none kV doc pm an cdv ct) ⟨[a0,a1,a2],[]⟩=pure (ps.zip [a0,a1,a2]):=by intros;rfl):dG K fd ps []:=F.binds fun kV doc pm an cdv ct us e=>match us,e.trans hl with | [a0,a1,a2],_=>h kV doc pm an cdv ct a0 a1 a2
theorem Fun.b4 (F:Fun K x qual st f fd)(hl:ps.length=4:=by rfl)(h:∀(kV doc pm:Value) (an:Option Addr) (cdv ct:Value) (a0 a1 a2 a3:Value), bindArgs (W.fnOf x qual (dw st) (cv st) (ai st) .none kV doc pm an cdv ct) ⟨[a0,a1,a2,a3],[]⟩=pure (ps.zip [a0,a1,a2,a3]):=by intros;rfl):dG K fd ps []:=F.binds fun kV doc pm an cdv ct us e=>match us,e.trans hl with | [a0,a1,a2,a3],_=>h kV doc pm an cdv ct a0 a1 a2 a3
theorem Fun.b5 (F:Fun K x qual st f fd)(hl:ps.length=5:=by rfl)(h:∀(kV doc pm:Value) (an:Option Addr) (cdv ct:Value) (a0 a1 a2 a3 a4:Value), bindArgs (W.fnOf x qual (dw st) (cv st) (ai st) .none kV doc pm an cdv ct) ⟨[a0,a1,a2,a3,a4],[]⟩=pure (ps.zip [a0,a1,a2,a3,a4]):=by intros;rfl):dG K fd ps []:=F.binds fun kV doc pm an cdv ct us e=>match us,e.trans hl with | [a0,a1,a2,a3,a4],_=>h kV doc pm an cdv ct a0 a1 a2 a3 a4
theorem Fun.b6 (F:Fun K x qual st f fd)(hl:ps.length=6:=by rfl)(h:∀(kV doc pm:Value) (an:Option Addr) (cdv ct:Value) (a0 a1 a2 a3 a4 a5:Value), bindArgs (W.fnOf x qual (dw st) (cv st) (ai st) .none kV doc pm an cdv ct) ⟨[a0,a1,a2,a3,a4,a5],[]⟩=pure (ps.zip [a0,a1,a2,a3,a4,a5]):=by intros;rfl):dG K fd ps []:=F.binds fun kV doc pm an cdv ct us e=>match us,e.trans hl with | [a0,a1,a2,a3,a4,a5],_=>h kV doc pm an cdv ct a0 a1 a2 a3 a4 a5
end
theorem du.dn {j k:Nat}{A:Around}(r:du k A)(h:j<=k:=by decide):du j A:=r.mono h
theorem aN {X:Cx}{a b:Expr}{ta tb:TE}{pos:Pos}{r:R2}(hr:IxR X r)(ha:PE X a ta)(hb:PE X b tb)(hs:DK b:=by intro _ _;rfl):PE X (.Subscript a b pos) (tOp r ta tb):=LY hr ha hb hs
theorem orL {α:Type}{a b:α}{p:Prop}(h:a=b:=by rfl):a=b\/p:=.inl h
termination_by rs.length
decreasing_by all_goals (subst_vars;simp)
theorem GU {x y:V}(hx:cD x=true)(hy:cD y=true):∀z∈[x,y],cD z=true:=by
 intro z hz
 simp only [List.mem_cons,List.not_mem_nil,or_false] at hz
 rcases hz with rfl | rfl<;>assumption
theorem M6 {A B:Prop}(h:B):if true=false then A else B:=by rw [if_neg (by decide)];exact h
theorem M7 {A B:Prop}(h:A):if false=false then A else B:=by rw [if_pos rfl];exact h
noncomputable def dA (g:Cfg)(n0:a8):List Row->List Dd->List Row
 | rs,[]=>rs
 | rs,d::ds=>dA g n0 (rs++[iS g n0 rs d]) ds
noncomputable def snD (g:Cfg):a8->List Dd->a8
 | n,[]=>n
 | n,d::ds=>snD g (bK g n d) ds
noncomputable def okS (g:Cfg):a8->List Dd->Prop
 | _,[]=>True
 | n,d::ds=>(wz d/\c8 g n d=none)/\okS g (bK g n d) ds
theorem pw (g:Cfg)(n0:a8):∀(ds:List Dd) (rs:List Row),aj n0 (dA g n0 rs ds)=snD g (aj n0 rs) ds
 | [],rs=>rfl
 | d::ds,rs=>by
  show aj n0 (dA g n0 (rs++[iS g n0 rs d]) ds)=_
  rw [pw g n0 ds,fQ]
  rfl
theorem mX (g:Cfg)(n0:a8):∀(ds:List Dd) (rs:List Row),(dA g n0 rs ds).length=rs.length+ds.length
 | [],rs=>rfl
 | d::ds,rs=>by
  show (dA g n0 (rs++[iS g n0 rs d]) ds).length=_
  rw [mX g n0 ds,List.length_append,List.length_singleton,List.length_cons]
  omega
theorem uL (g:Cfg)(n0:a8):∀(ds:List Dd) (d:Dd) (rs:List Row),dA g n0 rs (ds++[d])=dA g n0 rs ds++[iS g n0 (dA g n0 rs ds) d]
 | [],d,rs=>rfl
 | e::ds,d,rs=>uL g n0 ds d _
theorem px (g:Cfg):∀(a b:List Dd) (n:a8),snD g n (a++b)=snD g (snD g n a) b
 | [],b,n=>rfl
 | d::a,b,n=>px g a b _
theorem Ab (g:Cfg):∀(a b:List Dd) (n:a8),okS g n a->okS g (snD g n a) b->okS g n (a++b)
 | [],b,n,_,h=>h
 | d::a,b,n,h1,h2=>⟨h1.1,Ab g a b _ h1.2 h2⟩
theorem GV (g:Cfg):∀(ds:List Dd) (n:a8) (j:Nat) (d:Dd),okS g n ds->ds[j]?=some d->wz d/\c8 g (snD g n (ds.take j)) d=none
 | [],n,j,d,_,e=>by simp at e
 | x::ds,n,0,d,h,e=>by cases e;exact h.1
 | x::ds,n,j+1,d,h,e=>GV g ds (bK g n x) j d h.2 e
theorem zd {g:Cfg}{n0:a8}{rs:List Row}{ds:List Dd}{j:Nat}{d:Dd}(e:ds[j]?=some d):dA g n0 rs (ds.take (j+1))=dA g n0 rs (ds.take j)++[iS g n0 (dA g n0 rs (ds.take j)) d]:=by
 obtain ⟨hj,rfl⟩:=List.getElem?_eq_some_iff.mp e
 rw [List.take_succ_eq_append_getElem hj,uL]
theorem dh.app {α:Type}{P:Addr->α->Prop}{as bs:List Addr}{xs ys:List α}(h:dh P as xs)(k:dh P bs ys):dh P (as++bs) (xs++ys):=by
 refine ⟨by rw [List.length_append,List.length_append,h.1,k.1],fun i a x e1 e2=>?_⟩
 by_cases hi:i < as.length
 ·rw [List.getElem?_append_left hi] at e1
  rw [List.getElem?_append_left (by rw [←h.1];exact hi)] at e2
  exact h.2 i a x e1 e2
 ·rw [List.getElem?_append_right (by omega)] at e1
  rw [List.getElem?_append_right (by rw [←h.1];omega),←h.1] at e2
  exact k.2 _ a x e1 e2
def dI (K:WA)(H:Hp)(as:List Addr)(ds:List Dd):Prop:=dh (fun a d=>SqT K H a (ddV d)) as ds
theorem dI.same {K:WA}{H H':Hp}{as:List Addr}{ds:List Dd}(h:dI K H as ds)(s:av H H'):dI K H' as ds:=h.imp fun a x q=>s.tup q
section
variable (P:Program)(w:World)(K:WA)(mg:Str->Option Value)(base:Heap)(CX:CXT)(k:Nat)
def KD (x:Str)(sp:Sp):Prop:=∃f fd ps,mg x=some (.ref f)/\W.keepIn K (.ref f)=true/\dG K fd ps []/\fU P w K mg base CX k f fd ps sp
def KM (C:Addr)(m:Str)(sp:Sp):Prop:=∃f fd ps,Cls K C/\Cr K C m f/\dG K fd ps []/\fU P w K mg base CX k f fd ps sp
def KN (C:Addr)(sp:Sp):Prop:=∃f fd ps,Mk K C f/\dG K fd ps []/\fU P w K mg base CX k f fd ps sp
def FF (x q:Str)(st:Stmt)(ps:List Str)(sp:Sp):Prop:=∀f fd,Fun K x q st f fd->fU P w K mg base CX k f fd ps sp
end
section
variable {P:Program}{w:World}{K:WA}{mg:Str->Option Value}{base:Heap}{CX:CXT}{k:Nat}{x q m:Str}{st:Stmt}{ps N:List Str}{sp:Sp}{f C:Addr}{fd:FuncData}
theorem KD.mk (b:mg x=some (.ref f))(F:Fun K x q st f fd)(c:dG K fd ps [])(t:FF P w K mg base CX k x q st ps sp):KD P w K mg base CX k x sp:=⟨f,fd,ps,b,F.kp,c,t f fd F⟩
theorem KM.mk (d:Cls K C)(b:Cr K C m f)(F:Fun K m q st f fd)(c:dG K fd ps [])(t:FF P w K mg base CX k m q st ps sp):KM P w K mg base CX k C m sp:=⟨f,fd,ps,d,b,c,t f fd F⟩
theorem KN.mk (b:Mk K C f)(F:Fun K "__init__" q st f fd)(c:dG K fd ps [])(t:FF P w K mg base CX k "__init__" q st ps sp):KN P w K mg base CX k C sp:=⟨f,fd,ps,b,c,t f fd F⟩
theorem fk0 (S:aw N ps (ai st))(h:∀vs H Q E,sp vs H Q E->vs.length=ps.length/\∀(cdv:Value) (A:Around) (outer:List Env) (s:Shared) (f:Addr),du k (A.deeper (envOfC q (ai st) s.heap.objs.size f cdv))->
   ∃t,PSs (xX CX0 P w K mg base N q (ai st) f cdv A outer s H E).nox (cv st) t/\t {nx:=fun _ H'=>Q .non H',rt:=Q} (mq N vs) H):FF P w K mg base CX0 (k+1) x q st ps sp:=
 fun f _ F=>F.ok S (fun vs H Q E y=>(h vs H Q E y).1) fun cdv A outer s H vs Q E hr y=>(h vs H Q E y).2 cdv A outer s f hr
theorem fkF (S:aw N ps (ai st))(h:∀vs H Q E,sp vs H Q E->vs.length=ps.length/\∀(cdv:Value) (A:Around) (outer:List Env) (s:Shared) (f:Addr),du k (A.deeper (envOfC q (ai st) s.heap.objs.size f cdv))->
   ∃t,PSs (cxF P w K mg base N q (ai st) f cdv A outer s H E) (cv st) t/\t {nx:=fun _ H'=>Q .non H',rt:=Q} (mq N vs) H):FF P w K mg base (CXf P w) (k+1) x q st ps sp:=
 fun f _ F=>F.okF S (fun vs H Q E y=>(h vs H Q E y).1) fun cdv A outer s H vs Q E hr y=>(h vs H Q E y).2 cdv A outer s f hr
theorem FF.calm (F:FF P w K mg base (CXf P w) k x q st ps sp)(h:∀vs H Q E,sp vs H Q E->sp vs H Q E0):FF P w K mg base CX0 k x q st ps sp:=fun f fd y=>(F f fd y).calm h
end
section
variable {X:Cx}{CX:CXT}{k:Nat}{C:Addr}{sp:Sp}{E:XK}{x m:Str}{p pos apos:Pos}{e o:Expr}{es:List Expr}{ta:TE}{t:TA}
theorem dc (D:KD X.prog X.w X.K X.mg X.base CX k x sp)(hr:du k X.A)(hx:eY CX X E)(ha:PA X (e::es) t)(hg:Gl X x:=by rfl)(hdb:(x == ("__debug__":Str))=false:=by decide)
  (he:starEach (e::es) X.env=(false,eval e X.env)::starEach es X.env:=by rfl) (hpl:(backTo pos (starEach es X.env)).any (·.1)=false:=by rfl):PE X (.Call (.Name x p) (e::es) [] pos) (DE sp [] E t):=
 let ⟨_,_,_,a,b,c,F⟩:=D;Hu F hr hg a b c .nil hx ha hdb he hpl
theorem dc0 (D:KD X.prog X.w X.K X.mg X.base CX0 k x sp)(hr:du k X.A)(ha:PA X (e::es) t)(hg:Gl X x:=by rfl)(hdb:(x == ("__debug__":Str))=false:=by decide)
  (he:starEach (e::es) X.env=(false,eval e X.env)::starEach es X.env:=by rfl) (hpl:(backTo pos (starEach es X.env)).any (·.1)=false:=by rfl):PE X (.Call (.Name x p) (e::es) [] pos) (DE sp [] E0 t):=dc D hr bw ha hg hdb he hpl
theorem dm {pl:Sem Bool}(he:PE X o ta)(D:KM X.prog X.w X.K X.mg X.base CX k C m sp)(hr:du k X.A)(hx:eY CX X E)(ha:PA X (e::es) t)
  (hst:starEach (e::es) X.env=(false,eval e X.env)::starEach es X.env:=by rfl) (hpl:(backTo pos (starEach es X.env)).any (·.1)=false:=by rfl)
  (ht:eval (.Call (.Attribute o m apos) (e::es) [] pos) X.env=(do
   let ov ←eval o X.env
   standAt apos.atName
   let (f,first) ←holding [ov] (getMethod ov m pl)
   callWith pos f first (backTo pos (starEach (e::es) X.env)) (backToKw pos (keywordEach [] X.env))):=by rfl) :
  PE X (.Call (.Attribute o m apos) (e::es) [] pos) (AY C m sp [] E ta t):=let ⟨_,_,_,a,b,c,F⟩:=D;Hv he a b F hr c .nil hx ha hst hpl ht
theorem dm0 {pl:Sem Bool}(he:PE X o ta)(D:KM X.prog X.w X.K X.mg X.base CX k C m sp)(hr:du k X.A)(hx:eY CX X E)
  (ht:eval (.Call (.Attribute o m apos) [] [] pos) X.env=(do
   let ov ←eval o X.env
   standAt apos.atName
   let (f,first) ←holding [ov] (getMethod ov m pl)
   callWith pos f first (backTo pos (starEach [] X.env)) (backToKw pos (keywordEach [] X.env))):=by rfl) :
  PE X (.Call (.Attribute o m apos) [] [] pos) (AY C m sp [] E ta xW):=let ⟨_,_,_,a,b,c,F⟩:=D;Fw he a b F hr c .nil hx ht
theorem dn (D:KN X.prog X.w X.K X.mg X.base CX k C sp)(hr:du (k+1) X.A)(hm:X.mg x=some (.ref C))(hx:eY CX X E)(ha:PA X (e::es) t)(hg:Gl X x:=by rfl)(hdb:(x == ("__debug__":Str))=false:=by decide)
  (he:starEach (e::es) X.env=(false,eval e X.env)::starEach es X.env:=by rfl) (hpl:(backTo pos (starEach es X.env)).any (·.1)=false:=by rfl):PE X (.Call (.Name x p) (e::es) [] pos) (Fv C sp [] E t):=
 let ⟨_,_,_,a,c,F⟩:=D;Hw a F hr hg hm c .nil hx ha hdb he hpl
variable {pins:List (Addr×Obj)}{E':XT}
theorem dcT (D:KD X.prog X.w X.K X.mg X.base (CXf X.prog X.w) k x sp)(hr:du k X.A)(ha:PA (Xt X pins E') (e::es) t)(hg:Gl X x:=by rfl)(hdb:(x == ("__debug__":Str))=false:=by decide)
  (he:starEach (e::es) X.env=(false,eval e X.env)::starEach es X.env:=by rfl) (hpl:(backTo pos (starEach es X.env)).any (·.1)=false:=by rfl) :
  PE (Xt X pins E') (.Call (.Name x p) (e::es) [] pos) (CC sp [] E' t):=let ⟨_,_,_,a,b,c,F⟩:=D;FU F hr hg a b c .nil ha hdb he hpl
end
section
variable {X:Cx}{a b e o l value:Expr}{es mJ:List Expr}{ta tb te tl tv:TE}{t:TA}{pos p:Pos}{tg:Expr}{f:Str}
theorem pv' (i:Nat){x:Str}{pos:Pos}(hN:X.N[i]?=some x:=by rfl)(hv:Vis X.env.scope x:=by first | exact Or.inl rfl | exact Or.inr (Or.inl rfl) | exact Or.inr (Or.inr rfl))(hd:(x == ("__debug__":Str))=false:=by decide)
  (hcd:(x == ("__classdict__":Str))=false:=by decide):PE X (.Name x pos) (Gk i):=Il i▸pv i hN hv hd hcd
theorem aq (he:PE X e ta)(hb:attributeBase e f X.env (eval e X.env)=eval e X.env:=by rfl):PE X (.Attribute e f pos) (Gv X.K ta f):=IC X.K ta f▸Kp he hb
theorem bV {pos':Pos}(ha:PE X o ta)(hv:PE X value tv)(hs:swapsWith value (some (.Attribute o f pos')) pos.line X.env=pure false):PS X (.Assign [.Attribute o f pos'] value pos) (Gw X.K ta tv f):=ID X.K ta tv f▸Kq ha hv hs
theorem cE:OpR X (binaryOp .Add) (CJ fun i j=>.int (i+j)):=wB _▸Kk
theorem dU:OpR X (binaryOp .Sub) (CJ fun i j=>.int (i - j)):=wB _▸Kl
theorem Eh:OpR X (binaryOp .Mult) (rI' wg fun i j=>.int (i * j)):=Gn _ _▸Co
theorem E2:OpR X (binaryOp .FloorDiv) (rI' JJ fun i j=>.int (i / j)):=Gn _ _▸FJ
theorem Ac:OpR X (binaryOp .Mod) (rI' (fun _ j=>0 < j) fun i j=>.int (i % j)):=Gn _ _▸Fp
theorem gV:OpR X (compareOp .Eq) (Lb):=Lc▸JB
theorem Lm:OpR X (compareOp .Lt) (CJ fun i j=>.bl (decide (i < j))):=wB _▸JC
theorem Ln:OpR X (compareOp .LtE) (CJ fun i j=>.bl (decide (i<=j))):=wB _▸JD
theorem GW:OpR X (compareOp .GtE) (CJ fun i j=>.bl (decide (j<=i))):=wB _▸JE
theorem kQ:OpR X (compareOp .In) (EZ X.K false):=GH _ _▸EF
theorem ye:OpR X (compareOp .NotIn) (EZ X.K true):=GH _ _▸zK
theorem eD:OpR X (binaryOp .Add) (GG):=IH▸Ky
theorem IW:OpR X (binaryOp .Mult) (GS):=IT▸Kz
theorem IX (hu:X.A.units < cLine):OpR X (compareOp .Eq) (Eg X.K):=IV _▸KW hu
theorem IY (hu:X.A.units < cLine):OpR X (compareOp .NotEq) (Ef X.K):=IU _▸K7 hu
theorem sU:UnR X (unaryOp .USub) (rU' fun i=>.int (-i)):=Mw _▸Km
theorem aE:IxR X (wD X.K):=Iz _▸DL
theorem bC:IxR X (Gq X.K):=IA _▸FA
theorem sV:SlR X (GF X.K):=IG _▸Hz
theorem gR:Kf X CU:=GA▸FD
theorem cC:MtM X "list.append" sT:=CO▸EG
theorem IZ:MtM X "list.pop" Ed:=IK▸Kx
theorem cb (h:PE X e te)(he:∀cA,isTrue e X.env cA=(do let v ←cA;standAt e.pos;holding [v] (truthy v)):=by intro _;rfl):PT X e (tB' te):=JP te▸Kb h he
theorem jQ {op:CmpOp}{r:R2}(ho:OpR X (compareOp op) r)(ha:PE X a ta)(hb:PE X b tb)(hm:behindInMarks op b=false):PT X (.Compare a [op] [b] pos) (tB' (tOp r ta tb)):=Gm (tOp r ta tb)▸gE ho ha hb hm
theorem en (ha:PE X a ta)(hb:PE X b tb)(hm:behindInMarks .Eq b=false:=by exact cG _):PT X (.Compare a [.Eq] [b] pos) (Lk ta tb):=Iw ta tb▸gE JB ha hb hm
theorem wF (ha:PE X a ta)(hb:PE X b tb)(hm:behindInMarks .NotEq b=false:=by exact cG _):PT X (.Compare a [.NotEq] [b] pos) (Ll ta tb):=Iy ta tb▸gE LQ ha hb hm
theorem Bk (ha:PE X a ta)(hb:PE X b tb)(hm:behindInMarks .Lt b=false:=by exact cG _):PT X (.Compare a [.Lt] [b] pos) (qH (fun i j=>i < j) ta tb):=Le ta tb▸gE JC ha hb hm
theorem MA (ha:PE X a ta)(hb:PE X b tb)(hm:behindInMarks .LtE b=false:=by exact cG _):PT X (.Compare a [.LtE] [b] pos) (qH (fun i j=>i<=j) ta tb):=Lf ta tb▸gE JD ha hb hm
theorem Ei (ha:PE X a ta)(hb:PE X b tb)(hm:behindInMarks .Gt b=false:=by exact cG _):PT X (.Compare a [.Gt] [b] pos) (qH (fun i j=>j < i) ta tb):=Lg ta tb▸gE LR ha hb hm
theorem MB (ha:PE X a ta)(hb:PE X b tb)(hm:behindInMarks .GtE b=false:=by exact cG _):PT X (.Compare a [.GtE] [b] pos) (qH (fun i j=>j<=i) ta tb):=Lh ta tb▸gE JE ha hb hm
theorem Ad (ha:PE X a ta)(hb:PE X b (tC .non))(hm:behindInMarks .Is b=false:=by exact cG _):PT X (.Compare a [.Is] [b] pos) (GQ ta):=GR ta▸gE Kn ha hb hm
theorem I8 (ha:PE X a ta)(hb:PE X b (tC .non))(hm:behindInMarks .IsNot b=false:=by exact cG _):PT X (.Compare a [.IsNot] [b] pos) (CY ta):=E1 ta▸gE Hq ha hb hm
theorem kR {k:Int}(ha:PE X a ta)(hb:PE X b (tC (.int k)))(hk:0 < k:=by decide):PE X (.BinOp a .Mod b pos) (tU1 (fun i=>.int (i % k)) ta):=GB hk ta (fun i j=>.int (i % j))▸bx Fp ha hb
theorem Ae {k:Int}(ha:PE X a ta)(hb:PE X b (tC (.int k)))(h1:0 < k:=by decide)(h2:k < 1073741824:=by decide):PE X (.BinOp a .FloorDiv b pos) (tU1 (fun i=>.int (i / k)) ta):=GC h1 h2 ta (fun i j=>.int (i / j))▸bx Ho ha hb
theorem Ej {k:Int}(ha:PE X a ta)(hb:PE X b (tC (.int k)))(h1:-4294967296 < k:=by decide)(h2:k < 4294967296:=by decide):PE X (.BinOp a .Mult b pos) (tU1 (fun i=>.int (i * k)) ta):=GD h1 h2 ta (fun i j=>.int (i * j))▸bx Co ha hb
theorem Bl {k:Int}(ha:PE X a (tC (.int k)))(hb:PE X b tb)(h1:-4294967296 < k:=by decide)(h2:k < 4294967296:=by decide):PE X (.BinOp a .Mult b pos) (tU1 (fun i=>.int (k * i)) tb):=EY h1 h2 tb (fun i j=>.int (i * j))▸bx Co ha hb
theorem fJ {k:Nat}{t:TGs}{n:Nat}(hc:X.calm=true)(h:PGs X es t)(hn:(assignEach es X.env).length=n:=by rfl)(hst:(assignEach es X.env).findIdx? (·.1)=none:=by rfl):PG X (.Tuple es k pos) (sJ X.K n t):=Ea X.K n t▸Ki hc h hn hst
theorem I9 {k:Nat}{t:TGs}{n:Nat}(hc:X.calm=true)(h:PGs X es t)(hn:(assignEach es X.env).length=n:=by rfl)(hst:(assignEach es X.env).findIdx? (·.1)=none:=by rfl):PG X (.Tuple es k pos) (CL X.K n t):=Gp X.K n t▸K5 hc h hn hst
theorem a7 {t:TG}{u:TGs}(h1:PG X e t)(h2:PGs X es u)(hs:(assignEach (e::es) X.env).map (·.2)=assign e X.env::(assignEach es X.env).map (·.2):=by rfl):PGs X (e::es) (uJ t u):=sQ t u▸Fl h1 h2 hs
theorem dN:PGs X [] Eb:=Ec▸Hl
theorem dO (hl:PE X l tl):PI X tg l (CQ X.K tl):=Gy X.K tl▸Hm hl
theorem cK (hg:Gl X "range")(hm:X.mg "range"=none)(ha:PA X [a] t)(hs:starEach [a] X.env=[(false,eval a X.env)]:=by rfl):PI X tg (.Call (.Name "range" p) [a] [] pos) (CS t):=Gz t▸Ew hg hm ha hs
theorem CZ (hg:Gl X "range")(hm:X.mg "range"=none)(ha:PA X [a,b] t)(hs:starEach [a,b] X.env=[(false,eval a X.env),(false,eval b X.env)]:=by rfl)(hs2:starEach [b] X.env=[(false,eval b X.env)]:=by rfl):PI X tg (.Call (.Name "range" p) [a,b] [] pos) (CV t):=GI t▸Ex hg hm ha hs hs2
theorem Bm {tpos:Pos}{elts:List Expr}{x1:Nat}(hg:Gl X "enumerate")(hm:X.mg "enumerate"=none)(hb:bootBuiltins "enumerate"=some (.type "enumerate"))(he:PE X a te)(hs:starEach [a] X.env=[(false,eval a X.env)]:=by rfl):PI X (.Tuple elts x1 tpos) (.Call (.Name "enumerate" p) [a] [] pos) (CW X.K te):=GJ X.K te▸HZ hg hm hb he hs
theorem Jb {tpos:Pos}{elts:List Expr}{x1:Nat}(hg:Gl X "zip")(hm:X.mg "zip"=none)(hb:bootBuiltins "zip"=some (.type "zip"))(ha:PE X a ta)(hb2:PE X b tb)(hs:starEach [a,b] X.env=[(false,eval a X.env),(false,eval b X.env)]:=by rfl)(hs2:starEach [b] X.env=[(false,eval b X.env)]:=by rfl):PI X (.Tuple elts x1 tpos) (.Call (.Name "zip" p) [a,b] [] pos) (GK X.K ta tb):=IJ X.K ta tb▸KZ hg hm hb ha hb2 hs hs2
theorem v8 (ha:PE X a ta)(hb:PE X (.BoolOp .And (b::mJ) pos) tb):PE X (.BoolOp .And (a::b::mJ) pos) (CM ta tb):=Gr ta tb▸Kc ha hb
theorem Lo (ha:PE X a ta)(hb:PE X (.BoolOp .Or (b::mJ) pos) tb):PE X (.BoolOp .Or (a::b::mJ) pos) (Gs ta tb):=IB ta tb▸LJ ha hb
theorem Jc (ha:PE X a ta):PE X (.UnaryOp .Not a pos) (CN ta):=Gu ta▸Kd ha
theorem mY (h:PE X e te):PO X (some e) (CP te):=Gx te▸Hy h
theorem wG {r r':List V->Hp->VK->Prop}(h:∀t,tCB r t=tCB r' t):r=r':=funext fun vs=>funext fun H=>funext fun Q=>congrFun (congrFun (congrFun (h fun σ H Q=>Q vs H) []) H) Q
theorem aA:df X (.builtin "len") (IE X.K):=wG (IF X.K)▸zL
theorem cq:df X (.type "list") (v7 X.K):=wG (CT X.K)▸zM
theorem E3:df X (.builtin "abs") IL:=wG IM▸Fs
theorem wH (hc:X.calm=true):df X (.builtin "min") GL:=wG GN▸EA hc
theorem c9:df X (.type "int") Ee:=wG GP▸EB
theorem dm' {CX:CXT}{k:Nat}{C:Addr}{sp:Sp}{E:XK}{m:Str}{apos:Pos}{pl:Sem Bool}(he:PE X o ta)(D:KM X.prog X.w X.K X.mg X.base CX k C m sp)(hr:du k X.A)(hx:eY CX X E)(ha:PA X (e::es) t)
  (hst:starEach (e::es) X.env=(false,eval e X.env)::starEach es X.env:=by rfl) (hpl:(backTo pos (starEach es X.env)).any (·.1)=false:=by rfl)
  (ht:eval (.Call (.Attribute o m apos) (e::es) [] pos) X.env=(do
   let ov ←eval o X.env
   standAt apos.atName
   let (f,first) ←holding [ov] (getMethod ov m pl)
   callWith pos f first (backTo pos (starEach (e::es) X.env)) (backToKw pos (keywordEach [] X.env))):=by rfl) :
  PE X (.Call (.Attribute o m apos) (e::es) [] pos) (Aa C m sp [] E ta t):=Bh C m sp [] E ta t▸dm he D hr hx ha hst hpl ht
theorem c4 {CX:CXT}{k:Nat}{C:Addr}{sp:Sp}{E:XK}{m:Str}{apos:Pos}{pl:Sem Bool}(he:PE X o ta)(D:KM X.prog X.w X.K X.mg X.base CX k C m sp)(hr:du k X.A)(hx:eY CX X E)
  (ht:eval (.Call (.Attribute o m apos) [] [] pos) X.env=(do
   let ov ←eval o X.env
   standAt apos.atName
   let (f,first) ←holding [ov] (getMethod ov m pl)
   callWith pos f first (backTo pos (starEach [] X.env)) (backToKw pos (keywordEach [] X.env))):=by rfl) :
  PE X (.Call (.Attribute o m apos) [] [] pos) (Aa C m sp [] E ta xW):=Bh C m sp [] E ta xW▸dm0 he D hr hx ht
variable {e1 e2 e3 e4:Expr}{t1 t2 t3 t4:TE}
theorem pa1 (h1:PE X e1 t1)(s1:starEach [e1] X.env=(false,eval e1 X.env)::starEach [] X.env:=by rfl):PA X [e1] (mn t1 xW):=bZ h1 i7 s1
theorem pa2 (h1:PE X e1 t1)(h2:PE X e2 t2)(s1:starEach [e1,e2] X.env=(false,eval e1 X.env)::starEach [e2] X.env:=by rfl)(s2:starEach [e2] X.env=(false,eval e2 X.env)::starEach [] X.env:=by rfl):PA X [e1,e2] (mn t1 (mn t2 xW)):=bZ h1 (pa1 h2 s2) s1
theorem pa3 (h1:PE X e1 t1)(h2:PE X e2 t2)(h3:PE X e3 t3)(s1:starEach [e1,e2,e3] X.env=(false,eval e1 X.env)::starEach [e2,e3] X.env:=by rfl)(s2:starEach [e2,e3] X.env=(false,eval e2 X.env)::starEach [e3] X.env:=by rfl)(s3:starEach [e3] X.env=(false,eval e3 X.env)::starEach [] X.env:=by rfl):PA X [e1,e2,e3] (mn t1 (mn t2 (mn t3 xW))):=bZ h1 (pa2 h2 h3 s2 s3) s1
theorem pa4 (h1:PE X e1 t1)(h2:PE X e2 t2)(h3:PE X e3 t3)(h4:PE X e4 t4)(s1:starEach [e1,e2,e3,e4] X.env=(false,eval e1 X.env)::starEach [e2,e3,e4] X.env:=by rfl)(s2:starEach [e2,e3,e4] X.env=(false,eval e2 X.env)::starEach [e3,e4] X.env:=by rfl)(s3:starEach [e3,e4] X.env=(false,eval e3 X.env)::starEach [e4] X.env:=by rfl)(s4:starEach [e4] X.env=(false,eval e4 X.env)::starEach [] X.env:=by rfl):PA X [e1,e2,e3,e4] (mn t1 (mn t2 (mn t3 (mn t4 xW)))):=bZ h1 (pa3 h2 h3 h4 s2 s3 s4) s1
end
abbrev Xm (K:WA)(a b:Addr)(v:Bool):Prop:=W.exmOne K (.ref a) (.ref b)=some v
abbrev Kt (K:WA)(a b:Addr)(v:Bool):Prop:=W.kitOne K (.ref a) (.ref b)=some v
theorem fgo {K:WA}{H:Hp}{a:Addr}{f:Str}{C:Addr}{dx:Addr}{fs:List (Str×V)}{v:V}{q:V->Prop}(h:H a=some (.ins C dx fs))(c:Cls K C)(n:bg K C f)(l:fs.lookup f=some v)(k:q v) :
  ∃C dx fs,H a=some (.ins C dx fs)/\Cls K C/\bg K C f/\∃v,fs.lookup f=some v/\q v:=⟨_,_,_,h,c,n,_,l,k⟩
theorem mgo {H:Hp}{a C:Addr}{m:Str}{dx:Addr}{fs:List (Str×V)}{q:Prop}(h:H a=some (.ins C dx fs))(l:fs.lookup m=none)(k:q) :
  ∃dx fs,H a=some (.ins C dx fs)/\fs.lookup m=none/\q:=⟨_,_,h,l,k⟩
theorem hfA {p q:Prop}(h:p\/q:=by first | exact .inl rfl | exact .inr rfl | assumption):p\/q:=h
end L2
namespace K26
open PySem L2
noncomputable abbrev wI:List Str:=["number","many"]
noncomputable abbrev qI:List Str:=["level","many"]
noncomputable abbrev sW:List Str:=["number","many"]
noncomputable abbrev qJ:List Str:=["loads","many"]
noncomputable abbrev vd:List Str:=["self","loads","many"]
noncomputable abbrev ve:List Str:=["self","number","cage"]
noncomputable abbrev wJ:List Str:=["self","cage","level"]
noncomputable abbrev sX:List Str:=["self"]
noncomputable abbrev mZ:List Str:=["self","cage"]
noncomputable abbrev iT:List Str:=["self"]
noncomputable abbrev vf:List Str:=["self"]
noncomputable abbrev qK:List Str:=["number"]
noncomputable abbrev qL:List Str:=["codes","many"]
noncomputable abbrev sY:List Str:=["self","codes"]
noncomputable abbrev sZ:List Str:=["self","level","strokes"]
noncomputable abbrev nh:List Str:=["self","strokes"]
noncomputable abbrev ni:List Str:=["self"]
noncomputable abbrev td:List Str:=["self","level"]
noncomputable abbrev tf:List Str:=["self"]
noncomputable abbrev vg:List Str:=["self","level","kind"]
noncomputable abbrev tj:List Str:=["self"]
noncomputable abbrev nj:List Str:=["depths"]
noncomputable abbrev tm:List Str:=["depths"]
noncomputable abbrev qM:List Str:=["depths","place"]
noncomputable abbrev wK:List Str:=["depths","depth"]
noncomputable abbrev qN:List Str:=["depths","cage","level"]
noncomputable abbrev wL:List Str:=["depths","place"]
noncomputable abbrev nq:List Str:=["slow","fast"]
noncomputable abbrev tq:List Str:=["way","speed"]
noncomputable abbrev mv:List Str:=["self","place","opened","bells","yard"]
noncomputable abbrev mw:List Str:=["self"]
noncomputable abbrev vh:List Str:=["self","first","most"]
noncomputable abbrev tu:List Str:=["self","deed","ticks","speed","standing"]
noncomputable abbrev qO:List Str:=["self"]
noncomputable abbrev wM:List Str:=["self"]
noncomputable abbrev qP:List Str:=["self"]
noncomputable abbrev vi:List Str:=["self"]
noncomputable abbrev tw:List Str:=["self","depths","codes","slow","fast","loads"]
noncomputable abbrev tx:List Str:=["self","level","strokes"]
noncomputable abbrev nu:List Str:=["self","strokes"]
noncomputable abbrev tD:List Str:=["self","level"]
noncomputable abbrev iU:List Str:=["self","level"]
noncomputable abbrev iV:List Str:=["self","level"]
noncomputable abbrev iW:List Str:=["self","word","level","wanted"]
noncomputable abbrev tE:List Str:=["self","number","cage"]
noncomputable abbrev nv:List Str:=["self","cage"]
noncomputable abbrev tF:List Str:=["self","cage","level","kind"]
noncomputable abbrev iX:List Str:=["self"]
noncomputable abbrev qQ:List Str:=["self","deed","ticks","standing"]
noncomputable abbrev gW:List Str:=["self","standing"]
noncomputable abbrev jR:List Str:=["self","cage"]
noncomputable abbrev eo:List Str:=["self","level"]
noncomputable abbrev vj:List Str:=["self"]
noncomputable abbrev tG:List Str:=["self"]
noncomputable abbrev ny:List Str:=["self"]
noncomputable abbrev tH:List Str:=["self"]
noncomputable abbrev qR:List Str:=["self"]
noncomputable abbrev qS:List Str:=["self"]
noncomputable abbrev gC:List Str:=["self","place"]
noncomputable abbrev qT:List Str:=["self"]
noncomputable abbrev mx:List Str:=["self","cage"]
noncomputable abbrev GX:List Str:=["_law_script","_law_k"]
noncomputable abbrev Bn:List Str:=["_law_cell","_law_k","_law_span"]
noncomputable abbrev tI:List Str:=["_law_found","_law_due"]
noncomputable abbrev wN:List Str:=["_law_cell"]
noncomputable abbrev ze:List Str:=["_law_cell","_law_many"]
noncomputable abbrev zg:List Str:=["_law_script"]
noncomputable abbrev Bo:List Str:=["_law_works","_law_deed"]
noncomputable abbrev vk:List Str:=["_law_works","_law_deed"]
noncomputable abbrev Ek:List Str:=["_law_code","_law_way","_law_level"]
noncomputable abbrev Bp:List Str:=["_law_code","_law_way","_law_level"]
noncomputable abbrev nA:List Str:=["_law_depths_here","_law_way","_law_level","_law_gates"]
noncomputable abbrev zh:List Str:=["_law_works"]
noncomputable abbrev GY:List Str:=["_law_script"]
noncomputable def top (i:Nat):Stmt:=PySem.Challenge.pw_cagebells_k26_book_full.main.body.getD i (.Pass ⟨0,0,0,0⟩)
noncomputable abbrev rE:Stmt:=top 22
theorem Bq:aw ["number","many"] wI (ai rE):=a6
noncomputable abbrev jc:Stmt:=top 23
theorem wO:aw ["level","many"] qI (ai jc):=a6
noncomputable abbrev kS:Stmt:=top 24
theorem yf:aw ["number","many"] sW (ai kS):=a6
noncomputable abbrev jd:Stmt:=top 29
theorem ff:aw ["loads","many","kind","level","goal"] qJ (ai jd):=a6
noncomputable abbrev nB:Stmt:=aX (top 30) 0
theorem Af:aw ["self","loads","many"] vd (ai nB):=a6
noncomputable abbrev nC:Stmt:=aX (top 30) 1
theorem Ag:aw ["self","number","cage"] ve (ai nC):=a6
noncomputable abbrev rF:Stmt:=aX (top 30) 2
theorem vm:aw ["self","cage","level","number"] wJ (ai rF):=a6
noncomputable abbrev kT:Stmt:=aX (top 30) 3
theorem yg:aw ["self"] sX (ai kT):=a6
noncomputable abbrev gX:Stmt:=aX (top 30) 4
theorem fX:aw ["self","cage","number","spot"] mZ (ai gX):=a6
noncomputable abbrev fh:Stmt:=aX (top 30) 6
theorem eI:aw ["self","kind","spot"] iT (ai fh):=a6
noncomputable abbrev nD:Stmt:=aX (top 30) 7
theorem tJ:aw ["self","other"] vf (ai nD):=a6
noncomputable abbrev je:Stmt:=top 34
theorem wQ:aw ["number"] qK (ai je):=a6
noncomputable abbrev jf:Stmt:=top 35
theorem gY:aw ["codes","many","men","coal"] qL (ai jf):=a6
noncomputable abbrev kU:Stmt:=aX (top 36) 0
theorem yh:aw ["self","codes"] sY (ai kU):=a6
noncomputable abbrev kW:Stmt:=aX (top 36) 1
theorem yi:aw ["self","level","strokes"] sZ (ai kW):=a6
noncomputable abbrev gZ:Stmt:=aX (top 36) 2
theorem eE:aw ["self","strokes","level","rung","alike"] nh (ai gZ):=a6
noncomputable abbrev g0:Stmt:=aX (top 36) 3
theorem vG:aw ["self"] ni (ai g0):=a6
noncomputable abbrev kX:Stmt:=aX (top 36) 4
theorem yj:aw ["self","level"] td (ai kX):=a6
noncomputable abbrev kY:Stmt:=aX (top 36) 5
theorem yk:aw ["self"] tf (ai kY):=a6
noncomputable abbrev nE:Stmt:=aX (top 36) 6
theorem tK:aw ["self","level","kind","code"] vg (ai nE):=a6
noncomputable abbrev kZ:Stmt:=aX (top 36) 7
theorem qU:aw ["self","other"] tj (ai kZ):=a6
noncomputable abbrev g8:Stmt:=top 41
theorem fY:aw ["depths","depth","level"] nj (ai g8):=a6
noncomputable abbrev k6:Stmt:=top 42
theorem yl:aw ["depths"] tm (ai k6):=a6
noncomputable abbrev jg:Stmt:=top 43
theorem wR:aw ["depths","place"] qM (ai jg):=a6
noncomputable abbrev rG:Stmt:=top 44
theorem vn:aw ["depths","depth","level"] wK (ai rG):=a6
noncomputable abbrev jh:Stmt:=top 45
theorem wU:aw ["depths","cage","level"] qN (ai jh):=a6
noncomputable abbrev rH:Stmt:=top 46
theorem vo:aw ["depths","place","stands"] wL (ai rH):=a6
noncomputable abbrev g9:Stmt:=top 49
theorem vH:aw ["slow","fast"] nq (ai g9):=a6
noncomputable abbrev lh:Stmt:=top 50
theorem ym:aw ["way","speed"] tq (ai lh):=a6
noncomputable abbrev fZ:Stmt:=aX (top 52) 0
theorem uM:aw ["self","place","opened","bells","yard"] mv (ai fZ):=a6
noncomputable abbrev gf:Stmt:=aX (top 52) 1
theorem uN:aw ["self"] mw (ai gf):=a6
noncomputable abbrev nF:Stmt:=aX (top 53) 0
theorem Ah:aw ["self","first","most"] vh (ai nF):=a6
noncomputable abbrev lj:Stmt:=aX (top 53) 1
theorem qV:aw ["self","deed","ticks","speed","standing","began"] tu (ai lj):=a6
noncomputable abbrev ji:Stmt:=aX (top 53) 2
theorem wV:aw ["self"] qO (ai ji):=a6
noncomputable abbrev rJ:Stmt:=aX (top 53) 3
theorem Br:aw ["self"] wM (ai rJ):=a6
noncomputable abbrev jj:Stmt:=aX (top 53) 4
theorem wW:aw ["self"] qP (ai jj):=a6
noncomputable abbrev nG:Stmt:=aX (top 53) 5
theorem Ai:aw ["self"] vi (ai nG):=a6
noncomputable abbrev lp:Stmt:=aX (top 56) 0
theorem jk:aw ["self","depths","codes","slow","fast","loads","shut","first"] tw (ai lp):=a6
noncomputable abbrev lq:Stmt:=aX (top 56) 1
theorem qW:aw ["self","level","strokes","standing"] tx (ai lq):=a6
noncomputable abbrev hU:Stmt:=aX (top 56) 2
theorem gh:aw ["self","strokes","standing","answer"] nu (ai hU):=a6
noncomputable abbrev lr:Stmt:=aX (top 56) 3
theorem qX:aw ["self","level","standing"] tD (ai lr):=a6
noncomputable abbrev fi:Stmt:=aX (top 56) 4
theorem rK:aw ["self","level"] iU (ai fi):=a6
noncomputable abbrev fj:Stmt:=aX (top 56) 5
theorem rL:aw ["self","level"] iV (ai fj):=a6
noncomputable abbrev fq:Stmt:=aX (top 56) 6
theorem hV:aw ["self","word","level","wanted","standing"] iW (ai fq):=a6
noncomputable abbrev lu:Stmt:=aX (top 56) 7
theorem jl:aw ["self","number","cage","standing","level"] tE (ai lu):=a6
noncomputable abbrev hZ:Stmt:=aX (top 56) 8
theorem gj:aw ["self","cage","standing","level"] nv (ai hZ):=a6
noncomputable abbrev lx:Stmt:=aX (top 56) 9
theorem et:aw ["self","cage","level","kind","standing","gate","end","ticks"] tF (ai lx):=a6
noncomputable abbrev ft:Stmt:=aX (top 56) 10
theorem rM:aw ["self"] iX (ai ft):=a6
noncomputable abbrev jm:Stmt:=aX (top 56) 11
theorem wX:aw ["self","deed","ticks","standing"] qQ (ai jm):=a6
noncomputable abbrev eJ:Stmt:=aX (top 56) 12
theorem pC:aw ["self","standing"] gW (ai eJ):=a6
noncomputable abbrev fC:Stmt:=aX (top 56) 13
theorem tL:aw ["self","cage"] jR (ai fC):=a6
noncomputable abbrev de:Stmt:=aX (top 56) 14
theorem iI:aw ["self","level"] eo (ai de):=a6
noncomputable abbrev nH:Stmt:=aX (top 56) 15
theorem Aj:aw ["self"] vj (ai nH):=a6
noncomputable abbrev ly:Stmt:=aX (top 56) 16
theorem yp:aw ["self"] tG (ai ly):=a6
noncomputable abbrev ie:Stmt:=aX (top 56) 18
theorem vI:aw ["self"] ny (ai ie):=a6
noncomputable abbrev lz:Stmt:=aX (top 56) 19
theorem yq:aw ["self"] tH (ai lz):=a6
noncomputable abbrev jn:Stmt:=aX (top 56) 20
theorem wY:aw ["self"] qR (ai jn):=a6
noncomputable abbrev jo:Stmt:=aX (top 56) 21
theorem wZ:aw ["self"] qS (ai jo):=a6
noncomputable abbrev ee:Stmt:=aX (top 56) 23
theorem nI:aw ["self","place"] gC (ai ee):=a6
noncomputable abbrev jq:Stmt:=aX (top 56) 24
theorem w8:aw ["self"] qT (ai jq):=a6
noncomputable abbrev gm:Stmt:=aX (top 56) 26
theorem uO:aw ["self","cage"] mx (ai gm):=a6
noncomputable abbrev Dc:Stmt:=top 58
theorem Jd:aw ["_law_script","_law_k"] GX (ai Dc):=a6
noncomputable abbrev w9:Stmt:=top 59
theorem jS:aw ["_law_cell","_law_k","_law_span","_law_rest","_law_turn","_law_one"] Bn (ai w9):=a6
noncomputable abbrev nJ:Stmt:=top 60
theorem uP:aw ["_law_found","_law_due","_law_alike","_law_k"] tI (ai nJ):=a6
noncomputable abbrev rN:Stmt:=top 61
theorem cR:aw ["_law_cell","_law_many","_law_shape","_law_gap","_law_made","_law_last","_law_k","_law_span"] wN (ai rN):=a6
noncomputable abbrev uQ:Stmt:=top 62
theorem lA:aw ["_law_cell","_law_many","_law_made","_law_k","_law_men"] ze (ai uQ):=a6
noncomputable abbrev jT:Stmt:=top 63
theorem eK:aw ["_law_script","_law_depths_here","_law_codes_here","_law_cell","_law_slow","_law_fast"] zg (ai jT):=a6
noncomputable abbrev xa:Stmt:=top 64
theorem E4:aw ["_law_works","_law_deed"] Bo (ai xa):=a6
noncomputable abbrev nK:Stmt:=top 65
theorem cP:aw ["_law_works","_law_deed","_law_hit","e","_law_names"] vk (ai nK):=a6
noncomputable abbrev Ak:Stmt:=top 66
theorem xb:aw ["_law_code","_law_way","_law_level","_law_ring","_law_put"] Ek (ai Ak):=a6
noncomputable abbrev xc:Stmt:=top 67
theorem gS:aw ["_law_code","_law_way","_law_level","_law_full","_law_made","_law_shut"] Bp (ai xc):=a6
noncomputable abbrev ig:Stmt:=top 68
theorem cX:aw ["_law_depths_here","_law_way","_law_level","_law_gates","_law_wide","_law_made","_law_at_here","_law_word"] nA (ai ig):=a6
noncomputable abbrev uR:Stmt:=top 69
theorem De:aw ["_law_works"] zh (ai uR):=a6
noncomputable abbrev jU:Stmt:=top 70
theorem cT:aw ["_law_script","_law_depths_here","_law_codes_here","_law_slow","_law_fast","_law_many","_law_loads","_law_works","_law_way","_law_level","_law_gates","_law_deeds","_law_ends","_law_k","_law_at_here","_law_told","_law_state_here","_law_late_here","_law_word","_law_deed","_law_book"] GY (ai jU):=a6
structure Adr where
 ao:Addr
 ay:Addr
 cw:Addr
 aP:Addr
 aG:Addr
 aH:Addr
 cx:Addr
 aS:Addr
 br:Addr
 az:Addr
 aL:Addr
 aQ:Addr
 bQ:Addr
 bR:Addr
 aM:Addr
 bt:Addr
 aV:Addr
 aR:Addr
 bJ:Addr
 ez:Addr
 bL:Addr
 dB:Addr
 pD:Addr
 bB:Addr
 Al:Addr
 tM:Addr
structure Txt (P:Program)(w:World)(K:WA)(mg:Str->Option Value)(base:Heap)(Z:Adr):Prop where
 cV:mg "len"=none
 fD:mg "list"=none
 vp:mg "enumerate"=none
 MC:mg "zip"=none
 dW:mg "range"=none
 MD:mg "abs"=none
 aY:mg "isinstance"=none
 Am:mg "tuple"=none
 my:mg "int"=none
 JQ:mg "str"=none
 GZ:mg "bool"=none
 JR:mg "min"=none
 An:∃u,mg "MOST_LOADS"=some u/\bX (.int 30) u
 uS:∃u,mg "FEWEST_STROKES"=some u/\bX (.int 1) u
 xf:∃u,mg "MOST_STROKES"=some u/\bX (.int 9) u
 vJ:∃u,mg "FEWEST_LEVELS"=some u/\bX (.int 2) u
 yr:∃u,mg "MOST_LEVELS"=some u/\bX (.int 6) u
 uT:∃u,mg "GREATEST_DEPTH"=some u/\bX (.int 500) u
 uU:∃u,mg "GREATEST_SPEED"=some u/\bX (.int 500) u
 tN:∃u,mg "MOST_DEEDS"=some u/\bX (.int 300) u
 Je:∃u,mg "KINDS"=some u/\bX (.ref Z.Al) u
 Jf:∀H,SqT K H Z.Al [.str "men",.str "coal"]
 Jg:∃o,K.lookup Z.Al=some o/\o.cls=.type "tuple"/\o.dict=none
 gF:∃u,mg "CAGE_SPOTS"=some u/\bX (.ref Z.tM) u
 gG:∀H,SqT K H Z.tM [.int 10,.int 11]
 nL:mg "UnknownLevel"=some (.ref Z.ao)
 qY:mg "UnknownLoad"=some (.ref Z.ay)
 xg:mg "BadLoads"=some (.ref Z.cw)
 lB:mg "NotThere"=some (.ref Z.aP)
 vq:mg "CageTaken"=some (.ref Z.aG)
 nM:mg "CageEmpty"=some (.ref Z.aH)
 rO:mg "BadCodes"=some (.ref Z.cx)
 xh:mg "DeadBell"=some (.ref Z.aS)
 xi:mg "NoCode"=some (.ref Z.br)
 qZ:mg "NothingRung"=some (.ref Z.az)
 rP:mg "NoChange"=some (.ref Z.aL)
 xj:mg "NotArmed"=some (.ref Z.aQ)
 nN:mg "BadDepths"=some (.ref Z.bQ)
 Bs:mg "BadSpeeds"=some (.ref Z.bR)
 xk:mg "BookFull"=some (.ref Z.aM)
 yt:mg "NothingDone"=some (.ref Z.bt)
 xl:mg "GateOpen"=some (.ref Z.aV)
 xm:mg "GateShut"=some (.ref Z.aR)
 Bt:mg "CageError"=some (.ref Z.bJ)
 G0:mg "Yard"=some (.ref Z.ez)
 El:mg "Bells"=some (.ref Z.bL)
 xn:mg "Standing"=some (.ref Z.dB)
 Lp:mg "Book"=some (.ref Z.pD)
 Jh:mg "Works"=some (.ref Z.bB)
 c5:Cls K Z.ez
 fK:bg K Z.ez "kinds"
 cu:bg K Z.ez "where"
 lD:bg K Z.ez "many"
 bG:Cls K Z.bL
 cU:bg K Z.bL "codes"
 cL:bg K Z.bL "failed"
 bI:bg K Z.bL "state"
 aK:Cls K Z.dB
 cI:bg K Z.dB "place"
 cj:bg K Z.dB "opened"
 bW:bg K Z.dB "bells"
 bS:bg K Z.dB "yard"
 di:Cls K Z.pD
 rd:bg K Z.pD "first"
 tO:bg K Z.pD "most"
 cf:bg K Z.pD "rows"
 bc:Cls K Z.bB
 cM:bg K Z.bB "depths"
 rf:bg K Z.bB "slow"
 rg:bg K Z.bB "fast"
 nO:bg K Z.bB "goals"
 bb:bg K Z.bB "log"
 xo:ExC K Z.ao
 xp:ExI K Z.ao
 jr:Xm K Z.ao Z.bJ true
 jV:Kt K Z.ao Z.aM false
 gH:Kt K Z.ao Z.ao true
 jW:Kt K Z.ao Z.aL false
 jX:Kt K Z.ao Z.aS false
 mz:Kt K Z.ao Z.br false
 ij:Kt K Z.ao Z.az false
 ik:Kt K Z.ao Z.ay false
 jY:Kt K Z.ao Z.aP false
 js:Kt K Z.ao Z.aH false
 jZ:Kt K Z.ao Z.aV false
 j0:Kt K Z.ao Z.aQ false
 ka:Kt K Z.ao Z.aR false
 jt:Kt K Z.ao Z.aG false
 yu:ExC K Z.ay
 yv:ExI K Z.ay
 kb:Xm K Z.ay Z.bJ true
 lE:Kt K Z.ay Z.aM false
 il:Kt K Z.ay Z.ao false
 lF:Kt K Z.ay Z.aL false
 lG:Kt K Z.ay Z.aS false
 nP:Kt K Z.ay Z.br false
 iJ:Kt K Z.ay Z.az false
 iK:Kt K Z.ay Z.ay true
 lH:Kt K Z.ay Z.aP false
 ke:Kt K Z.ay Z.aH false
 lI:Kt K Z.ay Z.aV false
 lJ:Kt K Z.ay Z.aQ false
 lK:Kt K Z.ay Z.aR false
 kg:Kt K Z.ay Z.aG false
 xq:ExC K Z.cw
 Lq:ExI K Z.cw
 Bu:Xm K Z.cw Z.bJ true
 B6:Kt K Z.cw Z.aM false
 zi:Kt K Z.cw Z.ao false
 B7:Kt K Z.cw Z.aL false
 B8:Kt K Z.cw Z.aS false
 Em:Kt K Z.cw Z.br false
 Ao:Kt K Z.cw Z.az false
 Ap:Kt K Z.cw Z.ay false
 B9:Kt K Z.cw Z.aP false
 Bv:Kt K Z.cw Z.aH false
 Ca:Kt K Z.cw Z.aV false
 Cb:Kt K Z.cw Z.aQ false
 Cc:Kt K Z.cw Z.aR false
 Bw:Kt K Z.cw Z.aG false
 rQ:ExC K Z.aP
 Df:ExI K Z.aP
 nQ:Xm K Z.aP Z.bJ true
 pE:Kt K Z.aP Z.aM false
 kh:Kt K Z.aP Z.ao false
 pF:Kt K Z.aP Z.aL false
 pG:Kt K Z.aP Z.aS false
 tP:Kt K Z.aP Z.br false
 lL:Kt K Z.aP Z.az false
 lM:Kt K Z.aP Z.ay false
 pH:Kt K Z.aP Z.aP true
 nR:Kt K Z.aP Z.aH false
 pI:Kt K Z.aP Z.aV false
 pJ:Kt K Z.aP Z.aQ false
 pK:Kt K Z.aP Z.aR false
 nS:Kt K Z.aP Z.aG false
 Bx:ExC K Z.aG
 By:ExI K Z.aG
 mB:Xm K Z.aG Z.bJ true
 nT:Kt K Z.aG Z.aM false
 ju:Kt K Z.aG Z.ao false
 nU:Kt K Z.aG Z.aL false
 nV:Kt K Z.aG Z.aS false
 rR:Kt K Z.aG Z.br false
 ki:Kt K Z.aG Z.az false
 kj:Kt K Z.aG Z.ay false
 nW:Kt K Z.aG Z.aP false
 mD:Kt K Z.aG Z.aH false
 nX:Kt K Z.aG Z.aV false
 nY:Kt K Z.aG Z.aQ false
 nZ:Kt K Z.aG Z.aR false
 mE:Kt K Z.aG Z.aG true
 vt:ExC K Z.aH
 Bz:ExI K Z.aH
 mF:Xm K Z.aH Z.bJ true
 n6:Kt K Z.aH Z.aM false
 jv:Kt K Z.aH Z.ao false
 n8:Kt K Z.aH Z.aL false
 n9:Kt K Z.aH Z.aS false
 rS:Kt K Z.aH Z.br false
 kl:Kt K Z.aH Z.az false
 km:Kt K Z.aH Z.ay false
 oa:Kt K Z.aH Z.aP false
 mG:Kt K Z.aH Z.aH true
 og:Kt K Z.aH Z.aV false
 oh:Kt K Z.aH Z.aQ false
 oi:Kt K Z.aH Z.aR false
 mH:Kt K Z.aH Z.aG false
 rT:ExC K Z.cx
 Lr:ExI K Z.cx
 BA:Xm K Z.cx Z.bJ true
 Ce:Kt K Z.cx Z.aM false
 zj:Kt K Z.cx Z.ao false
 Cf:Kt K Z.cx Z.aL false
 Cg:Kt K Z.cx Z.aS false
 En:Kt K Z.cx Z.br false
 Aq:Kt K Z.cx Z.az false
 Ar:Kt K Z.cx Z.ay false
 Ci:Kt K Z.cx Z.aP false
 BB:Kt K Z.cx Z.aH false
 Cj:Kt K Z.cx Z.aV false
 Ck:Kt K Z.cx Z.aQ false
 Cm:Kt K Z.cx Z.aR false
 BC:Kt K Z.cx Z.aG false
 Dg:ExC K Z.aS
 Dh:ExI K Z.aS
 oj:Xm K Z.aS Z.bJ true
 pL:Kt K Z.aS Z.aM false
 ko:Kt K Z.aS Z.ao false
 pM:Kt K Z.aS Z.aL false
 pN:Kt K Z.aS Z.aS true
 tQ:Kt K Z.aS Z.br false
 lO:Kt K Z.aS Z.az false
 lP:Kt K Z.aS Z.ay false
 pO:Kt K Z.aS Z.aP false
 om:Kt K Z.aS Z.aH false
 pP:Kt K Z.aS Z.aV false
 pQ:Kt K Z.aS Z.aQ false
 pR:Kt K Z.aS Z.aR false
 oo:Kt K Z.aS Z.aG false
 BD:ExC K Z.br
 G6:ExI K Z.br
 rV:Xm K Z.br Z.bJ true
 tR:Kt K Z.br Z.aM false
 mI:Kt K Z.br Z.ao false
 tS:Kt K Z.br Z.aL false
 tT:Kt K Z.br Z.aS false
 vK:Kt K Z.br Z.br true
 oq:Kt K Z.br Z.az false
 ot:Kt K Z.br Z.ay false
 tU:Kt K Z.br Z.aP false
 rW:Kt K Z.br Z.aH false
 tV:Kt K Z.br Z.aV false
 tW:Kt K Z.br Z.aQ false
 tX:Kt K Z.br Z.aR false
 rX:Kt K Z.br Z.aG false
 yw:ExC K Z.az
 yx:ExI K Z.az
 kq:Xm K Z.az Z.bJ true
 lQ:Kt K Z.az Z.aM false
 ip:Kt K Z.az Z.ao false
 lR:Kt K Z.az Z.aL false
 lS:Kt K Z.az Z.aS false
 ou:Kt K Z.az Z.br false
 iL:Kt K Z.az Z.az true
 iM:Kt K Z.az Z.ay false
 lT:Kt K Z.az Z.aP false
 kr:Kt K Z.az Z.aH false
 lU:Kt K Z.az Z.aV false
 lV:Kt K Z.az Z.aQ false
 lW:Kt K Z.az Z.aR false
 ku:Kt K Z.az Z.aG false
 xr:ExC K Z.aL
 Di:ExI K Z.aL
 ow:Xm K Z.aL Z.bJ true
 pS:Kt K Z.aL Z.aM false
 kv:Kt K Z.aL Z.ao false
 pT:Kt K Z.aL Z.aL true
 pU:Kt K Z.aL Z.aS false
 tY:Kt K Z.aL Z.br false
 lX:Kt K Z.aL Z.az false
 lY:Kt K Z.aL Z.ay false
 pV:Kt K Z.aL Z.aP false
 ox:Kt K Z.aL Z.aH false
 pW:Kt K Z.aL Z.aV false
 pX:Kt K Z.aL Z.aQ false
 pY:Kt K Z.aL Z.aR false
 oy:Kt K Z.aL Z.aG false
 Dj:ExC K Z.aQ
 Dk:ExI K Z.aQ
 oz:Xm K Z.aQ Z.bJ true
 pZ:Kt K Z.aQ Z.aM false
 ky:Kt K Z.aQ Z.ao false
 qa:Kt K Z.aQ Z.aL false
 qb:Kt K Z.aQ Z.aS false
 tZ:Kt K Z.aQ Z.br false
 lZ:Kt K Z.aQ Z.az false
 l3:Kt K Z.aQ Z.ay false
 qc:Kt K Z.aQ Z.aP false
 oA:Kt K Z.aQ Z.aH false
 qd:Kt K Z.aQ Z.aV false
 qg:Kt K Z.aQ Z.aQ true
 qh:Kt K Z.aQ Z.aR false
 oB:Kt K Z.aQ Z.aG false
 oC:ExC K Z.bQ
 JS:ExI K Z.bQ
 AL:Xm K Z.bQ Z.bJ true
 BE:Kt K Z.bQ Z.aM false
 yy:Kt K Z.bQ Z.ao false
 BF:Kt K Z.bQ Z.aL false
 BG:Kt K Z.bQ Z.aS false
 Dl:Kt K Z.bQ Z.br false
 zk:Kt K Z.bQ Z.az false
 zl:Kt K Z.bQ Z.ay false
 BH:Kt K Z.bQ Z.aP false
 AM:Kt K Z.bQ Z.aH false
 BI:Kt K Z.bQ Z.aV false
 BJ:Kt K Z.bQ Z.aQ false
 BK:Kt K Z.bQ Z.aR false
 AN:Kt K Z.bQ Z.aG false
 BL:ExC K Z.bR
 JT:ExI K Z.bR
 AO:Xm K Z.bR Z.bJ true
 BM:Kt K Z.bR Z.aM false
 yz:Kt K Z.bR Z.ao false
 BN:Kt K Z.bR Z.aL false
 BO:Kt K Z.bR Z.aS false
 Dm:Kt K Z.bR Z.br false
 zm:Kt K Z.bR Z.az false
 zp:Kt K Z.bR Z.ay false
 BP:Kt K Z.bR Z.aP false
 AQ:Kt K Z.bR Z.aH false
 BQ:Kt K Z.bR Z.aV false
 BR:Kt K Z.bR Z.aQ false
 BS:Kt K Z.bR Z.aR false
 AR:Kt K Z.bR Z.aG false
 Dn:ExC K Z.aM
 Dp:ExI K Z.aM
 oE:Xm K Z.aM Z.bJ true
 qi:Kt K Z.aM Z.aM true
 kz:Kt K Z.aM Z.ao false
 qj:Kt K Z.aM Z.aL false
 qk:Kt K Z.aM Z.aS false
 t9:Kt K Z.aM Z.br false
 l4:Kt K Z.aM Z.az false
 l5:Kt K Z.aM Z.ay false
 ql:Kt K Z.aM Z.aP false
 oF:Kt K Z.aM Z.aH false
 qm:Kt K Z.aM Z.aV false
 qo:Kt K Z.aM Z.aQ false
 qp:Kt K Z.aM Z.aR false
 oG:Kt K Z.aM Z.aG false
 yA:ExC K Z.bt
 Hh:ExI K Z.bt
 zq:Xm K Z.bt Z.bJ true
 As:Kt K Z.bt Z.aM false
 xt:Kt K Z.bt Z.ao false
 Au:Kt K Z.bt Z.aL false
 Av:Kt K Z.bt Z.aS false
 BU:Kt K Z.bt Z.br false
 xS:Kt K Z.bt Z.az false
 xT:Kt K Z.bt Z.ay false
 Aw:Kt K Z.bt Z.aP false
 zr:Kt K Z.bt Z.aH false
 Ax:Kt K Z.bt Z.aV false
 Ay:Kt K Z.bt Z.aQ false
 Az:Kt K Z.bt Z.aR false
 zt:Kt K Z.bt Z.aG false
 Dq:ExC K Z.aV
 Dr:ExI K Z.aV
 oH:Xm K Z.aV Z.bJ true
 qq:Kt K Z.aV Z.aM false
 kA:Kt K Z.aV Z.ao false
 qr:Kt K Z.aV Z.aL false
 qs:Kt K Z.aV Z.aS false
 ua:Kt K Z.aV Z.br false
 l7:Kt K Z.aV Z.az false
 l8:Kt K Z.aV Z.ay false
 qt:Kt K Z.aV Z.aP false
 oI:Kt K Z.aV Z.aH false
 qu:Kt K Z.aV Z.aV true
 qv:Kt K Z.aV Z.aQ false
 qw:Kt K Z.aV Z.aR false
 oJ:Kt K Z.aV Z.aG false
 Ds:ExC K Z.aR
 Du:ExI K Z.aR
 oK:Xm K Z.aR Z.bJ true
 qx:Kt K Z.aR Z.aM false
 kB:Kt K Z.aR Z.ao false
 qy:Kt K Z.aR Z.aL false
 qz:Kt K Z.aR Z.aS false
 ub:Kt K Z.aR Z.br false
 l9:Kt K Z.aR Z.az false
 ma:Kt K Z.aR Z.ay false
 qA:Kt K Z.aR Z.aP false
 oM:Kt K Z.aR Z.aH false
 qB:Kt K Z.aR Z.aV false
 qC:Kt K Z.aR Z.aQ false
 qD:Kt K Z.aR Z.aR true
 oN:Kt K Z.aR Z.aG false
structure JU (K:WA)(C0 C1 C2 C3 C4 C5 C6 C7 C8 C9 C10 C11 C12 C13 C14 C15 C16 C17 C18 C19 C20 C21 C22 C23:Addr)(ta_KINDS:Addr)(tk_KINDS_0 tk_KINDS_1:Tok)(tn_KINDS:Nat)(ts_KINDS:Array (Option Value))(ta_CAGE_SPOTS:Addr)(tk_CAGE_SPOTS_0 tk_CAGE_SPOTS_1:Tok)(to_CAGE_SPOTS:Option Addr)(tn_CAGE_SPOTS:Nat)(ts_CAGE_SPOTS:Array (Option Value)):Prop where
 z_len:W.nsIn K mainGlobals "len"=some none
 z_list:W.nsIn K mainGlobals "list"=some none
 z_enumerate:W.nsIn K mainGlobals "enumerate"=some none
 z_zip:W.nsIn K mainGlobals "zip"=some none
 z_range:W.nsIn K mainGlobals "range"=some none
 z_abs:W.nsIn K mainGlobals "abs"=some none
 z_isinstance:W.nsIn K mainGlobals "isinstance"=some none
 z_tuple:W.nsIn K mainGlobals "tuple"=some none
 z_int:W.nsIn K mainGlobals "int"=some none
 z_str:W.nsIn K mainGlobals "str"=some none
 z_bool:W.nsIn K mainGlobals "bool"=some none
 z_min:W.nsIn K mainGlobals "min"=some none
 m0:NI K "UnknownLevel" C0
 m1:NI K "UnknownLoad" C1
 m2:NI K "BadLoads" C2
 m3:NI K "NotThere" C3
 m4:NI K "CageTaken" C4
 m5:NI K "CageEmpty" C5
 m6:NI K "BadCodes" C6
 m7:NI K "DeadBell" C7
 m8:NI K "NoCode" C8
 m9:NI K "NothingRung" C9
 m10:NI K "NoChange" C10
 m11:NI K "NotArmed" C11
 m12:NI K "BadDepths" C12
 m13:NI K "BadSpeeds" C13
 m14:NI K "BookFull" C14
 m15:NI K "NothingDone" C15
 m16:NI K "GateOpen" C16
 m17:NI K "GateShut" C17
 m18:NI K "CageError" C18
 m19:NI K "Yard" C19
 m20:NI K "Bells" C20
 m21:NI K "Standing" C21
 m22:NI K "Book" C22
 m23:NI K "Works" C23
 n_MOST_LOADS:KI K "MOST_LOADS" 30
 n_FEWEST_STROKES:KI K "FEWEST_STROKES" 1
 n_MOST_STROKES:KI K "MOST_STROKES" 9
 n_FEWEST_LEVELS:KI K "FEWEST_LEVELS" 2
 n_MOST_LEVELS:KI K "MOST_LEVELS" 6
 n_GREATEST_DEPTH:KI K "GREATEST_DEPTH" 500
 n_GREATEST_SPEED:KI K "GREATEST_SPEED" 500
 n_MOST_DEEDS:KI K "MOST_DEEDS" 300
 n_KINDS:W.nsIn K mainGlobals "KINDS"=some (some (.ref ta_KINDS))
 lt_KINDS:K.lookup ta_KINDS=some ⟨.type "tuple",none,.seq #[.str "men" tk_KINDS_0,.str "coal" tk_KINDS_1] tn_KINDS,ts_KINDS⟩
 n_CAGE_SPOTS:W.nsIn K mainGlobals "CAGE_SPOTS"=some (some (.ref ta_CAGE_SPOTS))
 lt_CAGE_SPOTS:K.lookup ta_CAGE_SPOTS=some ⟨.type "tuple",to_CAGE_SPOTS,.seq #[.int 10 tk_CAGE_SPOTS_0,.int 11 tk_CAGE_SPOTS_1] tn_CAGE_SPOTS,ts_CAGE_SPOTS⟩
 cl19:Cls K C19
 na19_kinds:bg K C19 "kinds"
 na19_where:bg K C19 "where"
 na19_many:bg K C19 "many"
 cl20:Cls K C20
 na20_codes:bg K C20 "codes"
 na20_failed:bg K C20 "failed"
 na20_state:bg K C20 "state"
 cl21:Cls K C21
 na21_place:bg K C21 "place"
 na21_opened:bg K C21 "opened"
 na21_bells:bg K C21 "bells"
 na21_yard:bg K C21 "yard"
 cl22:Cls K C22
 na22_first:bg K C22 "first"
 na22_most:bg K C22 "most"
 na22_rows:bg K C22 "rows"
 cl23:Cls K C23
 na23_depths:bg K C23 "depths"
 na23_slow:bg K C23 "slow"
 na23_fast:bg K C23 "fast"
 na23_goals:bg K C23 "goals"
 na23_log:bg K C23 "log"
 l0:C0I K C18
 x0:XI K C18 C0
 x1:XI K C18 C1
 x2:XI K C18 C2
 x3:XI K C18 C3
 x4:XI K C18 C4
 x5:XI K C18 C5
 x6:XI K C18 C6
 x7:XI K C18 C7
 x8:XI K C18 C8
 x9:XI K C18 C9
 x10:XI K C18 C10
 x11:XI K C18 C11
 x12:XI K C18 C12
 x13:XI K C18 C13
 x14:XI K C18 C14
 x15:XI K C18 C15
 x16:XI K C18 C16
 x17:XI K C18 C17
 e0_CageError:Xm K C0 C18 true
 k0_BookFull:Kt K C0 C14 false
 k0_UnknownLevel:Kt K C0 C0 true
 k0_NoChange:Kt K C0 C10 false
 k0_DeadBell:Kt K C0 C7 false
 k0_NoCode:Kt K C0 C8 false
 k0_NothingRung:Kt K C0 C9 false
 k0_UnknownLoad:Kt K C0 C1 false
 k0_NotThere:Kt K C0 C3 false
 k0_CageEmpty:Kt K C0 C5 false
 k0_GateOpen:Kt K C0 C16 false
 k0_NotArmed:Kt K C0 C11 false
 k0_GateShut:Kt K C0 C17 false
 k0_CageTaken:Kt K C0 C4 false
 e1_CageError:Xm K C1 C18 true
 k1_BookFull:Kt K C1 C14 false
 k1_UnknownLevel:Kt K C1 C0 false
 k1_NoChange:Kt K C1 C10 false
 k1_DeadBell:Kt K C1 C7 false
 k1_NoCode:Kt K C1 C8 false
 k1_NothingRung:Kt K C1 C9 false
 k1_UnknownLoad:Kt K C1 C1 true
 k1_NotThere:Kt K C1 C3 false
 k1_CageEmpty:Kt K C1 C5 false
 k1_GateOpen:Kt K C1 C16 false
 k1_NotArmed:Kt K C1 C11 false
 k1_GateShut:Kt K C1 C17 false
 k1_CageTaken:Kt K C1 C4 false
 e2_CageError:Xm K C2 C18 true
 k2_BookFull:Kt K C2 C14 false
 k2_UnknownLevel:Kt K C2 C0 false
 k2_NoChange:Kt K C2 C10 false
 k2_DeadBell:Kt K C2 C7 false
 k2_NoCode:Kt K C2 C8 false
 k2_NothingRung:Kt K C2 C9 false
 k2_UnknownLoad:Kt K C2 C1 false
 k2_NotThere:Kt K C2 C3 false
 k2_CageEmpty:Kt K C2 C5 false
 k2_GateOpen:Kt K C2 C16 false
 k2_NotArmed:Kt K C2 C11 false
 k2_GateShut:Kt K C2 C17 false
 k2_CageTaken:Kt K C2 C4 false
 e3_CageError:Xm K C3 C18 true
 k3_BookFull:Kt K C3 C14 false
 k3_UnknownLevel:Kt K C3 C0 false
 k3_NoChange:Kt K C3 C10 false
 k3_DeadBell:Kt K C3 C7 false
 k3_NoCode:Kt K C3 C8 false
 k3_NothingRung:Kt K C3 C9 false
 k3_UnknownLoad:Kt K C3 C1 false
 k3_NotThere:Kt K C3 C3 true
 k3_CageEmpty:Kt K C3 C5 false
 k3_GateOpen:Kt K C3 C16 false
 k3_NotArmed:Kt K C3 C11 false
 k3_GateShut:Kt K C3 C17 false
 k3_CageTaken:Kt K C3 C4 false
 e4_CageError:Xm K C4 C18 true
 k4_BookFull:Kt K C4 C14 false
 k4_UnknownLevel:Kt K C4 C0 false
 k4_NoChange:Kt K C4 C10 false
 k4_DeadBell:Kt K C4 C7 false
 k4_NoCode:Kt K C4 C8 false
 k4_NothingRung:Kt K C4 C9 false
 k4_UnknownLoad:Kt K C4 C1 false
 k4_NotThere:Kt K C4 C3 false
 k4_CageEmpty:Kt K C4 C5 false
 k4_GateOpen:Kt K C4 C16 false
 k4_NotArmed:Kt K C4 C11 false
 k4_GateShut:Kt K C4 C17 false
 k4_CageTaken:Kt K C4 C4 true
 e5_CageError:Xm K C5 C18 true
 k5_BookFull:Kt K C5 C14 false
 k5_UnknownLevel:Kt K C5 C0 false
 k5_NoChange:Kt K C5 C10 false
 k5_DeadBell:Kt K C5 C7 false
 k5_NoCode:Kt K C5 C8 false
 k5_NothingRung:Kt K C5 C9 false
 k5_UnknownLoad:Kt K C5 C1 false
 k5_NotThere:Kt K C5 C3 false
 k5_CageEmpty:Kt K C5 C5 true
 k5_GateOpen:Kt K C5 C16 false
 k5_NotArmed:Kt K C5 C11 false
 k5_GateShut:Kt K C5 C17 false
 k5_CageTaken:Kt K C5 C4 false
 e6_CageError:Xm K C6 C18 true
 k6_BookFull:Kt K C6 C14 false
 k6_UnknownLevel:Kt K C6 C0 false
 k6_NoChange:Kt K C6 C10 false
 k6_DeadBell:Kt K C6 C7 false
 k6_NoCode:Kt K C6 C8 false
 k6_NothingRung:Kt K C6 C9 false
 k6_UnknownLoad:Kt K C6 C1 false
 k6_NotThere:Kt K C6 C3 false
 k6_CageEmpty:Kt K C6 C5 false
 k6_GateOpen:Kt K C6 C16 false
 k6_NotArmed:Kt K C6 C11 false
 k6_GateShut:Kt K C6 C17 false
 k6_CageTaken:Kt K C6 C4 false
 e7_CageError:Xm K C7 C18 true
 k7_BookFull:Kt K C7 C14 false
 k7_UnknownLevel:Kt K C7 C0 false
 k7_NoChange:Kt K C7 C10 false
 k7_DeadBell:Kt K C7 C7 true
 k7_NoCode:Kt K C7 C8 false
 k7_NothingRung:Kt K C7 C9 false
 k7_UnknownLoad:Kt K C7 C1 false
 k7_NotThere:Kt K C7 C3 false
 k7_CageEmpty:Kt K C7 C5 false
 k7_GateOpen:Kt K C7 C16 false
 k7_NotArmed:Kt K C7 C11 false
 k7_GateShut:Kt K C7 C17 false
 k7_CageTaken:Kt K C7 C4 false
 e8_CageError:Xm K C8 C18 true
 k8_BookFull:Kt K C8 C14 false
 k8_UnknownLevel:Kt K C8 C0 false
 k8_NoChange:Kt K C8 C10 false
 k8_DeadBell:Kt K C8 C7 false
 k8_NoCode:Kt K C8 C8 true
 k8_NothingRung:Kt K C8 C9 false
 k8_UnknownLoad:Kt K C8 C1 false
 k8_NotThere:Kt K C8 C3 false
 k8_CageEmpty:Kt K C8 C5 false
 k8_GateOpen:Kt K C8 C16 false
 k8_NotArmed:Kt K C8 C11 false
 k8_GateShut:Kt K C8 C17 false
 k8_CageTaken:Kt K C8 C4 false
 e9_CageError:Xm K C9 C18 true
 k9_BookFull:Kt K C9 C14 false
 k9_UnknownLevel:Kt K C9 C0 false
 k9_NoChange:Kt K C9 C10 false
 k9_DeadBell:Kt K C9 C7 false
 k9_NoCode:Kt K C9 C8 false
 k9_NothingRung:Kt K C9 C9 true
 k9_UnknownLoad:Kt K C9 C1 false
 k9_NotThere:Kt K C9 C3 false
 k9_CageEmpty:Kt K C9 C5 false
 k9_GateOpen:Kt K C9 C16 false
 k9_NotArmed:Kt K C9 C11 false
 k9_GateShut:Kt K C9 C17 false
 k9_CageTaken:Kt K C9 C4 false
 e10_CageError:Xm K C10 C18 true
 k10_BookFull:Kt K C10 C14 false
 k10_UnknownLevel:Kt K C10 C0 false
 k10_NoChange:Kt K C10 C10 true
 k10_DeadBell:Kt K C10 C7 false
 k10_NoCode:Kt K C10 C8 false
 k10_NothingRung:Kt K C10 C9 false
 k10_UnknownLoad:Kt K C10 C1 false
 k10_NotThere:Kt K C10 C3 false
 k10_CageEmpty:Kt K C10 C5 false
 k10_GateOpen:Kt K C10 C16 false
 k10_NotArmed:Kt K C10 C11 false
 k10_GateShut:Kt K C10 C17 false
 k10_CageTaken:Kt K C10 C4 false
 e11_CageError:Xm K C11 C18 true
 k11_BookFull:Kt K C11 C14 false
 k11_UnknownLevel:Kt K C11 C0 false
 k11_NoChange:Kt K C11 C10 false
 k11_DeadBell:Kt K C11 C7 false
 k11_NoCode:Kt K C11 C8 false
 k11_NothingRung:Kt K C11 C9 false
 k11_UnknownLoad:Kt K C11 C1 false
 k11_NotThere:Kt K C11 C3 false
 k11_CageEmpty:Kt K C11 C5 false
 k11_GateOpen:Kt K C11 C16 false
 k11_NotArmed:Kt K C11 C11 true
 k11_GateShut:Kt K C11 C17 false
 k11_CageTaken:Kt K C11 C4 false
 e12_CageError:Xm K C12 C18 true
 k12_BookFull:Kt K C12 C14 false
 k12_UnknownLevel:Kt K C12 C0 false
 k12_NoChange:Kt K C12 C10 false
 k12_DeadBell:Kt K C12 C7 false
 k12_NoCode:Kt K C12 C8 false
 k12_NothingRung:Kt K C12 C9 false
 k12_UnknownLoad:Kt K C12 C1 false
 k12_NotThere:Kt K C12 C3 false
 k12_CageEmpty:Kt K C12 C5 false
 k12_GateOpen:Kt K C12 C16 false
 k12_NotArmed:Kt K C12 C11 false
 k12_GateShut:Kt K C12 C17 false
 k12_CageTaken:Kt K C12 C4 false
 e13_CageError:Xm K C13 C18 true
 k13_BookFull:Kt K C13 C14 false
 k13_UnknownLevel:Kt K C13 C0 false
 k13_NoChange:Kt K C13 C10 false
 k13_DeadBell:Kt K C13 C7 false
 k13_NoCode:Kt K C13 C8 false
 k13_NothingRung:Kt K C13 C9 false
 k13_UnknownLoad:Kt K C13 C1 false
 k13_NotThere:Kt K C13 C3 false
 k13_CageEmpty:Kt K C13 C5 false
 k13_GateOpen:Kt K C13 C16 false
 k13_NotArmed:Kt K C13 C11 false
 k13_GateShut:Kt K C13 C17 false
 k13_CageTaken:Kt K C13 C4 false
 e14_CageError:Xm K C14 C18 true
 k14_BookFull:Kt K C14 C14 true
 k14_UnknownLevel:Kt K C14 C0 false
 k14_NoChange:Kt K C14 C10 false
 k14_DeadBell:Kt K C14 C7 false
 k14_NoCode:Kt K C14 C8 false
 k14_NothingRung:Kt K C14 C9 false
 k14_UnknownLoad:Kt K C14 C1 false
 k14_NotThere:Kt K C14 C3 false
 k14_CageEmpty:Kt K C14 C5 false
 k14_GateOpen:Kt K C14 C16 false
 k14_NotArmed:Kt K C14 C11 false
 k14_GateShut:Kt K C14 C17 false
 k14_CageTaken:Kt K C14 C4 false
 e15_CageError:Xm K C15 C18 true
 k15_BookFull:Kt K C15 C14 false
 k15_UnknownLevel:Kt K C15 C0 false
 k15_NoChange:Kt K C15 C10 false
 k15_DeadBell:Kt K C15 C7 false
 k15_NoCode:Kt K C15 C8 false
 k15_NothingRung:Kt K C15 C9 false
 k15_UnknownLoad:Kt K C15 C1 false
 k15_NotThere:Kt K C15 C3 false
 k15_CageEmpty:Kt K C15 C5 false
 k15_GateOpen:Kt K C15 C16 false
 k15_NotArmed:Kt K C15 C11 false
 k15_GateShut:Kt K C15 C17 false
 k15_CageTaken:Kt K C15 C4 false
 e16_CageError:Xm K C16 C18 true
 k16_BookFull:Kt K C16 C14 false
 k16_UnknownLevel:Kt K C16 C0 false
 k16_NoChange:Kt K C16 C10 false
 k16_DeadBell:Kt K C16 C7 false
 k16_NoCode:Kt K C16 C8 false
 k16_NothingRung:Kt K C16 C9 false
 k16_UnknownLoad:Kt K C16 C1 false
 k16_NotThere:Kt K C16 C3 false
 k16_CageEmpty:Kt K C16 C5 false
 k16_GateOpen:Kt K C16 C16 true
 k16_NotArmed:Kt K C16 C11 false
 k16_GateShut:Kt K C16 C17 false
 k16_CageTaken:Kt K C16 C4 false
 e17_CageError:Xm K C17 C18 true
 k17_BookFull:Kt K C17 C14 false
 k17_UnknownLevel:Kt K C17 C0 false
 k17_NoChange:Kt K C17 C10 false
 k17_DeadBell:Kt K C17 C7 false
 k17_NoCode:Kt K C17 C8 false
 k17_NothingRung:Kt K C17 C9 false
 k17_UnknownLoad:Kt K C17 C1 false
 k17_NotThere:Kt K C17 C3 false
 k17_CageEmpty:Kt K C17 C5 false
 k17_GateOpen:Kt K C17 C16 false
 k17_NotArmed:Kt K C17 C11 false
 k17_GateShut:Kt K C17 C17 true
 k17_CageTaken:Kt K C17 C4 false
 d0:DI K "is_known" rE
 d1:DI K "check_level" jc
 d2:DI K "check_load" kS
 d3:DI K "check_loads" jd
 d4:II K C19 "Yard.__init__" nB
 d5:MI K C19 "into" "Yard.into" nC
 d6:MI K C19 "out" "Yard.out" rF
 d7:MI K C19 "spots" "Yard.spots" kT
 d8:MI K C19 "in_cage" "Yard.in_cage" gX
 d9:MI K C19 "men_aboard" "Yard.men_aboard" fh
 d10:MI K C19 "twin" "Yard.twin" nD
 d11:DI K "are_strokes" je
 d12:DI K "check_codes" jf
 d13:II K C20 "Bells.__init__" kU
 d14:MI K C20 "ring" "Bells.ring" kW
 d15:MI K C20 "repeat" "Bells.repeat" gZ
 d16:MI K C20 "engine" "Bells.engine" g0
 d17:MI K C20 "fail" "Bells.fail" kX
 d18:MI K C20 "dead" "Bells.dead" kY
 d19:MI K C20 "use" "Bells.use" nE
 d20:MI K C20 "twin" "Bells.twin" kZ
 d21:DI K "check_depths" g8
 d22:DI K "drum_whole" k6
 d23:DI K "other_place" jg
 d24:DI K "level_at" rG
 d25:DI K "wound_place" jh
 d26:DI K "gates_by" rH
 d27:DI K "check_speeds" g9
 d28:DI K "wind_ticks" lh
 d29:II K C21 "Standing.__init__" fZ
 d30:MI K C21 "twin" "Standing.twin" gf
 d31:II K C22 "Book.__init__" nF
 d32:MI K C22 "write" "Book.write" lj
 d33:MI K C22 "strike" "Book.strike" ji
 d34:MI K C22 "now" "Book.now" rJ
 d35:MI K C22 "latest" "Book.latest" jj
 d36:MI K C22 "told" "Book.told" nG
 d37:II K C23 "Works.__init__" lp
 d38:MI K C23 "ring" "Works.ring" lq
 d39:MI K C23 "repeat" "Works.repeat" hU
 d40:MI K C23 "fail" "Works.fail" lr
 d41:MI K C23 "open_gate" "Works.open_gate" fi
 d42:MI K C23 "shut_gate" "Works.shut_gate" fj
 d43:MI K C23 "turn_gate" "Works.turn_gate" fq
 d44:MI K C23 "load" "Works.load" lu
 d45:MI K C23 "unload" "Works.unload" hZ
 d46:MI K C23 "wind" "Works.wind" lx
 d47:MI K C23 "take_back" "Works.take_back" ft
 d48:MI K C23 "write" "Works.write" jm
 d49:MI K C23 "speed_with" "Works.speed_with" eJ
 d50:MI K C23 "level_of" "Works.level_of" fC
 d51:MI K C23 "refuse_shut_gate" "Works.refuse_shut_gate" de
 d52:MI K C23 "now" "Works.now" nH
 d53:MI K C23 "book" "Works.book" ly
 d54:MI K C23 "engine" "Works.engine" ie
 d55:MI K C23 "dead" "Works.dead" lz
 d56:MI K C23 "gates" "Works.gates" jn
 d57:MI K C23 "cages" "Works.cages" jo
 d58:MI K C23 "both_places" "Works.both_places" ee
 d59:MI K C23 "spots" "Works.spots" jq
 d60:MI K C23 "in_cage" "Works.in_cage" gm
 d61:DI K "_law_at" Dc
 d62:DI K "_law_draw" w9
 d63:DI K "_law_same" nJ
 d64:DI K "_law_depths" rN
 d65:DI K "_law_codes" uQ
 d66:DI K "_law_shaft" jT
 d67:DI K "_law_call" xa
 d68:DI K "_law_refused" nK
 d69:DI K "_law_end" Ak
 d70:DI K "_law_late" xc
 d71:DI K "_law_late_gates" ig
 d72:DI K "_law_state" uR
 d73:DI K "law" jU
set_option hygiene false in
local macro_rules | `(tactic| walk_at "r0") => `(tactic| ((try dsimp only [LK, LM, tB', tOp, tUn, Gk, tCB, mn, xW, DE, CJ, rI', rU', Lb, LL, tC, Jv, Jw, Fm, eX, sJ, CL, uJ, Eb, wD, Gq, LG, tOr, LH, CM, Gs, CN, tIf, LX, LW, tBM, sT, tSl, DG, CP, GF, GG, CS, CV, CQ, HU, FP, EZ, xZ, FR, Mg, CC, Eg, Ef, GS, Gv, Gw, Aa, Fv, CW, GK, Ed, K0, DU, Ml, Ma, LN, CU, qH, Lk, Ll, tU1, GQ, CY, IE, v7, IL, GL, Ee, Ie, K8, Ig, Gi, Gj, Ih, Im, Io, La, Ip, Iq, Li, Ir, Iu, Lj, GO, IQ, MU, MV, MW, MX, Mp, Mq, Mr, Ms, MY, MZ, K9, σN, σS, σ0, Mt, M0, M3, Mu, Mv, Mx, My, KL, Fo, wg, MR, Nat.reduceAdd, Nat.reduceSub, Int.reducePow, Int.reduceToNat, Nat.reducePow, Int.reduceNeg, Bool.not_true, Bool.not_false]); (try first | refine L2.M4 ?_ | refine L2.M5 ?_ | refine L2.Mz ?_)))
set_option hygiene false in
local macro_rules | `(tactic| k_upd) => `(tactic| (repeat ((first | with_reducible refine L2.M6 ?_ | with_reducible refine L2.M7 ?_ | with_reducible refine L2.kP ze1 ?_ | with_reducible refine L2.kP ze2 ?_ | with_reducible refine L2.kP ze3 ?_ | with_reducible refine L2.kP ze4 ?_ | with_reducible refine L2.kP ze5 ?_ | with_reducible refine L2.kP ze6 ?_ | with_reducible refine L2.kP ze7 ?_ | with_reducible refine L2.kP ze8 ?_ | with_reducible refine L2.kP ze9 ?_ | with_reducible refine L2.kP ze10 ?_ | with_reducible refine L2.kP ze11 ?_ | with_reducible refine L2.kP ze12 ?_ | with_reducible refine L2.kP ze13 ?_ | with_reducible refine L2.kP ze14 ?_ | with_reducible refine L2.kP ze15 ?_ | with_reducible refine L2.kP ze16 ?_ | with_reducible refine L2.kP ze17 ?_ | with_reducible refine L2.kP ze18 ?_ | with_reducible refine L2.kP ze19 ?_); walk_at "r0")))
set_option hygiene false in
local macro_rules | `(tactic| k_mem) => `(tactic| (walk_at "r0"; k_upd))
set_option hygiene false in
local macro_rules | `(tactic| k_all) => `(tactic| refine ⟨rfl, fun zv zA zo zs zf hr => ?_⟩)
section
variable {P:Program}{w:World}{K:WA}{mg:Str->Option Value}{base:Heap}{Z:Adr}
variable (T:Txt P w K mg base Z)
inductive oO (K:WA)(Z:Adr)(vs:List V)(H:Hp)(Q:VK)(E:XK):Prop | mk (n m:Int):vs=[.int n,.int m]->(Q (.bl (decide (0<=n/\n < m))) H)->oO K Z vs H Q E
include T in
theorem BV:FF P w K mg base CX0 1 "is_known" "is_known" rE wI (oO K Z):=fk0 Bq fun vs H Q E h=>by
 obtain ⟨n,m,rfl,q⟩:=h
 k_all
 refine ⟨_,@ag _ _ _ (aC (v8 (cZ GW (pv' 0) ah (cG _)) (zF (cZ Lm (pv' 0) (pv' 1) (cG _))))),?_⟩
 k_mem
 split
 ·rename_i h0
  rw [show decide (0<=n/\n < m)=decide (n < m) by simp [h0]] at q
  k_upd
  exact q
 ·rename_i h0
  rw [show decide (0<=n/\n < m)=false by simp;omega] at q
  k_upd
  exact q
variable (eL:KD P w K mg base CX0 1 "is_known" (oO K Z))
inductive md (K:WA)(Z:Adr)(vs:List V)(H:Hp)(Q:VK)(E:XK):Prop | mk (x dx l:Addr) (ls:List Ld) (m:Int):vs=[.ref x,.ref l,.int m]->H x=some (.ins Z.ez dx [])->dS K H l ls->ls.length<=1000->(∀(kn wh:Addr) (H':Hp),H kn=none->H wh=none->kn≠wh->ax x H H'->c7 Z.ez H' x kn wh (ls.map (·.1)) (ls.map (·.2.1)) m->Q .non H')->md K Z vs H Q E
include T in
theorem AA:FF P w K mg base CX0 1 "__init__" "Yard.__init__" nB vd (md K Z):=fk0 Af fun vs H Q E h=>by
 obtain ⟨x,dx,l,ls,m,rfl,hx,hL,hn,q⟩:=h
 k_all
 refine ⟨_,@ae _ _ _ _ _ (bV (pv' 0) (sy ["kind","level","goal"] [none,none,none] (dO (pv' 1)) (fun _ _ _ _=>(show PG _ _ (sJ K 3 _) from fJ (n:=3) rfl (a7 (aW (i:=0) (show (["kind","level","goal"]:List Str).Nodup by decide +kernel) rfl orL) (a7 (aW (i:=1) (show (["kind","level","goal"]:List Str).Nodup by decide +kernel) rfl orL) (a7 (aW (i:=2) (show (["kind","level","goal"]:List Str).Nodup by decide +kernel) rfl orL) dN))))) (fun _ _ _ _=>iQ) (fun _ _ _ _=>(pv' 0))) rfl) (@ae _ _ _ _ _ (bV (pv' 0) (sy ["kind","level","goal"] [none,none,none] (dO (pv' 1)) (fun _ _ _ _=>(show PG _ _ (sJ K 3 _) from fJ (n:=3) rfl (a7 (aW (i:=0) (show (["kind","level","goal"]:List Str).Nodup by decide +kernel) rfl orL) (a7 (aW (i:=1) (show (["kind","level","goal"]:List Str).Nodup by decide +kernel) rfl orL) (a7 (aW (i:=2) (show (["kind","level","goal"]:List Str).Nodup by decide +kernel) rfl orL) dN))))) (fun _ _ _ _=>iQ) (fun _ _ _ _=>(pv' 1))) rfl) (@ag _ _ _ (bV (pv' 0) (pv' 2) rfl))),?_⟩
 k_mem
 obtain ⟨as,hS,hT⟩:=id hL
 refine ⟨⟨_,hS⟩,?_⟩
 refine uK (fun x=>V.str x.1) hL (by rw [sizeLine_eq];omega) rfl (fun x hx N hN=>by k_mem;exact hN) fun kn hkn=>?_
 k_mem
 have k1:L2.ax x H (upd (upd H kn (HO.lst (ls.map fun x=>V.str x.1))) x (HO.ins Z.ez dx (bD "kinds" (.ref kn) []))):=(ax.of ((av.refl H).lay hkn)).put
 have hx1:upd (upd H kn (HO.lst (ls.map fun x=>V.str x.1))) x (HO.ins Z.ez dx (bD "kinds" (.ref kn) [])) x=some (HO.ins Z.ez dx [("kinds",.ref kn)]):=af
 have nx:kn≠x:=fun z=>by rw [z,hx] at hkn;cases hkn
 have hk1:upd (upd H kn (HO.lst (ls.map fun x=>V.str x.1))) x (HO.ins Z.ez dx (bD "kinds" (.ref kn) [])) kn=some (HO.lst (ls.map fun x=>V.str x.1)):=by rw [aB nx,af]
 refine ⟨_,_,_,upo hx hkn,T.c5,T.fK,by decide,⟨_,hS.keepI k1 hx⟩,?_⟩
 generalize upd (upd H kn (HO.lst (ls.map fun x=>V.str x.1))) x (HO.ins Z.ez dx (bD "kinds" (.ref kn) []))=H1 at *
 refine uK (fun x=>V.int x.2.1) (hL.keepI k1 hx) (by rw [sizeLine_eq];omega) rfl (fun x hx N hN=>by k_mem;exact hN) fun wh hwh=>?_
 have nxw:wh≠x:=fun z=>by rw [z,hx1] at hwh;cases hwh
 have nkw:kn≠wh:=fun z=>by rw [z,hwh] at hk1;cases hk1
 refine ⟨_,_,_,upo hx1 hwh,T.c5,T.cu,by show 1 < 1000;decide,_,_,_,af,T.c5,T.lD,Nat.lt_of_le_of_lt (mO _ _ _) (by show 2 < 1000;decide),?_⟩
 refine q kn wh _ hkn ?_ nkw (((k1.trans (ax.of ((av.refl H1).lay hwh))).put).put) ⟨⟨dx,?_⟩,?_,?_⟩
 ·cases e:H wh with
  | none=>rfl
  | some o=>have:=k1 wh o nxw e;rw [hwh] at this;cases this
 ·rw [af];rfl
 ·rw [aB nx,aB nx,aB nkw,hk1,List.map_map];rfl
 ·rw [aB nxw,aB nxw,af,List.map_map];rfl
variable (iY:KN P w K mg base CX0 1 Z.ez (md K Z))
inductive jw (K:WA)(Z:Adr)(vs:List V)(H:Hp)(Q:VK)(E:XK):Prop | mk (y kn wh:Addr) (ks:List Str) (ws:List Int) (m:Int):vs=[.ref y]->c7 Z.ez H y kn wh ks ws m->(∀p,H p=none->Q (.ref p) (upd H p (.lst (ws.map V.int))))->jw K Z vs H Q E
include T in
theorem yB:FF P w K mg base CX0 1 "spots" "Yard.spots" kT sX (jw K Z):=fk0 yg fun vs H Q E h=>by
 obtain ⟨y,kn,wh,ks,ws,m,rfl,hy,q⟩:=h
 k_all
 refine ⟨_,@ag _ _ _ (aC (bN cq (by rfl) T.fD dR (pa1 (aq (pv' 0))))),?_⟩
 obtain ⟨⟨dx,hob⟩,hkn,hwh⟩:=id hy
 k_mem
 refine fgo hob T.c5 T.cu rfl ?_
 k_mem
 exact ⟨_,.inl (SqL.of hwh),q⟩
variable (gI:KM P w K mg base CX0 1 Z.ez "spots" (jw K Z))
def Ji (y:Addr)(c:Int)(ws:List Int)(H:Hp)(i:Nat)(σ:St)(H':Hp):Prop:=av H H'/\(∃t u,σ=[some (.ref y),some (.int c),t,u])/\∀j,j < i->ws.getD j 0≠10+c
inductive gn (K:WA)(Z:Adr)(vs:List V)(H:Hp)(Q:VK)(E:XK):Prop | mk (y kn wh:Addr) (ks:List Str) (ws:List Int) (m c:Int):vs=[.ref y,.int c]->c7 Z.ez H y kn wh ks ws m->0<=c->c < 2->(∀H',av H H'->Q (inC ws c) H')->gn K Z vs H Q E
include T in
theorem vL:FF P w K mg base CX0 1 "in_cage" "Yard.in_cage" gX mZ (gn K Z):=fk0 fX fun vs H Q E h=>by
 obtain ⟨y,kn,wh,ks,ws,m,c,rfl,hy,h0,h1,q⟩:=h
 k_all
 refine @seg _ _ _ 1 _ (@ag _ _ _ (aC gT)) fun zt1 zh1 ze1=>?_
 refine ⟨_,@ae _ _ _ _ _ (dZ PassesOwn.never rfl (Bm (by rfl) T.vp sv (aq (pv' 0))) (fJ rfl (a7 (aW (i:=2) fX.nd rfl orL) (a7 (aW (i:=3) fX.nd rfl orL) dN))) (@ag _ _ _ (bu (en (pv' 3) (aN bC (c3 (by rfl) T.gF) (pv' 1))) (@ag _ _ _ (aC (pv' 2))) (aJ)))) zh1,?_⟩
 obtain ⟨⟨dx,hob⟩,hkn,hwh⟩:=id hy
 k_mem
 refine fgo hob T.c5 T.cu rfl ?_
 k_mem
 refine ⟨⟨_,SqL.of hwh⟩,?_⟩
 k_upd
 refine A8 ws.length (Ji y c ws H) ⟨av.refl H,⟨_,_,rfl⟩,fun j hj=>absurd hj (Nat.not_lt_zero _)⟩ ?_ ?_ ?_ ?_
 ·rintro i σ H' hi ⟨s1,_,_⟩
  k_upd
  exact ⟨_,_,s1.seq (SqL.of hwh),by rw [List.getElem?_map,wu hi];rfl⟩
 ·rintro σ H' ⟨s1,_,_⟩
  k_upd
  exact ⟨_,s1.seq (SqL.of hwh),by rw [WB];exact Nat.le_refl _⟩
 ·rintro i σ H' hi ⟨s1,⟨t,u,rfl⟩,hj⟩ x H2 ⟨tp,z,rfl,htp,rfl,hz⟩
  have e:=hz _ (s1.seq (SqL.of hwh))
  rw [List.getElem?_map,wu hi] at e
  cases e
  k_mem
  refine ⟨_,SqT.of af,rfl,?_⟩
  k_mem
  refine ⟨_,T.gG _,_,y3 h0 h1,?_⟩
  k_mem
  split
  ·rename_i h
   have e:=ER hi h hj
   have q':=q _ (s1.lay (o:=HO.tup [V.int ↑i,V.int (ws.getD i 0)]) htp)
   rw [inC,if_pos (h▸gP hi),e] at q'
   k_upd
   exact q'
  ·rename_i h
   k_upd
   refine ⟨s1.lay htp,⟨_,_,rfl⟩,fun j hj'=>?_⟩
   by_cases e:j=i
   ·rw [e];exact h
   ·exact hj j (by omega)
 ·rintro σ H' ⟨s1,⟨t,u,rfl⟩,hj⟩
  k_mem
  have q':=q _ s1
  rw [inC,if_neg] at q'
  ·k_upd
   exact q'
  ·intro hm
   have hlt:=List.idxOf_lt_length_iff.mpr hm
   refine hj _ hlt ?_
   rw [List.getD_eq_getElem?_getD,List.getElem?_eq_getElem hlt]
   exact List.getElem_idxOf hlt
variable (cH:KM P w K mg base CX0 1 Z.ez "in_cage" (gn K Z))
def G7 (y:Addr)(ks:List Str)(ws:List Int)(H:Hp)(i:Nat)(σ:St)(H':Hp):Prop:=av H H'/\(∃t u,σ=[some (.ref y),t,u])/\∀j k x,j < i->ks[j]?=some k->ws[j]?=some x->(decide (k="men") && decide (x=10\/x=11))=false
inductive eM (K:WA)(Z:Adr)(vs:List V)(H:Hp)(Q:VK)(E:XK):Prop | mk (y kn wh:Addr) (ks:List Str) (ws:List Int) (m:Int):vs=[.ref y]->c7 Z.ez H y kn wh ks ws m->ks.length=ws.length->(∀H',av H H'->Q (.bl (ET ks ws)) H')->eM K Z vs H Q E
include T in
theorem rY:FF P w K mg base CX0 1 "men_aboard" "Yard.men_aboard" fh iT (eM K Z):=fk0 eI fun vs H Q E h=>by
 obtain ⟨y,kn,wh,ks,ws,m,rfl,hy,hlen,q⟩:=h
 k_all
 refine @seg _ _ _ 1 _ (@ag _ _ _ (aC fA)) fun zt1 zh1 ze1=>?_
 refine ⟨_,@ae _ _ _ _ _ (dZ PassesOwn.never rfl (Jb (by rfl) T.MC KJ (aq (pv' 0)) (aq (pv' 0))) (fJ rfl (a7 (aW (i:=1) eI.nd rfl orL) (a7 (aW (i:=2) eI.nd rfl orL) dN))) (@ag _ _ _ (bu (zE (en (pv' 1) au) (vU (jQ kQ (pv' 2) (c3 (by rfl) T.gF) (by rfl)))).pt (@ag _ _ _ (aC fA)) (aJ)))) zh1,?_⟩
 obtain ⟨⟨dx,hob⟩,hkn,hwh⟩:=id hy
 k_mem
 refine fgo hob T.c5 T.fK rfl (fgo hob T.c5 T.cu rfl ?_)
 k_mem
 refine ⟨⟨_,SqL.of hkn⟩,⟨_,SqL.of hwh⟩,?_⟩
 k_upd
 refine A8 ws.length (G7 y ks ws H) ⟨av.refl H,⟨_,_,rfl⟩,fun j _ _ hj=>absurd hj (Nat.not_lt_zero _)⟩ ?_ ?_ ?_ ?_
 ·rintro i σ H' hi ⟨s1,_,_⟩
  have hk:ks[i]?=some ks[i]:=List.getElem?_eq_getElem (by omega)
  k_upd
  exact ⟨_,_,_,_,s1.seq (SqL.of hkn),s1.seq (SqL.of hwh),by rw [List.getElem?_map,hk];rfl,by rw [List.getElem?_map,wu hi];rfl⟩
 ·rintro σ H' ⟨s1,_,_⟩
  k_upd
  exact ⟨_,_,s1.seq (SqL.of hkn),s1.seq (SqL.of hwh),.inr (by rw [WB];exact Nat.le_refl _)⟩
 ·rintro i σ H' hi ⟨s1,⟨t,u,rfl⟩,hj⟩ x H2 ⟨tp,z1,z2,rfl,htp,rfl,hz1,hz2⟩
  have hk:ks[i]?=some ks[i]:=List.getElem?_eq_getElem (by omega)
  have hw:ws[i]?=some ws[i]:=List.getElem?_eq_getElem hi
  have e:=hz1 _ (s1.seq (SqL.of hkn))
  rw [List.getElem?_map,hk] at e
  cases e
  have e:=hz2 _ (s1.seq (SqL.of hwh))
  rw [List.getElem?_map,hw] at e
  cases e
  k_mem
  refine ⟨_,SqT.of af,rfl,?_⟩
  k_mem
  have no:(decide (ks[i]=Str.ofString "men") && decide (ws[i]=10\/ws[i]=11))=false->G7 y ks ws H (i+1) [some (V.ref y),some (V.str ks[i]),some (V.int ws[i])] (upd H' tp (HO.tup [V.str ks[i],V.int ws[i]])):=fun hn=>by
   refine ⟨s1.lay htp,⟨_,_,rfl⟩,fun j k x hj' e1 e2=>?_⟩
   by_cases e:j=i
   ·subst e
    rw [hk] at e1;rw [hw] at e2
    cases e1;cases e2
    exact hn
   ·exact hj j k x (by omega) e1 e2
  k_upd
  split
  ·rename_i h1
   k_upd
   refine ⟨_,.inr (T.gG _),rfl,rfl,?_⟩
   rw [y8]
   k_mem
   split
   ·rename_i h2
    have q':=q _ (s1.lay (o:=HO.tup [V.str ks[i],V.int ws[i]]) htp)
    rw [Gd hk hw h1 h2] at q'
    k_upd
    exact q'
   ·rename_i h2
    exact no (by simp [h2])
  ·rename_i h1
   exact no (by simp [h1])
 ·rintro σ H' ⟨s1,⟨t,u,rfl⟩,hj⟩
  k_mem
  have q':=q _ s1
  rw [EU hj (.inr (Nat.le_refl _))] at q'
  k_upd
  exact q'
variable (iZ:KM P w K mg base CX0 1 Z.ez "men_aboard" (eM K Z))
inductive iq (K:WA)(Z:Adr)(vs:List V)(H:Hp)(Q:VK)(E:XK):Prop | mk (n:Int):vs=[.int n]->(Q (.bl (decide (1<=n/\n<=9))) H)->iq K Z vs H Q E
include T in
theorem xu:FF P w K mg base CX0 1 "are_strokes" "are_strokes" je qK (iq K Z):=fk0 wQ fun vs H Q E h=>by
 obtain ⟨n,rfl,q⟩:=h
 k_all
 refine ⟨_,@ag _ _ _ (aC (v8 (cZ GW (pv' 0) (c3 (by rfl) T.uS) (cG _)) (zF (cZ Ln (pv' 0) (c3 (by rfl) T.xf) (cG _))))),?_⟩
 k_mem
 split
 ·rename_i h0
  rw [show decide (1<=n/\n<=9)=decide (n<=9) by simp [h0]] at q
  k_upd
  exact q
 ·rename_i h0
  rw [show decide (1<=n/\n<=9)=false by simp;omega] at q
  k_upd
  exact q
variable (eA:KD P w K mg base CX0 1 "are_strokes" (iq K Z))
inductive jx (K:WA)(Z:Adr)(vs:List V)(H:Hp)(Q:VK)(E:XK):Prop | mk (x dx l:Addr) (ls:List Cd):vs=[.ref x,.ref l]->H x=some (.ins Z.bL dx [])->i8 cdV K H l ls->ls.length<=1000->(∀(cs fl st:Addr) (H':Hp),H cs=none->H fl=none->ax x H H'->bH Z.bL K H' x cs fl st ls (ls.map fun _=>false) .no->Q .non H')->jx K Z vs H Q E
include T in
theorem yC:FF P w K mg base CX0 1 "__init__" "Bells.__init__" kU sY (jx K Z):=fk0 yh fun vs H Q E h=>by
 obtain ⟨x,dx,l,ls,rfl,hx,hL,hn,q⟩:=h
 k_all
 refine @seg _ _ _ 2 _ (@ag _ _ _ (bV (pv' 0) (aO (pa4 au gT gT gT)) rfl)) fun zt2 zh2 ze2=>?_
 refine @seg _ _ _ 1 _ (@ae _ _ _ _ _ (bV (pv' 0) (sy ["code"] [none] (dO (pv' 1)) (fun _ _ _ _=>(aW (i:=0) (show (["code"]:List Str).Nodup by decide +kernel) rfl orL)) (fun _ _ _ _=>iQ) (fun _ _ _ _=>fA)) rfl) zh2) fun zt1 zh1 ze1=>?_
 refine ⟨_,@ae _ _ _ _ _ (bV (pv' 0) (bN cq (by rfl) T.fD dR (pa1 (pv' 1))) rfl) zh1,?_⟩
 obtain ⟨as,hS,hT⟩:=id hL
 k_mem
 refine ⟨_,.inl hS,fun cs hcs=>?_⟩
 k_upd
 refine ⟨_,_,_,upo hx hcs,T.bG,T.cU,by decide,?_⟩
 have nx:cs≠x:=fun z=>by rw [z,hx] at hcs;cases hcs
 have k1:L2.ax x H (upd (upd H cs (HO.lst (as.map V.ref))) x (HO.ins Z.bL dx (bD "codes" (.ref cs) []))):=(ax.of ((av.refl H).lay hcs)).put
 have hx1:upd (upd H cs (HO.lst (as.map V.ref))) x (HO.ins Z.bL dx (bD "codes" (.ref cs) [])) x=some (HO.ins Z.bL dx [("codes",.ref cs)]):=af
 have hc1:upd (upd H cs (HO.lst (as.map V.ref))) x (HO.ins Z.bL dx (bD "codes" (.ref cs) [])) cs=some (HO.lst (as.map V.ref)):=by rw [aB nx,af]
 generalize upd (upd H cs (HO.lst (as.map V.ref))) x (HO.ins Z.bL dx (bD "codes" (.ref cs) []))=H1 at *
 k_upd
 refine ⟨⟨_,hS.keepI k1 hx⟩,?_⟩
 refine va (fun _=>true) (fun _=>V.bl false) (hS.keepI k1 hx) (by rw [WB,hT.1,sizeLine_eq];omega) rfl (fun y _ N hN=>by k_mem;exact hN) (fun y _ _ N hN=>by k_mem;exact hN) fun fl hfl=>?_
 k_mem
 have ef:((as.map V.ref).filter fun _=>true).map (fun _=>V.bl false)=(ls.map fun _=>false).map V.bl:=by
  rw [List.filter_eq_self.mpr (by simp),List.map_map,List.map_map]
  refine List.ext_getElem (by simp [hT.1]) fun i h1 h2=>by simp
 rw [ef]
 have nfx:fl≠x:=fun z=>by rw [z,hx1] at hfl;cases hfl
 have nfc:cs≠fl:=fun z=>by rw [←z,hc1] at hfl;cases hfl
 k_upd
 refine ⟨_,_,_,upo hx1 hfl,T.bG,T.cL,by show 1 < 1000;decide,?_⟩
 have k2:L2.ax x H1 (upd (upd H1 fl (HO.lst ((ls.map fun _=>false).map V.bl))) x (HO.ins Z.bL dx (bD "failed" (.ref fl) [("codes",.ref cs)]))):=(ax.of ((av.refl H1).lay hfl)).put
 have hx2:upd (upd H1 fl (HO.lst ((ls.map fun _=>false).map V.bl))) x (HO.ins Z.bL dx (bD "failed" (.ref fl) [("codes",.ref cs)])) x=some (HO.ins Z.bL dx [("codes",.ref cs),("failed",.ref fl)]):=by rw [af];rfl
 have hf2:upd (upd H1 fl (HO.lst ((ls.map fun _=>false).map V.bl))) x (HO.ins Z.bL dx (bD "failed" (.ref fl) [("codes",.ref cs)])) fl=some (HO.lst ((ls.map fun _=>false).map V.bl)):=by rw [aB nfx,af]
 generalize upd (upd H1 fl (HO.lst ((ls.map fun _=>false).map V.bl))) x (HO.ins Z.bL dx (bD "failed" (.ref fl) [("codes",.ref cs)]))=H2 at *
 k_upd
 refine ⟨by decide,fun st hst=>⟨_,_,_,upo hx2 hst,T.bG,T.bI,by show 2 < 1000;decide,?_⟩⟩
 have nsx:st≠x:=fun z=>by rw [z,hx2] at hst;cases hst
 have k3:L2.ax x H2 (upd (upd H2 st (HO.tup [V.str (Str.ofString "not rung"),V.non,V.non,V.non])) x (HO.ins Z.bL dx (bD "state" (.ref st) [("codes",.ref cs),("failed",.ref fl)]))):=(ax.of ((av.refl H2).lay hst)).put
 refine q cs fl st _ hcs (k1.free nfx hfl) ((k1.trans k2).trans k3) ⟨⟨dx,by rw [af];rfl⟩,⟨as,k3 _ _ nx (k2 _ _ nx hc1),?_⟩,k3 _ _ nfx hf2,SqT.of (by rw [aB nsx,af];rfl),nfc,by rw [WB]⟩
 exact hT.keepI ((k1.trans k2).trans k3) hx
variable (gJ:KN P w K mg base CX0 1 Z.bL (jx K Z))
inductive gp (K:WA)(Z:Adr)(vs:List V)(H:Hp)(Q:VK)(E:XK):Prop | mk (b cs fl st:Addr) (ls:List Cd) (fs:List Bool) (e:Eng):vs=[.ref b]->bH Z.bL K H b cs fl st ls fs e->Q (.ref st) H->gp K Z vs H Q E
include T in
theorem vM:FF P w K mg base CX0 1 "engine" "Bells.engine" g0 ni (gp K Z):=fk0 vG fun vs H Q E h=>by
 obtain ⟨b,cs,fl,st,ls,fs,e,rfl,hB,q⟩:=h
 k_all
 refine ⟨_,@ag _ _ _ (aC (aq (pv' 0))),?_⟩
 obtain ⟨⟨dx,hob⟩,⟨as,hcs,hT⟩,hfl,hst,nn,ln⟩:=id hB
 k_mem
 exact fgo hob T.bG T.bI rfl q
variable (oP:KM P w K mg base CX0 1 Z.bL "engine" (gp K Z))
inductive jy (K:WA)(Z:Adr)(vs:List V)(H:Hp)(Q:VK)(E:XK):Prop | mk (b cs fl st:Addr) (ls:List Cd) (fs:List Bool) (e:Eng):vs=[.ref b]->bH Z.bL K H b cs fl st ls fs e->fs.length<=1000->(∀p H',H p=none->av H H'->H' p=some (.lst ((DW fs).map V.int))->Q (.ref p) H')->jy K Z vs H Q E
include T in
theorem yD:FF P w K mg base CX0 1 "dead" "Bells.dead" kY tf (jy K Z):=fk0 yk fun vs H Q E h=>by
 obtain ⟨b,cs,fl,st,ls,fs,e,rfl,hB,hlen,q⟩:=h
 k_all
 refine ⟨_,@ag _ _ _ (aC (sy ["level","failed"] [none,none] (Bm (by rfl) T.vp sv (aq (pv' 0))) (fun _ _ _ _=>(show PG _ _ (sJ K 2 _) from fJ (n:=2) rfl (a7 (aW (i:=0) (show (["level","failed"]:List Str).Nodup by decide +kernel) rfl orL) (a7 (aW (i:=1) (show (["level","failed"]:List Str).Nodup by decide +kernel) rfl orL) dN)))) (fun _ _ _ _=>(zN (cb (pv' 1)))) (fun _ _ _ _=>(pv' 0)))),?_⟩
 obtain ⟨⟨dx,hob⟩,⟨as,hcs,hT⟩,hfl,hst,nn,ln⟩:=id hB
 k_mem
 refine fgo hob T.bG T.cL rfl ?_
 k_mem
 refine ⟨⟨_,SqL.of hfl⟩,?_⟩
 have gi:∀i,i < fs.length->(fs.map V.bl)[i]?=some (V.bl (fs.getD i false)):=fun i hi=>by
  rw [List.getElem?_map,List.getD_eq_getElem?_getD,List.getElem?_eq_getElem hi];rfl
 refine zR fs.length (fun i acc H'=>av H H'/\acc=(rD fs i).map V.int) ⟨av.refl H,rfl⟩ ?_ ?_ ?_ ?_
 ·rintro i acc H' hi ⟨s1,_⟩
  k_upd
  exact ⟨_,_,s1.seq (SqL.of hfl),gi i hi⟩
 ·rintro acc H' ⟨s1,_⟩
  k_upd
  exact ⟨_,s1.seq (SqL.of hfl),by rw [WB];exact Nat.le_refl _⟩
 ·rintro i acc H' hi ⟨s1,rfl⟩
  k_upd
  refine ⟨by have:=wA fs i;rw [WB,sizeLine_eq];omega,?_⟩
  rintro x H2 ⟨tp,z,rfl,htp,rfl,hz⟩ M hM
  have e:=hz _ (s1.seq (SqL.of hfl))
  rw [gi i hi] at e
  cases e
  k_mem
  refine ⟨_,SqT.of af,rfl,?_⟩
  k_mem
  refine ⟨⟨rfl,fun k v e=>?_⟩,?_⟩
  ·match k,e with
   | 0,e=>cases e
   | 1,e=>cases e
   | k+2,e=>simp at e
  ·have gs:=Bc fs i
   k_upd
   split
   ·rename_i h
    refine hM _ _ ⟨s1.lay htp,?_⟩
    rw [gs,if_pos h,List.map_append];rfl
   ·rename_i h
    refine hM _ _ ⟨s1.lay htp,?_⟩
    rw [gs,if_neg h,List.append_nil]
 ·rintro acc H' ⟨s1,rfl⟩ p hp
  k_upd
  exact q p _ (s1.free hp) (s1.lay hp) af
variable (uc:KM P w K mg base CX0 1 Z.bL "dead" (jy K Z))
def Ls (a:Addr)(ds:List Int)(H:Hp)(i:Nat)(σ:St)(H':Hp):Prop:=H'=H/\(∃t,σ=[some (.ref a),t,none])/\∀j,j < i->0<=ds.getD j 0/\ds.getD j 0<=500
def Lu (a:Addr)(ds:List Int)(H:Hp)(i:Nat)(σ:St)(H':Hp):Prop:=H'=H/\(∃t u,σ=[some (.ref a),t,u])/\∀j,j < i->ds.getD j 0 < ds.getD (j+1) 0
inductive gq (K:WA)(Z:Adr)(vs:List V)(H:Hp)(Q:VK)(E:XK):Prop | mk (a:Addr) (ds:List Int):vs=[.ref a]->SqL K H a (ds.map V.int)->ds.length<=100000->((cn ds->Q .non H))->((¬cn ds->E (.ref Z.bQ) none H))->gq K Z vs H Q E
include T in
theorem vN:FF P w K mg base (CXf P w) 1 "check_depths" "check_depths" g8 nj (gq K Z):=fkF fY fun vs H Q E h=>by
 obtain ⟨a,ds,rfl,hS,hl,q1,q2⟩:=h
 k_all
 refine @seg _ _ _ 2 _ (@ag _ _ _ (dZ A5 rfl (CZ (by rfl) T.dW (pa2 ah (aD aA (by rfl) T.cV ck (pa1 (pv' 0))))) (aW (i:=2) fY.nd rfl orL) (@ag _ _ _ (bu (MA (aN aE (pv' 0) (pv' 2)) (aN aE (pv' 0) (bx dU (pv' 2) ah))) (@ag _ _ _ (bA T.oC (by rfl) T.nN (pa1 au))) (aJ))))) fun zt2 zh2 ze2=>?_
 refine @seg _ _ _ 1 _ (@ae _ _ _ _ _ (dZ A5 rfl (dO (pv' 0)) (aW (i:=1) fY.nd rfl orL) (@ag _ _ _ (bu (mL (Bk (pv' 1) ah) (i6 (Ei (pv' 1) (c3 (by rfl) T.uT)))).pt (@ag _ _ _ (bA T.oC (by rfl) T.nN (pa1 au))) (aJ)))) zh2) fun zt1 zh1 ze1=>?_
 refine ⟨_,@ae _ _ _ _ _ (bu (mL (Bk (aD aA (by rfl) T.cV ck (pa1 (pv' 0))) (c3 (by rfl) T.vJ)) (i6 (Ei (aD aA (by rfl) T.cV ck (pa1 (pv' 0))) (c3 (by rfl) T.yr)))).pt (@ag _ _ _ (bA T.oC (by rfl) T.nN (pa1 au))) (aJ)) zh1,?_⟩
 k_mem
 refine ⟨_,.inl hS,?_⟩
 rw [WB]
 k_upd
 split
 ·k_upd
  exact ⟨by decide,q2 fun h=>by have:=h.l2;omega⟩
 ·k_upd
  refine ⟨_,.inl hS,?_⟩
  rw [WB]
  k_upd
  split
  ·k_upd
   exact ⟨by decide,q2 fun h=>by have:=h.l6;omega⟩
  ·k_upd
   refine ⟨⟨_,hS⟩,?_⟩
   k_upd
   refine jO (ds.map V.int) (Ls a ds H) ⟨rfl,⟨_,rfl⟩,fun j h=>absurd h (Nat.not_lt_zero _)⟩ (fun i σ H' _ ⟨e,_⟩=>by rw [e];exact hS) ?_ ?_
   ·rintro i x σ H' hx ⟨rfl,⟨t,rfl⟩,hj⟩
    obtain ⟨d,rfl,hd,hmem⟩:=kI hx
    have hi:i < ds.length:=(List.getElem?_eq_some_iff.mp hd).1
    have hdg:ds.getD i 0=d:=by rw [List.getD_eq_getElem?_getD,hd];rfl
    k_mem
    split
    ·k_upd
     exact ⟨by decide,q2 fun h=>by have:=h.lo d hmem;omega⟩
    ·split
     ·k_upd
      exact ⟨by decide,q2 fun h=>by have:=h.hi d hmem;omega⟩
     ·k_upd
      refine ⟨rfl,⟨_,rfl⟩,fun j hj'=>?_⟩
      by_cases e:j=i
      ·rw [e,hdg];omega
      ·exact hj j (by omega)
   ·rintro σ H' ⟨rfl,⟨t,rfl⟩,hb⟩
    rw [WB] at hb
    k_mem
    refine ⟨_,.inl hS,⟨by decide,by decide,by rw [WB];omega,by rw [WB];omega⟩,?_⟩
    k_upd
    refine c6 (Lu a ds H') ⟨rfl,⟨_,_,rfl⟩,fun j h=>absurd h (Nat.not_lt_zero _)⟩ ?_ ?_
    ·rintro i σ H' hi ⟨rfl,⟨t,u,rfl⟩,hj⟩
     rw [WB] at hi
     k_mem
     refine ⟨_,hS,_,fH (by omega) (by omega),_,hS,_,fH (by omega) (by omega),?_⟩
     k_mem
     rw [show (1+(i:Int)).toNat=i+1 by omega,show (1+(i:Int) - 1).toNat=i by omega]
     k_upd
     split
     ·k_upd
      refine ⟨by decide,q2 fun h=>?_⟩
      have:=h.lt (i:=i) (j:=i+1) (by omega) (by omega)
      omega
     ·k_upd
      refine ⟨rfl,⟨_,_,rfl⟩,fun j hj'=>?_⟩
      by_cases e:j=i
      ·rw [e];omega
      ·exact hj j (by omega)
    ·rintro σ H' ⟨rfl,⟨t,u,rfl⟩,hu⟩
     rw [WB] at hu
     k_mem
     exact q1 (cn.of (by omega) (by omega) hb fun i hi=>hu i (by omega))
variable (oQ:KD P w K mg base (CXf P w) 1 "check_depths" (gq K Z))
inductive jz (K:WA)(Z:Adr)(vs:List V)(H:Hp)(Q:VK)(E:XK):Prop | mk (a:Addr) (ds:List Int):vs=[.ref a]->SqL K H a (ds.map V.int)->0 < ds.length->Q (.int (cA ds)) H->jz K Z vs H Q E
include T in
theorem yE:FF P w K mg base CX0 1 "drum_whole" "drum_whole" k6 tm (jz K Z):=fk0 yl fun vs H Q E h=>by
 obtain ⟨a,ds,rfl,hS,hl,q⟩:=h
 k_all
 refine ⟨_,@ag _ _ _ (aC (aN aE (pv' 0) (bx dU (aD aA (by rfl) T.cV ck (pa1 (pv' 0))) ah))),?_⟩
 k_mem
 refine ⟨_,.inl hS,_,hS,_,fH (by rw [WB];omega) (by rw [WB];omega),?_⟩
 rw [WB,show ((ds.length:Int) - 1).toNat=ds.length - 1 by omega]
 k_upd
 exact q
variable (ud:KD P w K mg base CX0 1 "drum_whole" (jz K Z))
def G8 (a:Addr)(ds:List Int)(d:Int)(H:Hp)(i:Nat)(σ:St)(H':Hp):Prop:=H'=H/\(∃t,σ=[some (.ref a),some (.int d),t])/\∀j,j < i->ds.getD j 0≠d
inductive oR (K:WA)(Z:Adr)(vs:List V)(H:Hp)(Q:VK)(E:XK):Prop | mk (a:Addr) (ds:List Int) (d:Int):vs=[.ref a,.int d]->SqL K H a (ds.map V.int)->ds.length<=100000->((∀i:Nat,i < ds.length->ds.getD i 0=d->Q (.int i) H))->(((∀i,i < ds.length->ds.getD i 0≠d)->Q .non H))->oR K Z vs H Q E
include T in
theorem BW:FF P w K mg base CX0 1 "level_at" "level_at" rG wK (oR K Z):=fk0 vn fun vs H Q E h=>by
 obtain ⟨a,ds,d,rfl,hS,hl,q1,q2⟩:=h
 k_all
 refine @seg _ _ _ 1 _ (@ag _ _ _ (aC gT)) fun zt1 zh1 ze1=>?_
 refine ⟨_,@ae _ _ _ _ _ (dZ PassesOwn.never rfl (cK (by rfl) T.dW (pa1 (aD aA (by rfl) T.cV ck (pa1 (pv' 0))))) (aW (i:=2) vn.nd rfl orL) (@ag _ _ _ (bu (en (aN aE (pv' 0) (pv' 2)) (pv' 1)) (@ag _ _ _ (aC (pv' 2))) (aJ)))) zh1,?_⟩
 k_mem
 refine ⟨_,.inl hS,by omega,by rw [WB];omega,c6 (G8 a ds d H) ⟨rfl,⟨_,rfl⟩,fun _ h=>absurd h (Nat.not_lt_zero _)⟩ ?_ ?_⟩
 ·rintro i σ H' hi ⟨rfl,⟨t,rfl⟩,hj⟩
  rw [WB] at hi
  have hi':i < ds.length:=by omega
  k_mem
  refine ⟨_,hS,_,by rw [Int.zero_add];exact A4 hi',?_⟩
  k_mem
  split
  ·rename_i he
   rw [Int.zero_add]
   k_upd
   exact q1 i hi' he
  ·rename_i he
   k_upd
   refine ⟨rfl,⟨_,rfl⟩,fun j hj'=>?_⟩
   by_cases e:j=i
   ·rw [e];exact he
   ·exact hj j (by omega)
 ·rintro σ H' ⟨rfl,⟨t,rfl⟩,hj⟩
  k_mem
  refine q2 fun i hi=>hj i ?_
  rw [WB]
  omega
variable (xv:KD P w K mg base CX0 1 "level_at" (oR K Z))
inductive gu (K:WA)(Z:Adr)(vs:List V)(H:Hp)(Q:VK)(E:XK):Prop | mk (sl fa:Int):vs=[.int sl,.int fa]->(if 1<=sl/\sl<=fa/\fa<=500 then Q .non H else E (.ref Z.bR) none H)->gu K Z vs H Q E
include T in
theorem vO:FF P w K mg base (CXf P w) 1 "check_speeds" "check_speeds" g9 nq (gu K Z):=fkF vH fun vs H Q E h=>by
 obtain ⟨sl,fa,rfl,q⟩:=h
 k_all
 refine ⟨_,@ag _ _ _ (bu (mL (Bk (pv' 0) ah) (mL (Bk (pv' 1) (pv' 0)) (i6 (Ei (pv' 1) (c3 (by rfl) T.uU))))).pt (@ag _ _ _ (bA T.BL (by rfl) T.Bs (pa1 au))) (aJ)),?_⟩
 k_mem
 split
 ·rw [if_neg (by omega)] at q
  k_upd
  exact ⟨by decide,q⟩
 ·split
  ·rw [if_neg (by omega)] at q
   k_upd
   exact ⟨by decide,q⟩
  ·split
   ·rw [if_neg (by omega)] at q
    k_upd
    exact ⟨by decide,q⟩
   ·rw [if_pos (by omega)] at q
    k_upd
    exact q
variable (oS:KD P w K mg base (CXf P w) 1 "check_speeds" (gu K Z))
inductive jA (K:WA)(Z:Adr)(vs:List V)(H:Hp)(Q:VK)(E:XK):Prop | mk (wy sp:Int):vs=[.int wy,.int sp]->0 < sp->sp < 2 ^ 200->Q (.int ((wy+sp - 1) / sp)) H->jA K Z vs H Q E
include T in
theorem yF:FF P w K mg base CX0 1 "wind_ticks" "wind_ticks" lh tq (jA K Z):=fk0 ym fun vs H Q E h=>by
 obtain ⟨wy,sp,rfl,h0,h1,q⟩:=h
 k_all
 refine ⟨_,@ag _ _ _ (aC (bx E2 (bx dU (bx cE (pv' 0) (pv' 1)) ah) (pv' 1))),?_⟩
 k_mem
 exact ⟨⟨h0,h1⟩,q⟩
variable (ue:KD P w K mg base CX0 1 "wind_ticks" (jA K Z))
noncomputable abbrev clZ (Z:Adr):Cl:=⟨Z.bL,Z.ez,Z.dB,Z.pD,Z.bB⟩
inductive fE (K:WA)(Z:Adr)(vs:List V)(H:Hp)(Q:VK)(E:XK):Prop | mk (x dx o b y:Addr) (pl:Int) (gs:List Bool):vs=[.ref x,.int pl,.ref o,.ref b,.ref y]->H x=some (.ins Z.dB dx [])->SqL K H o (gs.map V.bl)->(∀(ol:Addr) (H':Hp),H ol=none->ax x H H'->H' x=some (.ins Z.dB dx [("place",.int pl),("opened",.ref ol),("bells",.ref b),("yard",.ref y)])->H' ol=some (.lst (gs.map V.bl))->Q .non H')->fE K Z vs H Q E
include T in
theorem uV:FF P w K mg base CX0 1 "__init__" "Standing.__init__" fZ mv (fE K Z):=fk0 uM fun vs H Q E h=>by
 obtain ⟨x,dx,o,b,y,pl,gs,rfl,hx,hO,q⟩:=h
 k_all
 refine ⟨_,@ae _ _ _ _ _ (bV (pv' 0) (pv' 1) rfl) (@ae _ _ _ _ _ (bV (pv' 0) (bN cq (by rfl) T.fD dR (pa1 (pv' 2))) rfl) (@ae _ _ _ _ _ (bV (pv' 0) (pv' 3) rfl) (@ag _ _ _ (bV (pv' 0) (pv' 4) rfl)))),?_⟩
 k_mem
 refine ⟨_,_,_,hx,T.aK,T.cI,by decide,?_⟩
 have k1:L2.ax x H (upd H x (HO.ins Z.dB dx (bD "place" (.int pl) []))):=(ax.of (av.refl H)).put
 refine ⟨_,.inl (hO.keepI k1 hx),fun ol hol=>?_⟩
 have nol:ol≠x:=fun z=>by rw [z,af] at hol;cases hol
 refine ⟨_,_,_,upo af hol,T.aK,T.cj,by show 1 < 1000;decide,_,_,_,af,T.aK,T.bW,by show 2 < 1000;decide,_,_,_,af,T.aK,T.bS,by show 3 < 1000;decide,?_⟩
 refine q ol _ (k1.free nol hol) (((k1.trans (ax.of ((av.refl _).lay hol))).put).put.put) ?_ ?_
 ·rw [af];rfl
 ·rw [aB nol,aB nol,aB nol,af]
variable (eF:KN P w K mg base CX0 1 Z.dB (fE K Z))
inductive me (K:WA)(Z:Adr)(vs:List V)(H:Hp)(Q:VK)(E:XK):Prop | mk (x dx f:Addr):vs=[.ref x,.ref f,.int 300]->H x=some (.ins Z.pD dx [])->(∀(rl:Addr) (H':Hp),H rl=none->ax x H H'->H' x=some (.ins Z.pD dx [("first",.ref f),("most",.int 300),("rows",.ref rl)])->H' rl=some (.lst [])->Q .non H')->me K Z vs H Q E
include T in
theorem AB:FF P w K mg base CX0 1 "__init__" "Book.__init__" nF vh (me K Z):=fk0 Ah fun vs H Q E h=>by
 obtain ⟨x,dx,f0,rfl,hx,q⟩:=h
 k_all
 refine ⟨_,@ae _ _ _ _ _ (bV (pv' 0) (pv' 1) rfl) (@ae _ _ _ _ _ (bV (pv' 0) (pv' 2) rfl) (@ag _ _ _ (bV (pv' 0) (bh i7) rfl))),?_⟩
 k_mem
 refine ⟨_,_,_,hx,T.di,T.rd,by decide,_,_,_,af,T.di,T.tO,by show 1 < 1000;decide,by decide,fun rl hrl=>?_⟩
 have k1:L2.ax x H (upd (upd H x (HO.ins Z.pD dx (bD "first" (.ref f0) []))) x (HO.ins Z.pD dx (bD "most" (.int 300) (bD "first" (.ref f0) [])))):=((ax.of (av.refl H)).put).put
 have nrl:rl≠x:=fun z=>by rw [z,af] at hrl;cases hrl
 refine ⟨_,_,_,upo af hrl,T.di,T.cf,by show 2 < 1000;decide,?_⟩
 refine q rl _ (k1.free nrl hrl) ((k1.trans (ax.of ((av.refl _).lay hrl))).put) ?_ ?_
 ·rw [af];rfl
 ·rw [aB nrl,af]
variable (vv:KN P w K mg base CX0 1 Z.pD (me K Z))
inductive ir (K:WA)(Z:Adr)(vs:List V)(H:Hp)(Q:VK)(E:XK):Prop | mk (bk rl:Addr) (g:Cfg) (n0:a8) (rs:List Row):vs=[.ref bk]->BAt (clZ Z) K H bk rl g n0 rs->((rs=[]->E (.ref Z.bt) none H))->((∀rs' r,rs=rs'++[r]->∀p H',ax rl H H'->BAt (clZ Z) K H' bk rl g n0 rs'->SqT K H' p r.deed->Q (.ref p) H'))->ir K Z vs H Q E
include T in
theorem xw:FF P w K mg base (CXf P w) 1 "strike" "Book.strike" ji qO (ir K Z):=fkF wV fun vs H Q E h=>by
 obtain ⟨bk,rl,g,n0,rs,rfl,hB,q1,q2⟩:=h
 k_all
 refine @seg _ _ _ 1 _ (@ag _ _ _ (aC (aN bC (Kv PySem.F.plainAttrs_list PySem.F.slot_list_pop PySem.F.type_list_pop IZ (aq (pv' 0))) ah))) fun zt1 zh1 ze1=>?_
 refine ⟨_,@ae _ _ _ _ _ (bu (dj (wm (aq (pv' 0)) (fun _=>rfl))) (@ag _ _ _ (bA T.yA (by rfl) T.yt (pa1 au))) (aJ)) zh1,?_⟩
 obtain ⟨⟨dx,f0,hob,hF⟩,as,hrl,hR⟩:=id hB
 k_mem
 refine fgo hob T.di T.cf rfl ⟨_,.inl ⟨_,SqL.of hrl,rfl⟩,?_⟩
 rcases fP rs with rfl | ⟨rs',r,rfl⟩
 ·have e:as=[]:=List.length_eq_zero_iff.mp hR.1
  subst e
  k_upd
  exact ⟨by decide,q1 rfl⟩
 ·obtain ⟨as',a,rfl,hR',dd,s,hra,hdd,hs⟩:=hR.last
  k_upd
  rw [if_neg (by simp)]
  k_upd
  refine fgo hob T.di T.cf rfl ?_
  k_mem
  refine ⟨.inl ⟨rfl,_,SqL.of hrl⟩,_,hrl,.ref a,by simp,?_⟩
  have k1:L2.ax rl H (upd H rl (HO.lst ((as'++[a]).map V.ref).dropLast)):=(ax.of (av.refl H)).put
  k_mem
  refine ⟨_,hra.keep k1 hrl,_,rfl,?_⟩
  refine q2 rs' r rfl dd _ k1 ⟨⟨dx,f0,k1 _ _ (fun z=>by rw [z,hrl] at hob;cases hob) hob,hF.keep k1 hrl⟩,as',by rw [af];simp,hR'.keep k1 hrl⟩ (hdd.keep k1 hrl)
variable (rh:KM P w K mg base (CXf P w) 1 Z.pD "strike" (ir K Z))
inductive oU (K:WA)(Z:Adr)(vs:List V)(H:Hp)(Q:VK)(E:XK):Prop | mk (bk rl:Addr) (g:Cfg) (n0:a8) (rs:List Row):vs=[.ref bk]->BAt (clZ Z) K H bk rl g n0 rs->Q (.int (eG rs)) H->oU K Z vs H Q E
include T in
theorem BX:FF P w K mg base CX0 1 "now" "Book.now" rJ wM (oU K Z):=fk0 Br fun vs H Q E h=>by
 obtain ⟨bk,rl,g,n0,rs,rfl,hB,q⟩:=h
 k_all
 refine @seg _ _ _ 1 _ (@ag _ _ _ (aC (aN bC (aN aE (aq (pv' 0)) (bx dU (aD aA (by rfl) T.cV ck (pa1 (aq (pv' 0)))) ah)) ah))) fun zt1 zh1 ze1=>?_
 refine ⟨_,@ae _ _ _ _ _ (bu (dj (wm (aq (pv' 0)) (fun _=>rfl))) (@ag _ _ _ (aC ah)) (aJ)) zh1,?_⟩
 obtain ⟨⟨dx,f0,hob,hF⟩,as,hrl,hR⟩:=id hB
 k_mem
 refine fgo hob T.di T.cf rfl ⟨_,.inl ⟨_,SqL.of hrl,rfl⟩,?_⟩
 rcases fP rs with rfl | ⟨rs',r,rfl⟩
 ·have e:as=[]:=List.length_eq_zero_iff.mp hR.1
  subst e
  k_upd
  exact q
 ·obtain ⟨as',a,rfl,hR',dd,s,hra,_,_⟩:=hR.last
  k_upd
  rw [if_neg (by simp)]
  k_upd
  refine fgo hob T.di T.cf rfl ?_
  k_mem
  refine fgo hob T.di T.cf rfl ?_
  k_mem
  refine ⟨_,.inl (SqL.of hrl),_,SqL.of hrl,_,y6,?_⟩
  k_mem
  refine ⟨_,hra,_,rfl,?_⟩
  rw [uG] at q
  k_upd
  exact q
variable (mf:KM P w K mg base CX0 1 Z.pD "now" (oU K Z))
inductive iu (K:WA)(Z:Adr)(vs:List V)(H:Hp)(Q:VK)(E:XK):Prop | mk (bk rl:Addr) (g:Cfg) (n0:a8) (rs:List Row):vs=[.ref bk]->BAt (clZ Z) K H bk rl g n0 rs->(∀s,dH (clZ Z) K H rl g s (aj n0 rs)->Q (.ref s) H)->iu K Z vs H Q E
include T in
theorem xx:FF P w K mg base CX0 1 "latest" "Book.latest" jj qP (iu K Z):=fk0 wW fun vs H Q E h=>by
 obtain ⟨bk,rl,g,n0,rs,rfl,hB,q⟩:=h
 k_all
 refine @seg _ _ _ 1 _ (@ag _ _ _ (aC (aN bC (aN aE (aq (pv' 0)) (bx dU (aD aA (by rfl) T.cV ck (pa1 (aq (pv' 0)))) ah)) ah))) fun zt1 zh1 ze1=>?_
 refine ⟨_,@ae _ _ _ _ _ (bu (dj (wm (aq (pv' 0)) (fun _=>rfl))) (@ag _ _ _ (aC (aq (pv' 0)))) (aJ)) zh1,?_⟩
 obtain ⟨⟨dx,f0,hob,hF⟩,as,hrl,hR⟩:=id hB
 k_mem
 refine fgo hob T.di T.cf rfl ⟨_,.inl ⟨_,SqL.of hrl,rfl⟩,?_⟩
 rcases fP rs with rfl | ⟨rs',r,rfl⟩
 ·have e:as=[]:=List.length_eq_zero_iff.mp hR.1
  subst e
  k_upd
  exact fgo hob T.di T.rd rfl (q f0 hF)
 ·obtain ⟨as',a,rfl,hR',dd,s,hra,_,hs⟩:=hR.last
  k_upd
  rw [if_neg (by simp)]
  k_upd
  refine fgo hob T.di T.cf rfl ?_
  k_mem
  refine fgo hob T.di T.cf rfl ?_
  k_mem
  refine ⟨_,.inl (SqL.of hrl),_,SqL.of hrl,_,y6,?_⟩
  k_mem
  refine ⟨_,hra,_,rfl,?_⟩
  rw [fQ] at q
  k_upd
  exact q s hs
variable (aF:KM P w K mg base CX0 1 Z.pD "latest" (iu K Z))
inductive mh (K:WA)(Z:Adr)(vs:List V)(H:Hp)(Q:VK)(E:XK):Prop | mk (bk rl:Addr) (g:Cfg) (n0:a8) (rs:List Row):vs=[.ref bk]->BAt (clZ Z) K H bk rl g n0 rs->rs.length<=1000->(∀(p:Addr) (as:List Addr) (H':Hp),H p=none->av H H'->H' p=some (.lst (as.map V.ref))->eH K H' as rs->Q (.ref p) H')->mh K Z vs H Q E
include T in
theorem AD:FF P w K mg base CX0 1 "told" "Book.told" nG vi (mh K Z):=fk0 Ai fun vs H Q E h=>by
 obtain ⟨bk,rl,g,n0,rs,rfl,hB,hn,q⟩:=h
 k_all
 refine ⟨_,@ag _ _ _ (aC (sy ["began","ended","deed","speed","standing"] [none,none,none,none,none] (dO (aq (pv' 0))) (fun _ _ _ _=>(show PG _ _ (sJ K 5 _) from fJ (n:=5) rfl (a7 (aW (i:=0) (show (["began","ended","deed","speed","standing"]:List Str).Nodup by decide +kernel) rfl orL) (a7 (aW (i:=1) (show (["began","ended","deed","speed","standing"]:List Str).Nodup by decide +kernel) rfl orL) (a7 (aW (i:=2) (show (["began","ended","deed","speed","standing"]:List Str).Nodup by decide +kernel) rfl orL) (a7 (aW (i:=3) (show (["began","ended","deed","speed","standing"]:List Str).Nodup by decide +kernel) rfl orL) (a7 (aW (i:=4) (show (["began","ended","deed","speed","standing"]:List Str).Nodup by decide +kernel) rfl orL) dN))))))) (fun _ _ _ _=>iQ) (fun _ _ _ _=>(aO (pa3 (pv' 0) (pv' 1) (pv' 2)))))),?_⟩
 obtain ⟨⟨dx,f0,hob,hF⟩,as,hrl,hR⟩:=id hB
 have hl:=hR.1
 k_mem
 refine fgo hob T.di T.cf rfl ?_
 k_mem
 refine ⟨⟨_,SqL.of hrl⟩,?_⟩
 refine zR rs.length (fun i acc H'=>av H H'/\∃bs:List Addr,acc=bs.map V.ref/\eH K H' bs (rs.take i)) ⟨av.refl H,[],rfl,rfl,fun i a r e _=>by simp at e⟩ ?_ ?_ ?_ ?_
 ·rintro i acc H' hi ⟨s1,_⟩
  have hi':i < as.length:=by omega
  k_upd
  exact ⟨_,.ref as[i],SqL.of (s1 _ _ hrl),by rw [List.getElem?_map,List.getElem?_eq_getElem hi'];rfl⟩
 ·rintro acc H' ⟨s1,_⟩
  k_upd
  exact ⟨_,SqL.of (s1 _ _ hrl),by rw [WB];omega⟩
 ·rintro i acc H1 hi ⟨s1,bs,rfl,hb⟩
  have hi':i < as.length:=by omega
  have hbl:=hb.1
  rw [List.length_take] at hbl
  k_upd
  refine ⟨dQ (by rw [WB];omega),?_⟩
  rintro x H2 ⟨e2,y⟩ M hM
  subst e2
  have hy:=y _ (SqL.of (s1 _ _ hrl))
  rw [List.getElem?_map,List.getElem?_eq_getElem hi'] at hy
  cases hy
  obtain ⟨dd,s,hra,hdd,_⟩:=hR.2 i _ _ (List.getElem?_eq_getElem hi') (List.getElem?_eq_getElem hi)
  k_mem
  refine ⟨_,s1.tup hra,rfl,?_⟩
  k_mem
  refine ⟨⟨rfl,fun k v e=>?_⟩,?_⟩
  ·match k,e with
   | 0,e=>cases e
   | 1,e=>cases e
   | 2,e=>cases e
   | 3,e=>cases e
   | 4,e=>cases e
   | k+5,e=>simp at e
  ·k_upd
   refine ⟨by decide,fun p hp=>hM _ _ ⟨s1.lay hp,bs++[p],by rw [List.map_append];rfl,?_⟩⟩
   rw [List.take_succ_eq_append_getElem hi]
   exact (hb.same ((av.refl _).lay hp)).push ⟨dd,SqT.of af,(s1.lay hp).tup hdd⟩
 ·rintro acc H1 ⟨s1,bs,rfl,hb⟩ p hp
  rw [List.take_length] at hb
  k_upd
  exact q p bs _ (s1.free hp) (s1.lay hp) af (hb.same ((av.refl H1).lay hp))
variable (vw:KM P w K mg base CX0 1 Z.pD "told" (mh K Z))
inductive AE (K:WA)(Z:Adr)(vs:List V)(H:Hp)(Q:VK)(E:XK):Prop | mk (a:Addr) (ns:List Int) (k:Int):vs=[.ref a,.int k]->SqL K H a (ns.map V.int)->0<=k->Q (.int (ns.getD k.toNat 0)) H->AE K Z vs H Q E
include T in
theorem Jj:FF P w K mg base CX0 1 "_law_at" "_law_at" Dc GX (AE K Z):=fk0 Jd fun vs H Q E h=>by
 obtain ⟨a,ns,k,rfl,hS,hk,q⟩:=h
 k_all
 refine @seg _ _ _ 1 _ (@ag _ _ _ (aC ah)) fun zt1 zh1 ze1=>?_
 refine ⟨_,@ae _ _ _ _ _ (bu (Bk (pv' 1) (aD aA (by rfl) T.cV ck (pa1 (pv' 0)))) (@ag _ _ _ (aC (aN aE (pv' 0) (pv' 1)))) (aJ)) zh1,?_⟩
 k_mem
 refine ⟨_,.inl hS,?_⟩
 rw [WB]
 k_upd
 split
 ·rename_i hlt
  k_upd
  exact ⟨_,hS,_,fH hk hlt,q⟩
 ·rename_i hlt
  rw [FO (by omega)] at q
  k_upd
  exact q
variable (jB:KD P w K mg base CX0 1 "_law_at" (AE K Z))
def Jk (c k n:Int)(H:Hp)(_:Nat)(σ:St)(H':Hp):Prop:=H'=H/\∃r t,σ=[some (.int c),some (.int k),some (.int n),some (.int r),t,none]
inductive uW (K:WA)(Z:Adr)(vs:List V)(H:Hp)(Q:VK)(E:XK):Prop | mk (c k n:Int):vs=[.int c,.int k,.int n]->0<=k->k<=100000->0 < n->(∀r:Int,0<=r->r < n->Q (.int r) H)->uW K Z vs H Q E
include T in
theorem E5:FF P w K mg base CX0 1 "_law_draw" "_law_draw" w9 Bn (uW K Z):=fk0 jS fun vs H Q E h=>by
 obtain ⟨c,k,n,rfl,hk0,hk1,hn,q⟩:=h
 k_all
 refine @seg _ _ _ 2 _ (@ag _ _ _ (aC (bx Ac (Ae (kR (bx Eh (pv' 5) (bx cE (pv' 5) ah)) ah) ah) (pv' 2)))) fun zt2 zh2 ze2=>?_
 refine @seg _ _ _ 1 _ (@ae _ _ _ _ _ (@aI _ _ 5 _ _ _ _ jS.nd rfl orL (kR (bx cE (bx cE (Ej (pv' 0) ah) (Ej (pv' 1) ah)) ah) ah) (by rfl) hfA) zh2) fun zt1 zh1 ze1=>?_
 refine ⟨_,@ae _ _ _ _ _ (bu (en (kR (pv' 0) ah) ah) (@ae _ _ _ _ _ (@aI _ _ 3 _ _ _ _ jS.nd rfl orL (Ae (pv' 0) ah) (by rfl) hfA) (@ae _ _ _ _ _ (dZ PassesOwn.never rfl (cK (by rfl) T.dW (pa1 (pv' 1))) (aW (i:=4) jS.nd rfl orL) (@ag _ _ _ (@aI _ _ 3 _ _ _ _ jS.nd rfl orL (Ae (pv' 3) ah) (by rfl) hfA))) (@ag _ _ _ (aC (bx Ac (kR (pv' 3) ah) (pv' 2)))))) (aJ)) zh1,?_⟩
 k_mem
 split
 ·k_upd
  refine ⟨by omega,by omega,c6 (Jk c k n H) ⟨rfl,_,_,rfl⟩ ?_ ?_⟩
  ·rintro i σ H' hi ⟨rfl,r,t,rfl⟩
   k_mem
   exact ⟨rfl,_,_,rfl⟩
  ·rintro σ H' ⟨rfl,r,t,rfl⟩
   k_mem
   exact ⟨hn,q _ (Int.emod_nonneg _ (by omega)) (Int.emod_lt_of_pos _ hn)⟩
 ·k_upd
  refine ⟨.inl ⟨by omega,by omega⟩,hn,q _ (Int.emod_nonneg _ (by omega)) (Int.emod_lt_of_pos _ hn)⟩
variable (cy:KD P w K mg base CX0 1 "_law_draw" (uW K Z))
noncomputable def aT (wy:Nat)(l c:Int):List Dd:=match wy with
 | 0=>[]
 | 1=>[.ring l c]
 | 2=>[.ring l c,.rept c]
 | 3=>[.opn 0]
 | 4=>[.opn 0,.load 0 0]
 | 5=>[.opn 0,.load 0 0,.sht 0]
 | _=>[.fail l]
theorem rZ {K:WA}{H:Hp}:dI K H [] []:=dh.nil
theorem fL {K:WA}{H:Hp}{a:Addr}{d:Dd}{as:List Addr}{ds:List Dd}(h:SqT K H a (ddV d))(t:dI K H as ds):dI K H (a::as) (d::ds):=by
 refine ⟨by rw [List.length_cons,List.length_cons,t.1],fun i b x e1 e2=>?_⟩
 cases i with
 | zero=>cases e1;cases e2;exact h
 | succ i=>exact t.2 i b x e1 e2
inductive xy (K:WA)(Z:Adr)(vs:List V)(H:Hp)(Q:VK)(E:XK):Prop | mk (c l:Int) (wy:Nat):vs=[.int c,.int wy,.int l]->wy < 7->(∀(p:Addr) (as:List Addr) (H':Hp),H p=none->av H H'->H' p=some (.lst (as.map V.ref))->dI K H' as (aT wy l c)->Q (.ref p) H')->xy K Z vs H Q E
include T in
theorem G9:FF P w K mg base CX0 1 "_law_end" "_law_end" Ak Ek (xy K Z):=fk0 xb fun vs H Q E h=>by
 obtain ⟨c,l,wy,rfl,w7,q⟩:=h
 k_all
 refine @seg _ _ _ 2 _ (@ag _ _ _ (aC (aN aE (bh (bZ (bh i7) (bZ (sk sV (pv' 3) zH (mY ah)) (bZ (pv' 3) (bZ (sk sV (pv' 4) zH (mY ah)) (bZ (sk sV (pv' 4) zH (mY ah)) (bZ (pv' 4) (bZ (bh (pa1 (aO (pa2 au (pv' 2))))) i7)))))))) (pv' 1)))) fun zt2 zh2 ze2=>?_
 refine @seg _ _ _ 1 _ (@ae _ _ _ _ _ (@aI _ _ 4 _ _ _ _ xb.nd rfl orL (bh (pa3 (aO (pa2 au ah)) (aO (pa3 au ah ah)) (aO (pa2 au ah)))) (by rfl) hfA) zh2) fun zt1 zh1 ze1=>?_
 refine ⟨_,@ae _ _ _ _ _ (@aI _ _ 3 _ _ _ _ xb.nd rfl orL (bh (pa2 (aO (pa3 au (pv' 2) (pv' 0))) (aO (pa2 au (pv' 0))))) (by rfl) hfA) zh1,?_⟩
 k_mem
 refine ⟨by decide,fun p1 hp1=>?_⟩
 (generalize hE:upd H p1 _=H1 at *;have s1:=bM hE hp1;have e1:=aZ hE;clear hE)
 k_upd
 refine ⟨by decide,fun p2 hp2=>?_⟩
 (generalize hE:upd H1 p2 _=H2 at *;have s2:=bM hE hp2;have e2:=aZ hE;clear hE)
 k_upd
 refine ⟨by decide,fun p3 hp3=>?_⟩
 (generalize hE:upd H2 p3 _=H3 at *;have s3:=bM hE hp3;have e3:=aZ hE;clear hE)
 k_mem
 refine ⟨by decide,fun p4 hp4=>?_⟩
 (generalize hE:upd H3 p4 _=H4 at *;have s4:=bM hE hp4;have e4:=aZ hE;clear hE)
 k_upd
 refine ⟨by decide,fun p5 hp5=>?_⟩
 (generalize hE:upd H4 p5 _=H5 at *;have s5:=bM hE hp5;have e5:=aZ hE;clear hE)
 k_upd
 refine ⟨by decide,fun p6 hp6=>?_⟩
 (generalize hE:upd H5 p6 _=H6 at *;have s6:=bM hE hp6;have e6:=aZ hE;clear hE)
 k_upd
 refine ⟨by decide,fun p7 hp7=>?_⟩
 (generalize hE:upd H6 p7 _=H7 at *;have s7:=bM hE hp7;have e7:=aZ hE;clear hE)
 k_mem
 refine ⟨by decide,fun p8 hp8=>?_⟩
 (generalize hE:upd H7 p8 _=H8 at *;have s8:=bM hE hp8;have e8:=aZ hE;clear hE)
 k_upd
 refine ⟨_,SqL.of (((((s4.trans s5).trans s6).trans s7).trans s8) _ _ e3),fun p9 hp9=>?_⟩
 rw [show vC [V.ref p1,V.ref p2] none (some 1)=[V.ref p1] from CF [p1,p2] V.ref 1 (by simp)]
 (generalize hE:upd H8 p9 _=H9 at *;have s9:=bM hE hp9;have e9:=aZ hE;clear hE)
 k_upd
 refine ⟨_,SqL.of ((s8.trans s9) _ _ e7),fun p10 hp10=>?_⟩
 rw [show vC [V.ref p4,V.ref p5,V.ref p6] none (some 1)=[V.ref p4] from CF [p4,p5,p6] V.ref 1 (by simp)]
 (generalize hE:upd H9 p10 _=H10 at *;have s10:=bM hE hp10;have e10:=aZ hE;clear hE)
 k_upd
 refine ⟨_,SqL.of (((s8.trans s9).trans s10) _ _ e7),fun p11 hp11=>?_⟩
 rw [show vC [V.ref p4,V.ref p5,V.ref p6] none (some 2)=[V.ref p4,V.ref p5] from CF [p4,p5,p6] V.ref 2 (by simp)]
 (generalize hE:upd H10 p11 _=H11 at *;have s11:=bM hE hp11;have e11:=aZ hE;clear hE)
 k_upd
 refine ⟨by decide,fun p12 hp12=>?_⟩
 (generalize hE:upd H11 p12 _=H12 at *;have s12:=bM hE hp12;have e12:=aZ hE;clear hE)
 k_upd
 refine ⟨by decide,fun p13 hp13=>?_⟩
 (generalize hE:upd H12 p13 _=H13 at *;have s13:=bM hE hp13;have e13:=aZ hE;clear hE)
 k_upd
 refine ⟨by decide,fun p14 hp14=>?_⟩
 (generalize hE:upd H13 p14 _=H14 at *;have s14:=bM hE hp14;have e14:=aZ hE;clear hE)
 rcases (by omega:wy=0\/wy=1\/wy=2\/wy=3\/wy=4\/wy=5\/wy=6) with rfl | rfl | rfl | rfl | rfl | rfl | rfl
 ·k_upd
  exact ⟨_,SqL.of e14,_,rfl,q p8 [] _ (((((((s1.trans s2).trans s3).trans s4).trans s5).trans s6).trans s7).free hp8) (((((((((((((s1.trans s2).trans s3).trans s4).trans s5).trans s6).trans s7).trans s8).trans s9).trans s10).trans s11).trans s12).trans s13).trans s14) ((((((s9.trans s10).trans s11).trans s12).trans s13).trans s14) _ _ e8) rZ⟩
 ·k_upd
  exact ⟨_,SqL.of e14,_,rfl,q p9 [p1] _ ((((((((s1.trans s2).trans s3).trans s4).trans s5).trans s6).trans s7).trans s8).free hp9) (((((((((((((s1.trans s2).trans s3).trans s4).trans s5).trans s6).trans s7).trans s8).trans s9).trans s10).trans s11).trans s12).trans s13).trans s14) (((((s10.trans s11).trans s12).trans s13).trans s14) _ _ e9) (fL (SqT.of (((((((((((((s2.trans s3).trans s4).trans s5).trans s6).trans s7).trans s8).trans s9).trans s10).trans s11).trans s12).trans s13).trans s14) _ _ e1)) rZ)⟩
 ·k_upd
  exact ⟨_,SqL.of e14,_,rfl,q p3 [p1,p2] _ ((s1.trans s2).free hp3) (((((((((((((s1.trans s2).trans s3).trans s4).trans s5).trans s6).trans s7).trans s8).trans s9).trans s10).trans s11).trans s12).trans s13).trans s14) (((((((((((s4.trans s5).trans s6).trans s7).trans s8).trans s9).trans s10).trans s11).trans s12).trans s13).trans s14) _ _ e3) (fL (SqT.of (((((((((((((s2.trans s3).trans s4).trans s5).trans s6).trans s7).trans s8).trans s9).trans s10).trans s11).trans s12).trans s13).trans s14) _ _ e1)) (fL (SqT.of ((((((((((((s3.trans s4).trans s5).trans s6).trans s7).trans s8).trans s9).trans s10).trans s11).trans s12).trans s13).trans s14) _ _ e2)) rZ))⟩
 ·k_upd
  exact ⟨_,SqL.of e14,_,rfl,q p10 [p4] _ (((((((((s1.trans s2).trans s3).trans s4).trans s5).trans s6).trans s7).trans s8).trans s9).free hp10) (((((((((((((s1.trans s2).trans s3).trans s4).trans s5).trans s6).trans s7).trans s8).trans s9).trans s10).trans s11).trans s12).trans s13).trans s14) ((((s11.trans s12).trans s13).trans s14) _ _ e10) (fL (SqT.of ((((((((((s5.trans s6).trans s7).trans s8).trans s9).trans s10).trans s11).trans s12).trans s13).trans s14) _ _ e4)) rZ)⟩
 ·k_upd
  exact ⟨_,SqL.of e14,_,rfl,q p11 [p4,p5] _ ((((((((((s1.trans s2).trans s3).trans s4).trans s5).trans s6).trans s7).trans s8).trans s9).trans s10).free hp11) (((((((((((((s1.trans s2).trans s3).trans s4).trans s5).trans s6).trans s7).trans s8).trans s9).trans s10).trans s11).trans s12).trans s13).trans s14) (((s12.trans s13).trans s14) _ _ e11) (fL (SqT.of ((((((((((s5.trans s6).trans s7).trans s8).trans s9).trans s10).trans s11).trans s12).trans s13).trans s14) _ _ e4)) (fL (SqT.of (((((((((s6.trans s7).trans s8).trans s9).trans s10).trans s11).trans s12).trans s13).trans s14) _ _ e5)) rZ))⟩
 ·k_upd
  exact ⟨_,SqL.of e14,_,rfl,q p7 [p4,p5,p6] _ ((((((s1.trans s2).trans s3).trans s4).trans s5).trans s6).free hp7) (((((((((((((s1.trans s2).trans s3).trans s4).trans s5).trans s6).trans s7).trans s8).trans s9).trans s10).trans s11).trans s12).trans s13).trans s14) (((((((s8.trans s9).trans s10).trans s11).trans s12).trans s13).trans s14) _ _ e7) (fL (SqT.of ((((((((((s5.trans s6).trans s7).trans s8).trans s9).trans s10).trans s11).trans s12).trans s13).trans s14) _ _ e4)) (fL (SqT.of (((((((((s6.trans s7).trans s8).trans s9).trans s10).trans s11).trans s12).trans s13).trans s14) _ _ e5)) (fL (SqT.of ((((((((s7.trans s8).trans s9).trans s10).trans s11).trans s12).trans s13).trans s14) _ _ e6)) rZ)))⟩
 ·k_upd
  exact ⟨_,SqL.of e14,_,rfl,q p13 [p12] _ ((((((((((((s1.trans s2).trans s3).trans s4).trans s5).trans s6).trans s7).trans s8).trans s9).trans s10).trans s11).trans s12).free hp13) (((((((((((((s1.trans s2).trans s3).trans s4).trans s5).trans s6).trans s7).trans s8).trans s9).trans s10).trans s11).trans s12).trans s13).trans s14) (s14 _ _ e13) (fL (SqT.of ((s13.trans s14) _ _ e12)) rZ)⟩
variable (wa:KD P w K mg base CX0 1 "_law_end" (xy K Z))
noncomputable def bT:List Str:=["BookFull","UnknownLevel","NoChange","NoCode","NothingRung","UnknownLoad","NotThere","CageEmpty","GateOpen","NotArmed","GateShut","CageTaken","DeadBell"]
noncomputable def uX (wy:Nat)(l c:Int):List (Nat×Dd):=[(if wy=6 then 12 else 0,.ring l c),(if wy=6 then 12 else 3,.ring l 0),(if wy=6 then 2 else 0,.fail l),(1,.ring (-1) 1),(1,.fail 6),(5,.load 3 0),(6,.load 1 0),(if wy=1 then 0 else 4,.rept c),([10,10,10,0,11,11,10].getD wy 0,.load 2 0),([7,7,7,7,0,10,7].getD wy 0,.unload 0),(7,.unload 1)]
def dE (K:WA)(H:Hp)(as:List Addr)(xs:List (Nat×Dd)):Prop:=dh (fun a x=>∃b,H a=some (.tup [.str (bT.getD x.1 ""),.ref b])/\SqT K H b (ddV x.2)) as xs
theorem eW {K:WA}{H H':Hp}{as:List Addr}{xs:List (Nat×Dd)}(h:dE K H as xs)(s:av H H'):dE K H' as xs:=h.imp fun a x ⟨b,e,z⟩=>⟨b,s _ _ e,s.tup z⟩
theorem zu {K:WA}{H H':Hp}{p a b:Addr}{as:List Addr}{xs:List (Nat×Dd)}{i:Nat}{d:Dd}{o:HO}(L:dE K H as xs)(s:av H H')(e:H p=some (.lst (as.map V.ref)))(ea:H' a=some (.tup [.str (bT.getD i ""),.ref b]))(eb:SqT K H' b (ddV d)):dE K (upd H' p o) (as++[a]) (xs++[(i,d)]):=by
 have e':=s _ _ e
 have tn:∀{c:Addr} {ys:List V},H' c=some (.tup ys)->c≠p:=fun h z=>by rw [z,e'] at h;cases h
 exact dh.push ((eW L s).imp fun a x ⟨b,h,z⟩=>⟨b,by rw [aB (tn h)];exact h,z.rew e'⟩) ⟨b,by rw [aB (tn ea)];exact ea,eb.rew e'⟩
theorem iw {K:WA}{H:Hp}{a b:Addr}{as:List Addr}{xs:List (Nat×Dd)}{i:Nat}{d:Dd}(L:dE K H as xs)(ea:H a=some (.tup [.str (bT.getD i ""),.ref b]))(eb:SqT K H b (ddV d)):dE K H (as++[a]) (xs++[(i,d)]):=dh.push L ⟨b,ea,eb⟩
theorem kC {K:WA}{H:Hp}{p q1 q2 q3:Addr}{as:List Addr}{xs:List (Nat×Dd)}{i:Nat}{d:Dd}{o1:HO}{X:Hp->Prop}(L:dE K H as xs)(e:H p=some (.lst (as.map V.ref)))(h1:H q1=none)(h2:upd H q1 o1 q2=none)(h3:upd (upd H q1 o1) q2 (.tup (ddV d)) q3=none)(k:∀H',dE K H' (as++[q3]) (xs++[(i,d)])->H' p=some (.lst ((as++[q3]).map V.ref))->(∀B,av B H->B p=none->av B H')->X H'):X (upd (upd (upd (upd H q1 o1) q2 (.tup (ddV d))) q3 (.tup [.str (bT.getD i ""),.ref q2])) p (.lst (as.map V.ref++[.ref q3]))):=by
 have s:=(((av.refl H).lay (o:=o1) h1).lay (o:=.tup (ddV d)) h2).lay (o:=.tup [.str (bT.getD i ""),.ref q2]) h3
 exact k _ (zu L s e af (SqT.of (upo af h3))) (by rw [af,List.map_append];rfl) fun B sB hB=>(sB.trans s).rewr hB
theorem Dv {as:List V}(h:as.length<=20):as.length < sizeLine:=by rw [sizeLine_eq];omega
inductive uY (K:WA)(Z:Adr)(vs:List V)(H:Hp)(Q:VK)(E:XK):Prop | mk (c l:Int) (wy:Nat):vs=[.int c,.int wy,.int l]->wy < 7->(∀p as H',av H H'->H' p=some (.lst (as.map V.ref))->dE K H' as (uX wy l c)->Q (.ref p) H')->uY K Z vs H Q E
include T in
theorem E6:FF P w K mg base CX0 1 "_law_late" "_law_late" xc Bp (uY K Z):=fk0 gS fun vs H Q E h=>by
 obtain ⟨c,l,wy,rfl,w7,q⟩:=h
 k_all
 refine @seg _ _ _ 10 _ (@ag _ _ _ (aC (bx eD (pv' 4) (bh (pa1 (aO (pa2 au (aO (pa2 au ah))))))))) fun zt10 zh10 ze10=>?_
 refine @seg _ _ _ 9 _ (@ae _ _ _ _ _ (@bj _ _ _ _ (iP PySem.F.plainAttrs_list PySem.F.slot_list_append PySem.F.type_list_append cC (pv' 4) (pa1 (aO (pa2 (aN aE (bh (pa3 au (pv' 3) (pv' 5))) (aN aE (bh (bZ ah (bZ ah (bZ ah (pa4 ah ah ah ah))))) (pv' 1))) (aO (pa2 au ah)))))) (by rfl)) zh10) fun zt9 zh9 ze9=>?_
 refine @seg _ _ _ 8 _ (@ae _ _ _ _ _ (@bj _ _ _ _ (iP PySem.F.plainAttrs_list PySem.F.slot_list_append PySem.F.type_list_append cC (pv' 4) (pa1 (aO (pa2 (aN aE (bh (bZ (pv' 5) (bZ (pv' 5) (bZ (pv' 5) (pa4 (pv' 3) au au (pv' 5)))))) (pv' 1)) (aO (pa3 au ah ah)))))) (by rfl)) zh9) fun zt8 zh8 ze8=>?_
 refine @seg _ _ _ 7 _ (@ae _ _ _ _ _ (@aI _ _ 5 _ _ _ _ gS.nd rfl orL au (by rfl) hfA) zh8) fun zt7 zh7 ze7=>?_
 refine @seg _ _ _ 6 _ (@ae _ _ _ _ _ (@bj _ _ _ _ (iP PySem.F.plainAttrs_list PySem.F.slot_list_append PySem.F.type_list_append cC (pv' 4) (pa1 (aO (pa2 (aN aE (bh (pa2 au (pv' 3))) (bN c9 (by rfl) T.my fW (pa1 (cZ gV (pv' 1) ah (cG _))))) (aO (pa2 au (pv' 0))))))) (by rfl)) zh7) fun zt6 zh6 ze6=>?_
 refine @seg _ _ _ 5 _ (@ae _ _ _ _ _ (@aI _ _ 4 _ _ _ _ gS.nd rfl orL (bx eD (pv' 4) (bh (pa2 (aO (pa2 au (aO (pa3 au ah ah)))) (aO (pa2 au (aO (pa3 au ah ah))))))) (by rfl) hfA) zh6) fun zt5 zh5 ze5=>?_
 refine @seg _ _ _ 4 _ (@ae _ _ _ _ _ (@aI _ _ 4 _ _ _ _ gS.nd rfl orL (bx eD (pv' 4) (bh (pa2 (aO (pa2 au (aO (pa3 au (AW sU ah) ah)))) (aO (pa2 au (aO (pa2 au ah))))))) (by rfl) hfA) zh5) fun zt4 zh4 ze4=>?_
 refine @seg _ _ _ 3 _ (@ae _ _ _ _ _ (@bj _ _ _ _ (iP PySem.F.plainAttrs_list PySem.F.slot_list_append PySem.F.type_list_append cC (pv' 4) (pa1 (aO (pa2 (aN aE (bh (pa2 (pv' 3) au)) (bN c9 (by rfl) T.my fW (pa1 (cZ gV (pv' 1) ah (cG _))))) (aO (pa2 au (pv' 2))))))) (by rfl)) zh4) fun zt3 zh3 ze3=>?_
 refine @seg _ _ _ 2 _ (@ae _ _ _ _ _ (@bj _ _ _ _ (iP PySem.F.plainAttrs_list PySem.F.slot_list_append PySem.F.type_list_append cC (pv' 4) (pa1 (aO (pa2 (aN aE (bh (pa2 au au)) (bN c9 (by rfl) T.my fW (pa1 (cZ gV (pv' 1) ah (cG _))))) (aO (pa3 au (pv' 2) ah)))))) (by rfl)) zh3) fun zt2 zh2 ze2=>?_
 refine @seg _ _ _ 1 _ (@ae _ _ _ _ _ (@aI _ _ 4 _ _ _ _ gS.nd rfl orL (bh (pa1 (aO (pa2 (aN aE (bh (pa2 (pv' 3) au)) (bN c9 (by rfl) T.my fW (pa1 (cZ gV (pv' 1) ah (cG _))))) (aO (pa3 au (pv' 2) (pv' 0))))))) (by rfl) hfA) zh2) fun zt1 zh1 ze1=>?_
 refine ⟨_,@ae _ _ _ _ _ (@aI _ _ 3 _ _ _ _ gS.nd rfl orL au (by rfl) hfA) zh1,?_⟩
 k_mem
 refine ⟨by decide,fun p1 hp1=>?_⟩
 (generalize hE:upd H p1 _=H1 at *;have s1:=bM hE hp1;have e1:=aZ hE;clear hE)
 k_upd
 have w6:decide ((wy:Int)=6)=decide (wy=6):=by by_cases h:wy=6<;>simp [h]<;>omega
 rw [w6]
 k_upd
 refine ⟨_,SqL.of e1,.str (bT.getD (if wy=6 then 12 else 0) ""),by by_cases h:wy=6<;>simp [h]<;>rfl,by decide,fun p2 hp2=>?_⟩
 (generalize hE:upd H1 p2 _=H2 at *;have s2:=bM hE hp2;have e2:=aZ hE;clear hE)
 k_upd
 refine ⟨by decide,fun p3 hp3=>?_⟩
 (generalize hE:upd H2 p3 _=H3 at *;have s3:=bM hE hp3;have e3:=aZ hE;clear hE)
 k_upd
 refine ⟨by decide,fun p4 hp4=>?_⟩
 (generalize hE:upd H3 p4 _=H4 at *;have s4:=bM hE hp4;have e4:=aZ hE;clear hE)
 have L4:dE K H4 [p3] [((if wy=6 then 12 else 0),.ring l c)]:=iw (as:=[]) (xs:=[]) dh.nil (s4 _ _ e3) (SqT.of ((s3.trans s4) _ _ e2))
 have R4:=((s1.trans s2).trans s3).trans s4
 have f4:H p4=none:=((s1.trans s2).trans s3).free hp4
 k_mem
 refine ⟨.inl ⟨rfl,_,SqL.of e4⟩,by decide,fun a1 ha1=>?_⟩
 rw [w6]
 k_upd
 refine ⟨_,SqL.of af,.str (bT.getD (if wy=6 then 12 else 3) ""),by by_cases h:wy=6<;>simp [h]<;>rfl,by decide,fun a2 ha2=>⟨by decide,fun a3 ha3=>⟨_,upo (upo (upo e4 ha1) ha2) ha3,Dv (by simp),?_⟩⟩⟩
 refine kC (X:=fun H'=>zt3 _ _ H') (d:=.ring l 0) L4 e4 ha1 ha2 ha3 fun H5 L5 e5 S5=>?_
 have R5:=S5 H R4 f4
 have f5:=f4
 k_mem
 refine ⟨.inl ⟨rfl,_,SqL.of e5⟩,by decide,fun a1 ha1=>?_⟩
 rw [w6]
 k_upd
 refine ⟨_,SqL.of af,.str (bT.getD (if wy=6 then 2 else 0) ""),by by_cases h:wy=6<;>simp [h]<;>rfl,by decide,fun a2 ha2=>⟨by decide,fun a3 ha3=>⟨_,upo (upo (upo e5 ha1) ha2) ha3,Dv (by simp),?_⟩⟩⟩
 refine kC (X:=fun H'=>zt4 _ _ H') (d:=.fail l) L5 e5 ha1 ha2 ha3 fun H6 L6 e6 S6=>?_
 have R6:=S6 H R5 f5
 have f6:=f5
 k_mem
 refine ⟨by decide,fun b1 hb1=>?_⟩
 (generalize hE:upd H6 b1 _=G1 at *;have t1:=bM hE hb1;have g1:=aZ hE;clear hE)
 k_upd
 refine ⟨by decide,fun b2 hb2=>?_⟩
 (generalize hE:upd G1 b2 _=G2 at *;have t2:=bM hE hb2;have g2:=aZ hE;clear hE)
 k_upd
 refine ⟨by decide,fun b3 hb3=>?_⟩
 (generalize hE:upd G2 b3 _=G3 at *;have t3:=bM hE hb3;have g3:=aZ hE;clear hE)
 k_upd
 refine ⟨by decide,fun b4 hb4=>?_⟩
 (generalize hE:upd G3 b4 _=G4 at *;have t4:=bM hE hb4;have g4:=aZ hE;clear hE)
 k_upd
 refine ⟨by decide,fun b5 hb5=>?_⟩
 (generalize hE:upd G4 b5 _=G5 at *;have t5:=bM hE hb5;have g5:=aZ hE;clear hE)
 have t15:=(((t1.trans t2).trans t3).trans t4).trans t5
 k_upd
 refine ⟨_,t15 _ _ e6,_,g5,by rw [sizeLine_eq];simp,fun b6 hb6=>?_⟩
 have f7:H b6=none:=(R6.trans t15).free hb6
 (generalize hE:upd G5 b6 _=H7 at *;have t6:=bM hE hb6;have e7:=aZ hE;clear hE)
 have R7:=(R6.trans t15).trans t6
 have L7:=iw (i:=1) (d:=.fail 6) (iw (i:=1) (d:=.ring (-1) 1) (eW L6 (t15.trans t6)) ((((t3.trans t4).trans t5).trans t6) _ _ g2) (SqT.of (((((t2.trans t3).trans t4).trans t5).trans t6) _ _ g1))) ((t5.trans t6) _ _ g4) (SqT.of (((t4.trans t5).trans t6) _ _ g3))
 clear g1 g2 g3 g4 g5 t15 t1 t2 t3 t4 t5 t6
 k_mem
 refine ⟨by decide,fun b1 hb1=>?_⟩
 (generalize hE:upd H7 b1 _=G1 at *;have t1:=bM hE hb1;have g1:=aZ hE;clear hE)
 k_upd
 refine ⟨by decide,fun b2 hb2=>?_⟩
 (generalize hE:upd G1 b2 _=G2 at *;have t2:=bM hE hb2;have g2:=aZ hE;clear hE)
 k_upd
 refine ⟨by decide,fun b3 hb3=>?_⟩
 (generalize hE:upd G2 b3 _=G3 at *;have t3:=bM hE hb3;have g3:=aZ hE;clear hE)
 k_upd
 refine ⟨by decide,fun b4 hb4=>?_⟩
 (generalize hE:upd G3 b4 _=G4 at *;have t4:=bM hE hb4;have g4:=aZ hE;clear hE)
 k_upd
 refine ⟨by decide,fun b5 hb5=>?_⟩
 (generalize hE:upd G4 b5 _=G5 at *;have t5:=bM hE hb5;have g5:=aZ hE;clear hE)
 have t15:=(((t1.trans t2).trans t3).trans t4).trans t5
 k_upd
 refine ⟨_,t15 _ _ e7,_,g5,by rw [sizeLine_eq];simp,fun b6 hb6=>?_⟩
 have f8:H b6=none:=(R7.trans t15).free hb6
 (generalize hE:upd G5 b6 _=H8 at *;have t6:=bM hE hb6;have e8:=aZ hE;clear hE)
 have R8:=(R7.trans t15).trans t6
 have L8:=iw (i:=6) (d:=.load 1 0) (iw (i:=5) (d:=.load 3 0) (eW L7 (t15.trans t6)) ((((t3.trans t4).trans t5).trans t6) _ _ g2) (SqT.of (((((t2.trans t3).trans t4).trans t5).trans t6) _ _ g1))) ((t5.trans t6) _ _ g4) (SqT.of (((t4.trans t5).trans t6) _ _ g3))
 clear g1 g2 g3 g4 g5 t15 t1 t2 t3 t4 t5 t6
 have w1:decide ((wy:Int)=1)=decide (wy=1):=by by_cases h:wy=1<;>simp [h]<;>omega
 k_mem
 refine ⟨.inl ⟨rfl,_,SqL.of e8⟩,by decide,fun a1 ha1=>?_⟩
 rw [w1]
 k_upd
 refine ⟨_,SqL.of af,.str (bT.getD (if wy=1 then 0 else 4) ""),by by_cases h:wy=1<;>simp [h]<;>rfl,by decide,fun a2 ha2=>⟨by decide,fun a3 ha3=>⟨_,upo (upo (upo e8 ha1) ha2) ha3,Dv (by simp),?_⟩⟩⟩
 refine kC (X:=fun H'=>zt7 _ _ H') (d:=.rept c) L8 e8 ha1 ha2 ha3 fun H9 L9 e9 S9=>?_
 have R9:=S9 H R8 f8
 have f9:=f8
 have ww:=(by omega:wy=0\/wy=1\/wy=2\/wy=3\/wy=4\/wy=5\/wy=6)
 k_mem
 refine ⟨.inl ⟨rfl,_,SqL.of e9⟩,by decide,fun a1 ha1=>?_⟩
 k_upd
 refine ⟨_,SqL.of af,.str (bT.getD ([10,10,10,0,11,11,10].getD wy 0) ""),(by rcases ww with rfl | rfl | rfl | rfl | rfl | rfl | rfl<;>rfl),by decide,fun a2 ha2=>⟨by decide,fun a3 ha3=>⟨_,upo (upo (upo e9 ha1) ha2) ha3,Dv (by simp),?_⟩⟩⟩
 refine kC (X:=fun H'=>zt9 _ _ H') (d:=.load 2 0) L9 e9 ha1 ha2 ha3 fun H10 L10 e10 S10=>?_
 have R10:=S10 H R9 f9
 have f10:=f9
 k_mem
 refine ⟨.inl ⟨rfl,_,SqL.of e10⟩,by decide,fun c0 hc0=>?_⟩
 (generalize hE:upd H10 c0 _=H11 at *;have t11:=bM hE hc0;have ec:=aZ hE;clear hE)
 have e11:=t11 _ _ e10
 have L11:=eW L10 t11
 have R11:=R10.trans t11
 have f11:=f10
 have nn:(([0,0,0,0,1,2,0]:List Int).map V.int)[wy]?=some (V.int (([0,0,0,0,1,2,0]:List Int).getD wy 0))/\atI [V.str "CageEmpty",V.str "BookFull",V.str "GateShut"] (([0,0,0,0,1,2,0]:List Int).getD wy 0)=some (.str (bT.getD ([7,7,7,7,0,10,7].getD wy 0) "")):=by
  rcases ww with rfl | rfl | rfl | rfl | rfl | rfl | rfl<;>exact ⟨rfl,rfl⟩
 k_upd
 refine ⟨by decide,fun a1 ha1=>⟨_,SqL.of af,.int (([0,0,0,0,1,2,0]:List Int).getD wy 0),eZ nn.1,?_⟩⟩
 k_upd
 refine ⟨_,SqL.of (upo ec ha1),.str (bT.getD ([7,7,7,7,0,10,7].getD wy 0) ""),nn.2,by decide,fun a2 ha2=>⟨by decide,fun a3 ha3=>⟨_,upo (upo (upo e11 ha1) ha2) ha3,Dv (by simp),?_⟩⟩⟩
 refine kC (X:=fun H'=>zt10 _ _ H') (d:=.unload 0) L11 e11 ha1 ha2 ha3 fun H12 L12 e12 S12=>?_
 have R12:=S12 H R11 f11
 k_mem
 refine ⟨by decide,fun b1 hb1=>?_⟩
 (generalize hE:upd H12 b1 _=G1 at *;have t1:=bM hE hb1;have g1:=aZ hE;clear hE)
 k_upd
 refine ⟨by decide,fun b2 hb2=>?_⟩
 (generalize hE:upd G1 b2 _=G2 at *;have t2:=bM hE hb2;have g2:=aZ hE;clear hE)
 k_upd
 refine ⟨by decide,fun b3 hb3=>?_⟩
 (generalize hE:upd G2 b3 _=G3 at *;have t3:=bM hE hb3;have g3:=aZ hE;clear hE)
 k_upd
 refine ⟨_,((t1.trans t2).trans t3) _ _ e12,_,g3,by rw [sizeLine_eq];simp,fun b6 hb6=>?_⟩
 (generalize hE:upd G3 b6 _=H13 at *;have t6:=bM hE hb6;have e13:=aZ hE;clear hE)
 have L13:=iw (i:=7) (d:=.unload 1) (eW L12 (((t1.trans t2).trans t3).trans t6)) ((t3.trans t6) _ _ g2) (SqT.of (((t2.trans t3).trans t6) _ _ g1))
 refine q _ _ _ ((((R12.trans t1).trans t2).trans t3).trans t6) ?_ L13
 exact e13
variable (uf:KD P w K mg base CX0 1 "_law_late" (uY K Z))
noncomputable def zw (gs:List Bool):Nat->List (Nat×Dd)
 | 0=>[]
 | i+1=>zw gs i++[(0,if gs.getD i false=true then .sht i else .opn i)]++[(2,if gs.getD i false=true then .opn i else .sht i)]
noncomputable def ug (ds:List Int)(gs:List Bool):Nat->Bool
 | 0=>gs.getD 0 false
 | i+1=>ug ds gs i || (decide (ds.getD i 0+ds.getD 0 0=cA ds) && gs.getD i false)
noncomputable def pz (ds:List Int)(gs:List Bool)(wy:Nat)(l:Int):List (Nat×Dd):=zw gs ds.length++[(if ug ds gs ds.length=true then 8 else if wy=2 then 0 else 9,.wind 1 l "men")]
theorem uZ (gs:List Bool)(i:Nat):(zw gs i).length=2 * i:=by
 induction i with
 | zero=>rfl
 | succ i ih=>show (zw gs i++_++_).length=_;rw [List.length_append,List.length_append,ih];show 2 * i+1+1=_;omega
theorem Dw {K:WA}{H:Hp}{p q1 q2 q3 q4:Addr}{as:List Addr}{xs:List (Nat×Dd)}{i:Nat}{d1 d2:Dd}{b:Bool}{o:HO}{X:Hp->Prop}(L:dE K H as xs)(e:H p=some (.lst (as.map V.ref)))(h1:H q1=none)(h2:upd H q1 (.tup (ddV d1)) q2=none)(h3:upd (upd H q1 (.tup (ddV d1))) q2 (.tup (ddV d2)) q3=none)(h4:upd (upd (upd H q1 (.tup (ddV d1))) q2 (.tup (ddV d2))) q3 o q4=none)(k:∀H',dE K H' (as++[q4]) (xs++[(i,if b=true then d2 else d1)])->H' p=some (.lst ((as++[q4]).map V.ref))->(∀B,av B H->B p=none->av B H')->X H'):X (upd (upd (upd (upd (upd H q1 (.tup (ddV d1))) q2 (.tup (ddV d2))) q3 o) q4 (.tup [.str (bT.getD i ""),.ref (if b=true then q2 else q1)])) p (.lst (as.map V.ref++[.ref q4]))):=by
 have s:=((((av.refl H).lay (o:=.tup (ddV d1)) h1).lay (o:=.tup (ddV d2)) h2).lay (o:=o) h3).lay (o:=.tup [.str (bT.getD i ""),.ref (if b=true then q2 else q1)]) h4
 refine k _ (zu L s e af ?_) (by rw [af,List.map_append];rfl) fun B sB hB=>(sB.trans s).rewr hB
 cases b
 ·exact SqT.of (upo (upo (upo af h2) h3) h4)
 ·exact SqT.of (upo (upo af h3) h4)
theorem zx {K:WA}{H H':Hp}{p q1 q2 q3 q4:Addr}{as:List Addr}{xs:List (Nat×Dd)}{i:Nat}{d1 d2:Dd}{b:Bool}{o:HO}(L:dE K H as xs)(e:H p=some (.lst (as.map V.ref)))(h1:H q1=none)(h2:upd H q1 (.tup (ddV d1)) q2=none)(h3:upd (upd H q1 (.tup (ddV d1))) q2 (.tup (ddV d2)) q3=none)(h4:upd (upd (upd H q1 (.tup (ddV d1))) q2 (.tup (ddV d2))) q3 o q4=none)(hE:upd (upd (upd (upd (upd H q1 (.tup (ddV d1))) q2 (.tup (ddV d2))) q3 o) q4 (.tup [.str (bT.getD i ""),.ref (if b=true then q2 else q1)])) p (.lst (as.map V.ref++[.ref q4]))=H'):dE K H' (as++[q4]) (xs++[(i,if b=true then d2 else d1)])/\H' p=some (.lst ((as++[q4]).map V.ref))/\∀B,av B H->B p=none->av B H':=by
 rw [←hE]
 exact Dw (X:=fun H'=>dE K H' (as++[q4]) (xs++[(i,if b=true then d2 else d1)])/\H' p=some (.lst ((as++[q4]).map V.ref))/\∀B,av B H->B p=none->av B H') L e h1 h2 h3 h4 fun H' a b c=>⟨a,b,c⟩
theorem two26 {b:Bool}{q1 q2:Addr}:atI [V.ref q1,V.ref q2] (if b=true then 1 else 0)=some (.ref (if b=true then q2 else q1)):=by cases b<;>rfl
inductive gv (K:WA)(Z:Adr)(vs:List V)(H:Hp)(Q:VK)(E:XK):Prop | mk (dl gl:Addr) (ds:List Int) (gs:List Bool) (l:Int) (wy:Nat):vs=[.ref dl,.int wy,.int l,.ref gl]->H dl=some (.lst (ds.map V.int))->H gl=some (.lst (gs.map V.bl))->cn ds->gs.length=ds.length->wy < 7->(∀p as H',av H H'->H' p=some (.lst (as.map V.ref))->dE K H' as (pz ds gs wy l)->Q (.ref p) H')->gv K Z vs H Q E
include T in
theorem vP:FF P w K mg base CX0 1 "_law_late_gates" "_law_late_gates" ig nA (gv K Z):=fk0 cX fun vs H Q E h=>by
 obtain ⟨dl,gl,ds,gs,l,wy,rfl,hdl,hgl,hsh,lg,w7,q⟩:=h
 k_all
 refine @seg _ _ _ 4 _ (@ag _ _ _ (aC (bx eD (pv' 5) (bh (pa1 (aO (pa2 (aN aE (bh (pa2 (pv' 7) au)) (bN c9 (by rfl) T.my fW (pa1 (pv' 4)))) (aO (pa4 au ah (pv' 2) au))))))))) fun zt4 zh4 ze4=>?_
 refine @seg _ _ _ 3 _ (@ae _ _ _ _ _ (@aI _ _ 7 _ _ _ _ cX.nd rfl orL (aN aE (bh (pa2 au au)) (bN c9 (by rfl) T.my fW (pa1 (cZ gV (pv' 1) ah (cG _))))) (by rfl) hfA) zh4) fun zt3 zh3 ze3=>?_
 refine @seg _ _ _ 2 _ (@ae _ _ _ _ _ (dZ PassesOwn.never rfl (cK (by rfl) T.dW (pa1 (aD aA (by rfl) T.cV ck (pa1 (pv' 0))))) (aW (i:=6) cX.nd rfl orL) (@ae _ _ _ _ _ (bu (zE (en (bx cE (aN aE (pv' 0) (pv' 6)) (aN aE (pv' 0) ah)) (aN aE (pv' 0) (AW sU ah))) (vU (cb (aN aE (pv' 3) (pv' 6))))).pt (@ag _ _ _ (@aI _ _ 4 _ _ _ _ cX.nd rfl orL fA (by rfl) hfA)) (aJ)) (@ae _ _ _ _ _ (@bj _ _ _ _ (iP PySem.F.plainAttrs_list PySem.F.slot_list_append PySem.F.type_list_append cC (pv' 5) (pa1 (aO (pa2 au (aN aE (bh (pa2 (aO (pa2 au (pv' 6))) (aO (pa2 au (pv' 6))))) (bN c9 (by rfl) T.my fW (pa1 (aN aE (pv' 3) (pv' 6))))))))) (by rfl)) (@ag _ _ _ (@bj _ _ _ _ (iP PySem.F.plainAttrs_list PySem.F.slot_list_append PySem.F.type_list_append cC (pv' 5) (pa1 (aO (pa2 au (aN aE (bh (pa2 (aO (pa2 au (pv' 6))) (aO (pa2 au (pv' 6))))) (bN c9 (by rfl) T.my fW (pa1 (aN aE (pv' 3) (pv' 6))))))))) (by rfl)))))) zh3) fun zt2 zh2 ze2=>?_
 refine @seg _ _ _ 1 _ (@ae _ _ _ _ _ (@aI _ _ 5 _ _ _ _ cX.nd rfl orL (bh i7) (by rfl) hfA) zh2) fun zt1 zh1 ze1=>?_
 refine ⟨_,@ae _ _ _ _ _ (@aI _ _ 4 _ _ _ _ cX.nd rfl orL (aN aE (pv' 3) ah) (by rfl) hfA) zh1,?_⟩
 have l2:=hsh.l2
 have l6:=hsh.l6
 have hix:∀i:Nat,i < ds.length->atI (ds.map V.int) (i:Int)=some (.int (ds.getD i 0)):=fun i h=>eZ (by rw [List.getElem?_map,List.getElem?_eq_getElem (by omega)];simp [List.getD_eq_getElem?_getD,List.getElem?_eq_getElem h])
 k_mem
 refine ⟨_,SqL.of hgl,_,i9 (by omega) (by omega),?_⟩
 k_mem
 refine ⟨by decide,fun m hm=>?_⟩
 (generalize hE:upd H m _=H1 at *;have s1:=bM hE hm;have em:=aZ hE;clear hE)
 k_mem
 refine ⟨_,.inl (SqL.of (s1 _ _ hdl)),by rw [WB];omega,by rw [WB];omega,?_⟩
 k_upd
 refine c6 (fun i σ H'=>∃(as:List Addr) (t6:Option V),σ=[some (.ref dl),some (.int wy),some (.int l),some (.ref gl),some (.bl (ug ds gs i)),some (.ref m),t6,none]/\av H H'/\H' m=some (.lst (as.map V.ref))/\dE K H' as (zw gs i)) ⟨[],_,rfl,s1,em,dh.nil⟩ ?_ ?_
 ·rintro i σ H2 hi ⟨as,t6,rfl,s2,em2,hL⟩
  rw [WB] at hi
  have e2m:=em2
  have hd2:=s2 _ _ hdl
  have hg2:=s2 _ _ hgl
  have asl:as.length=2 * i:=by rw [hL.1,uZ]
  have gi:atI (gs.map V.bl) (0+(i:Int))=some (.bl (gs.getD i false)):=by rw [i9 (by omega) (by omega)];congr 3;omega
  have fm:H m=none:=hm
  k_mem
  have hlast:atI (ds.map V.int) (-1)=some (.int (cA ds)):=KP (by omega)
  k_upd
  refine ⟨_,SqL.of hd2,_,by rw [Int.zero_add];exact hix i hi,_,SqL.of hd2,_,hix 0 (by omega),?_⟩
  k_upd
  refine ⟨_,SqL.of hd2,_,hlast,?_⟩
  have hcase:(ds.getD i 0+ds.getD 0 0=cA ds/\gs.getD i false=true)\/(ds.getD i 0+ds.getD 0 0=cA ds/\¬gs.getD i false=true)\/¬ds.getD i 0+ds.getD 0 0=cA ds:=by
   by_cases hq:ds.getD i 0+ds.getD 0 0=cA ds
   ·by_cases hb:gs.getD i false=true
    ·exact .inl ⟨hq,hb⟩
    ·exact .inr (.inl ⟨hq,hb⟩)
   ·exact .inr (.inr hq)
  show (if ds.getD i 0+ds.getD 0 0=cA ds then _ else _)
  rcases hcase with ⟨hq,hb⟩ | ⟨hq,hb⟩ | hq
  all_goals first
   | (rw [if_pos hq];refine ⟨_,SqL.of hg2,_,gi,?_⟩;show (if gs.getD i false=true then _ else _);rw [if_pos hb];have hw:true=ug ds gs (i+1):=(by show _=(_ || _);rw [hb,decide_eq_true hq];simp);rw [hw])
   | (rw [if_pos hq];refine ⟨_,SqL.of hg2,_,gi,?_⟩;show (if gs.getD i false=true then _ else _);rw [if_neg hb];have hw:ug ds gs i=ug ds gs (i+1):=(by show _=(_ || _);rw [Bool.eq_false_iff.mpr hb];simp);rw [hw])
   | (rw [if_neg hq];have hw:ug ds gs i=ug ds gs (i+1):=(by show _=(_ || _);rw [decide_eq_false hq];simp);rw [hw])
  all_goals
   k_upd
   refine ⟨.inl ⟨rfl,_,SqL.of em2⟩,by decide,fun a1 h1=>⟨by decide,fun a2 h2=>⟨by decide,fun a3 h3=>?_⟩⟩⟩
   k_upd
   refine ⟨_,SqL.of (upo (upo (upo hg2 h1) h2) h3),_,gi,?_⟩
   k_upd
   refine ⟨_,SqL.of af,_,two26,by decide,fun a4 h4=>⟨_,upo (upo (upo (upo em2 h1) h2) h3) h4,Dv (by simp;omega),?_⟩⟩
   generalize hE:upd _ m _=H3 at *
   obtain ⟨LH3,eH3,SH3⟩:=zx (i:=0) (d1:=.opn (0+(i:Int))) (d2:=.sht (0+(i:Int))) hL em2 h1 h2 h3 h4 hE
   have s3:=SH3 H s2 fm
   have hg3:=s3 _ _ hgl
   clear hE h1 h2 h3 h4
   k_upd
   refine ⟨.inl ⟨rfl,_,SqL.of eH3⟩,by decide,fun a1 h1=>⟨by decide,fun a2 h2=>⟨by decide,fun a3 h3=>?_⟩⟩⟩
   k_upd
   refine ⟨_,SqL.of (upo (upo (upo hg3 h1) h2) h3),_,gi,?_⟩
   k_upd
   refine ⟨_,SqL.of af,_,two26,by decide,fun a4 h4=>⟨_,upo (upo (upo (upo eH3 h1) h2) h3) h4,Dv (by simp;omega),?_⟩⟩
   generalize hE:upd _ m _=H4 at *
   obtain ⟨LH4,eH4,SH4⟩:=zx (i:=2) (d1:=.sht (0+(i:Int))) (d2:=.opn (0+(i:Int))) LH3 eH3 h1 h2 h3 h4 hE
   have s4:=SH4 H s3 fm
   clear hE h1 h2 h3 h4
   k_mem
   rw [Int.zero_add] at LH4
   k_upd
   exact ⟨_,_,rfl,s4,eH4,LH4⟩
 ·rintro σ H2 ⟨as,t6,rfl,s2,em2,hL⟩
  rw [show ((((ds.map V.int).length:Nat):Int)).toNat=ds.length by rw [WB];omega] at *
  have w2:decide ((wy:Int)=2)=decide (wy=2):=by by_cases h:wy=2<;>simp [h]<;>omega
  k_mem
  refine ⟨by decide,fun a1 h1=>?_⟩
  (generalize hE:upd H2 a1 _=H3 at *;have t1:=bM hE h1;have e1:=aZ hE;clear hE)
  rw [w2]
  k_upd
  refine ⟨_,SqL.of e1,.str (bT.getD (if wy=2 then 0 else 9) ""),by by_cases h:wy=2<;>simp [h]<;>rfl,?_⟩
  k_mem
  refine ⟨by decide,fun a2 h2=>?_⟩
  (generalize hE:upd H3 a2 _=H4 at *;have t2:=bM hE h2;have e2:=aZ hE;clear hE)
  k_upd
  refine ⟨_,SqL.of e2,.str (bT.getD (if ug ds gs ds.length=true then 8 else if wy=2 then 0 else 9) ""),by cases ug ds gs ds.length<;>rfl,by decide,fun b1 hb1=>?_⟩
  (generalize hE:upd H4 b1 _=H5 at *;have t3:=bM hE hb1;have e3:=aZ hE;clear hE)
  k_upd
  refine ⟨by decide,fun b2 hb2=>?_⟩
  (generalize hE:upd H5 b2 _=H6 at *;have t4:=bM hE hb2;have e4:=aZ hE;clear hE)
  k_upd
  refine ⟨by decide,fun b3 hb3=>?_⟩
  (generalize hE:upd H6 b3 _=H7 at *;have t5:=bM hE hb3;have e5:=aZ hE;clear hE)
  have t26:=(((t1.trans t2).trans t3).trans t4).trans t5
  have asl:as.length=2 * ds.length:=by rw [hL.1,uZ]
  k_upd
  refine ⟨_,t26 _ _ em2,_,e5,by rw [sizeLine_eq];simp;omega,fun b6 hb6=>?_⟩
  (generalize hE:upd H7 b6 _=H8 at *;have t6':=bM hE hb6;have e6:=aZ hE;clear hE)
  refine q _ (as++[b2]) _ ((s2.trans t26).trans t6') (by rw [e6,List.map_append];rfl) ?_
  exact iw (i:=if ug ds gs ds.length=true then 8 else if wy=2 then 0 else 9) (d:=.wind 1 l "men") (eW hL (t26.trans t6')) ((t5.trans t6') _ _ e4) (SqT.of (((t4.trans t5).trans t6') _ _ e3))
variable (fu:KD P w K mg base CX0 1 "_law_late_gates" (gv K Z))
inductive ix (K:WA)(Z:Adr)(vs:List V)(H:Hp)(Q:VK)(E:XK):Prop | mk (lv m:Int):vs=[.int lv,.int m]->((0<=lv/\lv < m->Q .non H)/\(¬(0<=lv/\lv < m)->E (.ref Z.ao) none H))->ix K Z vs H Q E
include T eL in
theorem xA:FF P w K mg base (CXf P w) 2 "check_level" "check_level" jc qI (ix K Z):=fkF wO fun vs H Q E h=>by
 obtain ⟨lv,m,rfl,q1,q2⟩:=h
 k_all
 refine ⟨_,@ag _ _ _ (bu (dj (cb (dc0 eL hr.dn (pa2 (pv' 0) (pv' 1))))) (@ag _ _ _ (bA T.xo (by rfl) T.nL (pa1 au))) (aJ)),?_⟩
 k_mem
 refine ⟨_,_,rfl,?_⟩
 k_mem
 split
 ·rename_i h
  k_upd
  exact ⟨by decide,q2 h⟩
 ·rename_i h
  k_upd
  exact q1 (by simpa using h)
variable (bP:KD P w K mg base (CXf P w) 2 "check_level" (ix K Z))
inductive jC (K:WA)(Z:Adr)(vs:List V)(H:Hp)(Q:VK)(E:XK):Prop | mk (n m:Int):vs=[.int n,.int m]->((0<=n/\n < m->Q .non H)/\(¬(0<=n/\n < m)->E (.ref Z.ay) none H))->jC K Z vs H Q E
include T eL in
theorem yG:FF P w K mg base (CXf P w) 2 "check_load" "check_load" kS sW (jC K Z):=fkF yf fun vs H Q E h=>by
 obtain ⟨n,m,rfl,q1,q2⟩:=h
 k_all
 refine ⟨_,@ag _ _ _ (bu (dj (cb (dc0 eL hr.dn (pa2 (pv' 0) (pv' 1))))) (@ag _ _ _ (bA T.yu (by rfl) T.qY (pa1 au))) (aJ)),?_⟩
 k_mem
 refine ⟨_,_,rfl,?_⟩
 k_mem
 split
 ·rename_i h
  k_upd
  exact ⟨by decide,q2 h⟩
 ·rename_i h
  k_upd
  exact q1 (by simpa using h)
variable (gK:KD P w K mg base (CXf P w) 2 "check_load" (jC K Z))
def ME (l:Addr)(m:Int)(ls:List Ld)(H:Hp)(i:Nat)(σ:St)(H':Hp):Prop:=H'=H/\(∃t u v,σ=[some (.ref l),some (.int m),t,u,v])/\∀(j:Nat) x,j < i->ls[j]?=some x->rB m x
inductive iz (K:WA)(Z:Adr)(vs:List V)(H:Hp)(Q:VK)(E:XK):Prop | mk (l:Addr) (ls:List Ld) (m:Int):vs=[.ref l,.int m]->dS K H l ls->(((ls.length<=30/\∀x∈ls,rB m x)->Q .non H))->((¬(ls.length<=30/\∀x∈ls,rB m x)->E (.ref Z.cw) none H))->iz K Z vs H Q E
include T eL in
theorem xB:FF P w K mg base (CXf P w) 2 "check_loads" "check_loads" jd qJ (iz K Z):=fkF ff fun vs H Q E h=>by
 obtain ⟨l,ls,m,rfl,hL,q1,q2⟩:=h
 k_all
 refine @seg _ _ _ 1 _ (@ag _ _ _ (dZ A5 rfl (dO (pv' 0)) (fJ rfl (a7 (aW (i:=2) ff.nd rfl orL) (a7 (aW (i:=3) ff.nd rfl orL) (a7 (aW (i:=4) ff.nd rfl orL) dN)))) (@ag _ _ _ (bu (mL (dj (cb (dc0 eL hr.dn (pa2 (pv' 3) (pv' 1))))) (i6 (dj (cb (dc0 eL hr.dn (pa2 (pv' 4) (pv' 1))))))).pt (@ag _ _ _ (bA T.xq (by rfl) T.xg (pa1 au))) (aJ))))) fun zt1 zh1 ze1=>?_
 refine ⟨_,@ae _ _ _ _ _ (bu (Ei (aD aA (by rfl) T.cV ck (pa1 (pv' 0))) (c3 (by rfl) T.An)) (@ag _ _ _ (bA T.xq (by rfl) T.xg (pa1 au))) (aJ)) zh1,?_⟩
 obtain ⟨as,hS,hlen,hT⟩:=id hL
 k_mem
 refine ⟨_,.inl hS,?_⟩
 rw [WB]
 k_upd
 split
 ·k_upd
  exact ⟨by decide,q2 fun h=>by omega⟩
 ·k_upd
  refine ⟨⟨_,hS⟩,?_⟩
  k_upd
  refine jO (as.map V.ref) (ME l m ls H) ⟨rfl,⟨_,_,_,rfl⟩,fun j x h=>absurd h (Nat.not_lt_zero _)⟩ (fun i σ H' _ ⟨e,_⟩=>by rw [e];exact hS) ?_ ?_
  ·rintro i x σ H' hx ⟨rfl,⟨t,u,v,rfl⟩,hj⟩
   rw [List.getElem?_map] at hx
   obtain ⟨a,ea,rfl⟩:=Option.map_eq_some_iff.mp hx
   have hi:i < as.length:=(List.getElem?_eq_some_iff.mp ea).1
   have el:ls[i]?=some ls[i]:=List.getElem?_eq_getElem (by omega)
   have hm:ls[i]∈ls:=List.getElem_mem _
   k_mem
   refine ⟨_,hT i a _ ea el,rfl,?_⟩
   k_mem
   refine ⟨_,_,rfl,?_⟩
   k_mem
   split
   ·rename_i h1
    k_upd
    exact ⟨by decide,q2 fun h=>h1 (h.2 _ hm).1⟩
   ·rename_i h1
    k_upd
    refine ⟨_,_,rfl,?_⟩
    k_mem
    split
    ·rename_i h2
     k_upd
     exact ⟨by decide,q2 fun h=>h2 (h.2 _ hm).2⟩
    ·rename_i h2
     k_upd
     refine ⟨rfl,⟨_,_,_,rfl⟩,fun j x hj' hx=>?_⟩
     by_cases e:j=i
     ·rw [e,el] at hx
      cases hx
      k_upd
      exact ⟨by omega,by omega⟩
     ·exact hj j x (by omega) hx
  ·rintro σ H' ⟨rfl,⟨t,u,v,rfl⟩,hj⟩
   k_mem
   refine q1 ⟨by omega,fun x hx=>?_⟩
   obtain ⟨j,hj1,rfl⟩:=List.getElem_of_mem hx
   rw [WB] at hj
   exact hj j _ (by omega) (List.getElem?_eq_getElem hj1)
variable (rj:KD P w K mg base (CXf P w) 2 "check_loads" (iz K Z))
def MF (l:Addr)(m:Int)(ls:List Cd)(H:Hp)(i:Nat)(σ:St)(H':Hp):Prop:=H'=H/\(∃t u,σ=[some (.ref l),some (.int m),t,u])/\∀(j:Nat) x,j < i->ls[j]?=some x->dM x
inductive iA (K:WA)(Z:Adr)(vs:List V)(H:Hp)(Q:VK)(E:XK):Prop | mk (l:Addr) (ls:List Cd) (m:Int):vs=[.ref l,.int m]->i8 cdV K H l ls->((((ls.length:Int)=m/\∀x∈ls,dM x)->Q .non H))->((¬((ls.length:Int)=m/\∀x∈ls,dM x)->E (.ref Z.cx) none H))->iA K Z vs H Q E
include T eA in
theorem xC:FF P w K mg base (CXf P w) 2 "check_codes" "check_codes" jf qL (iA K Z):=fkF gY fun vs H Q E h=>by
 obtain ⟨l,ls,m,rfl,hL,q1,q2⟩:=h
 k_all
 refine @seg _ _ _ 1 _ (@ag _ _ _ (dZ A5 rfl (dO (pv' 0)) (fJ rfl (a7 (aW (i:=2) gY.nd rfl orL) (a7 (aW (i:=3) gY.nd rfl orL) dN))) (@ae _ _ _ _ _ (bu (mL (dj (cb (dc0 eA hr.dn (pa1 (pv' 2))))) (i6 (dj (cb (dc0 eA hr.dn (pa1 (pv' 3))))))).pt (@ag _ _ _ (bA T.rT (by rfl) T.rO (pa1 au))) (aJ)) (@ag _ _ _ (bu (en (pv' 2) (pv' 3)) (@ag _ _ _ (bA T.rT (by rfl) T.rO (pa1 au))) (aJ)))))) fun zt1 zh1 ze1=>?_
 refine ⟨_,@ae _ _ _ _ _ (bu (wF (aD aA (by rfl) T.cV ck (pa1 (pv' 0))) (pv' 1)) (@ag _ _ _ (bA T.rT (by rfl) T.rO (pa1 au))) (aJ)) zh1,?_⟩
 obtain ⟨as,hS,hlen,hT⟩:=id hL
 k_mem
 refine ⟨_,.inl hS,?_⟩
 rw [WB]
 k_upd
 split
 ·k_upd
  exact ⟨by decide,q2 fun h=>by omega⟩
 ·k_upd
  refine ⟨⟨_,hS⟩,?_⟩
  k_upd
  refine jO (as.map V.ref) (MF l m ls H) ⟨rfl,⟨_,_,rfl⟩,fun j x h=>absurd h (Nat.not_lt_zero _)⟩ (fun i σ H' _ ⟨e,_⟩=>by rw [e];exact hS) ?_ ?_
  ·rintro i x σ H' hx ⟨rfl,⟨t,u,rfl⟩,hj⟩
   rw [List.getElem?_map] at hx
   obtain ⟨a,ea,rfl⟩:=Option.map_eq_some_iff.mp hx
   have hi:i < as.length:=(List.getElem?_eq_some_iff.mp ea).1
   have el:ls[i]?=some ls[i]:=List.getElem?_eq_getElem (by omega)
   have hm:ls[i]∈ls:=List.getElem_mem _
   k_mem
   refine ⟨_,hT i a _ ea el,rfl,?_⟩
   k_mem
   refine ⟨_,rfl,?_⟩
   k_mem
   split
   ·rename_i h1
    k_upd
    exact ⟨by decide,q2 fun h=>h1 (h.2 _ hm).1⟩
   ·rename_i h1
    k_upd
    refine ⟨_,rfl,?_⟩
    k_mem
    split
    ·rename_i h2
     k_upd
     exact ⟨by decide,q2 fun h=>h2 (h.2 _ hm).2.1⟩
    ·rename_i h2
     k_upd
     split
     ·rename_i h3
      k_upd
      exact ⟨by decide,q2 fun h=>(h.2 _ hm).2.2 h3⟩
     ·rename_i h3
      k_upd
      refine ⟨rfl,⟨_,_,rfl⟩,fun j x hj' hx=>?_⟩
      by_cases e:j=i
      ·rw [e,el] at hx
       cases hx
       k_upd
       exact ⟨by omega,by omega,h3⟩
      ·exact hj j x (by omega) hx
  ·rintro σ H' ⟨rfl,⟨t,u,rfl⟩,hj⟩
   k_mem
   refine q1 ⟨by omega,fun x hx=>?_⟩
   obtain ⟨j,hj1,rfl⟩:=List.getElem_of_mem hx
   exact hj j _ (by rw [WB];omega) (List.getElem?_eq_getElem hj1)
variable (rk:KD P w K mg base (CXf P w) 2 "check_codes" (iA K Z))
inductive gw (K:WA)(Z:Adr)(vs:List V)(H:Hp)(Q:VK)(E:XK):Prop | mk (b cs fl st:Addr) (ls:List Cd) (fs:List Bool) (e:Eng) (s:Int):vs=[.ref b,.int s]->bH Z.bL K H b cs fl st ls fs e->(((∀l r,e≠.wait l r)->E (.ref Z.az) none H))->((∀l r,e=.wait l r->¬(1<=s/\s<=9)->E (.ref Z.br) none H))->((∀l r,e=.wait l r->(1<=s/\s<=9)->∀st' p H',H p=none->ax b H H'->bH Z.bL K H' b cs fl st' ls fs (if s=r then .armed l r else .other l r s)->SqT K H' p [.bl (decide (s=r)),.int r,.int s]->Q (.ref p) H'))->gw K Z vs H Q E
include T eA in
theorem vQ:FF P w K mg base (CXf P w) 2 "repeat" "Bells.repeat" gZ nh (gw K Z):=fkF eE fun vs H Q E h=>by
 obtain ⟨b,cs,fl,st,ls,fs,e,s,rfl,hB,q1,q2,q3⟩:=h
 k_all
 refine ⟨_,@ae _ _ _ _ _ (bu (wF (aN bC (aq (pv' 0)) ah) au) (@ag _ _ _ (bA T.yw (by rfl) T.qZ (pa1 au))) (aJ)) (@ae _ _ _ _ _ (bu (dj (cb (dc0 eA hr.dn (pa1 (pv' 1))))) (@ag _ _ _ (bA T.BD (by rfl) T.xi (pa1 au))) (aJ)) (@ae _ _ _ _ _ (@aI _ _ 2 _ _ _ _ eE.nd rfl orL (aN bC (aq (pv' 0)) ah) (by rfl) hfA) (@ae _ _ _ _ _ (@aI _ _ 3 _ _ _ _ eE.nd rfl orL (aN bC (aq (pv' 0)) ah) (by rfl) hfA) (@ae _ _ _ _ _ (@aI _ _ 4 _ _ _ _ eE.nd rfl orL (cZ gV (pv' 1) (pv' 3) (cG _)) (by rfl) hfA) (@ae _ _ _ _ _ (bV (pv' 0) (aO (pa4 (AS (cb (pv' 4)) au au) (pv' 2) (pv' 3) (pv' 1))) rfl) (@ag _ _ _ (aC (aO (pa3 (pv' 4) (pv' 3) (pv' 1)))))))))),?_⟩
 obtain ⟨⟨dx,hob⟩,⟨as,hcs,hT⟩,hfl,hst,nn,ln⟩:=id hB
 k_mem
 refine fgo hob T.bG T.bI rfl ?_
 k_mem
 cases e with
 | wait l r=>
  refine ⟨_,hst,_,rfl,?_⟩
  k_mem
  refine ⟨_,rfl,?_⟩
  k_mem
  split
  ·rename_i h
   exact ⟨by decide,q2 l r rfl h⟩
  ·rename_i h
   have hs:1<=s/\s<=9:=by simpa using h
   refine fgo hob T.bG T.bI rfl ?_
   k_mem
   refine ⟨_,hst,_,rfl,?_⟩
   k_mem
   refine fgo hob T.bG T.bI rfl ?_
   k_mem
   refine ⟨_,hst,_,rfl,?_⟩
   k_mem
   split
   ·rename_i hr
    refine ⟨by decide,fun st' hst'=>⟨_,_,_,upo hob hst',T.bG,T.bI,by show 3 < 1000;decide,by decide,fun p hp=>?_⟩⟩
    have nsx:st'≠b:=fun z=>by rw [z,hob] at hst';cases hst'
    have hpn:=upn (ax.free (H':=upd (upd H st' (HO.tup [V.str (Str.ofString "armed"),V.int l,V.int r,V.int s])) b (HO.ins Z.bL dx (bD "state" (.ref st') [("codes",V.ref cs),("failed",V.ref fl),("state",V.ref st)]))) (p:=b) ((ax.of (av.refl _)).put) (fun z=>by rw [z,af] at hp;cases hp) hp)
    have k:=((ax.of ((av.refl H).lay (o:=HO.tup [V.str (Str.ofString "armed"),V.int l,V.int r,V.int s]) hst')).put (o:=HO.ins Z.bL dx (bD "state" (.ref st') [("codes",V.ref cs),("failed",V.ref fl),("state",V.ref st)])) (p:=b))
    refine q3 l r rfl hs st' p _ hpn (k.trans (ax.of ((av.refl _).lay hp))) ?_ (SqT.of ?_)
    ·refine (hB.state k (dx:=dx) (by rw [af];rfl) (SqT.of (xs:=vF (if s=r then .armed l r else .other l r s)) ?_)).same ((av.refl _).lay hp)
     rw [aB nsx,af,if_pos hr,hr];rfl
    ·rw [af]
   ·rename_i hr
    refine ⟨by decide,fun st' hst'=>⟨_,_,_,upo hob hst',T.bG,T.bI,by show 3 < 1000;decide,by decide,fun p hp=>?_⟩⟩
    have nsx:st'≠b:=fun z=>by rw [z,hob] at hst';cases hst'
    have hpn:=upn (ax.free (H':=upd (upd H st' (HO.tup [V.str (Str.ofString "repeated otherwise"),V.int l,V.int r,V.int s])) b (HO.ins Z.bL dx (bD "state" (.ref st') [("codes",V.ref cs),("failed",V.ref fl),("state",V.ref st)]))) (p:=b) ((ax.of (av.refl _)).put) (fun z=>by rw [z,af] at hp;cases hp) hp)
    have k:=((ax.of ((av.refl H).lay (o:=HO.tup [V.str (Str.ofString "repeated otherwise"),V.int l,V.int r,V.int s]) hst')).put (o:=HO.ins Z.bL dx (bD "state" (.ref st') [("codes",V.ref cs),("failed",V.ref fl),("state",V.ref st)])) (p:=b))
    refine q3 l r rfl hs st' p _ hpn (k.trans (ax.of ((av.refl _).lay hp))) ?_ (SqT.of ?_)
    ·refine (hB.state k (dx:=dx) (by rw [af];rfl) (SqT.of (xs:=vF (if s=r then .armed l r else .other l r s)) ?_)).same ((av.refl _).lay hp)
     rw [aB nsx,af,if_neg hr];rfl
    ·rw [af]
 | _=>
  refine ⟨_,hst,_,rfl,?_⟩
  k_mem
  first
  | rw [if_pos (by decide)]
  | skip
  exact ⟨by decide,q1 fun l r z=>Eng.noConfusion z⟩
variable (oV:KM P w K mg base (CXf P w) 2 Z.bL "repeat" (gw K Z))
inductive iB (K:WA)(Z:Adr)(vs:List V)(H:Hp)(Q:VK)(E:XK):Prop | mk (a:Addr) (ds:List Int) (p:Int):vs=[.ref a,.int p]->SqL K H a (ds.map V.int)->0 < ds.length->Q (.int (cA ds - p)) H->iB K Z vs H Q E
include T ud in
theorem xD:FF P w K mg base CX0 2 "other_place" "other_place" jg qM (iB K Z):=fk0 wR fun vs H Q E h=>by
 obtain ⟨a,ds,p,rfl,hS,hl,q⟩:=h
 k_all
 refine ⟨_,@ag _ _ _ (aC (bx dU (dc0 ud hr.dn (pa1 (pv' 0))) (pv' 1))),?_⟩
 k_mem
 refine ⟨a,ds,rfl,hS,hl,?_⟩
 k_mem
 exact q
variable (dD:KD P w K mg base CX0 2 "other_place" (iB K Z))
inductive jD (K:WA)(Z:Adr)(vs:List V)(H:Hp)(Q:VK)(E:XK):Prop | mk (bk rl dd s:Addr) (g:Cfg) (n0 n:a8) (rs:List Row) (tk sp:Int) (dv:List V):vs=[.ref bk,.ref dd,.int tk,.int sp,.ref s]->BAt (clZ Z) K H bk rl g n0 rs->SqT K H dd dv->dH (clZ Z) K H rl g s n->((300<=rs.length->E (.ref Z.aM) none H))->((rs.length < 300->∀H',ax rl H H'->BAt (clZ Z) K H' bk rl g n0 (rs++[⟨eG rs,eG rs+tk,dv,sp,n⟩])->Q .non H'))->jD K Z vs H Q E
include T mf in
theorem yH:FF P w K mg base (CXf P w) 2 "write" "Book.write" lj tu (jD K Z):=fkF qV fun vs H Q E h=>by
 obtain ⟨bk,rl,dd,s0,g,n0,n,rs,tk,sp,dv,rfl,hB,hD,hS,q1,q2⟩:=h
 k_all
 refine @seg _ _ _ 2 _ (@ag _ _ _ (@bj _ _ _ _ (iP PySem.F.plainAttrs_list PySem.F.slot_list_append PySem.F.type_list_append cC (aq (pv' 0)) (pa1 (aO (bZ (pv' 5) (pa4 (bx cE (pv' 5) (pv' 2)) (pv' 1) (pv' 3) (pv' 4)))))) (by rfl))) fun zt2 zh2 ze2=>?_
 refine @seg _ _ _ 1 _ (@ae _ _ _ _ _ (@aI _ _ 5 _ _ _ _ qV.nd rfl orL (c4 (pv' 0) mf hr.dn bw) (by rfl) hfA) zh2) fun zt1 zh1 ze1=>?_
 refine ⟨_,@ae _ _ _ _ _ (bu (MB (aD aA (by rfl) T.cV ck (pa1 (aq (pv' 0)))) (aq (pv' 0))) (@ag _ _ _ (bA T.Dn (by rfl) T.xk (pa1 au))) (aJ)) zh1,?_⟩
 obtain ⟨⟨dx,f0,hob,hF⟩,as,hrl,hR⟩:=id hB
 have hl:=hR.1
 k_mem
 refine fgo hob T.di T.cf rfl ?_
 k_mem
 refine ⟨_,.inl (SqL.of hrl),_,_,_,hob,T.di,T.tO,_,rfl,?_⟩
 k_mem
 rw [WB]
 k_upd
 split
 ·k_upd
  exact ⟨by decide,q1 (by omega)⟩
 ·rename_i hlt
  k_upd
  refine mgo hob rfl ⟨_,_,_,_,_,rfl,hB,?_⟩
  k_mem
  refine fgo hob T.di T.cf rfl ?_
  k_mem
  refine ⟨.inl ⟨rfl,_,SqL.of hrl⟩,by decide,fun p hp=>⟨_,upo hrl hp,dQ (by rw [WB];omega),?_⟩⟩
  have s1:=(av.refl H).lay (o:=HO.tup [V.int (eG rs),V.int (eG rs+tk),V.ref dd,V.int sp,V.ref s0]) hp
  have hrl1:=upo (o:=HO.tup [V.int (eG rs),V.int (eG rs+tk),V.ref dd,V.int sp,V.ref s0]) hrl hp
  have k1:L2.ax rl H (upd (upd H p (HO.tup [V.int (eG rs),V.int (eG rs+tk),V.ref dd,V.int sp,V.ref s0])) rl (HO.lst (as.map V.ref++[V.ref p]))):=(ax.of s1).put
  refine q2 (by omega) _ k1 ⟨⟨dx,f0,k1 _ _ (fun z=>by rw [z,hrl] at hob;cases hob) hob,hF.keep k1 hrl⟩,as++[p],by rw [af,List.map_append];rfl,?_⟩
  exact (hR.keep k1 hrl).push ⟨dd,s0,(SqT.of af).rew hrl1,hD.keep k1 hrl,hS.keep k1 hrl⟩
variable (uh:KM P w K mg base (CXf P w) 2 Z.pD "write" (jD K Z))
inductive eQ (K:WA)(Z:Adr)(vs:List V)(H:Hp)(Q:VK)(E:XK):Prop | mk (w bk rl:Addr) (g:Cfg) (n0:a8) (rs:List Row):vs=[.ref w]->WAt (clZ Z) K H w bk rl g n0 rs->((rs=[]->E (.ref Z.bt) none H))->((∀rs' r,rs=rs'++[r]->∀p H',ax rl H H'->WAt (clZ Z) K H' w bk rl g n0 rs'->SqT K H' p r.deed->Q (.ref p) H'))->eQ K Z vs H Q E
include T rh in
theorem r6:FF P w K mg base (CXf P w) 2 "take_back" "Works.take_back" ft iX (eQ K Z):=fkF rM fun vs H Q E h=>by
 obtain ⟨w,bk,rl,g,n0,rs,rfl,hW,q1,q2⟩:=h
 k_all
 refine ⟨_,@ag _ _ _ (aC (c4 (aq (pv' 0)) rh hr.dn bU)),?_⟩
 obtain ⟨⟨dx,dl,gl,hob,hdl,hgl,n1,n2⟩,hB⟩:=id hW
 obtain ⟨⟨db,f0,hbo,hF⟩,as,hrl,hR⟩:=id hB
 k_mem
 refine fgo hob T.bc T.bb rfl ?_
 k_mem
 exact mgo hbo rfl ⟨_,_,_,_,_,rfl,hB,q1,fun rs2 r e p H' k hB2 hp=>q2 rs2 r e p H' k (hW.keep k hrl hB2) hp⟩
variable (cJ:KM P w K mg base (CXf P w) 2 Z.bB "take_back" (eQ K Z))
inductive eh (K:WA)(Z:Adr)(vs:List V)(H:Hp)(Q:VK)(E:XK):Prop | mk (w bk rl:Addr) (g:Cfg) (n0:a8) (rs:List Row) (s:Addr) (n:a8):vs=[.ref w,.ref s]->WAt (clZ Z) K H w bk rl g n0 rs->dH (clZ Z) K H rl g s n->g.ks.length=n.ws.length->(∀H',av H H'->Q (.int (fB g n)) H')->eh K Z vs H Q E
include T iZ in
theorem qF:FF P w K mg base CX0 2 "speed_with" "Works.speed_with" eJ gW (eh K Z):=fk0 pC fun vs H Q E h=>by
 obtain ⟨w,bk,rl,g,n0,rs,s0,n,rfl,hW,hS,hl,q⟩:=h
 k_all
 refine ⟨_,@ag _ _ _ (aC (AS (cb (c4 (aq (pv' 1)) iZ hr.dn bw)) (aq (pv' 0)) (aq (pv' 0)))),?_⟩
 obtain ⟨⟨dx,dl,gl,hob,hdl,hgl,n1,n2⟩,hB⟩:=id hW
 obtain ⟨⟨db,f0,hbo,hF⟩,as,hrl,hR⟩:=id hB
 k_mem
 obtain ⟨A,hA⟩:=id hS
 k_upd
 refine fgo hA.ob T.aK T.bS rfl ?_
 k_mem
 obtain ⟨dy,hyb⟩:=hA.ya.ob
 k_upd
 refine ⟨_,_,hyb,rfl,_,_,_,_,_,_,rfl,hA.ya,hl,fun H' s1=>?_⟩
 k_mem
 have q':=q H' s1
 unfold fB at q'
 k_upd
 split
 ·rename_i h
  k_upd
  rw [if_pos h] at q'
  k_upd
  exact fgo (s1 _ _ hob) T.bc T.rf rfl q'
 ·rename_i h
  k_upd
  rw [if_neg h] at q'
  k_upd
  exact fgo (s1 _ _ hob) T.bc T.rg rfl q'
variable (dz:KM P w K mg base CX0 2 Z.bB "speed_with" (eh K Z))
inductive cW (K:WA)(Z:Adr)(vs:List V)(H:Hp)(Q:VK)(E:XK):Prop | mk (w bk rl:Addr) (g:Cfg) (n0:a8) (rs:List Row) (lv:Int):vs=[.ref w,.int lv]->WAt (clZ Z) K H w bk rl g n0 rs->0<=lv->lv < (aj n0 rs).gates.length->(((aj n0 rs).gates.getD lv.toNat false=true->Q .non H))->(((aj n0 rs).gates.getD lv.toNat false=false->E (.ref Z.aR) none H))->cW K Z vs H Q E
include T aF in
theorem iO:FF P w K mg base (CXf P w) 2 "refuse_shut_gate" "Works.refuse_shut_gate" de eo (cW K Z):=fkF iI fun vs H Q E h=>by
 obtain ⟨w,bk,rl,g,n0,rs,lv,rfl,hW,h0,h1,q1,q2⟩:=h
 k_all
 refine ⟨_,@ag _ _ _ (bu (dj (cb (aN aE (aq (c4 (aq (pv' 0)) aF hr.dn bw)) (pv' 1)))) (@ag _ _ _ (bA T.Ds (by rfl) T.xm (pa1 au))) (aJ)),?_⟩
 obtain ⟨⟨dx,dl,gl,hob,hdl,hgl,n1,n2⟩,hB⟩:=id hW
 obtain ⟨⟨db,f0,hbo,hF⟩,as,hrl,hR⟩:=id hB
 k_mem
 refine fgo hob T.bc T.bb rfl ?_
 k_mem
 refine mgo hbo rfl ⟨_,_,_,_,_,rfl,hB,fun s0 ⟨A,hA⟩=>?_⟩
 k_mem
 refine fgo hA.ob T.aK T.cj rfl ?_
 k_mem
 refine ⟨_,SqL.of hA.go,_,i9 h0 h1,?_⟩
 k_mem
 split
 ·rename_i h
  k_upd
  exact ⟨by decide,q2 (by simpa using h)⟩
 ·rename_i h
  k_upd
  exact q1 (by simpa using h)
variable (cF:KM P w K mg base (CXf P w) 2 Z.bB "refuse_shut_gate" (cW K Z))
inductive mi (K:WA)(Z:Adr)(vs:List V)(H:Hp)(Q:VK)(E:XK):Prop | mk (w bk rl:Addr) (g:Cfg) (n0:a8) (rs:List Row):vs=[.ref w]->WAt (clZ Z) K H w bk rl g n0 rs->Q (.int (eG rs)) H->mi K Z vs H Q E
include T mf in
theorem AF:FF P w K mg base CX0 2 "now" "Works.now" nH vj (mi K Z):=fk0 Aj fun vs H Q E h=>by
 obtain ⟨w,bk,rl,g,n0,rs,rfl,hW,q⟩:=h
 k_all
 refine ⟨_,@ag _ _ _ (aC (c4 (aq (pv' 0)) mf hr.dn bw)),?_⟩
 obtain ⟨⟨dx,dl,gl,hob,hdl,hgl,n1,n2⟩,hB⟩:=id hW
 obtain ⟨⟨db,f0,hbo,hF⟩,as,hrl,hR⟩:=id hB
 k_mem
 refine fgo hob T.bc T.bb rfl ?_
 k_mem
 exact mgo hbo rfl ⟨_,_,_,_,_,rfl,hB,q⟩
variable (dr:KM P w K mg base CX0 2 Z.bB "now" (mi K Z))
inductive jE (K:WA)(Z:Adr)(vs:List V)(H:Hp)(Q:VK)(E:XK):Prop | mk (w bk rl:Addr) (g:Cfg) (n0:a8) (rs:List Row):vs=[.ref w]->WAt (clZ Z) K H w bk rl g n0 rs->rs.length<=1000->(∀(p:Addr) (as:List Addr) (H':Hp),H p=none->av H H'->H' p=some (.lst (as.map V.ref))->eH K H' as rs->Q (.ref p) H')->jE K Z vs H Q E
include T vw in
theorem yI:FF P w K mg base CX0 2 "book" "Works.book" ly tG (jE K Z):=fk0 yp fun vs H Q E h=>by
 obtain ⟨w,bk,rl,g,n0,rs,rfl,hW,hn,q⟩:=h
 k_all
 refine ⟨_,@ag _ _ _ (aC (c4 (aq (pv' 0)) vw hr.dn bw)),?_⟩
 obtain ⟨⟨dx,dl,gl,hob,hdl,hgl,n1,n2⟩,hB⟩:=id hW
 obtain ⟨⟨db,f0,hbo,hF⟩,as,hrl,hR⟩:=id hB
 k_mem
 refine fgo hob T.bc T.bb rfl ?_
 k_mem
 exact mgo hbo rfl ⟨_,_,_,_,_,rfl,hB,hn,q⟩
variable (gL:KM P w K mg base CX0 2 Z.bB "book" (jE K Z))
inductive gx (K:WA)(Z:Adr)(vs:List V)(H:Hp)(Q:VK)(E:XK):Prop | mk (w bk rl:Addr) (g:Cfg) (n0:a8) (rs:List Row):vs=[.ref w]->WAt (clZ Z) K H w bk rl g n0 rs->(∀st,SqT K H st (vF (aj n0 rs).e)->Q (.ref st) H)->gx K Z vs H Q E
include T oP aF in
theorem vR:FF P w K mg base CX0 2 "engine" "Works.engine" ie ny (gx K Z):=fk0 vI fun vs H Q E h=>by
 obtain ⟨w,bk,rl,g,n0,rs,rfl,hW,q⟩:=h
 k_all
 refine ⟨_,@ag _ _ _ (aC (c4 (aq (c4 (aq (pv' 0)) aF hr.dn bw)) oP hr.dn bw)),?_⟩
 obtain ⟨⟨dx,dl,gl,hob,hdl,hgl,n1,n2⟩,hB⟩:=id hW
 obtain ⟨⟨db,f0,hbo,hF⟩,as,hrl,hR⟩:=id hB
 k_mem
 refine fgo hob T.bc T.bb rfl ?_
 k_mem
 refine mgo hbo rfl ⟨_,_,_,_,_,rfl,hB,fun s0 ⟨A,hA⟩=>?_⟩
 k_mem
 refine fgo hA.ob T.aK T.bW rfl ?_
 k_mem
 obtain ⟨db2,hbb⟩:=hA.be.ob
 k_upd
 exact mgo hbb rfl ⟨_,_,_,_,_,_,_,rfl,hA.be,q _ hA.be.os⟩
variable (oW:KM P w K mg base CX0 2 Z.bB "engine" (gx K Z))
inductive jF (K:WA)(Z:Adr)(vs:List V)(H:Hp)(Q:VK)(E:XK):Prop | mk (w bk rl:Addr) (g:Cfg) (n0:a8) (rs:List Row):vs=[.ref w]->WAt (clZ Z) K H w bk rl g n0 rs->(aj n0 rs).fs.length<=1000->(∀p H',H p=none->av H H'->H' p=some (.lst ((DW (aj n0 rs).fs).map V.int))->Q (.ref p) H')->jF K Z vs H Q E
include T uc aF in
theorem yJ:FF P w K mg base CX0 2 "dead" "Works.dead" lz tH (jF K Z):=fk0 yq fun vs H Q E h=>by
 obtain ⟨w,bk,rl,g,n0,rs,rfl,hW,hn,q⟩:=h
 k_all
 refine ⟨_,@ag _ _ _ (aC (c4 (aq (c4 (aq (pv' 0)) aF hr.dn bw)) uc hr.dn bw)),?_⟩
 obtain ⟨⟨dx,dl,gl,hob,hdl,hgl,n1,n2⟩,hB⟩:=id hW
 obtain ⟨⟨db,f0,hbo,hF⟩,as,hrl,hR⟩:=id hB
 k_mem
 refine fgo hob T.bc T.bb rfl ?_
 k_mem
 refine mgo hbo rfl ⟨_,_,_,_,_,rfl,hB,fun s0 ⟨A,hA⟩=>?_⟩
 k_mem
 refine fgo hA.ob T.aK T.bW rfl ?_
 k_mem
 obtain ⟨db2,hbb⟩:=hA.be.ob
 k_upd
 exact mgo hbb rfl ⟨_,_,_,_,_,_,_,rfl,hA.be,hn,q⟩
variable (ui:KM P w K mg base CX0 2 Z.bB "dead" (jF K Z))
inductive iC (K:WA)(Z:Adr)(vs:List V)(H:Hp)(Q:VK)(E:XK):Prop | mk (w bk rl:Addr) (g:Cfg) (n0:a8) (rs:List Row):vs=[.ref w]->WAt (clZ Z) K H w bk rl g n0 rs->(∀p,H p=none->Q (.ref p) (upd H p (.lst ((aj n0 rs).gates.map V.bl))))->iC K Z vs H Q E
include T aF in
theorem xE:FF P w K mg base CX0 2 "gates" "Works.gates" jn qR (iC K Z):=fk0 wY fun vs H Q E h=>by
 obtain ⟨w,bk,rl,g,n0,rs,rfl,hW,q⟩:=h
 k_all
 refine ⟨_,@ag _ _ _ (aC (bN cq (by rfl) T.fD dR (pa1 (aq (c4 (aq (pv' 0)) aF hr.dn bw))))),?_⟩
 obtain ⟨⟨dx,dl,gl,hob,hdl,hgl,n1,n2⟩,hB⟩:=id hW
 obtain ⟨⟨db,f0,hbo,hF⟩,as,hrl,hR⟩:=id hB
 k_mem
 refine fgo hob T.bc T.bb rfl ?_
 k_mem
 refine mgo hbo rfl ⟨_,_,_,_,_,rfl,hB,fun s0 ⟨A,hA⟩=>?_⟩
 k_mem
 refine fgo hA.ob T.aK T.cj rfl ?_
 k_mem
 exact ⟨_,.inl (SqL.of hA.go),q⟩
variable (rm:KM P w K mg base CX0 2 Z.bB "gates" (iC K Z))
inductive iD (K:WA)(Z:Adr)(vs:List V)(H:Hp)(Q:VK)(E:XK):Prop | mk (w bk rl:Addr) (g:Cfg) (n0:a8) (rs:List Row):vs=[.ref w]->WAt (clZ Z) K H w bk rl g n0 rs->(∀p,H p=none->Q (.ref p) (upd H p (.lst ((aj n0 rs).ws.map V.int))))->iD K Z vs H Q E
include T gI aF in
theorem xF:FF P w K mg base CX0 2 "spots" "Works.spots" jq qT (iD K Z):=fk0 w8 fun vs H Q E h=>by
 obtain ⟨w,bk,rl,g,n0,rs,rfl,hW,q⟩:=h
 k_all
 refine ⟨_,@ag _ _ _ (aC (c4 (aq (c4 (aq (pv' 0)) aF hr.dn bw)) gI hr.dn bw)),?_⟩
 obtain ⟨⟨dx,dl,gl,hob,hdl,hgl,n1,n2⟩,hB⟩:=id hW
 obtain ⟨⟨db,f0,hbo,hF⟩,as,hrl,hR⟩:=id hB
 k_mem
 refine fgo hob T.bc T.bb rfl ?_
 k_mem
 refine mgo hbo rfl ⟨_,_,_,_,_,rfl,hB,fun s0 ⟨A,hA⟩=>?_⟩
 k_mem
 refine fgo hA.ob T.aK T.bS rfl ?_
 k_mem
 obtain ⟨dy,hyb⟩:=hA.ya.ob
 k_upd
 exact ⟨_,_,hyb,rfl,_,_,_,_,_,_,rfl,hA.ya,q⟩
variable (rn:KM P w K mg base CX0 2 Z.bB "spots" (iD K Z))
inductive fF (K:WA)(Z:Adr)(vs:List V)(H:Hp)(Q:VK)(E:XK):Prop | mk (w bk rl:Addr) (g:Cfg) (n0:a8) (rs:List Row) (c:Int):vs=[.ref w,.int c]->WAt (clZ Z) K H w bk rl g n0 rs->0<=c->c < 2->(∀H',av H H'->Q (inC (aj n0 rs).ws c) H')->fF K Z vs H Q E
include T cH aF in
theorem u0:FF P w K mg base CX0 2 "in_cage" "Works.in_cage" gm mx (fF K Z):=fk0 uO fun vs H Q E h=>by
 obtain ⟨w,bk,rl,g,n0,rs,c,rfl,hW,h0,h1,q⟩:=h
 k_all
 refine ⟨_,@ag _ _ _ (aC (dm' (aq (c4 (aq (pv' 0)) aF hr.dn bw)) cH hr.dn bw (pa1 (pv' 1)))),?_⟩
 obtain ⟨⟨dx,dl,gl,hob,hdl,hgl,n1,n2⟩,hB⟩:=id hW
 obtain ⟨⟨db,f0,hbo,hF⟩,as,hrl,hR⟩:=id hB
 k_mem
 refine fgo hob T.bc T.bb rfl ?_
 k_mem
 refine mgo hbo rfl ⟨_,_,_,_,_,rfl,hB,fun s0 ⟨A,hA⟩=>?_⟩
 k_mem
 refine fgo hA.ob T.aK T.bS rfl ?_
 k_mem
 obtain ⟨dy,hyb⟩:=hA.ya.ob
 k_upd
 exact ⟨_,_,hyb,rfl,_,_,_,_,_,_,_,rfl,hA.ya,h0,h1,q⟩
variable (Fi:KM P w K mg base CX0 2 Z.bB "in_cage" (fF K Z))
def E7 (c r0 sh:Int)(l:Addr)(H:Hp)(i:Nat)(σ:St)(H':Hp):Prop:=∃(ds:List Int) (last:Int) (t u:Option V),σ=[some (.int c),some (.int (2+r0)),some (.int sh),none,some (.ref l),some (.int last),t,u]/\kH ds last/\last<=500 - (2+r0)+i/\ds.length=i/\H'=upd H l (.lst (ds.map V.int))
inductive oX (K:WA)(Z:Adr)(vs:List V)(H:Hp)(Q:VK)(E:XK):Prop | mk (c:Int):vs=[.int c]->(∀(l:Addr) (ds:List Int) (H':Hp),H l=none->av H H'->H' l=some (.lst (ds.map V.int))->cn ds->Q (.ref l) H')->oX K Z vs H Q E
include T cy in
theorem BY:FF P w K mg base CX0 2 "_law_depths" "_law_depths" rN wN (oX K Z):=fk0 cR fun vs H Q E h=>by
 obtain ⟨c,rfl,q⟩:=h
 k_all
 refine ⟨_,@ae _ _ _ _ _ (@aI _ _ 1 _ _ _ _ cR.nd rfl orL (bx cE ah (dc0 cy hr.dn (pa3 (pv' 0) ah ah))) (by rfl) hfA) (@ae _ _ _ _ _ (@aI _ _ 2 _ _ _ _ cR.nd rfl orL (dc0 cy hr.dn (pa3 (pv' 0) ah ah)) (by rfl) hfA) (@ae _ _ _ _ _ (bu (en (pv' 2) ah) (@ae _ _ _ _ _ (@aI _ _ 3 _ _ _ _ cR.nd rfl (Or.inr rfl) (bx cE ah (dc0 cy hr.dn (pa3 (pv' 0) ah ah))) (by rfl) hfA) (@ag _ _ _ (aC (sy ["_law_k","_law_gap"] [none,some 3] (cK (by rfl) T.dW (pa1 (pv' 1))) (fun _ _ _ _=>(aW (i:=0) (show (["_law_k","_law_gap"]:List Str).Nodup by decide +kernel) rfl orL)) (fun _ _ _ _=>iQ) (fun _ _ _ _=>(bx Eh (pv' 1) (pv' 0))))))) (aJ)) (@ae _ _ _ _ _ (@aI _ _ 4 _ _ _ _ cR.nd rfl orL (bh i7) (by rfl) hfA) (@ae _ _ _ _ _ (@aI _ _ 5 _ _ _ _ cR.nd rfl orL (AW sU ah) (by rfl) hfA) (@ae _ _ _ _ _ (dZ PassesOwn.never rfl (cK (by rfl) T.dW (pa1 (pv' 1))) (aW (i:=6) cR.nd rfl orL) (@ae _ _ _ _ _ (@aI _ _ 7 _ _ _ _ cR.nd rfl orL (bx dU (bx cE (bx dU ah (pv' 1)) (pv' 6)) (pv' 5)) (by rfl) hfA) (@ae _ _ _ _ _ (bu (en (pv' 2) ah) (@ag _ _ _ (@aI _ _ 7 _ _ _ _ cR.nd rfl orL (aD (wH rfl) (by rfl) T.JR FK (pa2 (pv' 7) ah)) (by rfl) hfA)) (aJ)) (@ae _ _ _ _ _ (@aI _ _ 5 _ _ _ _ cR.nd rfl orL (bx cE (bx cE (pv' 5) ah) (dc0 cy hr.dn (pa3 (pv' 0) (bx cE ah (pv' 6)) (pv' 7)))) (by rfl) hfA) (@ag _ _ _ (@bj _ _ _ _ (iP PySem.F.plainAttrs_list PySem.F.slot_list_append PySem.F.type_list_append cC (pv' 4) (pa1 (pv' 5))) (by rfl))))))) (@ae _ _ _ _ _ (bu (zE (en (pv' 2) ah) (vU (en (dc0 cy hr.dn (pa3 (pv' 0) ah ah)) ah))).pt (@ag _ _ _ (aC (bx eD (bx eD (bh (pa1 ah)) (sk sV (pv' 4) (mY ah) (mY (AW sU ah)))) (bh (pa1 ah))))) (aJ)) (@ag _ _ _ (aC (pv' 4))))))))),?_⟩
 k_mem
 refine ⟨c,0,5,rfl,by omega,by omega,by omega,fun r0 h0 h0'=>?_⟩
 k_mem
 refine ⟨c,1,4,rfl,by omega,by omega,by omega,fun sh h1 h1'=>?_⟩
 k_mem
 split
 ·refine ⟨c,2,100,rfl,by omega,by omega,by omega,fun r2 h2 h2'=>?_⟩
  k_mem
  refine ⟨by omega,by omega,zO (fun i=>V.int ((1+r2) * (i:Int))) (Nat.le_trans (by omega:(2+r0).toNat<=1000) (by decide)) rfl (fun i hi N q=>?_) (fun p hp=>?_)⟩
  ·k_mem
   rw [Int.zero_add]
   exact ⟨.inl ⟨by omega,by omega⟩,q⟩
  ·refine q p ((List.range (2+r0).toNat).map fun (i:Nat)=>(1+r2) * (i:Int)) _ hp (fun b o e=>?_) ?_ (cn.even (by omega) (by omega) (by omega) (by omega))
   ·rw [aB (ak e hp)];exact e
   ·rw [af,List.map_map];rfl
 ·refine ⟨by decide,fun l hln=>⟨by omega,by omega,c6 (E7 c r0 sh l H) ⟨[],-1,_,_,rfl,kH.nil,by omega,rfl,rfl⟩ ?_ ?_⟩⟩
  ·rintro i σ H' hi ⟨ds,last,t,u,rfl,hR,hla,hlen,rfl⟩
   have l0:=hR.l0
   k_mem
   split
   all_goals
    refine ⟨c,_,_,rfl,by omega,by omega,by (try split)<;>omega,fun r hr0 hr1=>?_⟩
    k_mem
    refine ⟨.inl ⟨rfl,_,SqL.of af⟩,_,af,dQ (by rw [WB];omega),ds++[last+1+r],last+1+r,_,_,rfl,hR.snoc hr0,?_,by rw [List.length_append,hlen];rfl,?_⟩
    ·(try split at hr1)<;>omega
    ·rw [Hi,List.map_append];rfl
  ·rintro σ H' ⟨ds,last,t,u,rfl,hR,hla,hlen,rfl⟩
   have hsh:=hR.shaft (by omega) (by omega) (by omega)
   have hQ0:Q (V.ref l) (upd H l (HO.lst (List.map V.int ds))):=q l ds _ hln ((av.refl H).lay hln) af hsh
   k_mem
   split
   ·refine ⟨c,8,4,rfl,by omega,by omega,by omega,fun r hr0 hr1=>?_⟩
    k_mem
    split
    ·refine ⟨by decide,fun p1 hp1=>⟨_,SqL.of (upo af hp1),fun p2 hp2=>⟨_,upo af hp2,_,af,?_,fun p3 hp3=>⟨by decide,fun p4 hp4=>⟨_,upo af hp4,_,af,?_,fun p5 hp5=>?_⟩⟩⟩⟩⟩
     ·have:=mP (List.map V.int ds) (some 1) (some (-1))
      rw [WB] at this
      exact Nat.le_of_lt (dQ (by rw [List.length_singleton];omega))
     ·have:=mP (List.map V.int ds) (some 1) (some (-1))
      rw [WB] at this
      exact Nat.le_of_lt (dQ (by rw [List.length_append,List.length_singleton,List.length_singleton];omega))
     ·refine q p5 ([0]++(ds.drop 1).take (ds.length - 1 - 1)++[500]) _ (upn (upn (upn (upn (upn hp5))))) ((((((av.refl H).lay hln).lay hp1).lay hp2).lay hp3).lay hp4 |>.lay hp5) ?_ hsh.ends
      rw [af,FQ ds hsh.l2,List.map_append,List.map_append]
      rfl
    ·exact hQ0
   ·exact hQ0
variable (xG:KD P w K mg base CX0 2 "_law_depths" (oX K Z))
def Hb (K:WA)(c m:Int)(l:Addr)(H:Hp)(i:Nat)(σ:St)(H':Hp):Prop:=av H H'/\∃(as:List Addr) (ls:List Cd) (t u:Option V),σ=[some (.int c),some (.int m),some (.ref l),t,u]/\H' l=some (.lst (as.map V.ref))/\cS cdV K H' as ls/\ls.length=i/\∀x∈ls,dM x
inductive r8 (K:WA)(Z:Adr)(vs:List V)(H:Hp)(Q:VK)(E:XK):Prop | mk (c m:Int):vs=[.int c,.int m]->0<=m->m<=500->(∀(l:Addr) (as:List Addr) (ls:List Cd) (H':Hp),H l=none->av H H'->H' l=some (.lst (as.map V.ref))->cS cdV K H' as ls->(ls.length:Int)=m->(∀x∈ls,dM x)->Q (.ref l) H')->r8 K Z vs H Q E
include T cy in
theorem Dx:FF P w K mg base CX0 2 "_law_codes" "_law_codes" uQ ze (r8 K Z):=fk0 lA fun vs H Q E h=>by
 obtain ⟨c,m,rfl,h0,h1,q⟩:=h
 k_all
 refine ⟨_,@ae _ _ _ _ _ (@aI _ _ 2 _ _ _ _ lA.nd rfl orL (bh i7) (by rfl) hfA) (@ae _ _ _ _ _ (dZ PassesOwn.never rfl (cK (by rfl) T.dW (pa1 (pv' 1))) (aW (i:=3) lA.nd rfl orL) (@ae _ _ _ _ _ (@aI _ _ 4 _ _ _ _ lA.nd rfl orL (bx cE ah (dc0 cy hr.dn (pa3 (pv' 0) (Bl ah (pv' 3)) ah))) (by rfl) hfA) (@ag _ _ _ (@bj _ _ _ _ (iP PySem.F.plainAttrs_list PySem.F.slot_list_append PySem.F.type_list_append cC (pv' 2) (pa1 (aO (pa2 (pv' 4) (bx cE ah (kR (bx cE (pv' 4) (dc0 cy hr.dn (pa3 (pv' 0) (bx cE (Bl ah (pv' 3)) ah) ah))) ah)))))) (by rfl))))) (@ag _ _ _ (aC (pv' 2)))),?_⟩
 k_mem
 refine ⟨by decide,fun l hl=>⟨by omega,by omega,?_⟩⟩
 refine c6 (Hb K c m l H) ⟨(av.refl H).lay hl,[],[],_,_,rfl,af,cS.nil,rfl,fun x hx=>by cases hx⟩ ?_ ?_
 ·rintro i σ H' hi ⟨s1,as,ls,t,u,rfl,hl',hT,hlen,hg⟩
  k_mem
  refine ⟨c,2 * (0 + ↑i),9,rfl,by omega,by omega,by omega,fun r1 h2 h3=>?_⟩
  k_mem
  refine ⟨.inl ⟨rfl,_,SqL.of hl'⟩,c,2 * (0 + ↑i)+1,8,rfl,by omega,by omega,by omega,fun r2 h4 h5=>?_⟩
  k_mem
  refine ⟨by decide,fun p2 hp2=>⟨_,upo hl' hp2,dQ (by rw [WB,hT.1];omega),?_⟩⟩
  have hl2:=upo (o:=HO.tup [V.int (1+r1),V.int (1+(1+r1+r2) % 9)]) hl' hp2
  refine ⟨(s1.lay hp2).rewr hl,as++[p2],ls++[(1+r1,1+(1+r1+r2) % 9)],_,_,rfl,?_,?_,by rw [List.length_append,hlen];rfl,?_⟩
  ·rw [af,List.map_append];rfl
  ·exact ((hT.same ((av.refl H').lay hp2)).app (cS.one (SqT.of af))).rew hl2
  ·intro x hx
   rcases List.mem_append.mp hx with hx | hx
   ·exact hg x hx
   ·rw [List.mem_singleton] at hx
    subst hx
    refine ⟨⟨?_,?_⟩,⟨?_,?_⟩,?_⟩
    ·show 1<=1+r1;omega
    ·show 1+r1<=9;omega
    ·show 1<=1+(1+r1+r2) % 9;omega
    ·show 1+(1+r1+r2) % 9<=9;omega
    ·show 1+r1≠1+(1+r1+r2) % 9;omega
 ·rintro σ H' ⟨s1,as,ls,t,u,rfl,hl',hT,hlen,hg⟩
  k_mem
  exact q l as ls H' hl s1 hl' hT (by omega) hg
variable (zy:KD P w K mg base CX0 2 "_law_codes" (r8 K Z))
inductive mj (K:WA)(Z:Adr)(vs:List V)(H:Hp)(Q:VK)(E:XK):Prop | mk (y kn wh:Addr) (ks:List Str) (ws:List Int) (m n c:Int):vs=[.ref y,.int n,.int c]->c7 Z.ez H y kn wh ks ws m->0<=c->c < 2->((¬(0<=n/\n < ws.length)->E (.ref Z.ay) none H))->((0<=n->n < ws.length->(ws.getD n.toNat 0=10\/ws.getD n.toNat 0=11)->E (.ref Z.aP) none H))->((0<=n->n < ws.length->¬(ws.getD n.toNat 0=10\/ws.getD n.toNat 0=11)->10+c∈ws->∀H',av H H'->E (.ref Z.aG) none H'))->((0<=n->n < ws.length->¬(ws.getD n.toNat 0=10\/ws.getD n.toNat 0=11)->¬10+c∈ws->∀H',ax wh H H'->H' wh=some (.lst ((ws.set n.toNat (10+c)).map V.int))->Q .non H'))->mj K Z vs H Q E
include T cH gK in
theorem AG:FF P w K mg base (CXf P w) 3 "into" "Yard.into" nC ve (mj K Z):=fkF Ag fun vs H Q E h=>by
 obtain ⟨y,kn,wh,ks,ws,m,n,c,rfl,hy,h0,h1,q1,q2,q3,q4⟩:=h
 k_all
 refine @seg _ _ _ 3 _ (@ag _ _ _ (rz (aN bC (c3 (by rfl) T.gF) (pv' 2)) (uw (aq (pv' 0)) (pv' 1) gR))) fun zt3 zh3 ze3=>?_
 refine @seg _ _ _ 2 _ (@ae _ _ _ _ _ (bu (I8 (dm' (pv' 0) cH hr.dn bw (pa1 (pv' 2))) gT) (@ag _ _ _ (bA T.Bx (by rfl) T.vq (pa1 au))) (aJ)) zh3) fun zt2 zh2 ze2=>?_
 refine @seg _ _ _ 1 _ (@ae _ _ _ _ _ (bu (jQ kQ (aN aE (aq (pv' 0)) (pv' 1)) (c3 (by rfl) T.gF) (by rfl)) (@ag _ _ _ (bA T.rQ (by rfl) T.lB (pa1 au))) (aJ)) zh2) fun zt1 zh1 ze1=>?_
 refine ⟨_,@ae _ _ _ _ _ (@bj _ _ _ _ (dc gK hr.dn bU (pa2 (pv' 1) (aD aA (by rfl) T.cV ck (pa1 (aq (pv' 0)))))) (by rfl)) zh1,?_⟩
 obtain ⟨⟨dx,hob⟩,hkn,hwh⟩:=id hy
 k_mem
 refine fgo hob T.c5 T.cu rfl ?_
 k_mem
 refine ⟨_,.inl (SqL.of hwh),_,_,rfl,?_⟩
 rw [WB]
 k_upd
 refine ⟨fun hn=>?_,q1⟩
 ·k_mem
  k_upd
  refine fgo hob T.c5 T.cu rfl ?_
  k_mem
  refine ⟨_,SqL.of hwh,_,fH hn.1 hn.2,_,.inr (T.gG _),rfl,rfl,?_⟩
  rw [y8]
  k_mem
  split
  ·rename_i h2
   k_upd
   exact ⟨by decide,q2 hn.1 hn.2 h2⟩
  ·rename_i h2
   k_upd
   refine mgo hob rfl ⟨_,_,_,_,_,_,_,rfl,hy,h0,h1,fun H' s1=>?_⟩
   k_mem
   by_cases hm:10+c∈ws
   ·rw [inC,if_pos hm,if_pos (show ¬(V.int _=V.non) from fun z=>V.noConfusion z)]
    k_upd
    exact ⟨by decide,q3 hn.1 hn.2 h2 hm H' s1⟩
   ·rw [inC,if_neg hm,if_neg (fun z=>z rfl)]
    k_upd
    refine ⟨_,T.gG _,_,y3 h0 h1,_,_,_,s1 _ _ hob,T.c5,T.cu,_,rfl,?_⟩
    k_mem
    refine ⟨_,s1 _ _ hwh,_,uE hn.1 (by rw [WB];exact hn.2),?_⟩
    refine q4 hn.1 hn.2 h2 hm _ (ax.put (ax.of s1)) ?_
    rw [af,List.map_set]
variable (vx:KM P w K mg base (CXf P w) 3 Z.ez "into" (mj K Z))
inductive oY (K:WA)(Z:Adr)(vs:List V)(H:Hp)(Q:VK)(E:XK):Prop | mk (y kn wh:Addr) (ks:List Str) (ws:List Int) (m c lv:Int):vs=[.ref y,.int c,.int lv]->c7 Z.ez H y kn wh ks ws m->0<=c->c < 2->((¬(0<=lv/\lv < m)->E (.ref Z.ao) none H))->((0<=lv->lv < m->¬10+c∈ws->∀H',av H H'->E (.ref Z.aH) none H'))->((0<=lv->lv < m->10+c∈ws->∀H',ax wh H H'->H' wh=some (.lst ((ws.set (ws.idxOf (10+c)) lv).map V.int))->Q .non H'))->oY K Z vs H Q E
include T cH bP in
theorem BZ:FF P w K mg base (CXf P w) 3 "out" "Yard.out" rF wJ (oY K Z):=fkF vm fun vs H Q E h=>by
 obtain ⟨y,kn,wh,ks,ws,m,c,lv,rfl,hy,h0,h1,q1,q2,q3⟩:=h
 k_all
 refine @seg _ _ _ 3 _ (@ag _ _ _ (rz (pv' 2) (uw (aq (pv' 0)) (pv' 3) gR))) fun zt3 zh3 ze3=>?_
 refine @seg _ _ _ 2 _ (@ae _ _ _ _ _ (bu (Ad (pv' 3) gT) (@ag _ _ _ (bA T.vt (by rfl) T.nM (pa1 au))) (aJ)) zh3) fun zt2 zh2 ze2=>?_
 refine @seg _ _ _ 1 _ (@ae _ _ _ _ _ (@aI _ _ 3 _ _ _ _ vm.nd rfl orL (dm' (pv' 0) cH hr.dn bw (pa1 (pv' 1))) (by rfl) hfA) zh2) fun zt1 zh1 ze1=>?_
 refine ⟨_,@ae _ _ _ _ _ (@bj _ _ _ _ (dc bP hr.dn bU (pa2 (pv' 2) (aq (pv' 0)))) (by rfl)) zh1,?_⟩
 obtain ⟨⟨dx,hob⟩,hkn,hwh⟩:=id hy
 k_mem
 refine fgo hob T.c5 T.lD rfl ?_
 k_mem
 refine ⟨_,_,rfl,fun hlv=>?_,q1⟩
 k_mem
 refine mgo hob rfl ⟨_,_,_,_,_,_,_,rfl,hy,h0,h1,fun H' s1=>?_⟩
 k_mem
 by_cases hm:10+c∈ws
 ·rw [inC,if_pos hm,if_neg (show ¬(V.int _=V.non) from fun z=>V.noConfusion z)]
  have hlt:ws.idxOf (10+c) < ws.length:=List.idxOf_lt_length_iff.mpr hm
  k_mem
  refine fgo (s1 _ _ hob) T.c5 T.cu rfl ?_
  k_mem
  refine ⟨_,s1 _ _ hwh,_,uE (Int.natCast_nonneg _) (by rw [WB];omega),?_⟩
  refine q3 hlv.1 hlv.2 hm _ (ax.put (ax.of s1)) ?_
  rw [af,List.map_set];rfl
 ·rw [inC,if_neg hm,if_pos rfl]
  k_upd
  exact ⟨by decide,q2 hlv.1 hlv.2 hm H' s1⟩
variable (xH:KM P w K mg base (CXf P w) 3 Z.ez "out" (oY K Z))
inductive ml (K:WA)(Z:Adr)(vs:List V)(H:Hp)(Q:VK)(E:XK):Prop | mk (y kn wh:Addr) (ks:List Str) (ws:List Int) (m:Int):vs=[.ref y]->c7 Z.ez H y kn wh ks ws m->(∀(y' kn' wh':Addr) (H':Hp),H y'=none->H kn'=none->H wh'=none->kn'≠wh'->av H H'->c7 Z.ez H' y' kn' wh' ks ws m->Q (.ref y') H')->ml K Z vs H Q E
include T iY in
theorem AH:FF P w K mg base CX0 3 "twin" "Yard.twin" nD vf (ml K Z):=fk0 tJ fun vs H Q E h=>by
 obtain ⟨y,kn,wh,ks,ws,m,rfl,hy,q⟩:=h
 k_all
 refine ⟨_,@ae _ _ _ _ _ (@aI _ _ 1 _ _ _ _ tJ.nd rfl orL (dn iY hr.dn T.G0 bw (pa2 (bh i7) (aq (pv' 0)))) (by rfl) hfA) (@ae _ _ _ _ _ (bV (pv' 1) (bN cq (by rfl) T.fD dR (pa1 (aq (pv' 0)))) rfl) (@ae _ _ _ _ _ (bV (pv' 1) (bN cq (by rfl) T.fD dR (pa1 (aq (pv' 0)))) rfl) (@ag _ _ _ (aC (pv' 1))))),?_⟩
 obtain ⟨⟨dy,hob⟩,hkn,hwh⟩:=id hy
 k_mem
 refine ⟨by decide,fun p0 hp0=>⟨_,_,_,upo hob hp0,T.c5,T.lD,_,rfl,?_⟩⟩
 refine fun x dx hx hdx nxd=>?_
 have s0:=(av.refl H).lay (o:=HO.lst []) hp0
 have hx':upd (upd H p0 (HO.lst [])) dx (.own x) x=none:=by rw [aB (Ne.symm nxd)];exact hx
 refine ⟨x,dx,p0,[],m,rfl,af,⟨[],SqL.of (upo (upo af hdx) hx'),CD.nil⟩,by decide,fun kn0 wh0 H1 hkn0 hwh0 nkw kp hy1=>⟨rfl,?_⟩⟩
 have s1:=s0.trans (fR hx hdx kp)
 obtain ⟨⟨dx1,hob1⟩,hkn1,hwh1⟩:=id hy1
 have hxn:H x=none:=s0.free hx
 clear kp hy1
 k_mem
 refine fgo (s1 _ _ hob) T.c5 T.fK rfl ?_
 k_mem
 refine ⟨_,.inl (SqL.of (s1 _ _ hkn)),fun k1 hk1=>⟨_,_,_,upo hob1 hk1,T.c5,T.fK,by show 3 < 1000;decide,?_⟩⟩
 have nk1:k1≠x:=fun z=>by rw [z,hob1] at hk1;cases hk1
 have s2:av H (upd (upd H1 k1 (HO.lst (ks.map V.str))) x (HO.ins Z.ez dx1 (bD "kinds" (.ref k1) [("kinds",V.ref kn0),("where",V.ref wh0),("many",V.int m)]))):=(s1.lay hk1).rewr hxn
 have hob2:upd (upd H1 k1 (HO.lst (ks.map V.str))) x (HO.ins Z.ez dx1 (bD "kinds" (.ref k1) [("kinds",V.ref kn0),("where",V.ref wh0),("many",V.int m)])) x=some (HO.ins Z.ez dx1 [("kinds",V.ref k1),("where",V.ref wh0),("many",V.int m)]):=by rw [af];rfl
 have hk2:upd (upd H1 k1 (HO.lst (ks.map V.str))) x (HO.ins Z.ez dx1 (bD "kinds" (.ref k1) [("kinds",V.ref kn0),("where",V.ref wh0),("many",V.int m)])) k1=some (HO.lst (ks.map V.str)):=by rw [aB nk1,af]
 generalize upd (upd H1 k1 (HO.lst (ks.map V.str))) x (HO.ins Z.ez dx1 (bD "kinds" (.ref k1) [("kinds",V.ref kn0),("where",V.ref wh0),("many",V.int m)]))=H2 at *
 refine fgo (s2 _ _ hob) T.c5 T.cu rfl ?_
 k_mem
 refine ⟨_,.inl (SqL.of (s2 _ _ hwh)),fun w1 hw1=>⟨_,_,_,upo hob2 hw1,T.c5,T.cu,by show 3 < 1000;decide,?_⟩⟩
 have nw1:w1≠x:=fun z=>by rw [z,hob2] at hw1;cases hw1
 have nkw1:k1≠w1:=ak hk2 hw1
 refine q x k1 w1 _ hxn (s1.free hk1) (s2.free hw1) nkw1 ((s2.lay hw1).rewr hxn) ⟨⟨dx1,by rw [af];rfl⟩,?_,?_⟩
 ·rw [aB nk1,aB nkw1];exact hk2
 ·rw [aB nw1,af]
variable (vy:KM P w K mg base CX0 3 Z.ez "twin" (ml K Z))
theorem Lv (s:Int)(x:Cd):inV (.int s) (cdV x)=decide (s=x.1\/s=x.2):=DP s x.1 x.2
inductive jG (K:WA)(Z:Adr)(vs:List V)(H:Hp)(Q:VK)(E:XK):Prop | mk (b cs fl st:Addr) (ls:List Cd) (fs:List Bool) (e:Eng) (lv s:Int):vs=[.ref b,.int lv,.int s]->bH Z.bL K H b cs fl st ls fs e->((¬(0<=lv/\lv < ls.length)->E (.ref Z.ao) none H))->((0<=lv->lv < ls.length->fs.getD lv.toNat false=true->E (.ref Z.aS) none H))->((0<=lv->lv < ls.length->fs.getD lv.toNat false=false->¬(s=(ba ls lv).1\/s=(ba ls lv).2)->E (.ref Z.br) none H))->((0<=lv->lv < ls.length->fs.getD lv.toNat false=false->(s=(ba ls lv).1\/s=(ba ls lv).2)->∀st' H',ax b H H'->bH Z.bL K H' b cs fl st' ls fs (.wait lv s)->Q .non H'))->jG K Z vs H Q E
include T bP in
theorem yK:FF P w K mg base (CXf P w) 3 "ring" "Bells.ring" kW sZ (jG K Z):=fkF yi fun vs H Q E h=>by
 obtain ⟨b,cs,fl,st,ls,fs,e,lv,s,rfl,hB,q1,q2,q3,q4⟩:=h
 k_all
 refine @seg _ _ _ 3 _ (@ag _ _ _ (bV (pv' 0) (aO (pa4 au (pv' 1) (pv' 2) gT)) rfl)) fun zt3 zh3 ze3=>?_
 refine @seg _ _ _ 2 _ (@ae _ _ _ _ _ (bu (jQ ye (pv' 2) (aN aE (aq (pv' 0)) (pv' 1)) (by rfl)) (@ag _ _ _ (bA T.BD (by rfl) T.xi (pa1 au))) (aJ)) zh3) fun zt2 zh2 ze2=>?_
 refine @seg _ _ _ 1 _ (@ae _ _ _ _ _ (bu (cb (aN aE (aq (pv' 0)) (pv' 1))) (@ag _ _ _ (bA T.Dg (by rfl) T.xh (pa1 au))) (aJ)) zh2) fun zt1 zh1 ze1=>?_
 refine ⟨_,@ae _ _ _ _ _ (@bj _ _ _ _ (dc bP hr.dn bU (pa2 (pv' 1) (aD aA (by rfl) T.cV ck (pa1 (aq (pv' 0)))))) (by rfl)) zh1,?_⟩
 obtain ⟨⟨dx,hob⟩,⟨as,hcs,hT⟩,hfl,hst,nn,ln⟩:=id hB
 k_mem
 refine fgo hob T.bG T.cU rfl ?_
 k_mem
 refine ⟨_,.inl (SqL.of hcs),_,_,rfl,?_⟩
 rw [WB,hT.1]
 k_upd
 refine ⟨fun hlv=>?_,q1⟩
 k_mem
 refine fgo hob T.bG T.cL rfl ?_
 k_mem
 refine ⟨_,SqL.of hfl,_,i9 hlv.1 (by omega),?_⟩
 k_mem
 split
 ·rename_i h
  k_upd
  exact ⟨by decide,q2 hlv.1 hlv.2 h⟩
 ·rename_i h
  k_upd
  refine fgo hob T.bG T.cU rfl ?_
  k_mem
  obtain ⟨ar,ea,hr⟩:=DV hT hlv.1 hlv.2
  k_upd
  refine ⟨_,SqL.of hcs,_,ea,?_⟩
  k_mem
  refine ⟨_,.inr hr,rfl,rfl,?_⟩
  rw [Lv]
  k_mem
  split
  ·rename_i h2
   k_upd
   exact ⟨by decide,q3 hlv.1 hlv.2 (by simpa using h) h2⟩
  ·rename_i h2
   k_upd
   refine ⟨by decide,fun st' hst'=>⟨_,_,_,upo hob hst',T.bG,T.bI,by show 3 < 1000;decide,?_⟩⟩
   have nsx:st'≠b:=fun z=>by rw [z,hob] at hst';cases hst'
   refine q4 hlv.1 hlv.2 (by simpa using h) (Decidable.not_not.mp h2) st' _ ((ax.of ((av.refl H).lay hst')).put) (hB.state ((ax.of ((av.refl H).lay hst')).put) (dx:=dx) (by rw [af];rfl) (SqT.of ?_))
   rw [aB nsx,af];rfl
variable (uj:KM P w K mg base (CXf P w) 3 Z.bL "ring" (jG K Z))
inductive jH (K:WA)(Z:Adr)(vs:List V)(H:Hp)(Q:VK)(E:XK):Prop | mk (b cs fl st:Addr) (ls:List Cd) (fs:List Bool) (e:Eng) (lv:Int):vs=[.ref b,.int lv]->bH Z.bL K H b cs fl st ls fs e->((¬(0<=lv/\lv < ls.length)->E (.ref Z.ao) none H))->((0<=lv->lv < ls.length->fs.getD lv.toNat false=true->E (.ref Z.aL) none H))->((0<=lv->lv < ls.length->fs.getD lv.toNat false=false->∀H',ax fl H H'->H' fl=some (.lst ((fs.set lv.toNat true).map V.bl))->Q .non H'))->jH K Z vs H Q E
include T bP in
theorem yL:FF P w K mg base (CXf P w) 3 "fail" "Bells.fail" kX td (jH K Z):=fkF yj fun vs H Q E h=>by
 obtain ⟨b,cs,fl,st,ls,fs,e,lv,rfl,hB,q1,q2,q3⟩:=h
 k_all
 refine @seg _ _ _ 2 _ (@ag _ _ _ (rz fA (uw (aq (pv' 0)) (pv' 1) gR))) fun zt2 zh2 ze2=>?_
 refine @seg _ _ _ 1 _ (@ae _ _ _ _ _ (bu (cb (aN aE (aq (pv' 0)) (pv' 1))) (@ag _ _ _ (bA T.xr (by rfl) T.rP (pa1 au))) (aJ)) zh2) fun zt1 zh1 ze1=>?_
 refine ⟨_,@ae _ _ _ _ _ (@bj _ _ _ _ (dc bP hr.dn bU (pa2 (pv' 1) (aD aA (by rfl) T.cV ck (pa1 (aq (pv' 0)))))) (by rfl)) zh1,?_⟩
 obtain ⟨⟨dx,hob⟩,⟨as,hcs,hT⟩,hfl,hst,nn,ln⟩:=id hB
 k_mem
 refine fgo hob T.bG T.cU rfl ?_
 k_mem
 refine ⟨_,.inl (SqL.of hcs),_,_,rfl,?_⟩
 rw [WB,hT.1]
 k_upd
 refine ⟨fun hlv=>?_,q1⟩
 k_mem
 refine fgo hob T.bG T.cL rfl ?_
 k_mem
 refine ⟨_,SqL.of hfl,_,i9 hlv.1 (by omega),?_⟩
 k_mem
 split
 ·rename_i h
  k_upd
  exact ⟨by decide,q2 hlv.1 hlv.2 h⟩
 ·rename_i h
  k_upd
  refine fgo hob T.bG T.cL rfl ?_
  k_mem
  refine ⟨_,hfl,_,uE hlv.1 (by rw [WB];omega),?_⟩
  k_upd
  exact q3 hlv.1 hlv.2 (by simpa using h) _ ((ax.of (av.refl H)).put) (by rw [af,List.map_set])
variable (uk:KM P w K mg base (CXf P w) 3 Z.bL "fail" (jH K Z))
theorem Lw (e:Eng)(lv c:Int):eqL (vF e) [V.str "armed",V.int lv,V.int c,V.int c]=match e with | .armed l' r=>decide (l'=lv/\r=c) | _=>false:=by
 cases e with
 | armed l r=>
  simp only [vF,eqL,zP,Bool.and_true]
  have:eqV (V.str "armed") (V.str "armed")=true:=rfl
  rw [this]
  by_cases h1:l=lv<;>by_cases h2:r=c<;>simp [h1,h2]
 | _=>rfl
theorem Jl {k:Str}(hk:k="men"\/k="coal"):∃i:Int,(if eqV (V.str "men") (V.str k)=true then (0:Int) else 1)=i/\(eqV (V.str "men") (V.str k) || eqV (V.str "coal") (V.str k))=true/\∀x:Cd,atI (cdV x) i=some (.int (if k="men" then x.1 else x.2)):=by
 rcases hk with rfl | rfl
 ·exact ⟨0,rfl,rfl,fun x=>rfl⟩
 ·exact ⟨1,rfl,rfl,fun x=>rfl⟩
inductive mm (K:WA)(Z:Adr)(vs:List V)(H:Hp)(Q:VK)(E:XK):Prop | mk (b cs fl st:Addr) (ls:List Cd) (fs:List Bool) (e:Eng) (lv:Int) (k:Str):vs=[.ref b,.int lv,.str k]->bH Z.bL K H b cs fl st ls fs e->((k="men"\/k="coal"))->((¬(0<=lv/\lv < ls.length)->E (.ref Z.ao) none H))->((0<=lv->lv < ls.length->e≠.armed lv (cO ls lv k)->∀H',av H H'->E (.ref Z.aQ) none H'))->((0<=lv->lv < ls.length->e=.armed lv (cO ls lv k)->∀st' H',ax b H H'->bH Z.bL K H' b cs fl st' ls fs (.used lv (cO ls lv k))->Q .non H'))->mm K Z vs H Q E
include T bP in
theorem AI:FF P w K mg base (CXf P w) 3 "use" "Bells.use" nE vg (mm K Z):=fkF tK fun vs H Q E h=>by
 obtain ⟨b,cs,fl,st,ls,fs,e,lv,k,rfl,hB,hk,q1,q2,q3⟩:=h
 k_all
 refine @seg _ _ _ 3 _ (@ag _ _ _ (bV (pv' 0) (aO (pa4 au (pv' 1) (pv' 3) (pv' 3))) rfl)) fun zt3 zh3 ze3=>?_
 refine @seg _ _ _ 2 _ (@ae _ _ _ _ _ (bu (jQ (K1 hr.units0) (aq (pv' 0)) (aO (pa4 au (pv' 1) (pv' 3) (pv' 3))) (cG _)) (@ag _ _ _ (bA T.Dj (by rfl) T.xj (pa1 au))) (aJ)) zh3) fun zt2 zh2 ze2=>?_
 refine @seg _ _ _ 1 _ (@ae _ _ _ _ _ (@aI _ _ 3 _ _ _ _ tK.nd rfl orL (aN bC (aN aE (aq (pv' 0)) (pv' 1)) (iP PySem.F.plainAttrs_tuple PySem.F.slot_tuple_index PySem.F.type_tuple_index ES (c3 (by rfl) T.Je) (pa1 (pv' 2)))) (by rfl) hfA) zh2) fun zt1 zh1 ze1=>?_
 refine ⟨_,@ae _ _ _ _ _ (@bj _ _ _ _ (dc bP hr.dn bU (pa2 (pv' 1) (aD aA (by rfl) T.cV ck (pa1 (aq (pv' 0)))))) (by rfl)) zh1,?_⟩
 obtain ⟨⟨dx,hob⟩,⟨as,hcs,hT⟩,hfl,hst,nn,ln⟩:=id hB
 k_mem
 refine fgo hob T.bG T.cU rfl ?_
 k_mem
 refine ⟨_,.inl (SqL.of hcs),_,_,rfl,?_⟩
 rw [WB,hT.1]
 k_upd
 refine ⟨fun hlv=>?_,q1⟩
 k_mem
 obtain ⟨ar,ea,hr⟩:=DV hT hlv.1 hlv.2
 obtain ⟨i,ei,ek,ex⟩:=Jl hk
 k_upd
 refine fgo hob T.bG T.cU rfl ?_
 k_mem
 refine ⟨_,SqL.of hcs,_,ea,.inr (.inl ⟨rfl,T.Jg⟩),_,_,_,_,rfl,rfl,T.Jf _,rfl,rfl,rfl,ek,?_⟩
 rw [ei]
 k_mem
 refine ⟨_,hr,_,ex _,?_⟩
 k_mem
 have ec:(if k=Str.ofString "men" then (ba ls lv).1 else (ba ls lv).2)=cO ls lv k:=rfl
 rw [ec]
 k_upd
 refine fgo hob T.bG T.bI rfl ⟨by decide,fun tp htp=>?_⟩
 k_mem
 refine ⟨_,_,_,_,rfl,rfl,((av.refl H).lay htp).tup hst,SqT.of af,List.all_eq_true.mpr (y4 e),rfl,?_⟩
 have s0:=(av.refl H).lay (o:=HO.tup [V.str (Str.ofString "armed"),V.int lv,V.int (cO ls lv k),V.int (cO ls lv k)]) htp
 have e2:eqL (vF e) [V.str (Str.ofString "armed"),V.int lv,V.int (cO ls lv k),V.int (cO ls lv k)]=_:=Lw e lv (cO ls lv k)
 rw [e2]
 have hob0:=s0 _ _ hob
 generalize upd H tp (HO.tup [V.str (Str.ofString "armed"),V.int lv,V.int (cO ls lv k),V.int (cO ls lv k)])=H0 at *
 have no:e≠.armed lv (cO ls lv k)->E (.ref Z.aQ) none H0:=fun z=>q2 hlv.1 hlv.2 z H0 s0
 cases e with
 | armed l' r=>
  k_mem
  by_cases hh:l'=lv/\r=cO ls lv k
  ·rw [if_neg (by simp [hh])]
   k_mem
   refine ⟨by decide,fun st' hst'=>⟨_,_,_,upo hob0 hst',T.bG,T.bI,by show 3 < 1000;decide,?_⟩⟩
   have nsx:st'≠b:=fun z=>by rw [z,hob0] at hst';cases hst'
   have k0:=((ax.of (s0.lay (o:=HO.tup [V.str (Str.ofString "used up"),V.int lv,V.int (cO ls lv k),V.int (cO ls lv k)]) hst')).put (o:=HO.ins Z.bL dx (bD "state" (.ref st') [("codes",V.ref cs),("failed",V.ref fl),("state",V.ref st)])) (p:=b))
   refine q3 hlv.1 hlv.2 (by rw [hh.1,hh.2]) st' _ k0 (hB.state k0 (dx:=dx) (by rw [af];rfl) (SqT.of ?_))
   rw [aB nsx,af];rfl
  ·rw [if_pos (by simp;intro z1 z2;exact hh ⟨z1,z2⟩)]
   k_mem
   exact ⟨by decide,no fun z=>by injection z with z1 z2;exact hh ⟨z1,z2⟩⟩
 | _=>
  k_mem
  exact ⟨by decide,no fun z=>Eng.noConfusion z⟩
variable (vz:KM P w K mg base (CXf P w) 3 Z.bL "use" (mm K Z))
inductive jI (K:WA)(Z:Adr)(vs:List V)(H:Hp)(Q:VK)(E:XK):Prop | mk (b cs fl st:Addr) (ls:List Cd) (fs:List Bool) (e:Eng):vs=[.ref b]->bH Z.bL K H b cs fl st ls fs e->ls.length<=1000->(∀(b' cs' fl':Addr) (H':Hp),H b'=none->H cs'=none->H fl'=none->av H H'->bH Z.bL K H' b' cs' fl' st ls fs e->Q (.ref b') H')->jI K Z vs H Q E
include T gJ in
theorem yM:FF P w K mg base CX0 3 "twin" "Bells.twin" kZ tj (jI K Z):=fk0 qU fun vs H Q E h=>by
 obtain ⟨b,cs,fl,st,ls,fs,e,rfl,hB,hn,q⟩:=h
 k_all
 refine ⟨_,@ae _ _ _ _ _ (@aI _ _ 1 _ _ _ _ qU.nd rfl orL (dn gJ hr.dn T.El bw (pa1 (aq (pv' 0)))) (by rfl) hfA) (@ae _ _ _ _ _ (bV (pv' 1) (bN cq (by rfl) T.fD dR (pa1 (aq (pv' 0)))) rfl) (@ae _ _ _ _ _ (bV (pv' 1) (aq (pv' 0)) rfl) (@ag _ _ _ (aC (pv' 1))))),?_⟩
 obtain ⟨⟨db,hob⟩,⟨as,hcs,hT⟩,hfl,hst,nn,ln⟩:=id hB
 k_mem
 refine fgo hob T.bG T.cU rfl ?_
 refine fun x dx hx hdx nxd=>?_
 have hx':upd H dx (.own x) x=none:=by rw [aB (Ne.symm nxd)];exact hx
 refine ⟨x,dx,cs,ls,rfl,af,hB.rows.same (((av.refl H).lay hdx).lay hx'),hn,fun cs1 fl1 st1 H1 hcs1 hfl1 kp hB1=>⟨rfl,?_⟩⟩
 have s1:=fR hx hdx kp
 obtain ⟨⟨dx1,hob1⟩,⟨as1,hc1,hT1⟩,hf1,_,nn1,ln1⟩:=id hB1
 clear kp
 k_mem
 refine fgo (s1 _ _ hob) T.bG T.cL rfl ?_
 k_mem
 refine ⟨_,.inl (SqL.of (s1 _ _ hfl)),fun f2 hf2=>⟨_,_,_,upo hob1 hf2,T.bG,T.cL,by show 3 < 1000;decide,?_⟩⟩
 have nf2:f2≠x:=fun z=>by rw [z,hob1] at hf2;cases hf2
 have ncf:cs1≠f2:=ak hc1 hf2
 have ncx:cs1≠x:=fun z=>by rw [z,hob1] at hc1;cases hc1
 have s2:av H (upd (upd H1 f2 (HO.lst (fs.map V.bl))) x (HO.ins Z.bL dx1 (bD "failed" (.ref f2) [("codes",V.ref cs1),("failed",V.ref fl1),("state",V.ref st1)]))):=(s1.lay hf2).rewr hx
 have k2:L2.ax x H1 (upd (upd H1 f2 (HO.lst (fs.map V.bl))) x (HO.ins Z.bL dx1 (bD "failed" (.ref f2) [("codes",V.ref cs1),("failed",V.ref fl1),("state",V.ref st1)]))):=(ax.of ((av.refl H1).lay hf2)).put
 have hob2:upd (upd H1 f2 (HO.lst (fs.map V.bl))) x (HO.ins Z.bL dx1 (bD "failed" (.ref f2) [("codes",V.ref cs1),("failed",V.ref fl1),("state",V.ref st1)])) x=some (HO.ins Z.bL dx1 [("codes",V.ref cs1),("failed",V.ref f2),("state",V.ref st1)]):=by rw [af];rfl
 have hff:upd (upd H1 f2 (HO.lst (fs.map V.bl))) x (HO.ins Z.bL dx1 (bD "failed" (.ref f2) [("codes",V.ref cs1),("failed",V.ref fl1),("state",V.ref st1)])) f2=some (HO.lst (fs.map V.bl)):=by rw [aB nf2,af]
 generalize upd (upd H1 f2 (HO.lst (fs.map V.bl))) x (HO.ins Z.bL dx1 (bD "failed" (.ref f2) [("codes",V.ref cs1),("failed",V.ref fl1),("state",V.ref st1)]))=H2 at *
 refine fgo (s2 _ _ hob) T.bG T.bI rfl ?_
 k_mem
 refine ⟨_,_,_,hob2,T.bG,T.bI,by show 3 < 1000;decide,?_⟩
 have k3:L2.ax x H2 (upd H2 x (HO.ins Z.bL dx1 (bD "state" (.ref st) [("codes",V.ref cs1),("failed",V.ref f2),("state",V.ref st1)]))):=(ax.of (av.refl H2)).put
 refine q x cs1 f2 _ hx (fe hcs1) (s1.free hf2) (s2.rewr hx) ⟨⟨dx1,by rw [af];rfl⟩,⟨as1,k3 _ _ ncx (k2 _ _ ncx hc1),(hT1.keepI k2 hob1).keepI k3 hob2⟩,k3 _ _ nf2 hff,(s2.rewr hx).tup hst,ncf,ln⟩
variable (um:KM P w K mg base CX0 3 Z.bL "twin" (jI K Z))
inductive iE (K:WA)(Z:Adr)(vs:List V)(H:Hp)(Q:VK)(E:XK):Prop | mk (a:Addr) (ds:List Int) (c lv:Int):vs=[.ref a,.int c,.int lv]->SqL K H a (ds.map V.int)->0<=lv->lv < ds.length->Q (.int (if c=0 then ds.getD lv.toNat 0 else cA ds - ds.getD lv.toNat 0)) H->iE K Z vs H Q E
include T dD in
theorem xI:FF P w K mg base CX0 3 "wound_place" "wound_place" jh qN (iE K Z):=fk0 wU fun vs H Q E h=>by
 obtain ⟨a,ds,c,lv,rfl,hS,h0,h1,q⟩:=h
 k_all
 refine @seg _ _ _ 1 _ (@ag _ _ _ (aC (dc0 dD hr.dn (pa2 (pv' 0) (aN aE (pv' 0) (pv' 2)))))) fun zt1 zh1 ze1=>?_
 refine ⟨_,@ae _ _ _ _ _ (bu (en (pv' 1) ah) (@ag _ _ _ (aC (aN aE (pv' 0) (pv' 2)))) (aJ)) zh1,?_⟩
 k_mem
 split
 ·rename_i hc
  k_upd
  rw [if_pos hc] at q
  k_upd
  exact ⟨_,hS,_,fH h0 h1,q⟩
 ·rename_i hc
  k_upd
  rw [if_neg hc] at q
  k_upd
  refine ⟨_,hS,_,fH h0 h1,?_⟩
  k_mem
  exact ⟨a,ds,_,rfl,hS,by omega,q⟩
variable (rp:KD P w K mg base CX0 3 "wound_place" (iE K Z))
inductive oZ (K:WA)(Z:Adr)(vs:List V)(H:Hp)(Q:VK)(E:XK):Prop | mk (a:Addr) (ds:List Int) (pl:Int):vs=[.ref a,.int pl]->SqL K H a (ds.map V.int)->0 < ds.length->ds.length<=1000->(∀(b:Addr) (H':Hp),H b=none->av H H'->H' b=some (.lst ((fI ds pl).map V.int))->Q (.ref b) H')->oZ K Z vs H Q E
include T dD in
theorem B0:FF P w K mg base CX0 3 "gates_by" "gates_by" rH wL (oZ K Z):=fk0 vo fun vs H Q E h=>by
 obtain ⟨a,ds,pl,rfl,hS,h0,h1,q⟩:=h
 k_all
 refine ⟨_,@ae _ _ _ _ _ (@aI _ _ 2 _ _ _ _ vo.nd rfl (Or.inr rfl) (aO (pa2 (pv' 1) (dc0 dD hr.dn (pa2 (pv' 0) (pv' 1))))) (by rfl) hfA) (@ag _ _ _ (aC (sy ["level","depths","stands"] [none,some 0,some 2] (cK (by rfl) T.dW (pa1 (aD aA (by rfl) T.cV ck (pa1 (pv' 0))))) (fun _ _ _ _=>(aW (i:=0) (show (["level","depths","stands"]:List Str).Nodup by decide +kernel) rfl orL)) (fun _ _ _ _=>(zN (jQ (show OpR _ _ (EZ K false) from kQ) (aN (show IxR _ (wD K) from aE) (pv' 1) (pv' 0)) (pv' 2) (by rfl)))) (fun _ _ _ _=>(pv' 0))))),?_⟩
 k_mem
 refine ⟨a,ds,pl,rfl,hS,h0,?_⟩
 k_mem
 refine ⟨by decide,fun t ht=>⟨_,.inl (((av.refl H).lay ht).seq hS),by omega,by rw [WB];omega,?_⟩⟩
 refine mr (fun i=>decide (ds.getD i 0=pl\/ds.getD i 0=cA ds - pl)) (fun i=>V.int (i:Int)) (Nat.le_of_lt (dQ (by rw [WB];omega))) rfl (fun i hi N q=>?_) (fun i hi _ N q=>?_) (fun b hb=>?_)
 ·rw [WB] at hi
  k_mem
  refine ⟨_,((av.refl H).lay ht).seq hS,_,by rw [Int.zero_add];exact A4 (by omega),_,.inr (SqT.of af),rfl,rfl,?_⟩
  rw [DP]
  exact q
 ·k_mem
  rw [Int.zero_add]
  exact q
 ·refine q b _ (upn hb) (((av.refl H).lay ht).lay hb) ?_
  rw [af]
  unfold fI
  rw [List.map_map,WB]
  rfl
variable (xJ:KD P w K mg base CX0 3 "gates_by" (oZ K Z))
inductive jJ (K:WA)(Z:Adr)(vs:List V)(H:Hp)(Q:VK)(E:XK):Prop | mk (x dx d c l:Addr) (ds:List Int) (ls:List Cd) (lds:List Ld) (slow fast:Int) (N:Addr->Prop):vs=[.ref x,.ref d,.ref c,.int slow,.int fast,.ref l]->H x=some (.ins Z.bB dx [])->SqL K H d (ds.map V.int)->i8 cdV K H c ls->dS K H l lds->ds.length<=1000->ls.length<=1000->lds.length<=1000->((∀p,N p->∃ys,H p=some (.lst ys)))->((¬cn ds->E (.ref Z.bQ) none H))->((cn ds->¬((ls.length:Int)=(ds.length:Nat)/\∀x∈ls,dM x)->E (.ref Z.cx) none H))->((cn ds->((ls.length:Int)=(ds.length:Nat)/\∀x∈ls,dM x)->¬(1<=slow/\slow<=fast/\fast<=500)->E (.ref Z.bR) none H))->((cn ds->((ls.length:Int)=(ds.length:Nat)/\∀x∈ls,dM x)->(1<=slow/\slow<=fast/\fast<=500)->¬(lds.length<=30/\∀x∈lds,rB (ds.length:Nat) x)->E (.ref Z.cw) none H))->((cn ds->((ls.length:Int)=(ds.length:Nat)/\∀x∈ls,dM x)->(1<=slow/\slow<=fast/\fast<=500)->(lds.length<=30/\∀x∈lds,rB (ds.length:Nat) x)->∀bk rl H',ax x H H'->H rl=none->WAt (clZ Z) K H' x bk rl (qG ds ls slow fast lds N) (mV ds ls lds) []->Q .non H'))->jJ K Z vs H Q E
include T iY gJ oQ oS eF vv rj rk in
theorem yN:FF P w K mg base (CXf P w) 3 "__init__" "Works.__init__" lp tw (jJ K Z):=fkF jk fun vs H Q E h=>by
 obtain ⟨x,dx,d,c,l,ds,ls,lds,slow,fast,N,rfl,hx,hD,hC,hL,n1,n2,n3,hN,q1,q2,q3,q4,q5⟩:=h
 k_all
 refine ⟨_,@ae _ _ _ _ _ (@bj _ _ _ _ (dc oQ hr.dn bU (pa1 (pv' 1))) (by rfl)) (@ae _ _ _ _ _ (@bj _ _ _ _ (dc rk hr.dn bU (pa2 (pv' 2) (aD aA (by rfl) T.cV ck (pa1 (pv' 1))))) (by rfl)) (@ae _ _ _ _ _ (@bj _ _ _ _ (dc oS hr.dn bU (pa2 (pv' 3) (pv' 4))) (by rfl)) (@ae _ _ _ _ _ (@bj _ _ _ _ (dc rj hr.dn bU (pa2 (pv' 5) (aD aA (by rfl) T.cV ck (pa1 (pv' 1))))) (by rfl)) (@ae _ _ _ _ _ (bV (pv' 0) (bN cq (by rfl) T.fD dR (pa1 (pv' 1))) rfl) (@ae _ _ _ _ _ (bV (pv' 0) (pv' 3) rfl) (@ae _ _ _ _ _ (bV (pv' 0) (pv' 4) rfl) (@ae _ _ _ _ _ (bV (pv' 0) (sy ["kind","level","goal"] [none,none,none] (dO (pv' 5)) (fun _ _ _ _=>(show PG _ _ (sJ K 3 _) from fJ (n:=3) rfl (a7 (aW (i:=0) (show (["kind","level","goal"]:List Str).Nodup by decide +kernel) rfl orL) (a7 (aW (i:=1) (show (["kind","level","goal"]:List Str).Nodup by decide +kernel) rfl orL) (a7 (aW (i:=2) (show (["kind","level","goal"]:List Str).Nodup by decide +kernel) rfl orL) dN))))) (fun _ _ _ _=>iQ) (fun _ _ _ _=>(pv' 2))) rfl) (@ae _ _ _ _ _ (JM ["depth"] [none] (iy:=6) jk.nd rfl rfl (dO (pv' 1)) (fun _ _ _ _=>(aW (i:=0) (show (["depth"]:List Str).Nodup by decide +kernel) rfl orL)) (fun _ _ _ _=>iQ) (fun _ _ _ _=>fA)) (@ae _ _ _ _ _ (@aI _ _ 7 _ _ _ _ jk.nd rfl orL (dn eF hr.dn T.xn bw (pa4 (aN aE (pv' 1) ah) (pv' 6) (dn gJ hr.dn T.El bw (pa1 (pv' 2))) (dn iY hr.dn T.G0 bw (pa2 (pv' 5) (aD aA (by rfl) T.cV ck (pa1 (pv' 1))))))) (by rfl) hfA) (@ag _ _ _ (bV (pv' 0) (dn vv hr.dn T.Lp bw (pa2 (pv' 7) (c3 (by rfl) T.tN))) rfl))))))))))),?_⟩
 k_mem
 refine ⟨d,ds,rfl,hD,by omega,fun sh=>?_,q1⟩
 k_mem
 refine ⟨_,.inl hD,?_⟩
 rw [WB]
 refine ⟨c,ls,_,rfl,hC,fun h2=>?_,q2 sh⟩
 k_mem
 refine ⟨_,_,rfl,?_⟩
 by_cases h3:1<=slow/\slow<=fast/\fast<=500
 case neg=>rw [if_neg h3];exact q3 sh h2 h3
 rw [if_pos h3]
 k_mem
 refine ⟨_,.inl hD,?_⟩
 rw [WB]
 refine ⟨l,lds,_,rfl,hL,fun h4=>?_,q4 sh h2 h3⟩
 replace q5:=q5 sh h2 h3 h4
 clear q1 q2 q3 q4
 k_mem
 refine ⟨_,.inl hD,fun dl hdl=>⟨_,_,_,upo hx hdl,T.bc,T.cM,by decide,_,_,_,af,T.bc,T.rf,by show 1 < 1000;decide,_,_,_,af,T.bc,T.rg,by show 2 < 1000;decide,?_⟩⟩
 have ndx:dl≠x:=fun z=>by rw [z,hx] at hdl;cases hdl
 have k1:L2.ax x H (upd (upd (upd (upd H dl (HO.lst (ds.map V.int))) x (HO.ins Z.bB dx (bD "depths" (.ref dl) []))) x (HO.ins Z.bB dx (bD "slow" (.int slow) (bD "depths" (.ref dl) [])))) x (HO.ins Z.bB dx (bD "fast" (.int fast) (bD "slow" (.int slow) (bD "depths" (.ref dl) []))))):=(((ax.of ((av.refl H).lay hdl)).put).put).put
 have hx1:upd (upd (upd (upd H dl (HO.lst (ds.map V.int))) x (HO.ins Z.bB dx (bD "depths" (.ref dl) []))) x (HO.ins Z.bB dx (bD "slow" (.int slow) (bD "depths" (.ref dl) [])))) x (HO.ins Z.bB dx (bD "fast" (.int fast) (bD "slow" (.int slow) (bD "depths" (.ref dl) [])))) x=some (HO.ins Z.bB dx [("depths",.ref dl),("slow",.int slow),("fast",.int fast)]):=by rw [af];rfl
 have hd1:upd (upd (upd (upd H dl (HO.lst (ds.map V.int))) x (HO.ins Z.bB dx (bD "depths" (.ref dl) []))) x (HO.ins Z.bB dx (bD "slow" (.int slow) (bD "depths" (.ref dl) [])))) x (HO.ins Z.bB dx (bD "fast" (.int fast) (bD "slow" (.int slow) (bD "depths" (.ref dl) [])))) dl=some (HO.lst (ds.map V.int)):=by rw [aB ndx,aB ndx,aB ndx,af]
 generalize upd (upd (upd (upd H dl (HO.lst (ds.map V.int))) x (HO.ins Z.bB dx (bD "depths" (.ref dl) []))) x (HO.ins Z.bB dx (bD "slow" (.int slow) (bD "depths" (.ref dl) [])))) x (HO.ins Z.bB dx (bD "fast" (.int fast) (bD "slow" (.int slow) (bD "depths" (.ref dl) []))))=H1 at *
 obtain ⟨asL,hLs,hLt⟩:=id hL
 refine ⟨⟨_,hLs.keepI k1 hx⟩,uK (fun y=>.int y.2.2) (hL.keepI k1 hx) (by rw [sizeLine_eq];omega) rfl (fun y _ M hM=>by k_mem;exact hM) fun gl hgl=>?_⟩
 k_mem
 refine ⟨_,_,_,upo hx1 hgl,T.bc,T.nO,by show 3 < 1000;decide,?_⟩
 have ngx:gl≠x:=fun z=>by rw [z,hx1] at hgl;cases hgl
 have ngd:dl≠gl:=ak hd1 hgl
 have k2:L2.ax x H1 (upd (upd H1 gl (HO.lst (lds.map fun y=>V.int y.2.2))) x (HO.ins Z.bB dx (bD "goals" (.ref gl) [("depths",.ref dl),("slow",.int slow),("fast",.int fast)]))):=(ax.of ((av.refl H1).lay hgl)).put
 have hx2:upd (upd H1 gl (HO.lst (lds.map fun y=>V.int y.2.2))) x (HO.ins Z.bB dx (bD "goals" (.ref gl) [("depths",.ref dl),("slow",.int slow),("fast",.int fast)])) x=some (HO.ins Z.bB dx [("depths",.ref dl),("slow",.int slow),("fast",.int fast),("goals",.ref gl)]):=by rw [af];rfl
 have hg2:upd (upd H1 gl (HO.lst (lds.map fun y=>V.int y.2.2))) x (HO.ins Z.bB dx (bD "goals" (.ref gl) [("depths",.ref dl),("slow",.int slow),("fast",.int fast)])) gl=some (HO.lst ((lds.map (·.2.2)).map V.int)):=by rw [aB ngx,af,List.map_map];rfl
 generalize upd (upd H1 gl (HO.lst (lds.map fun y=>V.int y.2.2))) x (HO.ins Z.bB dx (bD "goals" (.ref gl) [("depths",.ref dl),("slow",.int slow),("fast",.int fast)]))=H2 at *
 have k12:=k1.trans k2
 have hd2:=k2 _ _ ndx hd1
 refine ⟨⟨_,hD.keepI k12 hx⟩,?_⟩
 refine va (fun _=>true) (fun _=>V.bl false) (hD.keepI k12 hx) (by rw [WB,sizeLine_eq];omega) rfl (fun y _ M hM=>by k_mem;exact hM) (fun y _ _ M hM=>by k_mem;exact hM) fun sh1 hsh1=>?_
 have es:((ds.map V.int).filter fun _=>true).map (fun _=>V.bl false)=(ds.map fun _=>false).map V.bl:=by
  rw [List.filter_eq_self.mpr (by simp),List.map_map,List.map_map];rfl
 rw [es]
 have f3:=(av.refl H2).lay (o:=HO.lst ((ds.map fun _=>false).map V.bl)) hsh1
 have hs3:upd H2 sh1 (HO.lst ((ds.map fun _=>false).map V.bl)) sh1=some (HO.lst ((ds.map fun _=>false).map V.bl)):=af
 generalize upd H2 sh1 (HO.lst ((ds.map fun _=>false).map V.bl))=H3 at *
 have k13:L2.ax x H H3:=k12.trans (ax.of f3)
 have sl2:=sh.l2
 k_mem
 refine ⟨_,hD.keepI k13 hx,_,fH (k:=0) (by omega) (by omega),?_⟩
 k_mem
 refine fun b db hb hdb nbd=>?_
 have hb':upd H3 db (.own b) b=none:=by rw [aB (Ne.symm nbd)];exact hb
 refine ⟨b,db,c,ls,rfl,af,(hC.keepI k13 hx).same (((av.refl H3).lay hdb).lay hb'),n2,fun cs fl st H4 hcs hfl kp hB=>⟨rfl,?_⟩⟩
 have f4:=fR hb hdb kp
 have fcs:=fe hcs
 have ffl:=fe hfl
 clear kp hcs hfl
 have f34:=f3.trans f4
 have k14:L2.ax x H H4:=k13.trans (ax.of f4)
 k_mem
 refine ⟨_,.inl (hD.keepI k14 hx),?_⟩
 rw [WB]
 refine fun y dy hy hdy nyd=>?_
 have hy':upd H4 dy (.own y) y=none:=by rw [aB (Ne.symm nyd)];exact hy
 refine ⟨y,dy,l,lds,_,rfl,af,(hL.keepI k14 hx).same (((av.refl H4).lay hdy).lay hy'),n3,fun kn wh H5 hkn hwh nkw kp hY=>⟨rfl,?_⟩⟩
 have f5:=fR hy hdy kp
 have fkn:=fe hkn
 have fwh:=fe hwh
 clear kp hkn hwh
 k_mem
 refine fun s ds1 hs hds1 nsd=>?_
 have hs':upd H5 ds1 (.own s) s=none:=by rw [aB (Ne.symm nsd)];exact hs
 refine ⟨s,ds1,sh1,b,y,ds.getD 0 0,ds.map fun _=>false,rfl,af,(((av.refl H5).lay hds1).lay hs').seq (SqL.of (f5 _ _ (f4 _ _ hs3))),fun ol H6 hol kp hob6 hol6=>⟨rfl,?_⟩⟩
 have f6:=fR hs hds1 kp
 have fol:=fe hol
 clear kp hol
 k_mem
 refine fun bk dbk hbk hdbk nbk=>?_
 refine ⟨bk,dbk,s,rfl,af,fun rl H7 hrl kp hob7 hrl7=>⟨rfl,?_⟩⟩
 have f7:=fR hbk hdbk kp
 have frl:=fe hrl
 clear kp hrl
 have f26:=(f3.trans f4).trans (f5.trans f6)
 have f27:=f26.trans f7
 have hx7:=f27 _ _ hx2
 k_mem
 refine ⟨_,_,_,hx7,T.bc,T.bb,by show 4 < 1000;decide,?_⟩
 have k8:L2.ax x H7 (upd H7 x (HO.ins Z.bB dx (bD "log" (.ref bk) [("depths",.ref dl),("slow",.int slow),("fast",.int fast),("goals",.ref gl)]))):=(ax.of (av.refl H7)).put
 have hx8:upd H7 x (HO.ins Z.bB dx (bD "log" (.ref bk) [("depths",.ref dl),("slow",.int slow),("fast",.int fast),("goals",.ref gl)])) x=some (HO.ins Z.bB dx [("depths",.ref dl),("slow",.int slow),("fast",.int fast),("goals",.ref gl),("log",.ref bk)]):=by rw [af];rfl
 generalize upd H7 x (HO.ins Z.bB dx (bD "log" (.ref bk) [("depths",.ref dl),("slow",.int slow),("fast",.int fast),("goals",.ref gl)]))=H8 at *
 have frx:∀z,H6 z=none->H z=none:=fun z hz=>by
  by_cases e:z=x
  ·subst e;rw [f26 _ _ hx2] at hz;cases hz
  ·exact k12.free e (f26.free hz)
 obtain ⟨_,⟨asc,oc4,_⟩,of4,_,ncf,_⟩:=id hB
 obtain ⟨_,okn5,owh5⟩:=id hY
 have hsx:s≠x:=fun z=>by rw [z] at hs;rw [f5 _ _ (f34 _ _ hx2)] at hs;cases hs
 have hbx:b≠x:=fun z=>by rw [z] at hb;rw [f3 _ _ hx2] at hb;cases hb
 have hyx:y≠x:=fun z=>by rw [z] at hy;rw [f34 _ _ hx2] at hy;cases hy
 have hbkx:bk≠x:=fun z=>by rw [z] at hbk;rw [f26 _ _ hx2] at hbk;cases hbk
 have f46:=f5.trans f6
 have hN6:∀p,N p->∃ys,H6 p=some (.lst ys):=fun p hp=>by
  obtain ⟨ys,e⟩:=hN p hp
  exact ⟨ys,f26 _ _ (k12 _ _ (fun z=>by rw [z,hx] at e;cases e) e)⟩
 have hNn:∀p,N p->∀z,H z=none->z≠p:=fun p hp z hz e=>by
  obtain ⟨ys,e'⟩:=hN p hp
  rw [←e,hz] at e';cases e'
 have fr3:∀z,z≠x->H3 z=none->H z=none:=fun z e hz=>k13.free e hz
 have nx3:∀z,H3 z=none->z≠x:=fun z hz e=>by rw [e,f3 _ _ hx2] at hz;cases hz
 have gcs:=fr3 cs (nx3 cs fcs) fcs
 have gfl:=fr3 fl (nx3 fl ffl) ffl
 have gkn:=fr3 kn (nx3 kn (f4.free fkn)) (f4.free fkn)
 have gwh:=fr3 wh (nx3 wh (f4.free fwh)) (f4.free fwh)
 have gol:=fr3 ol (nx3 ol (f4.free (f5.free fol))) (f4.free (f5.free fol))
 have cs5:=f5 _ _ oc4
 have fl5:=f5 _ _ of4
 have hst:a9 (clZ Z) K H7 rl (qG ds ls slow fast lds N) s ⟨ds1,ol,b,cs,fl,st,y,kn,wh⟩ (mV ds ls lds):=
  ⟨f7 _ _ hob6,f7 _ _ hol6,((hB.same f5).same f6).same f7,(hY.same f6).same f7,
   ⟨ak hol6 frl,ak (f6 _ _ cs5) frl,ak (f6 _ _ fl5) frl,ak (f6 _ _ okn5) frl,ak (f6 _ _ owh5) frl,
   ak cs5 fol,ak fl5 fol,ak okn5 fol,ak owh5 fol,
   (ak fl5 fol).symm,(ak of4 fkn).symm,(ak of4 fwh).symm,
   (ak owh5 fol).symm,ak oc4 fwh,ak of4 fwh,nkw⟩,
   ⟨fun p hp=>by obtain ⟨ys,e⟩:=hN6 p hp;exact ⟨ys,f7 _ _ e⟩,fun p hp=>hNn p hp rl (frx rl frl),fun p hp=>hNn p hp ol gol,fun p hp=>hNn p hp cs gcs,fun p hp=>hNn p hp fl gfl,fun p hp=>hNn p hp kn gkn,fun p hp=>hNn p hp wh gwh⟩⟩
 have hst8:=hst.keepI k8 hx7 hsx hbx hyx
 have nrx:rl≠x:=fun z=>by rw [z] at frl;rw [f26 _ _ hx2] at frl;cases frl
 refine q5 bk rl H8 ((k12.trans (ax.of f27)).trans k8) (frx rl frl) ⟨⟨dx,dl,gl,hx8,k8 _ _ ndx (f27 _ _ hd2),k8 _ _ ngx (f27 _ _ hg2),ak (f26 _ _ hd2) frl,ak (f26 _ _ hg2) frl,fun p hp=>hNn p hp dl hdl,fun p hp=>hNn p hp gl (k1.free ngx hgl)⟩,⟨dbk,s,k8 _ _ hbkx hob7,hst8.at⟩,[],k8 _ _ nrx hrl7,rfl,fun i a r e=>by simp at e⟩
variable (gM:KN P w K mg base (CXf P w) 3 Z.bB (jJ K Z))
def vA (Z:Adr)(K:WA)(H:Hp)(w bk rl:Addr)(g:Cfg)(n0:a8)(rs:List Row)(d:Dd)(Q:VK)(E:XK):Prop:=
 (300<=rs.length->∀H',av H H'->E (.ref Z.aM) none H')/\(rs.length < 300->∀H',ax rl H H'->WAt (clZ Z) K H' w bk rl g n0 (rs++[iS g n0 rs d])->Q (.int (eG rs+kK g (aj n0 rs) d)) H')
inductive iF (K:WA)(Z:Adr)(vs:List V)(H:Hp)(Q:VK)(E:XK):Prop | mk (w bk rl:Addr) (g:Cfg) (n0:a8) (rs:List Row) (dd s:Addr) (tk:Int) (dv:List V) (n:a8):vs=[.ref w,.ref dd,.int tk,.ref s]->WAt (clZ Z) K H w bk rl g n0 rs->SqT K H dd dv->dH (clZ Z) K H rl g s n->g.ks.length=n.ws.length->((300<=rs.length->∀H',av H H'->E (.ref Z.aM) none H'))->((rs.length < 300->∀H',ax rl H H'->WAt (clZ Z) K H' w bk rl g n0 (rs++[⟨eG rs,eG rs+tk,dv,fB g n,n⟩])->Q (.int (eG rs+tk)) H'))->iF K Z vs H Q E
include T uh dz dr in
theorem xK:FF P w K mg base (CXf P w) 3 "write" "Works.write" jm qQ (iF K Z):=fkF wX fun vs H Q E h=>by
 obtain ⟨w,bk,rl,g,n0,rs,dd,s0,tk,dv,n,rfl,hW,hD,hS,hl,q1,q2⟩:=h
 k_all
 refine @seg _ _ _ 1 _ (@ag _ _ _ (aC (c4 (pv' 0) dr hr.dn bw))) fun zt1 zh1 ze1=>?_
 refine ⟨_,@ae _ _ _ _ _ (@bj _ _ _ _ (dm' (aq (pv' 0)) uh hr.dn bU (pa4 (pv' 1) (pv' 2) (dm' (pv' 0) dz hr.dn bw (pa1 (pv' 3))) (pv' 3))) (by rfl)) zh1,?_⟩
 obtain ⟨⟨dx,dl,gl,hob,hdl,hgl,n1,n2⟩,hB⟩:=id hW
 obtain ⟨⟨db,f0,hbo,hF⟩,as,hrl,hR⟩:=id hB
 k_mem
 refine fgo hob T.bc T.bb rfl ?_
 k_mem
 refine mgo hbo rfl (mgo hob rfl ⟨_,_,_,_,_,_,_,_,rfl,hW,hS,hl,fun H1 s1=>?_⟩)
 k_mem
 refine ⟨bk,rl,dd,s0,g,n0,n,rs,tk,fB g n,dv,rfl,hB.same s1,s1.tup hD,hS.same s1,fun h=>q1 h H1 s1,fun h H2 k2 hB2=>?_⟩
 k_mem
 have k1:L2.ax rl H H2:=(ax.of s1).trans k2
 have hW2:WAt (clZ Z) K H2 w bk rl g n0 _:=(hW.same s1).keep k2 (s1 _ _ hrl) hB2
 obtain ⟨dx2,_,_,hob2,_⟩:=id hW2.ob
 k_upd
 refine mgo hob2 rfl ⟨_,_,_,_,_,_,rfl,hW2,?_⟩
 rw [uG]
 k_upd
 exact q2 h H2 k1 hW2
variable (bE:KM P w K mg base (CXf P w) 3 Z.bB "write" (iF K Z))
inductive dP (K:WA)(Z:Adr)(vs:List V)(H:Hp)(Q:VK)(E:XK):Prop | mk (w bk rl:Addr) (g:Cfg) (n0:a8) (rs:List Row) (pl:Int):vs=[.ref w,.int pl]->WAt (clZ Z) K H w bk rl g n0 rs->0 < g.ds.length->(∀p,H p=none->Q (.ref p) (upd H p (.tup [.int pl,.int (cA g.ds - pl)])))->dP K Z vs H Q E
include T dD in
theorem o6:FF P w K mg base CX0 3 "both_places" "Works.both_places" ee gC (dP K Z):=fk0 nI fun vs H Q E h=>by
 obtain ⟨w,bk,rl,g,n0,rs,pl,rfl,hW,hn,q⟩:=h
 k_all
 refine ⟨_,@ag _ _ _ (aC (aO (pa2 (pv' 1) (dc0 dD hr.dn (pa2 (aq (pv' 0)) (pv' 1)))))),?_⟩
 obtain ⟨⟨dx,dl,gl,hob,hdl,hgl,n1,n2⟩,hB⟩:=id hW
 obtain ⟨⟨db,f0,hbo,hF⟩,as,hrl,hR⟩:=id hB
 k_mem
 refine fgo hob T.bc T.cM rfl ?_
 k_mem
 refine ⟨_,_,_,rfl,SqL.of hdl,hn,?_⟩
 k_mem
 exact ⟨by decide,q⟩
variable (gD:KM P w K mg base CX0 3 Z.bB "both_places" (dP K Z))
theorem E8 {x y z i:Int}(h0:0<=i)(h2:i<=2):atI [V.int x,V.int y,V.int z] i=some (.int (if i=0 then x else if i=1 then y else z)):=by
 rcases (by omega:i=0\/i=1\/i=2) with rfl | rfl | rfl<;>rfl
inductive r9 (K:WA)(Z:Adr)(vs:List V)(H:Hp)(Q:VK)(E:XK):Prop | mk (a:Addr) (ns:List Int):vs=[.ref a]->SqL K H a (ns.map V.int)->(∀(p dl cl:Addr) (ds:List Int) (as:List Addr) (ls:List Cd) (slow fast:Int) (H':Hp),av H H'->H p=none->H dl=none->H cl=none->dl≠cl->H' p=some (.lst [.ref dl,.ref cl,.int slow,.int fast])->H' dl=some (.lst (ds.map V.int))->cn ds->H' cl=some (.lst (as.map V.ref))->cS cdV K H' as ls->ls.length=ds.length->(∀x∈ls,dM x)->(1<=slow/\slow<=fast/\fast<=500)->Q (.ref p) H')->r9 K Z vs H Q E
include T jB cy xG zy in
theorem Dy:FF P w K mg base CX0 3 "_law_shaft" "_law_shaft" jT zg (r9 K Z):=fk0 eK fun vs H Q E h=>by
 obtain ⟨a,ns,rfl,hS,q⟩:=h
 k_all
 obtain ⟨t1,h1,k1⟩:∃t,PSs (xX CX0 P w K mg base ["_law_script","_law_depths_here","_law_codes_here","_law_cell","_law_slow","_law_fast"] "_law_shaft" (ai jT) zf zv zA zo zs H E).nox ((cv jT).drop 4) t/\∀(dl cl:Addr) (ds:List Int) (as:List Addr) (ls:List Cd) (c slow:Int) (H1:Hp),av H H1->H dl=none->H cl=none->dl≠cl->H1 dl=some (.lst (ds.map V.int))->cn ds->H1 cl=some (.lst (as.map V.ref))->cS cdV K H1 as ls->ls.length=ds.length->(∀x∈ls,dM x)->1<=slow->slow<=500->t ({nx:=fun _ H2=>Q .non H2,rt:=Q}:mK) [some (.ref a),some (.ref dl),some (.ref cl),some (.int c),some (.int slow),none] H1:=by
  refine ⟨_,@ae _ _ _ _ _ (bu (en (dc0 cy hr.dn (pa3 (pv' 3) ah ah)) ah) (@ag _ _ _ (@aI _ _ 4 _ _ _ _ eK.nd rfl orL ah (by rfl) hfA)) (aJ)) (@ae _ _ _ _ _ (@aI _ _ 5 _ _ _ _ eK.nd rfl orL (aN aE (bh (pa3 (pv' 4) ah (bx cE (pv' 4) (dc0 cy hr.dn (pa3 (pv' 3) ah (bx dU ah (pv' 4))))))) (aD (wH rfl) (by rfl) T.JR FK (pa2 ah (dc0 cy hr.dn (pa3 (pv' 3) ah ah))))) (by rfl) hfA) (@ag _ _ _ (aC (bh (pa4 (pv' 1) (pv' 2) (pv' 4) (pv' 5)))))),?_⟩
  intro dl cl ds as ls c slow H1 s1 fd fc ndc hdl hsh hcl hT hlen hg h1 h5
  k_mem
  refine ⟨c,4,16,rfl,by omega,by omega,by omega,fun r4 h40 h41=>?_⟩
  k_mem
  split
  all_goals
   refine ⟨c,2,_,rfl,by omega,by omega,by omega,fun r2 h20 h21=>⟨by decide,fun p1 hp1=>⟨c,3,8,rfl,by omega,by omega,by omega,fun r3 h30 h31=>?_⟩⟩⟩
   k_mem
   refine ⟨_,SqL.of af,_,E8 (by split<;>omega) (by split<;>omega),by decide,fun p2 hp2=>?_⟩
   refine q p2 dl cl ds as ls _ _ _ (s1.trans (((av.refl H1).lay hp1).lay hp2)) (s1.free (upn hp2)) fd fc ndc af (upo (upo hdl hp1) hp2) hsh (upo (upo hcl hp1) hp2) (hT.same (((av.refl H1).lay hp1).lay hp2)) hlen hg ⟨by omega,?_,?_⟩
   ·(repeat' split)<;>omega
   ·(repeat' split)<;>omega
 refine ⟨_,@ae _ _ _ _ _ (@aI _ _ 1 _ _ _ _ eK.nd rfl orL (dc0 xG hr.dn (pa1 (dc0 jB hr.dn (pa2 (pv' 0) ah)))) (by rfl) hfA) (@ae _ _ _ _ _ (@aI _ _ 2 _ _ _ _ eK.nd rfl orL (dc0 zy hr.dn (pa2 (dc0 jB hr.dn (pa2 (pv' 0) ah)) (aD aA (by rfl) T.cV ck (pa1 (pv' 1))))) (by rfl) hfA) (@ae _ _ _ _ _ (@aI _ _ 3 _ _ _ _ eK.nd rfl orL (dc0 jB hr.dn (pa2 (pv' 0) ah)) (by rfl) hfA) (@ae _ _ _ _ _ (@aI _ _ 4 _ _ _ _ eK.nd rfl orL (bx cE ah (dc0 cy hr.dn (pa3 (pv' 3) ah (aN aE (bh (pa2 ah ah)) (dc0 cy hr.dn (pa3 (pv' 3) ah ah)))))) (by rfl) hfA) h1))),?_⟩
 k_mem
 refine ⟨a,ns,1,rfl,hS,by omega,?_⟩
 k_mem
 refine ⟨_,rfl,fun dl ds H1 hdn s1 hdl hsh=>?_⟩
 have l2:=hsh.l2
 have l6:=hsh.l6
 k_mem
 refine ⟨a,ns,2,rfl,s1.seq hS,by omega,?_⟩
 k_mem
 refine ⟨_,.inl (SqL.of hdl),?_⟩
 rw [WB]
 refine ⟨_,_,rfl,by omega,by omega,fun cl as ls H2 hcn s2 hcl hT hlen hg=>?_⟩
 have ndc:dl≠cl:=ak hdl hcn
 k_mem
 refine ⟨a,ns,3,rfl,(s1.trans s2).seq hS,by omega,?_⟩
 k_mem
 refine ⟨by decide,fun p hp=>⟨_,0,2,rfl,by omega,by omega,by omega,fun r0 h00 h01=>?_⟩⟩
 have e0:∃m:Int,(m=30\/m=500)/\atI [V.int 30,V.int 500] r0=some (.int m):=HX (x:=30) (y:=500) (by omega)
 obtain ⟨m,hm,em⟩:=e0
 k_mem
 refine ⟨_,SqL.of af,_,em,_,1,m,rfl,by omega,by omega,by omega,fun r1 h10 h11=>?_⟩
 k_mem
 have sx:=(av.refl H2).lay (o:=HO.lst [V.int 30,V.int 500]) hp
 exact k1 dl cl ds as ls _ _ _ ((s1.trans s2).trans sx) hdn (s1.free hcn) ndc (sx _ _ (s2 _ _ hdl)) hsh (sx _ _ hcl) (hT.same sx) (by omega) hg (by omega) (by omega)
variable (pA:KD P w K mg base CX0 3 "_law_shaft" (r9 K Z))
inductive fG (K:WA)(Z:Adr)(vs:List V)(H:Hp)(Q:VK)(E:XK):Prop | mk (s rl:Addr) (g:Cfg) (n:a8) (ys:List V):vs=[.ref s]->dH (clZ Z) K H rl g s n->H rl=some (.lst ys)->g.ls.length<=1000->(∀(s':Addr) (A:SA) (H':Hp),av H H'->H s'=none->H A.ol=none->H A.b=none->H A.fl=none->H A.y=none->H A.wh=none->a9 (clZ Z) K H' rl g s' A n->Q (.ref s') H')->fG K Z vs H Q E
include T eF vy um in
theorem u4:FF P w K mg base CX0 4 "twin" "Standing.twin" gf mw (fG K Z):=fk0 uN fun vs H Q E h=>by
 obtain ⟨s0,rl,g,n,ys,rfl,⟨A0,hA⟩,hrl,hls,q⟩:=h
 k_all
 refine ⟨_,@ag _ _ _ (aC (dn eF hr.dn T.xn bw (pa4 (aq (pv' 0)) (aq (pv' 0)) (c4 (aq (pv' 0)) um hr.dn bw) (c4 (aq (pv' 0)) vy hr.dn bw)))),?_⟩
 k_mem
 refine fgo hA.ob T.aK T.cI rfl (fgo hA.ob T.aK T.cj rfl (fgo hA.ob T.aK T.bW rfl ?_))
 k_mem
 obtain ⟨db,hbb⟩:=hA.be.ob
 obtain ⟨dy,hyb⟩:=hA.ya.ob
 k_upd
 refine mgo hbb rfl ⟨_,_,_,_,_,_,_,rfl,hA.be,hls,fun b1 cs1 fl1 H1 hb1 hc1 hf1 s1 hB1=>?_⟩
 k_upd
 refine fgo (s1 _ _ hA.ob) T.aK T.bS rfl ?_
 k_mem
 refine mgo (s1 _ _ hyb) rfl ⟨_,_,_,_,_,_,rfl,hA.ya.same s1,fun y2 kn2 wh2 H2 hy2 hk2 hw2 nkw s2 hY2=>?_⟩
 refine fun x dx hx hdx nxd=>?_
 have s12:=s1.trans s2
 have hx':upd H2 dx (.own x) x=none:=by rw [aB (Ne.symm nxd)];exact hx
 k_upd
 refine ⟨x,dx,A0.ol,b1,y2,n.place,n.gates,rfl,af,(((av.refl H2).lay hdx).lay hx').seq (SqL.of (s12 _ _ hA.go)),fun ol H3 hol kp hob3 hol3=>⟨rfl,?_⟩⟩
 have s3:=fR hx hdx kp
 have holn:=fe hol
 obtain ⟨_,⟨as1,oc1,_⟩,of1,_⟩:=id hB1
 obtain ⟨_,okn2,owh2⟩:=id hY2
 have cs2:=s2 _ _ oc1
 have fl2:=s2 _ _ of1
 refine q x ⟨dx,ol,b1,cs1,fl1,A0.st,y2,kn2,wh2⟩ H3 (s12.trans s3) (s12.free hx) (s12.free holn) hb1 hf1 (s1.free hy2) (s1.free hw2) ⟨hob3,hol3,(hB1.same s2).same s3,hY2.same s3,⟨?_,?_,?_,?_,?_,?_,?_,?_,?_,?_,?_,?_,?_,?_,?_,?_⟩,⟨(hA.nn.same (s12.trans s3)).al,hA.nn.nr,?_,?_,?_,?_,?_⟩⟩
 ·exact (ak hrl (s12.free holn)).symm
 ·exact (ak hrl hc1).symm
 ·exact (ak hrl hf1).symm
 ·exact (ak hrl (s1.free hk2)).symm
 ·exact (ak hrl (s1.free hw2)).symm
 ·exact ak cs2 holn
 ·exact ak fl2 holn
 ·exact ak okn2 holn
 ·exact ak owh2 holn
 ·exact (ak fl2 holn).symm
 ·exact (ak of1 hk2).symm
 ·exact (ak of1 hw2).symm
 ·exact (ak owh2 holn).symm
 ·exact ak oc1 hw2
 ·exact ak of1 hw2
 ·exact nkw
 all_goals
  intro q hq
  obtain ⟨us,hu⟩:=hA.nn.al q hq
 ·exact (ak hu (s12.free holn)).symm
 ·exact (ak hu hc1).symm
 ·exact (ak hu hf1).symm
 ·exact (ak hu (s1.free hk2)).symm
 ·exact (ak hu (s1.free hw2)).symm
variable (bf:KM P w K mg base CX0 4 Z.dB "twin" (fG K Z))
inductive iG (K:WA)(Z:Adr)(vs:List V)(H:Hp)(Q:VK)(E:XK):Prop | mk (w bk rl:Addr) (g:Cfg) (n0:a8) (rs:List Row):vs=[.ref w]->WAt (clZ Z) K H w bk rl g n0 rs->0 < g.ds.length->(∀p,H p=none->Q (.ref p) (upd H p (.tup [.int (aj n0 rs).place,.int (cA g.ds - (aj n0 rs).place)])))->iG K Z vs H Q E
include T aF gD in
theorem xM:FF P w K mg base CX0 4 "cages" "Works.cages" jo qS (iG K Z):=fk0 wZ fun vs H Q E h=>by
 obtain ⟨w,bk,rl,g,n0,rs,rfl,hW,hn,q⟩:=h
 k_all
 refine ⟨_,@ag _ _ _ (aC (dm' (pv' 0) gD hr.dn bw (pa1 (aq (c4 (aq (pv' 0)) aF hr.dn bw))))),?_⟩
 obtain ⟨⟨dx,dl,gl,hob,hdl,hgl,n1,n2⟩,hB⟩:=id hW
 obtain ⟨⟨db,f0,hbo,hF⟩,as,hrl,hR⟩:=id hB
 k_mem
 refine mgo hob rfl (fgo hob T.bc T.bb rfl ?_)
 k_mem
 refine mgo hbo rfl ⟨_,_,_,_,_,rfl,hB,fun s0 ⟨A,hA⟩=>?_⟩
 k_mem
 refine fgo hA.ob T.aK T.cI rfl ?_
 k_upd
 exact ⟨_,_,_,_,_,_,_,rfl,hW,hn,q⟩
variable (fM:KM P w K mg base CX0 4 Z.bB "cages" (iG K Z))
inductive jK (K:WA)(Z:Adr)(vs:List V)(H:Hp)(Q:VK)(E:XK):Prop | mk (w bk rl:Addr) (g:Cfg) (n0:a8) (rs:List Row) (lv s:Int):vs=[.ref w,.int lv,.int s]->WAt (clZ Z) K H w bk rl g n0 rs->g.ls.length<=1000->g.ks.length=(aj n0 rs).ws.length->((¬(0<=lv/\lv < g.ls.length)->∀H',av H H'->E (.ref Z.ao) none H'))->((0<=lv->lv < g.ls.length->(aj n0 rs).fs.getD lv.toNat false=true->∀H',av H H'->E (.ref Z.aS) none H'))->((0<=lv->lv < g.ls.length->(aj n0 rs).fs.getD lv.toNat false=false->¬(s=(ba g.ls lv).1\/s=(ba g.ls lv).2)->∀H',av H H'->E (.ref Z.br) none H'))->((0<=lv->lv < g.ls.length->(aj n0 rs).fs.getD lv.toNat false=false->(s=(ba g.ls lv).1\/s=(ba g.ls lv).2)->vA Z K H w bk rl g n0 rs (.ring lv s) Q E))->jK K Z vs H Q E
include T aF uj bE bf in
theorem yO:FF P w K mg base (CXf P w) 5 "ring" "Works.ring" lq tx (jK K Z):=fkF qW fun vs H Q E h=>by
 obtain ⟨w,bk,rl,g,n0,rs,lv,s,rfl,hW,hls,hks,q1,q2,q3,q4⟩:=h
 k_all
 refine @seg _ _ _ 2 _ (@ag _ _ _ (aC (dm' (pv' 0) bE hr.dn bU (pa3 (aO (pa3 au (pv' 1) (pv' 2))) ah (pv' 3))))) fun zt2 zh2 ze2=>?_
 refine @seg _ _ _ 1 _ (@ae _ _ _ _ _ (@bj _ _ _ _ (dm' (aq (pv' 3)) uj hr.dn bU (pa2 (pv' 1) (pv' 2))) (by rfl)) zh2) fun zt1 zh1 ze1=>?_
 refine ⟨_,@ae _ _ _ _ _ (@aI _ _ 3 _ _ _ _ qW.nd rfl orL (c4 (c4 (aq (pv' 0)) aF hr.dn bw) bf hr.dn bw) (by rfl) hfA) zh1,?_⟩
 obtain ⟨⟨dx,dl,gl,hob,hdl,hgl,n1,n2⟩,hB⟩:=id hW
 obtain ⟨⟨db,f0,hbo,hF⟩,as,hrl,hR⟩:=id hB
 k_mem
 refine fgo hob T.bc T.bb rfl ?_
 k_mem
 refine mgo hbo rfl ⟨_,_,_,_,_,rfl,hB,fun s0 ⟨A0,hA0⟩=>?_⟩
 k_mem
 refine mgo hA0.ob rfl ⟨_,_,_,_,_,rfl,hA0.at,hrl,hls,fun s1 A H1 e1 hs1 ho1 hb1 hf1 hy1 hw1 hA=>?_⟩
 have hW1:=hW.same e1
 have hob1:=e1 _ _ hob
 have hbo1:=e1 _ _ hbo
 have hrl1:=e1 _ _ hrl
 have hdl1:=e1 _ _ hdl
 k_mem
 refine fgo hA.ob T.aK T.bW rfl ?_
 k_mem
 obtain ⟨db1,hbb⟩:=hA.be.ob
 k_upd
 refine mgo hbb rfl ⟨_,_,_,_,_,_,_,_,_,rfl,hA.be,fun h=>q1 h _ e1,fun h h' h2=>q2 h h' h2 _ e1,fun h h' h2 h4=>q3 h h' h2 h4 _ e1,fun h h' h2 h4 st2 H2 k2 hB2=>?_⟩
 have h3:=q4 h h' h2 h4
 have e2:=e1.keeps k2 hb1
 have hA2:=hA.bells k2 hB2
 clear k2 hB2
 k_mem
 refine ⟨_,_,e2 _ _ hob,rfl,by decide,fun p hp=>?_⟩
 have e3:=e2.lay (o:=HO.tup [V.str (Str.ofString "ring"),V.int lv,V.int s]) hp
 have f3:=(av.refl H2).lay (o:=HO.tup [V.str (Str.ofString "ring"),V.int lv,V.int s]) hp
 k_upd
 refine ⟨_,_,_,_,_,_,p,s1,1,ddV (.ring lv s),bK g (aj n0 rs) (.ring lv s),rfl,hW.same e3,SqT.of (by rw [af];rfl),?_,?_,fun h H' s'=>h3.1 h H' (e3.trans s'),fun h H' k hWn=>?_⟩
 ·exact (a9.at hA2).same f3
 ·rw [hks];first | rfl | simp only [bK,List.length_set]
 ·k_upd
  exact h3.2 h H' ((ax.of e3).trans k) hWn
variable (uo:KM P w K mg base (CXf P w) 5 Z.bB "ring" (jK K Z))
inductive gy (K:WA)(Z:Adr)(vs:List V)(H:Hp)(Q:VK)(E:XK):Prop | mk (w bk rl:Addr) (g:Cfg) (n0:a8) (rs:List Row) (s:Int):vs=[.ref w,.int s]->WAt (clZ Z) K H w bk rl g n0 rs->g.ls.length<=1000->g.ks.length=(aj n0 rs).ws.length->(((∀l r,(aj n0 rs).e≠.wait l r)->∀H',av H H'->E (.ref Z.az) none H'))->((∀l r,(aj n0 rs).e=.wait l r->¬(1<=s/\s<=9)->∀H',av H H'->E (.ref Z.br) none H'))->((∀l r,(aj n0 rs).e=.wait l r->(1<=s/\s<=9)->(300<=rs.length->∀H',av H H'->E (.ref Z.aM) none H')/\(rs.length < 300->∀p H',ax rl H H'->WAt (clZ Z) K H' w bk rl g n0 (rs++[iS g n0 rs (.rept s)])->SqT K H' p [.bl (decide (s=r)),.int r,.int s]->Q (.ref p) H')))->gy K Z vs H Q E
include T aF oV bE bf in
theorem vS:FF P w K mg base (CXf P w) 5 "repeat" "Works.repeat" hU nu (gy K Z):=fkF gh fun vs H Q E h=>by
 obtain ⟨w,bk,rl,g,n0,rs,s,rfl,hW,hls,hks,q1,q2,q3⟩:=h
 k_all
 refine @seg _ _ _ 3 _ (@ag _ _ _ (aC (pv' 3))) fun zt3 zh3 ze3=>?_
 refine @seg _ _ _ 2 _ (@ae _ _ _ _ _ (@bj _ _ _ _ (dm' (pv' 0) bE hr.dn bU (pa3 (aO (pa2 au (pv' 1))) ah (pv' 2))) (by rfl)) zh3) fun zt2 zh2 ze2=>?_
 refine @seg _ _ _ 1 _ (@ae _ _ _ _ _ (@aI _ _ 3 _ _ _ _ gh.nd rfl orL (dm' (aq (pv' 2)) oV hr.dn bU (pa1 (pv' 1))) (by rfl) hfA) zh2) fun zt1 zh1 ze1=>?_
 refine ⟨_,@ae _ _ _ _ _ (@aI _ _ 2 _ _ _ _ gh.nd rfl orL (c4 (c4 (aq (pv' 0)) aF hr.dn bw) bf hr.dn bw) (by rfl) hfA) zh1,?_⟩
 obtain ⟨⟨dx,dl,gl,hob,hdl,hgl,n1,n2⟩,hB⟩:=id hW
 obtain ⟨⟨db,f0,hbo,hF⟩,as,hrl,hR⟩:=id hB
 k_mem
 refine fgo hob T.bc T.bb rfl ?_
 k_mem
 refine mgo hbo rfl ⟨_,_,_,_,_,rfl,hB,fun s0 ⟨A0,hA0⟩=>?_⟩
 k_mem
 refine mgo hA0.ob rfl ⟨_,_,_,_,_,rfl,hA0.at,hrl,hls,fun s1 A H1 e1 hs1 ho1 hb1 hf1 hy1 hw1 hA=>?_⟩
 have hW1:=hW.same e1
 have hob1:=e1 _ _ hob
 have hbo1:=e1 _ _ hbo
 have hrl1:=e1 _ _ hrl
 have hdl1:=e1 _ _ hdl
 k_mem
 refine fgo hA.ob T.aK T.bW rfl ?_
 k_mem
 obtain ⟨db1,hbb⟩:=hA.be.ob
 k_upd
 refine mgo hbb rfl ⟨_,_,_,_,_,_,_,_,rfl,hA.be,fun h=>q1 h _ e1,fun l r h h'=>q2 l r h h' _ e1,fun l r h h' st2 p2 H2 hp2 k2 hB2 hT2=>?_⟩
 have h3:=q3 l r h h'
 have e2:=e1.keeps k2 hb1
 have hA2:a9 (clZ Z) K H2 rl g s1 {A with st:=st2} (bK g (aj n0 rs) (.rept s)):=by
  have:=hA.bells k2 hB2
  have e0:bK g (aj n0 rs) (.rept s)={(aj n0 rs) with e:=(if s=r then Eng.armed l r else Eng.other l r s)}:=by
   show a8.mk _ _ _ (zV g (aj n0 rs) (.rept s)) _=_
   rw [show zV g (aj n0 rs) (.rept s)=(if s=r then Eng.armed l r else Eng.other l r s) from by simp only [zV,h]]
  rw [e0]
  exact this
 clear k2 hB2
 k_mem
 refine ⟨_,_,e2 _ _ hob,rfl,by decide,fun p hp=>?_⟩
 have e3:=e2.lay (o:=HO.tup [V.str (Str.ofString "repeat"),V.int s]) hp
 have f3:=(av.refl H2).lay (o:=HO.tup [V.str (Str.ofString "repeat"),V.int s]) hp
 k_upd
 refine ⟨_,_,_,_,_,_,p,s1,1,ddV (.rept s),bK g (aj n0 rs) (.rept s),rfl,hW.same e3,SqT.of (by rw [af];rfl),?_,?_,fun h H' s'=>h3.1 h H' (e3.trans s'),fun h H' k hWn=>?_⟩
 ·exact (a9.at hA2).same f3
 ·rw [hks];first | rfl | simp only [bK,List.length_set]
 ·k_upd
  exact h3.2 h _ H' ((ax.of e3).trans k) hWn ((f3.tup hT2).keep k (e3 _ _ hrl))
variable (o7:KM P w K mg base (CXf P w) 5 Z.bB "repeat" (gy K Z))
inductive jL (K:WA)(Z:Adr)(vs:List V)(H:Hp)(Q:VK)(E:XK):Prop | mk (w bk rl:Addr) (g:Cfg) (n0:a8) (rs:List Row) (lv:Int):vs=[.ref w,.int lv]->WAt (clZ Z) K H w bk rl g n0 rs->g.ls.length<=1000->g.ks.length=(aj n0 rs).ws.length->((¬(0<=lv/\lv < g.ls.length)->∀H',av H H'->E (.ref Z.ao) none H'))->((0<=lv->lv < g.ls.length->(aj n0 rs).fs.getD lv.toNat false=true->∀H',av H H'->E (.ref Z.aL) none H'))->((0<=lv->lv < g.ls.length->(aj n0 rs).fs.getD lv.toNat false=false->vA Z K H w bk rl g n0 rs (.fail lv) Q E))->jL K Z vs H Q E
include T aF uk bE bf in
theorem yP:FF P w K mg base (CXf P w) 5 "fail" "Works.fail" lr tD (jL K Z):=fkF qX fun vs H Q E h=>by
 obtain ⟨w,bk,rl,g,n0,rs,lv,rfl,hW,hls,hks,q1,q2,q3⟩:=h
 k_all
 refine @seg _ _ _ 2 _ (@ag _ _ _ (aC (dm' (pv' 0) bE hr.dn bU (pa3 (aO (pa2 au (pv' 1))) ah (pv' 2))))) fun zt2 zh2 ze2=>?_
 refine @seg _ _ _ 1 _ (@ae _ _ _ _ _ (@bj _ _ _ _ (dm' (aq (pv' 2)) uk hr.dn bU (pa1 (pv' 1))) (by rfl)) zh2) fun zt1 zh1 ze1=>?_
 refine ⟨_,@ae _ _ _ _ _ (@aI _ _ 2 _ _ _ _ qX.nd rfl orL (c4 (c4 (aq (pv' 0)) aF hr.dn bw) bf hr.dn bw) (by rfl) hfA) zh1,?_⟩
 obtain ⟨⟨dx,dl,gl,hob,hdl,hgl,n1,n2⟩,hB⟩:=id hW
 obtain ⟨⟨db,f0,hbo,hF⟩,as,hrl,hR⟩:=id hB
 k_mem
 refine fgo hob T.bc T.bb rfl ?_
 k_mem
 refine mgo hbo rfl ⟨_,_,_,_,_,rfl,hB,fun s0 ⟨A0,hA0⟩=>?_⟩
 k_mem
 refine mgo hA0.ob rfl ⟨_,_,_,_,_,rfl,hA0.at,hrl,hls,fun s1 A H1 e1 hs1 ho1 hb1 hf1 hy1 hw1 hA=>?_⟩
 have hW1:=hW.same e1
 have hob1:=e1 _ _ hob
 have hbo1:=e1 _ _ hbo
 have hrl1:=e1 _ _ hrl
 have hdl1:=e1 _ _ hdl
 k_mem
 refine fgo hA.ob T.aK T.bW rfl ?_
 k_mem
 obtain ⟨db1,hbb⟩:=hA.be.ob
 k_upd
 refine mgo hbb rfl ⟨_,_,_,_,_,_,_,_,rfl,hA.be,fun h=>q1 h _ e1,fun h h' h2=>q2 h h' h2 _ e1,fun h h' h2 H2 k2 hB2=>?_⟩
 have h3:=q3 h h' h2
 have e2:=e1.keeps k2 hf1
 have hA2:=hA.fail k2 hB2 (List.length_set ..)
 clear k2 hB2
 k_mem
 refine ⟨_,_,e2 _ _ hob,rfl,by decide,fun p hp=>?_⟩
 have e3:=e2.lay (o:=HO.tup [V.str (Str.ofString "fail"),V.int lv]) hp
 have f3:=(av.refl H2).lay (o:=HO.tup [V.str (Str.ofString "fail"),V.int lv]) hp
 k_upd
 refine ⟨_,_,_,_,_,_,p,s1,1,ddV (.fail lv),bK g (aj n0 rs) (.fail lv),rfl,hW.same e3,SqT.of (by rw [af];rfl),?_,?_,fun h H' s'=>h3.1 h H' (e3.trans s'),fun h H' k hWn=>?_⟩
 ·exact (a9.at hA2).same f3
 ·rw [hks];first | rfl | simp only [bK,List.length_set]
 ·k_upd
  exact h3.2 h H' ((ax.of e3).trans k) hWn
variable (dX:KM P w K mg base (CXf P w) 5 Z.bB "fail" (jL K Z))
inductive eT (K:WA)(Z:Adr)(vs:List V)(H:Hp)(Q:VK)(E:XK):Prop | mk (w bk rl:Addr) (g:Cfg) (n0:a8) (rs:List Row) (wd:Str) (lv:Int) (b:Bool) (d:Dd):vs=[.ref w,.str wd,.int lv,.bl b]->WAt (clZ Z) K H w bk rl g n0 rs->g.ls.length<=1000->g.ks.length=(aj n0 rs).ws.length->(aj n0 rs).gates.length=g.ds.length->(((wd="open"/\b=true/\d=.opn lv)\/(wd="shut"/\b=false/\d=.sht lv)))->((¬(0<=lv/\lv < g.ds.length)->∀H',av H H'->E (.ref Z.ao) none H'))->((0<=lv->lv < g.ds.length->(aj n0 rs).gates.getD lv.toNat false=b->∀H',av H H'->E (.ref Z.aL) none H'))->((0<=lv->lv < g.ds.length->(aj n0 rs).gates.getD lv.toNat false=!b->vA Z K H w bk rl g n0 rs d Q E))->eT K Z vs H Q E
include T aF bP bE bf in
theorem sd:FF P w K mg base (CXf P w) 5 "turn_gate" "Works.turn_gate" fq iW (eT K Z):=fkF hV fun vs H Q E h=>by
 obtain ⟨w,bk,rl,g,n0,rs,wd,lv,b,d,rfl,hW,hls,hks,hgl2,hd,q1,q2,q3⟩:=h
 k_all
 refine @seg _ _ _ 4 _ (@ag _ _ _ (aC (dm' (pv' 0) bE hr.dn bU (pa3 (aO (pa2 (pv' 1) (pv' 2))) ah (pv' 4))))) fun zt4 zh4 ze4=>?_
 refine @seg _ _ _ 3 _ (@ae _ _ _ _ _ (rz (pv' 3) (uw (aq (pv' 4)) (pv' 2) gR)) zh4) fun zt3 zh3 ze3=>?_
 refine @seg _ _ _ 2 _ (@ae _ _ _ _ _ (bu (en (aN aE (aq (pv' 4)) (pv' 2)) (pv' 3)) (@ag _ _ _ (bA T.xr (by rfl) T.rP (pa1 au))) (aJ)) zh3) fun zt2 zh2 ze2=>?_
 refine @seg _ _ _ 1 _ (@ae _ _ _ _ _ (@bj _ _ _ _ (dc bP hr.dn bU (pa2 (pv' 2) (aD aA (by rfl) T.cV ck (pa1 (aq (pv' 0)))))) (by rfl)) zh2) fun zt1 zh1 ze1=>?_
 refine ⟨_,@ae _ _ _ _ _ (@aI _ _ 4 _ _ _ _ hV.nd rfl orL (c4 (c4 (aq (pv' 0)) aF hr.dn bw) bf hr.dn bw) (by rfl) hfA) zh1,?_⟩
 obtain ⟨⟨dx,dl,gl,hob,hdl,hgl,n1,n2⟩,hB⟩:=id hW
 obtain ⟨⟨db,f0,hbo,hF⟩,as,hrl,hR⟩:=id hB
 k_mem
 refine fgo hob T.bc T.bb rfl ?_
 k_mem
 refine mgo hbo rfl ⟨_,_,_,_,_,rfl,hB,fun s0 ⟨A0,hA0⟩=>?_⟩
 k_mem
 refine mgo hA0.ob rfl ⟨_,_,_,_,_,rfl,hA0.at,hrl,hls,fun s1 A H1 e1 hs1 ho1 hb1 hf1 hy1 hw1 hA=>?_⟩
 have hW1:=hW.same e1
 have hob1:=e1 _ _ hob
 have hbo1:=e1 _ _ hbo
 have hrl1:=e1 _ _ hrl
 have hdl1:=e1 _ _ hdl
 k_mem
 refine fgo hob1 T.bc T.cM rfl ?_
 k_mem
 refine ⟨_,.inl (SqL.of hdl1),_,_,rfl,?_⟩
 rw [WB]
 k_upd
 refine ⟨fun hlv=>?_,fun h=>q1 h _ e1⟩
 k_mem
 refine fgo hA.ob T.aK T.cj rfl ?_
 k_mem
 refine ⟨_,SqL.of hA.go,_,i9 hlv.1 (by omega),?_⟩
 k_mem
 split
 ·rename_i h
  k_upd
  exact ⟨by decide,q2 hlv.1 hlv.2 h _ e1⟩
 ·rename_i h
  have h3:=q3 hlv.1 hlv.2 (by cases b<;>simpa using h)
  k_upd
  refine fgo hA.ob T.aK T.cj rfl ?_
  k_mem
  refine ⟨_,hA.go,_,uE hlv.1 (by rw [WB];omega),?_⟩
  have e2:=e1.rewr (o:=HO.lst (((aj n0 rs).gates.map V.bl).set lv.toNat (V.bl b))) ho1
  have k2:L2.ax A.ol H1 (upd H1 A.ol (HO.lst (((aj n0 rs).gates.map V.bl).set lv.toNat (V.bl b)))):=(ax.of (av.refl H1)).put
  have hA2:=hA.gates k2 (gs:=(aj n0 rs).gates.set lv.toNat b) (by rw [af,List.map_set])
  generalize upd H1 A.ol (HO.lst (((aj n0 rs).gates.map V.bl).set lv.toNat (V.bl b)))=H2 at *
  have hW2:=hW.same e2
  k_upd
  refine ⟨_,_,e2 _ _ hob,rfl,by decide,fun p hp=>?_⟩
  have e3:=e2.lay (o:=HO.tup [V.str wd,V.int lv]) hp
  have f3:=(av.refl H2).lay (o:=HO.tup [V.str wd,V.int lv]) hp
  k_upd
  refine ⟨_,_,_,_,_,_,p,s1,1,ddV d,bK g (aj n0 rs) d,rfl,hW.same e3,SqT.of ?_,?_,?_,fun h H' s'=>h3.1 h H' (e3.trans s'),fun h H' k hWn=>?_⟩
  ·rw [af];rcases hd with ⟨rfl,_,rfl⟩ | ⟨rfl,_,rfl⟩<;>rfl
  ·refine (a9.at (A:=A) ?_).same f3
   rcases hd with ⟨_,rfl,rfl⟩ | ⟨_,rfl,rfl⟩<;>exact hA2
  ·rw [hks];rcases hd with ⟨_,rfl,rfl⟩ | ⟨_,rfl,rfl⟩<;>rfl
  ·have:=h3.2 h H' ((ax.of e3).trans k)
   rcases hd with ⟨_,rfl,rfl⟩ | ⟨_,rfl,rfl⟩<;>exact this hWn
variable (dJ:KM P w K mg base (CXf P w) 5 Z.bB "turn_gate" (eT K Z))
def Jm (w:Addr)(c lv:Int)(kd:Str)(s:Addr)(H:Hp)(gs:List Int)(gates:List Bool)(i:Nat)(σ:St)(H':Hp):Prop:=H'=H/\(∃t,σ=[some (.ref w),some (.int c),some (.int lv),some (.str kd),some (.ref s),t,none,none])/\∀j,j < i->∀x,gs[j]?=some x->gates.getD x.toNat false=false
inductive jM (K:WA)(Z:Adr)(vs:List V)(H:Hp)(Q:VK)(E:XK):Prop | mk (w bk rl:Addr) (g:Cfg) (n0:a8) (rs:List Row) (c lv:Int) (kd:Str):vs=[.ref w,.int c,.int lv,.str kd]->WAt (clZ Z) K H w bk rl g n0 rs->g.ls.length<=1000->g.ks.length=(aj n0 rs).ws.length->cn g.ds->(aj n0 rs).gates.length=g.ds.length->g.ls.length=g.ds.length->1<=fB g (aj n0 rs)->fB g (aj n0 rs)<=500->((kd="men"\/kd="coal"))->((¬(0<=lv/\lv < g.ds.length)->∀H',av H H'->E (.ref Z.ao) none H'))->((0<=lv->lv < g.ds.length->ja g (aj n0 rs)=true->∀H',av H H'->E (.ref Z.aV) none H'))->((0<=lv->lv < g.ds.length->ja g (aj n0 rs)=false->(aj n0 rs).e≠.armed lv (cO g.ls lv kd)->∀H',av H H'->E (.ref Z.aQ) none H'))->((0<=lv->lv < g.ds.length->ja g (aj n0 rs)=false->(aj n0 rs).e=.armed lv (cO g.ls lv kd)->vA Z K H w bk rl g n0 rs (.wind c lv kd) Q E))->jM K Z vs H Q E
include T ue aF bP dz vz rp xJ bE bf in
theorem yQ:FF P w K mg base (CXf P w) 5 "wind" "Works.wind" lx tF (jM K Z):=fkF et fun vs H Q E h=>by
 obtain ⟨w,bk,rl,g,n0,rs,c,lv,kd,rfl,hW,hls,hks,hsh,hgl2,hlc,hsp1,hsp5,hkd,q1,q2,q3,q4⟩:=h
 k_all
 refine @seg _ _ _ 7 _ (@ag _ _ _ (aC (dm' (pv' 0) bE hr.dn bU (pa3 (aO (pa4 au (pv' 1) (pv' 2) (pv' 3))) (pv' 7) (pv' 4))))) fun zt7 zh7 ze7=>?_
 refine @seg _ _ _ 6 _ (@ae _ _ _ _ _ (bV (pv' 4) (pv' 6) rfl) zh7) fun zt6 zh6 ze6=>?_
 refine @seg _ _ _ 5 _ (@ae _ _ _ _ _ (@aI _ _ 7 _ _ _ _ et.nd rfl orL (dc0 ue hr.dn (pa2 (aD E3 (by rfl) T.MD KH (pa1 (bx dU (pv' 6) (aq (pv' 4))))) (dm' (pv' 0) dz hr.dn bw (pa1 (pv' 4))))) (by rfl) hfA) zh6) fun zt5 zh5 ze5=>?_
 refine @seg _ _ _ 4 _ (@ae _ _ _ _ _ (@aI _ _ 6 _ _ _ _ et.nd rfl orL (dc0 rp hr.dn (pa3 (aq (pv' 0)) (pv' 1) (pv' 2))) (by rfl) hfA) zh5) fun zt4 zh4 ze4=>?_
 refine @seg _ _ _ 3 _ (@ae _ _ _ _ _ (@bj _ _ _ _ (dm' (aq (pv' 4)) vz hr.dn bU (pa2 (pv' 2) (pv' 3))) (by rfl)) zh4) fun zt3 zh3 ze3=>?_
 refine @seg _ _ _ 2 _ (@ae _ _ _ _ _ (dZ A5 rfl (dO (dc0 xJ hr.dn (pa2 (aq (pv' 0)) (aq (pv' 4))))) (aW (i:=5) et.nd rfl orL) (@ag _ _ _ (bu (cb (aN aE (aq (pv' 4)) (pv' 5))) (@ag _ _ _ (bA T.Dq (by rfl) T.xl (pa1 au))) (aJ)))) zh3) fun zt2 zh2 ze2=>?_
 refine @seg _ _ _ 1 _ (@ae _ _ _ _ _ (@bj _ _ _ _ (dc bP hr.dn bU (pa2 (pv' 2) (aD aA (by rfl) T.cV ck (pa1 (aq (pv' 0)))))) (by rfl)) zh2) fun zt1 zh1 ze1=>?_
 refine ⟨_,@ae _ _ _ _ _ (@aI _ _ 4 _ _ _ _ et.nd rfl orL (c4 (c4 (aq (pv' 0)) aF hr.dn bw) bf hr.dn bw) (by rfl) hfA) zh1,?_⟩
 obtain ⟨⟨dx,dl,gl,hob,hdl,hgl,n1,n2⟩,hB⟩:=id hW
 obtain ⟨⟨db,f0,hbo,hF⟩,as,hrl,hR⟩:=id hB
 k_mem
 refine fgo hob T.bc T.bb rfl ?_
 k_mem
 refine mgo hbo rfl ⟨_,_,_,_,_,rfl,hB,fun s0 ⟨A0,hA0⟩=>?_⟩
 k_mem
 refine mgo hA0.ob rfl ⟨_,_,_,_,_,rfl,hA0.at,hrl,hls,fun s1 A H1 e1 hs1 ho1 hb1 hf1 hy1 hw1 hA=>?_⟩
 have hW1:=hW.same e1
 have hob1:=e1 _ _ hob
 have hbo1:=e1 _ _ hbo
 have hrl1:=e1 _ _ hrl
 have hdl1:=e1 _ _ hdl
 k_mem
 refine fgo hob1 T.bc T.cM rfl ?_
 k_mem
 refine ⟨_,.inl (SqL.of hdl1),_,_,rfl,?_⟩
 rw [WB]
 k_upd
 refine ⟨fun hlv=>?_,fun h=>q1 h _ e1⟩
 have l6:=hsh.l6
 k_mem
 refine fgo hob1 T.bc T.cM rfl ?_
 k_upd
 refine fgo hA.ob T.aK T.cI rfl ?_
 k_mem
 refine ⟨_,_,_,rfl,SqL.of hdl1,by omega,by omega,fun gb H2 hgb f2 hgb2=>?_⟩
 have e2:=e1.trans f2
 replace hA:=hA.same f2
 k_mem
 refine ⟨⟨_,SqL.of hgb2⟩,?_⟩
 have gr:∀x∈fI g.ds (aj n0 rs).place,0<=x/\x < g.ds.length:=fun x hx=>by
  unfold fI at hx
  rw [List.mem_map] at hx
  obtain ⟨i,hi,rfl⟩:=hx
  have:=List.mem_range.mp (List.mem_filter.mp hi).1
  omega
 k_upd
 refine jO ((fI g.ds (aj n0 rs).place).map V.int) (Jm w c lv kd s1 H2 (fI g.ds (aj n0 rs).place) (aj n0 rs).gates) ⟨rfl,⟨_,rfl⟩,fun j hj=>absurd hj (Nat.not_lt_zero _)⟩ ?_ ?_ ?_
 ·rintro i σ H' _ ⟨rfl,_⟩
  exact SqL.of hgb2
 ·rintro i x σ H' hx ⟨rfl,⟨t,rfl⟩,hj⟩
  obtain ⟨z,rfl,hz,hzm⟩:=kI hx
  have hzr:=gr z hzm
  k_mem
  refine fgo hA.ob T.aK T.cj rfl ?_
  k_mem
  refine ⟨_,SqL.of hA.go,_,i9 hzr.1 (by omega),?_⟩
  k_mem
  split
  ·rename_i hopen
   k_upd
   exact ⟨by decide,q2 hlv.1 hlv.2 (List.any_eq_true.mpr ⟨z,hzm,hopen⟩) _ e2⟩
  ·rename_i hopen
   k_upd
   refine ⟨rfl,⟨_,rfl⟩,fun j hj' y hy=>?_⟩
   by_cases e:j=i
   ·subst e
    rw [hz] at hy
    cases hy
    simpa using hopen
   ·exact hj j (by omega) y hy
 ·rintro σ H' ⟨rfl,⟨t,rfl⟩,hj⟩
  have hno:ja g (aj n0 rs)=false:=by
   unfold ja
   rw [List.any_eq_false]
   intro x hx
   obtain ⟨j,hjx⟩:=List.getElem?_of_mem hx
   rw [hj j (by rw [WB];exact (List.getElem?_eq_some_iff.mp hjx).1) x hjx]
   exact Bool.false_ne_true
  k_mem
  refine fgo hA.ob T.aK T.bW rfl ?_
  k_mem
  obtain ⟨db1,hbb⟩:=hA.be.ob
  k_upd
  refine mgo hbb rfl ⟨_,_,_,_,_,_,_,_,_,rfl,hA.be,hkd,fun h=>absurd ⟨hlv.1,by omega⟩ h,fun _ _ h H' s'=>q3 hlv.1 hlv.2 hno h H' (e2.trans s'),fun _ _ harm st2 H3 k3 hB3=>?_⟩
  have h3:=q4 hlv.1 hlv.2 hno harm
  have e3:=e2.keeps k3 hb1
  have hA3:=hA.bells k3 hB3
  clear k3 hB3
  k_mem
  refine fgo (e3 _ _ hob) T.bc T.cM rfl ?_
  k_mem
  refine ⟨_,_,_,_,rfl,SqL.of (e3 _ _ hdl),hlv.1,hlv.2,?_⟩
  rw [show (if c=0 then g.ds.getD lv.toNat 0 else cA g.ds - g.ds.getD lv.toNat 0)=mU g.ds c lv from rfl]
  k_mem
  refine fgo hA3.ob T.aK T.cI rfl ?_
  k_mem
  refine mgo (e3 _ _ hob) rfl ⟨_,_,_,_,_,_,_,_,rfl,hW.same e3,hA3.at,hks,fun H4 f4=>?_⟩
  have e4:=e3.trans f4
  replace hA3:=hA3.same f4
  have hspd:fB g {(aj n0 rs) with e:=Eng.used lv (cO g.ls lv kd)}=fB g (aj n0 rs):=rfl
  rw [hspd]
  k_upd
  refine ⟨_,_,rfl,by omega,Int.lt_of_le_of_lt hsp5 (by decide),?_⟩
  k_mem
  refine ⟨_,_,_,hA3.ob,T.aK,T.cI,by show 4 < 1000;decide,?_⟩
  have k5:L2.ax s1 H4 (upd H4 s1 (HO.ins (clZ Z).S A.dx (bD "place" (.int (mU g.ds c lv)) [("place",.int (aj n0 rs).place),("opened",.ref A.ol),("bells",.ref A.b),("yard",.ref A.y)]))):=(ax.of (av.refl H4)).put
  have e5:=e4.keeps k5 hs1
  have hA5:=hA3.placed k5 (pl:=mU g.ds c lv) (by rw [af];rfl)
  clear hgb2 f2 f4
  generalize upd H4 s1 (HO.ins (clZ Z).S A.dx (bD "place" (.int (mU g.ds c lv)) [("place",.int (aj n0 rs).place),("opened",.ref A.ol),("bells",.ref A.b),("yard",.ref A.y)]))=H5 at *
  k_upd
  refine ⟨_,_,e5 _ _ hob,rfl,by decide,fun p hp=>?_⟩
  have e6:=e5.lay (o:=HO.tup [V.str (Str.ofString "wind"),V.int c,V.int lv,V.str kd]) hp
  have f6:=(av.refl H5).lay (o:=HO.tup [V.str (Str.ofString "wind"),V.int c,V.int lv,V.str kd]) hp
  k_upd
  refine ⟨_,_,_,_,_,_,p,s1,(kK g (aj n0 rs) (.wind c lv kd)),ddV (.wind c lv kd),bK g (aj n0 rs) (.wind c lv kd),rfl,hW.same e6,SqT.of (by rw [af];rfl),?_,?_,fun h H' s'=>h3.1 h H' (e6.trans s'),fun h H' k hWn=>?_⟩
  ·exact (a9.at hA5).same f6
  ·rw [hks];first | rfl | simp only [bK,List.length_set]
  ·k_upd
   exact h3.2 h H' ((ax.of e6).trans k) hWn
variable (uq:KM P w K mg base (CXf P w) 5 Z.bB "wind" (jM K Z))
theorem two_deepW {p q c:Int}(h0:0<=c)(h1:c < 2):atI [V.int p,V.int q] c=some (.int (if c=0 then p else q)):=by
 rcases (by omega:c=0\/c=1) with rfl | rfl<;>rfl
inductive fv (K:WA)(Z:Adr)(vs:List V)(H:Hp)(Q:VK)(E:XK):Prop | mk (w bk rl:Addr) (g:Cfg) (n0:a8) (rs:List Row) (c:Int):vs=[.ref w,.int c]->WAt (clZ Z) K H w bk rl g n0 rs->cn g.ds->0<=c->c < 2->(∀H',av H H'->Q (lvV (cQ g.ds (aj n0 rs).place c)) H')->fv K Z vs H Q E
include T xv fM in
theorem ur:FF P w K mg base CX0 5 "level_of" "Works.level_of" fC jR (fv K Z):=fk0 tL fun vs H Q E h=>by
 obtain ⟨w,bk,rl,g,n0,rs,c,rfl,hW,hsh,h0,h1,q⟩:=h
 k_all
 refine ⟨_,@ag _ _ _ (aC (dc0 xv hr.dn (pa2 (aq (pv' 0)) (aN bC (c4 (pv' 0) fM hr.dn bw) (pv' 1))))),?_⟩
 obtain ⟨⟨dx,dl,gl,hob,hdl,hgl,n1,n2⟩,hB⟩:=id hW
 obtain ⟨⟨db,f0,hbo,hF⟩,as,hrl,hR⟩:=id hB
 k_mem
 refine fgo hob T.bc T.cM rfl ?_
 k_mem
 refine mgo hob rfl ⟨_,_,_,_,_,_,rfl,hW,by have:=hsh.l2;omega,fun p hp=>?_⟩
 have s1:=(av.refl H).lay (o:=HO.tup [.int (aj n0 rs).place,.int (cA g.ds - (aj n0 rs).place)]) hp
 k_mem
 refine ⟨_,SqT.of af,_,two_deepW h0 h1,?_⟩
 have l6:=hsh.l6
 k_upd
 refine ⟨_,_,_,rfl,SqL.of (s1 _ _ hdl),by omega,fun i hi e=>?_,fun hne=>?_⟩
 ·have q':=q _ s1
  rw [show cQ g.ds (aj n0 rs).place c=some (i:Int) from by rw [cQ];split<;>rename_i hc<;>(first | rw [if_pos hc] at e | rw [if_neg hc] at e)<;>exact gU hsh hi e] at q'
  k_upd
  exact q'
 ·have q':=q _ s1
  rw [show cQ g.ds (aj n0 rs).place c=none from by rw [cQ];split<;>rename_i hc<;>refine Gc fun i hi=>?_<;>have:=hne i hi<;>(first | rw [if_pos hc] at this | rw [if_neg hc] at this)<;>exact this] at q'
  k_upd
  exact q'
variable (dY:KM P w K mg base CX0 5 Z.bB "level_of" (fv K Z))
noncomputable def o8 (K:WA):Nat->Sp
 | 0=>fun _ _ _ _=>False
 | n+1=>fun vs H Q _=>∃(x y:V) (d:Dt),vs=[x,y]/\Rep K H n x d/\Rep K H n y d/\∀H',av H H'->Q (.bl true) H'
noncomputable def zz (K:WA)(Z:Adr):Sp:=o8 K 5
def Eo (x y:V)(H:Hp)(_:Nat)(σ:St)(H':Hp):Prop:=av H H'/\∃t,σ=[some x,some y,none,t]
theorem E9 {v:V}{T:String}(h:wt v=some T):(["list","tuple"].any (A6 T))=false:=by
 cases v<;>simp only [wt,Option.some.injEq,reduceCtorEq] at h<;>subst h<;>decide
theorem B1 {v:V}(h:cD v=true):∃T,wt v=some T:=by
 cases v<;>simp only [cD,reduceCtorEq,Bool.false_eq_true] at h<;>exact ⟨_,rfl⟩
theorem Fb {v:V}(h:cD v=true):xV v v=true:=by
 cases v<;>simp only [cD,reduceCtorEq,Bool.false_eq_true] at h<;>rfl
include T in
theorem vB {n:Nat}(dC:KD P w K mg base CX0 n "_law_same" (o8 K n)):FF P w K mg base CX0 (n+1) "_law_same" "_law_same" nJ tI (o8 K (n+1)):=fk0 uP fun vs H Q E h=>by
 obtain ⟨x,y,d,rfl,hx,hy,q⟩:=h
 k_all
 refine ⟨_,@ae _ _ _ _ _ (bu (dj (cb (aD uD (by rfl) T.aY aU (pa2 (pv' 1) (aO (pa2 (eC (v:=.ty "list") (by rfl) T.fD dR rfl) (eC (v:=.ty "tuple") (by rfl) T.Am wq rfl))))))) (@ae _ _ _ _ _ (@aI _ _ 2 _ _ _ _ uP.nd rfl orL (cZ gV (aD uD (by rfl) T.aY aU (pa2 (pv' 0) (aO (pa2 (eC (v:=.ty "int") (by rfl) T.my fW rfl) (eC (v:=.ty "str") (by rfl) T.JQ FL rfl))))) (aD uD (by rfl) T.aY aU (pa2 (pv' 1) (aO (pa2 (eC (v:=.ty "int") (by rfl) T.my fW rfl) (eC (v:=.ty "str") (by rfl) T.JQ FL rfl))))) (cG _)) (by rfl) hfA) (@ag _ _ _ (aC (v8 (pv' 2) (v8 (cZ gV (aD gO (by rfl) T.aY aU (pa2 (pv' 0) (eC (v:=.ty "bool") (by rfl) T.GZ DN rfl))) (aD gO (by rfl) T.aY aU (pa2 (pv' 1) (eC (v:=.ty "bool") (by rfl) T.GZ DN rfl))) (cG _)) (zF (cZ gV (pv' 0) (pv' 1) (cG _)))))))) (aJ)) (@ae _ _ _ _ _ (bu (wF (aD gO (by rfl) T.aY aU (pa2 (pv' 0) (eC (v:=.ty "list") (by rfl) T.fD dR rfl))) (aD gO (by rfl) T.aY aU (pa2 (pv' 1) (eC (v:=.ty "list") (by rfl) T.fD dR rfl)))) (@ag _ _ _ (aC fA)) (aJ)) (@ae _ _ _ _ _ (bu (mL (wF (aD gO (by rfl) T.aY aU (pa2 (pv' 0) (eC (v:=.ty "tuple") (by rfl) T.Am wq rfl))) (aD gO (by rfl) T.aY aU (pa2 (pv' 1) (eC (v:=.ty "tuple") (by rfl) T.Am wq rfl)))) (i6 (wF (aD aA (by rfl) T.cV ck (pa1 (pv' 0))) (aD aA (by rfl) T.cV ck (pa1 (pv' 1)))))).pt (@ag _ _ _ (aC fA)) (aJ)) (@ae _ _ _ _ _ (dZ PassesOwn.never rfl (cK (by rfl) T.dW (pa1 (aD aA (by rfl) T.cV ck (pa1 (pv' 1))))) (aW (i:=3) uP.nd rfl orL) (@ag _ _ _ (bu (dj (cb (dc0 dC hr (pa2 (aN FC (pv' 0) (pv' 3)) (aN FC (pv' 1) (pv' 3)))))) (@ag _ _ _ (aC fA)) (aJ)))) (@ag _ _ _ (aC fA))))),?_⟩
 k_mem
 refine ⟨by decide,fun tp htp=>?_⟩
 have s1:=(av.refl H).lay (o:=HO.tup [V.ty "list",V.ty "tuple"]) htp
 have ht1:upd H tp (HO.tup [V.ty "list",V.ty "tuple"]) tp=some (HO.tup (["list","tuple"].map V.ty)):=af
 generalize upd H tp (HO.tup [V.ty "list",V.ty "tuple"])=H1 at *
 cases hx with
 | @flat _ v hv=>
  cases hy with
  | flat _=>
   obtain ⟨T0,hT⟩:=B1 hv
   refine ⟨_,tp,["list","tuple"],T0,rfl,SqT.of ht1,.inl hT,by decide,?_⟩
   rw [E9 hT]
   k_mem
   refine ⟨by decide,fun p1 hp1=>⟨_,p1,["int","str"],T0,rfl,SqT.of af,.inl hT,by decide,?_⟩⟩
   refine ⟨by decide,fun p2 hp2=>⟨_,p2,["int","str"],T0,rfl,SqT.of af,.inl hT,by decide,?_⟩⟩
   k_mem
   rw [if_pos rfl]
   refine ⟨_,"bool",T0,rfl,.inl hT,by decide,_,"bool",T0,rfl,.inl hT,by decide,?_⟩
   k_mem
   rw [if_pos rfl]
   refine DY.mp ⟨Fb hv,?_⟩
   rw [decide_eq_true rfl]
   exact q _ ((s1.lay hp1).lay hp2)
 | @lst m a xs ds hs hb hl hrx=>
  cases hy with
  | @lst _ b ys _ hs' hb' hl' hry=>
   have ha1:=s1.seq hs
   have hb1:=s1.seq hs'
   refine ⟨.ref b,tp,["list","tuple"],"list",rfl,SqT.of ht1,.inr (.inl ⟨b,ys,rfl,hb1,rfl⟩),by decide,?_⟩
   rw [show (["list","tuple"].any (A6 "list"))=true from by decide]
   k_mem
   refine ⟨.ref a,"list","list",rfl,.inr (.inl ⟨a,xs,rfl,ha1,rfl⟩),by decide,.ref b,"list","list",rfl,.inr (.inl ⟨b,ys,rfl,hb1,rfl⟩),by decide,?_⟩
   k_mem
   refine ⟨.ref a,"tuple","list",rfl,.inr (.inl ⟨a,xs,rfl,ha1,rfl⟩),by decide,.ref b,"tuple","list",rfl,.inr (.inl ⟨b,ys,rfl,hb1,rfl⟩),by decide,?_⟩
   k_mem
   refine ⟨xs,.inl ha1,ys,.inl hb1,?_⟩
   rw [if_neg (by omega)]
   refine ⟨ys,.inl hb1,by omega,by omega,?_⟩
   refine c6 (Eo (.ref a) (.ref b) H1) ⟨av.refl _,_,rfl⟩ ?_ ?_
   ·rintro i σ H2 hi ⟨s2,t,rfl⟩
    have hi1:i < xs.length:=by omega
    have hi2:i < ys.length:=by omega
    have hi3:i < ds.length:=by omega
    have ex:xs[i]?=some xs[i]:=List.getElem?_eq_getElem hi1
    have ey:ys[i]?=some ys[i]:=List.getElem?_eq_getElem hi2
    have ed:ds[i]?=some ds[i]:=List.getElem?_eq_getElem hi3
    k_mem
    rw [Int.zero_add]
    refine .inl ⟨a,xs,_,_,rfl,rfl,s2.seq ha1,eZ ex,.inl ⟨b,ys,_,_,rfl,rfl,s2.seq hb1,eZ ey,?_⟩⟩
    refine ⟨_,_,ds[i],rfl,(hrx i _ _ ex ed).same (s1.trans s2),(hry i _ _ ey ed).same (s1.trans s2),fun H3 s3=>?_⟩
    k_mem
    exact ⟨s2.trans s3,_,rfl⟩
   ·rintro σ H2 ⟨s2,t,rfl⟩
    k_mem
    exact q _ (s1.trans s2)
 | @tup m a xs ds hs hb hl hrx=>
  cases hy with
  | @tup _ b ys _ hs' hb' hl' hry=>
   have ha1:=s1.tup hs
   have hb1:=s1.tup hs'
   refine ⟨.ref b,tp,["list","tuple"],"tuple",rfl,SqT.of ht1,.inr (.inr ⟨b,ys,rfl,hb1,rfl⟩),by decide,?_⟩
   rw [show (["list","tuple"].any (A6 "tuple"))=true from by decide]
   k_mem
   refine ⟨.ref a,"list","tuple",rfl,.inr (.inr ⟨a,xs,rfl,ha1,rfl⟩),by decide,.ref b,"list","tuple",rfl,.inr (.inr ⟨b,ys,rfl,hb1,rfl⟩),by decide,?_⟩
   k_mem
   refine ⟨.ref a,"tuple","tuple",rfl,.inr (.inr ⟨a,xs,rfl,ha1,rfl⟩),by decide,.ref b,"tuple","tuple",rfl,.inr (.inr ⟨b,ys,rfl,hb1,rfl⟩),by decide,?_⟩
   k_mem
   refine ⟨xs,.inr ha1,ys,.inr hb1,?_⟩
   rw [if_neg (by omega)]
   refine ⟨ys,.inr hb1,by omega,by omega,?_⟩
   refine c6 (Eo (.ref a) (.ref b) H1) ⟨av.refl _,_,rfl⟩ ?_ ?_
   ·rintro i σ H2 hi ⟨s2,t,rfl⟩
    have hi1:i < xs.length:=by omega
    have hi2:i < ys.length:=by omega
    have hi3:i < ds.length:=by omega
    have ex:xs[i]?=some xs[i]:=List.getElem?_eq_getElem hi1
    have ey:ys[i]?=some ys[i]:=List.getElem?_eq_getElem hi2
    have ed:ds[i]?=some ds[i]:=List.getElem?_eq_getElem hi3
    k_mem
    rw [Int.zero_add]
    refine .inr (.inl ⟨a,xs,_,_,rfl,rfl,s2.tup ha1,eZ ex,.inr (.inl ⟨b,ys,_,_,rfl,rfl,s2.tup hb1,eZ ey,?_⟩)⟩)
    refine ⟨_,_,ds[i],rfl,(hrx i _ _ ex ed).same (s1.trans s2),(hry i _ _ ey ed).same (s1.trans s2),fun H3 s3=>?_⟩
    k_mem
    exact ⟨s2.trans s3,_,rfl⟩
   ·rintro σ H2 ⟨s2,t,rfl⟩
    k_mem
    exact q _ (s1.trans s2)
include T in
theorem Fc {f:Addr}{fd:FuncData}(b:mg "_law_same"=some (.ref f))(F:Fun K "_law_same" "_law_same" nJ f fd)(c:dG K fd tI []):FF P w K mg base CX0 5 "_law_same" "_law_same" nJ tI (o8 K 5):=
 have h:∀n,KD P w K mg base CX0 n "_law_same" (o8 K n):=fun n=>by
  induction n with
  | zero=>exact ⟨f,fd,_,b,F.kp,c,FY⟩
  | succ n ih=>exact KD.mk b F c (vB T ih)
 vB T (h 4)
variable (dC:KD P w K mg base CX0 5 "_law_same" (zz K Z))
noncomputable def Hc (g:Cfg)(n:a8)(t:Int):List Dt:=[.flat (.int t),.tup ((vF n.e).map Dt.flat),.lst ((n.gates.map V.bl).map Dt.flat),.lst ((n.ws.map V.int).map Dt.flat),.tup ([V.int n.place,V.int (cA g.ds - n.place)].map Dt.flat),.lst (((DW n.fs).map V.int).map Dt.flat)]
inductive se (K:WA)(Z:Adr)(vs:List V)(H:Hp)(Q:VK)(E:XK):Prop | mk (w bk rl:Addr) (g:Cfg) (n0:a8) (rs:List Row):vs=[.ref w]->WAt (clZ Z) K H w bk rl g n0 rs->sF g->jb g (aj n0 rs)->rs.length<=300->(∀p xs H',av H H'->H' p=some (.lst xs)->xs.length=6->pB K H' 3 xs (Hc g (aj n0 rs) (eG rs))->Q (.ref p) H')->se K Z vs H Q E
include T dr oW ui rm rn fM in
theorem Dz:FF P w K mg base CX0 5 "_law_state" "_law_state" uR zh (se K Z):=fk0 De fun vs H Q E h=>by
 obtain ⟨w,bk,rl,g,n0,rs,rfl,hW,hg,hn,h300,q⟩:=h
 k_all
 refine ⟨_,@ag _ _ _ (aC (bh (bZ (c4 (pv' 0) dr hr.dn bw) (bZ (c4 (pv' 0) oW hr.dn bw) (pa4 (c4 (pv' 0) rm hr.dn bw) (c4 (pv' 0) rn hr.dn bw) (c4 (pv' 0) fM hr.dn bw) (c4 (pv' 0) ui hr.dn bw)))))),?_⟩
 have gl:=hn.gl
 have wl':=hn.wl
 have k30:=hg.k30
 have l6:=hg.sh.l6
 have l2:=hg.sh.l2
 have fl:=hn.fl
 obtain ⟨⟨dx,dl',gl',hob,_⟩,_⟩:=id hW
 k_mem
 refine mgo hob rfl ⟨_,_,_,_,_,_,rfl,hW,?_⟩
 k_mem
 refine mgo hob rfl ⟨_,_,_,_,_,_,rfl,hW,fun st hst=>?_⟩
 k_mem
 refine mgo hob rfl ⟨_,_,_,_,_,_,rfl,hW,fun p1 hp1=>?_⟩
 (generalize hE:upd H p1 _=H2 at *;have s2:=bM hE hp1;have e1:=aZ hE;clear hE)
 k_mem
 refine mgo (s2 _ _ hob) rfl ⟨_,_,_,_,_,_,rfl,hW.same s2,fun p2 hp2=>?_⟩
 (generalize hE:upd H2 p2 _=H3 at *;have s3:=bM hE hp2;have e2:=aZ hE;clear hE)
 have s13:=s2.trans s3
 k_mem
 refine mgo (s13 _ _ hob) rfl ⟨_,_,_,_,_,_,rfl,hW.same s13,by omega,fun p3 hp3=>?_⟩
 (generalize hE:upd H3 p3 _=H4 at *;have s4:=bM hE hp3;have e3:=aZ hE;clear hE)
 have s14:=s13.trans s4
 k_mem
 refine mgo (s14 _ _ hob) rfl ⟨_,_,_,_,_,_,rfl,hW.same s14,by omega,fun p4 H5 hp4 s5 e4=>?_⟩
 have s15:=s14.trans s5
 have hf6:pB K H5 3 [.int (eG rs),.ref st,.ref p1,.ref p2,.ref p3,.ref p4] (Hc g (aj n0 rs) (eG rs)):=
  .cons (.flat rfl) (.cons (jP (s15.tup hst) (by rw [Gb];decide) (y4 _)) (.cons (EW (SqL.of (((s3.trans s4).trans s5) _ _ e1)) (by omega)) (.cons (A9 (SqL.of ((s4.trans s5) _ _ e2)) (by omega)) (.cons (jP (SqT.of (s5 _ _ e3)) (by show 2<=100000;decide) (GU rfl rfl)) (.cons (A9 (SqL.of e4) (by have:=EX (aj n0 rs).fs;omega)) .nil)))))
 k_mem
 refine ⟨by decide,fun fo hfo=>?_⟩
 (generalize hE:upd H5 fo _=H6 at *;have s6:=bM hE hfo;have e6:=aZ hE;clear hE)
 k_upd
 exact q fo _ _ (s15.trans s6) e6 rfl (hf6.same s6)
variable (kD:KD P w K mg base CX0 5 "_law_state" (se K Z))
inductive eU (K:WA)(Z:Adr)(vs:List V)(H:Hp)(Q:VK)(E:XK):Prop | mk (w bk rl:Addr) (g:Cfg) (n0:a8) (rs:List Row) (lv:Int):vs=[.ref w,.int lv]->WAt (clZ Z) K H w bk rl g n0 rs->g.ls.length<=1000->g.ks.length=(aj n0 rs).ws.length->(aj n0 rs).gates.length=g.ds.length->((¬(0<=lv/\lv < g.ds.length)->∀H',av H H'->E (.ref Z.ao) none H'))->((0<=lv->lv < g.ds.length->(aj n0 rs).gates.getD lv.toNat false=true->∀H',av H H'->E (.ref Z.aL) none H'))->((0<=lv->lv < g.ds.length->(aj n0 rs).gates.getD lv.toNat false=false->vA Z K H w bk rl g n0 rs (.opn lv) Q E))->eU K Z vs H Q E
include T dJ in
theorem sg:FF P w K mg base (CXf P w) 6 "open_gate" "Works.open_gate" fi iU (eU K Z):=fkF rK fun vs H Q E h=>by
 obtain ⟨w,bk,rl,g,n0,rs,lv,rfl,hW,hls,hks,hgl2,q1,q2,q3⟩:=h
 k_all
 refine ⟨_,@ag _ _ _ (aC (dm' (pv' 0) dJ hr.dn bU (pa3 au (pv' 1) fA))),?_⟩
 obtain ⟨dx,dl,gl,hob,_⟩:=id hW.ob
 k_mem
 exact mgo hob rfl ⟨_,_,_,_,_,_,_,_,_,_,rfl,hW,hls,hks,hgl2,.inl ⟨rfl,rfl,rfl⟩,q1,q2,q3⟩
variable (i4:KM P w K mg base (CXf P w) 6 Z.bB "open_gate" (eU K Z))
inductive eV (K:WA)(Z:Adr)(vs:List V)(H:Hp)(Q:VK)(E:XK):Prop | mk (w bk rl:Addr) (g:Cfg) (n0:a8) (rs:List Row) (lv:Int):vs=[.ref w,.int lv]->WAt (clZ Z) K H w bk rl g n0 rs->g.ls.length<=1000->g.ks.length=(aj n0 rs).ws.length->(aj n0 rs).gates.length=g.ds.length->((¬(0<=lv/\lv < g.ds.length)->∀H',av H H'->E (.ref Z.ao) none H'))->((0<=lv->lv < g.ds.length->(aj n0 rs).gates.getD lv.toNat false=false->∀H',av H H'->E (.ref Z.aL) none H'))->((0<=lv->lv < g.ds.length->(aj n0 rs).gates.getD lv.toNat false=true->vA Z K H w bk rl g n0 rs (.sht lv) Q E))->eV K Z vs H Q E
include T dJ in
theorem si:FF P w K mg base (CXf P w) 6 "shut_gate" "Works.shut_gate" fj iV (eV K Z):=fkF rL fun vs H Q E h=>by
 obtain ⟨w,bk,rl,g,n0,rs,lv,rfl,hW,hls,hks,hgl2,q1,q2,q3⟩:=h
 k_all
 refine ⟨_,@ag _ _ _ (aC (dm' (pv' 0) dJ hr.dn bU (pa3 au (pv' 1) fA))),?_⟩
 obtain ⟨dx,dl,gl,hob,_⟩:=id hW.ob
 k_mem
 exact mgo hob rfl ⟨_,_,_,_,_,_,_,_,_,_,rfl,hW,hls,hks,hgl2,.inr ⟨rfl,rfl,rfl⟩,q1,q2,q3⟩
variable (i5:KM P w K mg base (CXf P w) 6 Z.bB "shut_gate" (eV K Z))
inductive jN (K:WA)(Z:Adr)(vs:List V)(H:Hp)(Q:VK)(E:XK):Prop | mk (w bk rl:Addr) (g:Cfg) (n0:a8) (rs:List Row) (k c:Int):vs=[.ref w,.int k,.int c]->WAt (clZ Z) K H w bk rl g n0 rs->g.ls.length<=1000->g.ks.length=(aj n0 rs).ws.length->cn g.ds->(aj n0 rs).gates.length=g.ds.length->g.goals.length=(aj n0 rs).ws.length->0<=c->c < 2->((¬(0<=k/\k < (aj n0 rs).ws.length)->∀H',av H H'->E (.ref Z.ay) none H'))->((0<=k->k < (aj n0 rs).ws.length->(∀l,cQ g.ds (aj n0 rs).place c=some l->(aj n0 rs).ws.getD k.toNat 0≠l)->∀H',av H H'->E (.ref Z.aP) none H'))->((∀l,0<=k->k < (aj n0 rs).ws.length->cQ g.ds (aj n0 rs).place c=some l->(aj n0 rs).ws.getD k.toNat 0=l->10+c∈(aj n0 rs).ws->∀H',av H H'->E (.ref Z.aG) none H'))->((∀l,0<=k->k < (aj n0 rs).ws.length->cQ g.ds (aj n0 rs).place c=some l->(aj n0 rs).ws.getD k.toNat 0=l->¬10+c∈(aj n0 rs).ws->(aj n0 rs).gates.getD l.toNat false=false->∀H',av H H'->E (.ref Z.aR) none H'))->((∀l,0<=k->k < (aj n0 rs).ws.length->cQ g.ds (aj n0 rs).place c=some l->(aj n0 rs).ws.getD k.toNat 0=l->¬10+c∈(aj n0 rs).ws->(aj n0 rs).gates.getD l.toNat false=true->vA Z K H w bk rl g n0 rs (.load k c) Q E))->jN K Z vs H Q E
include T gI aF gK cF vx bE bf dY in
theorem yR:FF P w K mg base (CXf P w) 6 "load" "Works.load" lu tE (jN K Z):=fkF jl fun vs H Q E h=>by
 obtain ⟨w,bk,rl,g,n0,rs,k,c,rfl,hW,hls,hks,hsh,hgl2,hgo,h0,h1,q1,q2,q3,q4,q5⟩:=h
 k_all
 refine @seg _ _ _ 6 _ (@ag _ _ _ (aC (dm' (pv' 0) bE hr.dn bU (pa3 (aO (pa3 au (pv' 1) (pv' 2))) ah (pv' 3))))) fun zt6 zh6 ze6=>?_
 refine @seg _ _ _ 5 _ (@ae _ _ _ _ _ (@bj _ _ _ _ (dm' (pv' 0) cF hr.dn bU (pa1 (pv' 4))) (by rfl)) zh6) fun zt5 zh5 ze5=>?_
 refine @seg _ _ _ 4 _ (@ae _ _ _ _ _ (@bj _ _ _ _ (dm' (aq (pv' 3)) vx hr.dn bU (pa2 (pv' 1) (pv' 2))) (by rfl)) zh5) fun zt4 zh4 ze4=>?_
 refine @seg _ _ _ 3 _ (@ae _ _ _ _ _ (bu (mL (Ad (pv' 4) gT) (i6 (wF (aN aE (c4 (aq (pv' 3)) gI hr.dn bw) (pv' 1)) (pv' 4)))).pt (@ag _ _ _ (bA T.rQ (by rfl) T.lB (pa1 au))) (aJ)) zh4) fun zt3 zh3 ze3=>?_
 refine @seg _ _ _ 2 _ (@ae _ _ _ _ _ (@aI _ _ 4 _ _ _ _ jl.nd rfl orL (dm' (pv' 0) dY hr.dn bw (pa1 (pv' 2))) (by rfl) hfA) zh3) fun zt2 zh2 ze2=>?_
 refine @seg _ _ _ 1 _ (@ae _ _ _ _ _ (@bj _ _ _ _ (dc gK hr.dn bU (pa2 (pv' 1) (aD aA (by rfl) T.cV ck (pa1 (aq (pv' 0)))))) (by rfl)) zh2) fun zt1 zh1 ze1=>?_
 refine ⟨_,@ae _ _ _ _ _ (@aI _ _ 3 _ _ _ _ jl.nd rfl orL (c4 (c4 (aq (pv' 0)) aF hr.dn bw) bf hr.dn bw) (by rfl) hfA) zh1,?_⟩
 obtain ⟨⟨dx,dl,gl,hob,hdl,hgl,n1,n2⟩,hB⟩:=id hW
 obtain ⟨⟨db,f0,hbo,hF⟩,as,hrl,hR⟩:=id hB
 k_mem
 refine fgo hob T.bc T.bb rfl ?_
 k_mem
 refine mgo hbo rfl ⟨_,_,_,_,_,rfl,hB,fun s0 ⟨A0,hA0⟩=>?_⟩
 k_mem
 refine mgo hA0.ob rfl ⟨_,_,_,_,_,rfl,hA0.at,hrl,hls,fun s1 A H1 e1 hs1 ho1 hb1 hf1 hy1 hw1 hA=>?_⟩
 have hW1:=hW.same e1
 have hob1:=e1 _ _ hob
 have hbo1:=e1 _ _ hbo
 have hrl1:=e1 _ _ hrl
 have hdl1:=e1 _ _ hdl
 k_mem
 refine fgo hob1 T.bc T.nO rfl ?_
 k_mem
 refine ⟨_,.inl (SqL.of (e1 _ _ hgl)),_,_,rfl,?_⟩
 rw [WB,hgo]
 k_upd
 refine ⟨fun hk=>?_,fun h=>q1 h _ e1⟩
 k_mem
 refine mgo hob1 rfl ⟨_,_,_,_,_,_,_,rfl,hW1,hsh,h0,h1,fun H2 f2=>?_⟩
 have e2:=e1.trans f2
 replace hA:=hA.same f2
 k_mem
 cases hc:cQ g.ds (aj n0 rs).place c with
 | none=>
  rw [if_pos (show lvV none=V.non from rfl)]
  k_upd
  exact ⟨by decide,q2 hk.1 hk.2 (fun l e=>by rw [hc] at e;cases e) _ e2⟩
 | some l=>
  obtain ⟨l0,l1,_⟩:=rC hc
  have l6:=hsh.l6
  k_upd
  rw [if_neg (show ¬(lvV (some l)=V.non) from fun z=>V.noConfusion z)]
  k_upd
  refine fgo hA.ob T.aK T.bS rfl ?_
  k_mem
  obtain ⟨dy,hyb⟩:=hA.ya.ob
  k_upd
  refine ⟨_,_,hyb,rfl,_,_,_,_,_,_,rfl,hA.ya,fun p hp=>?_⟩
  have e3:=e2.lay (o:=HO.lst ((aj n0 rs).ws.map V.int)) hp
  have f3:=(av.refl H2).lay (o:=HO.lst ((aj n0 rs).ws.map V.int)) hp
  have hq3:upd H2 p (HO.lst ((aj n0 rs).ws.map V.int)) p=some (HO.lst ((aj n0 rs).ws.map V.int)):=af
  replace hA:=hA.same f3
  generalize upd H2 p (HO.lst ((aj n0 rs).ws.map V.int))=H3 at *
  k_mem
  refine ⟨_,SqL.of hq3,_,fH hk.1 hk.2,?_⟩
  simp only [lvV]
  k_mem
  split
  ·rename_i hne
   k_upd
   exact ⟨by decide,q2 hk.1 hk.2 (fun l' e=>by rw [hc] at e;cases e;exact hne) _ e3⟩
  ·rename_i hne
   have heq:(aj n0 rs).ws.getD k.toNat 0=l:=Decidable.not_not.mp hne
   k_upd
   refine fgo hA.ob T.aK T.bS rfl ?_
   k_mem
   obtain ⟨dy,hyb⟩:=hA.ya.ob
   k_upd
   refine ⟨_,_,hyb,rfl,_,_,_,_,_,_,_,_,rfl,hA.ya,h0,h1,fun h=>absurd hk h,fun _ _ h=>by omega,fun _ _ _ h H' s'=>q3 l hk.1 hk.2 hc heq h H' (e3.trans s'),fun _ _ _ hni H4 k4 hw4=>?_⟩
   have e4:=e3.keeps k4 hw1
   have hA4:=hA.spots k4 hw4
   clear k4 hw4
   k_mem
   refine mgo (e4 _ _ hob) rfl ⟨_,_,_,_,_,_,_,rfl,hW.same e4,l0,by omega,fun hg=>?_,fun hg=>q4 l hk.1 hk.2 hc heq hni hg _ e4⟩
   have h3:=q5 l hk.1 hk.2 hc heq hni hg
   k_mem
   refine ⟨_,_,e4 _ _ hob,rfl,by decide,fun p hp=>?_⟩
   have e5:=e4.lay (o:=HO.tup [V.str (Str.ofString "load"),V.int k,V.int c]) hp
   have f5:=(av.refl H4).lay (o:=HO.tup [V.str (Str.ofString "load"),V.int k,V.int c]) hp
   k_upd
   refine ⟨_,_,_,_,_,_,p,s1,1,ddV (.load k c),bK g (aj n0 rs) (.load k c),rfl,hW.same e5,SqT.of (by rw [af];rfl),?_,?_,fun h H' s'=>h3.1 h H' (e5.trans s'),fun h H' k9 hWn=>?_⟩
   ·exact (a9.at hA4).same f5
   ·rw [hks];first | rfl | simp only [bK,List.length_set]
   ·k_upd
    exact h3.2 h H' ((ax.of e5).trans k9) hWn
variable (uu:KM P w K mg base (CXf P w) 6 Z.bB "load" (jN K Z))
inductive gz (K:WA)(Z:Adr)(vs:List V)(H:Hp)(Q:VK)(E:XK):Prop | mk (w bk rl:Addr) (g:Cfg) (n0:a8) (rs:List Row) (c:Int):vs=[.ref w,.int c]->WAt (clZ Z) K H w bk rl g n0 rs->g.ls.length<=1000->g.ks.length=(aj n0 rs).ws.length->cn g.ds->(aj n0 rs).gates.length=g.ds.length->0<=c->c < 2->((¬10+c∈(aj n0 rs).ws->∀H',av H H'->E (.ref Z.aH) none H'))->((10+c∈(aj n0 rs).ws->cQ g.ds (aj n0 rs).place c=none->∀H',av H H'->E (.ref Z.aP) none H'))->((∀l,10+c∈(aj n0 rs).ws->cQ g.ds (aj n0 rs).place c=some l->(aj n0 rs).gates.getD l.toNat false=false->∀H',av H H'->E (.ref Z.aR) none H'))->((∀l,10+c∈(aj n0 rs).ws->cQ g.ds (aj n0 rs).place c=some l->(aj n0 rs).gates.getD l.toNat false=true->vA Z K H w bk rl g n0 rs (.unload c) Q E))->gz K Z vs H Q E
include T cH aF cF xH bE bf dY in
theorem vT:FF P w K mg base (CXf P w) 6 "unload" "Works.unload" hZ nv (gz K Z):=fkF gj fun vs H Q E h=>by
 obtain ⟨w,bk,rl,g,n0,rs,c,rfl,hW,hls,hks,hsh,hgl2,h0,h1,q1,q2,q3,q4⟩:=h
 k_all
 refine @seg _ _ _ 6 _ (@ag _ _ _ (aC (dm' (pv' 0) bE hr.dn bU (pa3 (aO (pa2 au (pv' 1))) ah (pv' 2))))) fun zt6 zh6 ze6=>?_
 refine @seg _ _ _ 5 _ (@ae _ _ _ _ _ (@bj _ _ _ _ (dm' (aq (pv' 2)) xH hr.dn bU (pa2 (pv' 1) (pv' 3))) (by rfl)) zh6) fun zt5 zh5 ze5=>?_
 refine @seg _ _ _ 4 _ (@ae _ _ _ _ _ (@bj _ _ _ _ (dm' (pv' 0) cF hr.dn bU (pa1 (pv' 3))) (by rfl)) zh5) fun zt4 zh4 ze4=>?_
 refine @seg _ _ _ 3 _ (@ae _ _ _ _ _ (bu (Ad (pv' 3) gT) (@ag _ _ _ (bA T.rQ (by rfl) T.lB (pa1 au))) (aJ)) zh4) fun zt3 zh3 ze3=>?_
 refine @seg _ _ _ 2 _ (@ae _ _ _ _ _ (@aI _ _ 3 _ _ _ _ gj.nd rfl orL (dm' (pv' 0) dY hr.dn bw (pa1 (pv' 1))) (by rfl) hfA) zh3) fun zt2 zh2 ze2=>?_
 refine @seg _ _ _ 1 _ (@ae _ _ _ _ _ (bu (Ad (dm' (aq (pv' 2)) cH hr.dn bw (pa1 (pv' 1))) gT) (@ag _ _ _ (bA T.vt (by rfl) T.nM (pa1 au))) (aJ)) zh2) fun zt1 zh1 ze1=>?_
 refine ⟨_,@ae _ _ _ _ _ (@aI _ _ 2 _ _ _ _ gj.nd rfl orL (c4 (c4 (aq (pv' 0)) aF hr.dn bw) bf hr.dn bw) (by rfl) hfA) zh1,?_⟩
 obtain ⟨⟨dx,dl,gl,hob,hdl,hgl,n1,n2⟩,hB⟩:=id hW
 obtain ⟨⟨db,f0,hbo,hF⟩,as,hrl,hR⟩:=id hB
 k_mem
 refine fgo hob T.bc T.bb rfl ?_
 k_mem
 refine mgo hbo rfl ⟨_,_,_,_,_,rfl,hB,fun s0 ⟨A0,hA0⟩=>?_⟩
 k_mem
 refine mgo hA0.ob rfl ⟨_,_,_,_,_,rfl,hA0.at,hrl,hls,fun s1 A H1 e1 hs1 ho1 hb1 hf1 hy1 hw1 hA=>?_⟩
 have hW1:=hW.same e1
 have hob1:=e1 _ _ hob
 have hbo1:=e1 _ _ hbo
 have hrl1:=e1 _ _ hrl
 have hdl1:=e1 _ _ hdl
 k_mem
 refine fgo hA.ob T.aK T.bS rfl ?_
 k_mem
 obtain ⟨dy,hyb⟩:=hA.ya.ob
 k_upd
 refine ⟨_,_,hyb,rfl,_,_,_,_,_,_,_,rfl,hA.ya,h0,h1,fun H2 f2=>?_⟩
 have e2:=e1.trans f2
 replace hA:=hA.same f2
 k_mem
 by_cases hm:10+c∈(aj n0 rs).ws
 ·rw [inC,if_pos hm]
  k_upd
  rw [if_neg (show ¬(V.int _=V.non) from fun z=>V.noConfusion z)]
  k_mem
  refine mgo (e2 _ _ hob) rfl ⟨_,_,_,_,_,_,_,rfl,hW.same e2,hsh,h0,h1,fun H3 f3=>?_⟩
  have e3:=e2.trans f3
  replace hA:=hA.same f3
  k_mem
  cases hc:cQ g.ds (aj n0 rs).place c with
  | none=>
   rw [if_pos (show lvV none=V.non from rfl)]
   k_upd
   exact ⟨by decide,q2 hm hc _ e3⟩
  | some l=>
   obtain ⟨l0,l1,_⟩:=rC hc
   k_upd
   rw [if_neg (show ¬(lvV (some l)=V.non) from fun z=>V.noConfusion z)]
   k_mem
   refine mgo (e3 _ _ hob) rfl ⟨_,_,_,_,_,_,_,rfl,hW.same e3,l0,by omega,fun hg=>?_,fun hg=>q3 l hm hc hg _ e3⟩
   have h3:=q4 l hm hc hg
   k_mem
   refine fgo hA.ob T.aK T.bS rfl ?_
   k_mem
   obtain ⟨dy,hyb⟩:=hA.ya.ob
   k_upd
   refine ⟨_,_,hyb,rfl,_,_,_,_,_,_,_,_,rfl,hA.ya,h0,h1,fun h=>absurd ⟨l0,l1⟩ h,fun _ _ h=>absurd hm h,fun _ _ _ H4 k4 hw4=>?_⟩
   have e4:=e3.keeps k4 hw1
   have hA4:a9 (clZ Z) K H4 rl g s1 A (bK g (aj n0 rs) (.unload c)):=by
    have:=hA.spots k4 hw4
    simp only [bK,hc,Option.getD_some]
    exact this
   clear k4 hw4
   k_mem
   refine ⟨_,_,e4 _ _ hob,rfl,by decide,fun p hp=>?_⟩
   have e5:=e4.lay (o:=HO.tup [V.str (Str.ofString "unload"),V.int c]) hp
   have f5:=(av.refl H4).lay (o:=HO.tup [V.str (Str.ofString "unload"),V.int c]) hp
   k_upd
   refine ⟨_,_,_,_,_,_,p,s1,1,ddV (.unload c),bK g (aj n0 rs) (.unload c),rfl,hW.same e5,SqT.of (by rw [af];rfl),?_,?_,fun h H' s'=>h3.1 h H' (e5.trans s'),fun h H' k hWn=>?_⟩
   ·exact (a9.at hA4).same f5
   ·rw [hks];first | rfl | simp only [bK,List.length_set]
   ·k_upd
    exact h3.2 h H' ((ax.of e5).trans k) hWn
 ·rw [inC,if_neg hm]
  k_upd
  rw [if_pos rfl]
  k_upd
  exact ⟨by decide,q1 hm _ e2⟩
variable (o9:KM P w K mg base (CXf P w) 6 Z.bB "unload" (gz K Z))
noncomputable def MG (Z:Adr):Rw->Addr
 | .lv=>Z.ao
 | .db=>Z.aS
 | .nc=>Z.br
 | .nr=>Z.az
 | .ch=>Z.aL
 | .na=>Z.aQ
 | .ul=>Z.ay
 | .nt=>Z.aP
 | .ct=>Z.aG
 | .gs=>Z.aR
 | .ce=>Z.aH
 | .go=>Z.aV
inductive u5 (K:WA)(Z:Adr)(vs:List V)(H:Hp)(Q:VK)(E:XK):Prop | mk (w bk rl dd:Addr) (g:Cfg) (n0:a8) (rs:List Row) (d:Dd):vs=[.ref w,.ref dd]->WAt (clZ Z) K H w bk rl g n0 rs->sF g->jb g (aj n0 rs)->rs.length<=300->SqT K H dd (ddV d)->wz d->((∀r,c8 g (aj n0 rs) d=some r->∀H',av H H'->E (.ref (MG Z r)) none H'))->((c8 g (aj n0 rs) d=none->300<=rs.length->∀H',av H H'->E (.ref Z.aM) none H'))->((c8 g (aj n0 rs) d=none->rs.length < 300->∀v H',ax rl H H'->WAt (clZ Z) K H' w bk rl g n0 (rs++[iS g n0 rs d])->MT K H' (aj n0 rs) (eG rs+kK g (aj n0 rs) d) d v->Q v H'))->u5 K Z vs H Q E
include T cJ uo o7 dX uq i4 i5 uu o9 in
theorem Fd:FF P w K mg base (CXf P w) 7 "_law_call" "_law_call" xa Bo (u5 K Z):=fkF E4 fun vs H Q E h=>by
 obtain ⟨w,bk,rl,dd,g,n0,rs,d,rfl,hW,hg,hn,h300,hD,ok,qe,qf,q⟩:=h
 k_all
 refine @seg _ _ _ 8 _ (@ag _ _ _ (aC (c4 (pv' 0) cJ hr.dn bU))) fun zt8 zh8 ze8=>?_
 refine @seg _ _ _ 7 _ (@ae _ _ _ _ _ (bu (en (aN bC (pv' 1) ah) au) (@ag _ _ _ (aC (dm' (pv' 0) dX hr.dn bU (pa1 (aN bC (pv' 1) ah))))) (aJ)) zh8) fun zt7 zh7 ze7=>?_
 refine @seg _ _ _ 6 _ (@ae _ _ _ _ _ (bu (en (aN bC (pv' 1) ah) au) (@ag _ _ _ (aC (dm' (pv' 0) uq hr.dn bU (pa3 (aN bC (pv' 1) ah) (aN bC (pv' 1) ah) (aN bC (pv' 1) ah))))) (aJ)) zh7) fun zt6 zh6 ze6=>?_
 refine @seg _ _ _ 5 _ (@ae _ _ _ _ _ (bu (en (aN bC (pv' 1) ah) au) (@ag _ _ _ (aC (dm' (pv' 0) o9 hr.dn bU (pa1 (aN bC (pv' 1) ah))))) (aJ)) zh6) fun zt5 zh5 ze5=>?_
 refine @seg _ _ _ 4 _ (@ae _ _ _ _ _ (bu (en (aN bC (pv' 1) ah) au) (@ag _ _ _ (aC (dm' (pv' 0) uu hr.dn bU (pa2 (aN bC (pv' 1) ah) (aN bC (pv' 1) ah))))) (aJ)) zh5) fun zt4 zh4 ze4=>?_
 refine @seg _ _ _ 3 _ (@ae _ _ _ _ _ (bu (en (aN bC (pv' 1) ah) au) (@ag _ _ _ (aC (dm' (pv' 0) i5 hr.dn bU (pa1 (aN bC (pv' 1) ah))))) (aJ)) zh4) fun zt3 zh3 ze3=>?_
 refine @seg _ _ _ 2 _ (@ae _ _ _ _ _ (bu (en (aN bC (pv' 1) ah) au) (@ag _ _ _ (aC (dm' (pv' 0) i4 hr.dn bU (pa1 (aN bC (pv' 1) ah))))) (aJ)) zh3) fun zt2 zh2 ze2=>?_
 refine @seg _ _ _ 1 _ (@ae _ _ _ _ _ (bu (en (aN bC (pv' 1) ah) au) (@ag _ _ _ (aC (dm' (pv' 0) o7 hr.dn bU (pa1 (aN bC (pv' 1) ah))))) (aJ)) zh2) fun zt1 zh1 ze1=>?_
 refine ⟨_,@ae _ _ _ _ _ (bu (en (aN bC (pv' 1) ah) au) (@ag _ _ _ (aC (dm' (pv' 0) uo hr.dn bU (pa2 (aN bC (pv' 1) ah) (aN bC (pv' 1) ah))))) (aJ)) zh1,?_⟩
 obtain ⟨⟨dx,dl,gl,hob,hdl,hgl,n1,n2⟩,hB⟩:=id hW
 have l2:=hg.sh.l2
 have l6:=hg.sh.l6
 have lc:=hg.lc
 have wl:=hn.wl
 have gk:=hg.gk
 k_mem
 cases d with
 | ring l s=>
  refine ⟨_,hD,_,rfl,?_⟩
  k_mem
  rw [if_pos rfl]
  k_upd
  refine mgo hob rfl ⟨_,hD,_,rfl,_,hD,_,rfl,?_⟩
  k_mem
  refine ⟨_,_,_,_,_,_,_,_,rfl,hW,by omega,wl.symm,fun h H2 s2=>qe .lv ?_ H2 s2,fun h h' h3 H2 s2=>qe .db ?_ H2 s2,fun h h' h3 h4 H2 s2=>qe .nc ?_ H2 s2,fun h h' h3 h4=>⟨fun z H2 s2=>qf ?_ z H2 s2,fun z H2 k2 hW2=>q ?_ z _ H2 k2 hW2 rfl⟩⟩
  ·rw [lc] at h
   exact if_pos h
  ·rw [lc] at h'
   exact (if_neg (fun z=>z ⟨h,h'⟩)).trans (if_pos h3)
  ·rw [lc] at h'
   exact (if_neg (fun z=>z ⟨h,h'⟩)).trans ((if_neg (by rw [h3];exact Bool.false_ne_true)).trans (if_neg h4))
  ·rw [lc] at h'
   exact (if_neg (fun z=>z ⟨h,h'⟩)).trans ((if_neg (by rw [h3];exact Bool.false_ne_true)).trans (if_pos h4))
  ·rw [lc] at h'
   exact (if_neg (fun z=>z ⟨h,h'⟩)).trans ((if_neg (by rw [h3];exact Bool.false_ne_true)).trans (if_pos h4))
 | rept s=>
  refine ⟨_,hD,_,rfl,?_⟩
  k_mem
  rw [if_neg (by decide)]
  k_upd
  refine ⟨_,hD,_,rfl,?_⟩
  k_mem
  rw [if_pos rfl]
  k_upd
  refine mgo hob rfl ⟨_,hD,_,rfl,?_⟩
  k_mem
  refine ⟨_,_,_,_,_,_,_,rfl,hW,by omega,wl.symm,fun h H2 s2=>qe .nr ?_ H2 s2,fun l r e h H2 s2=>qe .nc ?_ H2 s2,fun l r e h=>⟨fun z H2 s2=>qf ?_ z H2 s2,fun z p H2 k2 hW2 hT=>q ?_ z _ H2 k2 hW2 ⟨p,l,r,rfl,e,hT⟩⟩⟩
  ·simp only [c8]
  ·simp only [c8,e];exact if_neg h
  ·simp only [c8,e];exact if_pos h
  ·simp only [c8,e];exact if_pos h
 | opn l=>
  refine ⟨_,hD,_,rfl,?_⟩
  k_mem
  rw [if_neg (by decide)]
  k_upd
  refine ⟨_,hD,_,rfl,?_⟩
  k_mem
  rw [if_neg (by decide)]
  k_upd
  refine ⟨_,hD,_,rfl,?_⟩
  k_mem
  rw [if_pos rfl]
  k_upd
  refine mgo hob rfl ⟨_,hD,_,rfl,?_⟩
  k_mem
  refine ⟨_,_,_,_,_,_,_,rfl,hW,by omega,wl.symm,hn.gl,fun h H2 s2=>qe .lv (if_pos h) H2 s2,fun h h' h3 H2 s2=>qe .ch ((if_neg (fun z=>z ⟨h,h'⟩)).trans (if_pos h3)) H2 s2,fun h h' h3=>⟨fun z H2 s2=>qf ((if_neg (fun z=>z ⟨h,h'⟩)).trans (if_neg (by rw [h3];decide))) z H2 s2,fun z H2 k2 hW2=>q ((if_neg (fun z=>z ⟨h,h'⟩)).trans (if_neg (by rw [h3];decide))) z _ H2 k2 hW2 rfl⟩⟩
 | sht l=>
  refine ⟨_,hD,_,rfl,?_⟩
  k_mem
  rw [if_neg (by decide)]
  k_upd
  refine ⟨_,hD,_,rfl,?_⟩
  k_mem
  rw [if_neg (by decide)]
  k_upd
  refine ⟨_,hD,_,rfl,?_⟩
  k_mem
  rw [if_neg (by decide)]
  k_upd
  refine ⟨_,hD,_,rfl,?_⟩
  k_mem
  rw [if_pos rfl]
  k_upd
  refine mgo hob rfl ⟨_,hD,_,rfl,?_⟩
  k_mem
  refine ⟨_,_,_,_,_,_,_,rfl,hW,by omega,wl.symm,hn.gl,fun h H2 s2=>qe .lv (if_pos h) H2 s2,fun h h' h3 H2 s2=>qe .ch ((if_neg (fun z=>z ⟨h,h'⟩)).trans (if_pos h3)) H2 s2,fun h h' h3=>⟨fun z H2 s2=>qf ((if_neg (fun z=>z ⟨h,h'⟩)).trans (if_neg (by rw [h3];decide))) z H2 s2,fun z H2 k2 hW2=>q ((if_neg (fun z=>z ⟨h,h'⟩)).trans (if_neg (by rw [h3];decide))) z _ H2 k2 hW2 rfl⟩⟩
 | load k c=>
  refine ⟨_,hD,_,rfl,?_⟩
  k_mem
  rw [if_neg (by decide)]
  k_upd
  refine ⟨_,hD,_,rfl,?_⟩
  k_mem
  rw [if_neg (by decide)]
  k_upd
  refine ⟨_,hD,_,rfl,?_⟩
  k_mem
  rw [if_neg (by decide)]
  k_upd
  refine ⟨_,hD,_,rfl,?_⟩
  k_mem
  rw [if_neg (by decide)]
  k_upd
  refine ⟨_,hD,_,rfl,?_⟩
  k_mem
  rw [if_pos rfl]
  k_upd
  refine mgo hob rfl ⟨_,hD,_,rfl,_,hD,_,rfl,?_⟩
  k_mem
  refine ⟨_,_,_,_,_,_,_,_,rfl,hW,by omega,wl.symm,hg.sh,hn.gl,by omega,ok.1,ok.2,fun h H2 s2=>qe .ul (if_pos h) H2 s2,fun h h' h3 H2 s2=>qe .nt ?_ H2 s2,fun l h h' hl h3 h4 H2 s2=>qe .ct ?_ H2 s2,fun l h h' hl h3 h4 h5 H2 s2=>qe .gs ?_ H2 s2,fun l h h' hl h3 h4 h5=>⟨fun z H2 s2=>qf ?_ z H2 s2,fun z H2 k2 hW2=>q ?_ z _ H2 k2 hW2 rfl⟩⟩
  ·refine (if_neg (fun z=>z ⟨h,h'⟩)).trans ?_
   cases hl:cQ g.ds (aj n0 rs).place c with
   | none=>rfl
   | some l=>exact if_pos (h3 l hl)
  ·refine (if_neg (fun z=>z ⟨h,h'⟩)).trans ?_
   rw [hl]
   exact (if_neg (fun z=>z h3)).trans (if_pos h4)
  ·refine (if_neg (fun z=>z ⟨h,h'⟩)).trans ?_
   rw [hl]
   exact (if_neg (fun z=>z h3)).trans ((if_neg h4).trans (if_neg (by rw [h5];exact Bool.false_ne_true)))
  ·refine (if_neg (fun z=>z ⟨h,h'⟩)).trans ?_
   rw [hl]
   exact (if_neg (fun z=>z h3)).trans ((if_neg h4).trans (if_pos h5))
  ·refine (if_neg (fun z=>z ⟨h,h'⟩)).trans ?_
   rw [hl]
   exact (if_neg (fun z=>z h3)).trans ((if_neg h4).trans (if_pos h5))
 | unload c=>
  refine ⟨_,hD,_,rfl,?_⟩
  k_mem
  rw [if_neg (by decide)]
  k_upd
  refine ⟨_,hD,_,rfl,?_⟩
  k_mem
  rw [if_neg (by decide)]
  k_upd
  refine ⟨_,hD,_,rfl,?_⟩
  k_mem
  rw [if_neg (by decide)]
  k_upd
  refine ⟨_,hD,_,rfl,?_⟩
  k_mem
  rw [if_neg (by decide)]
  k_upd
  refine ⟨_,hD,_,rfl,?_⟩
  k_mem
  rw [if_neg (by decide)]
  k_upd
  refine ⟨_,hD,_,rfl,?_⟩
  k_mem
  rw [if_pos rfl]
  k_upd
  refine mgo hob rfl ⟨_,hD,_,rfl,?_⟩
  k_mem
  refine ⟨_,_,_,_,_,_,_,rfl,hW,by omega,wl.symm,hg.sh,hn.gl,ok.1,ok.2,fun h H2 s2=>qe .ce (if_pos h) H2 s2,fun h hl H2 s2=>qe .nt ?_ H2 s2,fun l h hl h3 H2 s2=>qe .gs ?_ H2 s2,fun l h hl h3=>⟨fun z H2 s2=>qf ?_ z H2 s2,fun z H2 k2 hW2=>q ?_ z _ H2 k2 hW2 rfl⟩⟩
  ·refine (if_neg (fun z=>z h)).trans ?_
   simp only [hl]
  ·refine (if_neg (fun z=>z h)).trans ?_
   rw [hl]
   exact if_neg (by rw [h3];exact Bool.false_ne_true)
  ·refine (if_neg (fun z=>z h)).trans ?_
   rw [hl]
   exact if_pos h3
  ·refine (if_neg (fun z=>z h)).trans ?_
   rw [hl]
   exact if_pos h3
 | wind c l k=>
  refine ⟨_,hD,_,rfl,?_⟩
  k_mem
  rw [if_neg (by decide)]
  k_upd
  refine ⟨_,hD,_,rfl,?_⟩
  k_mem
  rw [if_neg (by decide)]
  k_upd
  refine ⟨_,hD,_,rfl,?_⟩
  k_mem
  rw [if_neg (by decide)]
  k_upd
  refine ⟨_,hD,_,rfl,?_⟩
  k_mem
  rw [if_neg (by decide)]
  k_upd
  refine ⟨_,hD,_,rfl,?_⟩
  k_mem
  rw [if_neg (by decide)]
  k_upd
  refine ⟨_,hD,_,rfl,?_⟩
  k_mem
  rw [if_neg (by decide)]
  k_upd
  refine ⟨_,hD,_,rfl,?_⟩
  k_mem
  rw [if_pos rfl]
  have sp:=hg.speed (aj n0 rs)
  k_upd
  refine mgo hob rfl ⟨_,hD,_,rfl,_,hD,_,rfl,_,hD,_,rfl,?_⟩
  k_mem
  refine ⟨_,_,_,_,_,_,_,_,_,rfl,hW,by omega,wl.symm,hg.sh,hn.gl,lc,sp.1,sp.2,ok.2,fun h H2 s2=>qe .lv (if_pos h) H2 s2,fun h h' h3 H2 s2=>qe .go ((if_neg (fun z=>z ⟨h,h'⟩)).trans (if_pos h3)) H2 s2,fun h h' h3 h4 H2 s2=>qe .na ((if_neg (fun z=>z ⟨h,h'⟩)).trans ((if_neg (by rw [h3];exact Bool.false_ne_true)).trans (if_neg h4))) H2 s2,fun h h' h3 h4=>⟨fun z H2 s2=>qf ((if_neg (fun z=>z ⟨h,h'⟩)).trans ((if_neg (by rw [h3];exact Bool.false_ne_true)).trans (if_pos h4))) z H2 s2,fun z H2 k2 hW2=>q ((if_neg (fun z=>z ⟨h,h'⟩)).trans ((if_neg (by rw [h3];exact Bool.false_ne_true)).trans (if_pos h4))) z _ H2 k2 hW2 rfl⟩⟩
 | fail l=>
  refine ⟨_,hD,_,rfl,?_⟩
  k_mem
  rw [if_neg (by decide)]
  k_upd
  refine ⟨_,hD,_,rfl,?_⟩
  k_mem
  rw [if_neg (by decide)]
  k_upd
  refine ⟨_,hD,_,rfl,?_⟩
  k_mem
  rw [if_neg (by decide)]
  k_upd
  refine ⟨_,hD,_,rfl,?_⟩
  k_mem
  rw [if_neg (by decide)]
  k_upd
  refine ⟨_,hD,_,rfl,?_⟩
  k_mem
  rw [if_neg (by decide)]
  k_upd
  refine ⟨_,hD,_,rfl,?_⟩
  k_mem
  rw [if_neg (by decide)]
  k_upd
  refine ⟨_,hD,_,rfl,?_⟩
  k_mem
  rw [if_neg (by decide)]
  k_upd
  refine ⟨_,hD,_,rfl,?_⟩
  k_mem
  rw [if_pos rfl]
  k_upd
  refine mgo hob rfl ⟨_,hD,_,rfl,?_⟩
  k_mem
  refine ⟨_,_,_,_,_,_,_,rfl,hW,by omega,wl.symm,fun h H2 s2=>qe .lv ?_ H2 s2,fun h h' h3 H2 s2=>qe .ch ?_ H2 s2,fun h h' h3=>⟨fun z H2 s2=>qf ?_ z H2 s2,fun z H2 k2 hW2=>q ?_ z _ H2 k2 hW2 rfl⟩⟩
  ·rw [lc] at h
   exact if_pos h
  ·rw [lc] at h'
   exact (if_neg (fun z=>z ⟨h,h'⟩)).trans (if_pos h3)
  ·rw [lc] at h'
   exact (if_neg (fun z=>z ⟨h,h'⟩)).trans (if_neg (by rw [h3];exact Bool.false_ne_true))
  ·rw [lc] at h'
   exact (if_neg (fun z=>z ⟨h,h'⟩)).trans (if_neg (by rw [h3];exact Bool.false_ne_true))
variable (kE:KD P w K mg base (CXf P w) 7 "_law_call" (u5 K Z))
noncomputable def pd (Z:Adr)(i:Nat):Addr:=[Z.aM,Z.ao,Z.aL,Z.br,Z.az,Z.ay,Z.aP,Z.aH,Z.aV,Z.aQ,Z.aR,Z.aG,Z.aS].getD i Z.aM
noncomputable def Hd:Rw->Nat
 | .lv=>1
 | .ch=>2
 | .nc=>3
 | .nr=>4
 | .ul=>5
 | .nt=>6
 | .ce=>7
 | .go=>8
 | .na=>9
 | .gs=>10
 | .ct=>11
 | .db=>12
noncomputable def M8 (K:WA)(Z:Adr)(M:Addr->Hp->Prop):XK:=fun cls _ H'=>W.exmOne K cls (.ref Z.bJ)=some true/\∀y,H' y=none->fz K [.ref y,.ref Z.aM] (upd H' y (FT y cls)) fun x0 H1=>fz K [.ref y,.ref Z.ao] H1 fun x1 H1=>fz K [.ref y,.ref Z.aL] H1 fun x2 H1=>3<=sizeLine/\∀p,H1 p=none->fz K [.ref y,.ref Z.br] (upd H1 p (.lst [x0,x1,x2])) fun x3 H1=>fz K [.ref y,.ref Z.az] H1 fun x4 H1=>fz K [.ref y,.ref Z.ay] H1 fun x5 H1=>3<=sizeLine/\∀q,H1 q=none->∃xs,(upd H1 q (.lst [x3,x4,x5])) p=some (.lst xs)/\∃zs,(upd H1 q (.lst [x3,x4,x5])) q=some (.lst zs)/\xs.length+zs.length<=sizeLine/\∀p,(upd H1 q (.lst [x3,x4,x5])) p=none->fz K [.ref y,.ref Z.aP] (upd (upd H1 q (.lst [x3,x4,x5])) p (.lst (xs++zs))) fun x6 H1=>fz K [.ref y,.ref Z.aH] H1 fun x7 H1=>fz K [.ref y,.ref Z.aV] H1 fun x8 H1=>3<=sizeLine/\∀q,H1 q=none->∃xs,(upd H1 q (.lst [x6,x7,x8])) p=some (.lst xs)/\∃zs,(upd H1 q (.lst [x6,x7,x8])) q=some (.lst zs)/\xs.length+zs.length<=sizeLine/\∀p,(upd H1 q (.lst [x6,x7,x8])) p=none->fz K [.ref y,.ref Z.aQ] (upd (upd H1 q (.lst [x6,x7,x8])) p (.lst (xs++zs))) fun x9 H1=>fz K [.ref y,.ref Z.aR] H1 fun x10 H1=>fz K [.ref y,.ref Z.aG] H1 fun x11 H1=>3<=sizeLine/\∀q,H1 q=none->∃xs,(upd H1 q (.lst [x9,x10,x11])) p=some (.lst xs)/\∃zs,(upd H1 q (.lst [x9,x10,x11])) q=some (.lst zs)/\xs.length+zs.length<=sizeLine/\∀p,(upd H1 q (.lst [x9,x10,x11])) p=none->tyV K "list" (.ref p) (upd (upd H1 q (.lst [x9,x10,x11])) p (.lst (xs++zs)))/\fz K [.ref y,.ref Z.aS] (upd (upd H1 q (.lst [x9,x10,x11])) p (.lst (xs++zs))) fun x H1=>∃xs,H1 p=some (.lst xs)/\xs.length < sizeLine/\M p (upd H1 p (.lst (xs++[x])))
noncomputable def u6 (i:Nat):List Bool:=[decide (i=0),decide (i=1),decide (i=2),decide (i=3),decide (i=4),decide (i=5),decide (i=6),decide (i=7),decide (i=8),decide (i=9),decide (i=10),decide (i=11),decide (i=12)]
theorem MH {i:Nat}(h:i < 13):((List.range 13).filter fun j=>(u6 i).getD j false).map (fun j=>V.str (bT.getD j ""))=[.str (bT.getD i "")]:=by
 rcases (by omega:i=0\/i=1\/i=2\/i=3\/i=4\/i=5\/i=6\/i=7\/i=8\/i=9\/i=10\/i=11\/i=12) with rfl | rfl | rfl | rfl | rfl | rfl | rfl | rfl | rfl | rfl | rfl | rfl | rfl<;>rfl
theorem Jn (r:Rw):Hd r < 13:=by cases r<;>decide
inductive gN (K:WA)(Z:Adr)(vs:List V)(H:Hp)(Q:VK)(E:XK):Prop | mk (w bk rl dd:Addr) (g:Cfg) (n0:a8) (rs:List Row) (d:Dd) (i:Nat):vs=[.ref w,.ref dd]->WAt (clZ Z) K H w bk rl g n0 rs->sF g->jb g (aj n0 rs)->rs.length=300->SqT K H dd (ddV d)->wz d->i < 13->(((∃r,c8 g (aj n0 rs) d=some r/\i=Hd r)\/(c8 g (aj n0 rs) d=none/\i=0)))->(∀p H',av H H'->H' p=some (.lst [.str (bT.getD i "")])->Q (.ref p) H')->gN K Z vs H Q E
include T kE in
theorem AJ:FF P w K mg base CX0 8 "_law_refused" "_law_refused" nK vk (gN K Z):=fk0 cP fun vs H Q E h=>by
 obtain ⟨w,bk,rl,dd,g,n0,rs,d,i,rfl,hW,hg,hn,h300,hD,ok,hi,hc,q⟩:=h
 k_all
 refine @seg _ _ _ 5 _ (@ag _ _ _ (aC (sy ["_law_k","_law_names","_law_hit"] [none,some 4,some 2] (cK (by rfl) T.dW (pa1 (aD aA (by rfl) T.cV ck (pa1 (pv' 2))))) (fun _ _ _ _=>(aW (i:=0) (show (["_law_k","_law_names","_law_hit"]:List Str).Nodup by decide +kernel) rfl orL)) (fun _ _ _ _=>(zN (cb (aN (show IxR _ (wD K) from aE) (pv' 2) (pv' 0))))) (fun _ _ _ _=>(aN (show IxR _ (wD K) from aE) (pv' 1) (pv' 0)))))) fun zt5 zh5 ze5=>?_
 refine @seg _ _ _ 4 _ (@ae _ _ _ _ _ (@bj _ _ _ _ (iP PySem.F.plainAttrs_list PySem.F.slot_list_append PySem.F.type_list_append cC (pv' 4) (pa1 au)) (by rfl)) zh5) fun zt4 zh4 ze4=>?_
 refine @seg _ _ _ 3 _ (@ae _ _ _ _ _ (@aI _ _ 4 _ _ _ _ cP.nd rfl (Or.inr rfl) (bx eD (pv' 4) (bh (bZ au (bZ au (pa4 au au au au))))) (by rfl) hfA) zh4) fun zt3 zh3 ze3=>?_
 refine @seg _ _ _ 2 _ (@ae _ _ _ _ _ (@aI _ _ 4 _ _ _ _ cP.nd rfl (Or.inr rfl) (bh (bZ au (bZ au (pa4 au au au au)))) (by rfl) hfA) zh3) fun zt2 zh2 ze2=>?_
 refine @seg _ _ _ 1 _ (@ae _ _ _ _ _ (KR (i:=3) rfl rfl (fun _ _=>@ag _ _ _ (@bj _ _ _ _ (dcT kE hr.dn (pa2 (pv' 0) (pv' 1))) (by rfl))) (fun _=>@ae _ _ _ _ _ (@aI _ _ 2 _ _ _ _ cP.nd rfl (Or.inr rfl) (bh (pa3 (aD (show df _ (.builtin "isinstance") (fz K) from dk) (by rfl) T.aY aU (pa2 (pv' 3) (dF (v:=.ref Z.aM) (by rfl) T.xk rfl))) (aD (show df _ (.builtin "isinstance") (fz K) from dk) (by rfl) T.aY aU (pa2 (pv' 3) (dF (v:=.ref Z.ao) (by rfl) T.nL rfl))) (aD (show df _ (.builtin "isinstance") (fz K) from dk) (by rfl) T.aY aU (pa2 (pv' 3) (dF (v:=.ref Z.aL) (by rfl) T.rP rfl))))) (by rfl) hfA) (@ae _ _ _ _ _ (@aI _ _ 2 _ _ _ _ cP.nd rfl (Or.inr rfl) (bx eD (pv' 2) (bh (pa3 (aD (show df _ (.builtin "isinstance") (fz K) from dk) (by rfl) T.aY aU (pa2 (pv' 3) (dF (v:=.ref Z.br) (by rfl) T.xi rfl))) (aD (show df _ (.builtin "isinstance") (fz K) from dk) (by rfl) T.aY aU (pa2 (pv' 3) (dF (v:=.ref Z.az) (by rfl) T.qZ rfl))) (aD (show df _ (.builtin "isinstance") (fz K) from dk) (by rfl) T.aY aU (pa2 (pv' 3) (dF (v:=.ref Z.ay) (by rfl) T.qY rfl)))))) (by rfl) hfA) (@ae _ _ _ _ _ (@aI _ _ 2 _ _ _ _ cP.nd rfl (Or.inr rfl) (bx eD (pv' 2) (bh (pa3 (aD (show df _ (.builtin "isinstance") (fz K) from dk) (by rfl) T.aY aU (pa2 (pv' 3) (dF (v:=.ref Z.aP) (by rfl) T.lB rfl))) (aD (show df _ (.builtin "isinstance") (fz K) from dk) (by rfl) T.aY aU (pa2 (pv' 3) (dF (v:=.ref Z.aH) (by rfl) T.nM rfl))) (aD (show df _ (.builtin "isinstance") (fz K) from dk) (by rfl) T.aY aU (pa2 (pv' 3) (dF (v:=.ref Z.aV) (by rfl) T.xl rfl)))))) (by rfl) hfA) (@ae _ _ _ _ _ (@aI _ _ 2 _ _ _ _ cP.nd rfl (Or.inr rfl) (bx eD (pv' 2) (bh (pa3 (aD (show df _ (.builtin "isinstance") (fz K) from dk) (by rfl) T.aY aU (pa2 (pv' 3) (dF (v:=.ref Z.aQ) (by rfl) T.xj rfl))) (aD (show df _ (.builtin "isinstance") (fz K) from dk) (by rfl) T.aY aU (pa2 (pv' 3) (dF (v:=.ref Z.aR) (by rfl) T.xm rfl))) (aD (show df _ (.builtin "isinstance") (fz K) from dk) (by rfl) T.aY aU (pa2 (pv' 3) (dF (v:=.ref Z.aG) (by rfl) T.vq rfl)))))) (by rfl) hfA) (@ag _ _ _ (@bj _ _ _ _ (show PE _ _ (tBM K "list" sT _ _) from iP PySem.F.plainAttrs_list PySem.F.slot_list_append PySem.F.type_list_append cC (pv' 2) (pa1 (aD (show df _ (.builtin "isinstance") (fz K) from dk) (by rfl) T.aY aU (pa2 (pv' 3) (dF (v:=.ref Z.aS) (by rfl) T.xh rfl))))) (by rfl))))))) cP.nd rfl rfl (by rfl) T.Bt) zh2) fun zt1 zh1 ze1=>?_
 refine ⟨_,@ae _ _ _ _ _ (@aI _ _ 2 _ _ _ _ cP.nd rfl (Or.inr rfl) (bh i7) (by rfl) hfA) zh1,?_⟩
 k_mem
 refine ⟨by decide,fun h0 hh0=>?_⟩
 (generalize hE:upd H h0 _=H1 at *;have s1:=bM hE hh0;have e1:=aZ hE;clear hE)
 k_mem
 have fin:∀(ph:Addr) (H2:Hp),av H1 H2->H2 ph=some (.lst ((u6 i).map V.bl))->zt2 {nx:=fun x H'=>Q V.non H',rt:=Q} [some (V.ref w),some (V.ref dd),some (V.ref ph),none,none] H2:=by
  intro ph H2 s2 eph
  k_mem
  refine ⟨by decide,fun p1 hp1=>?_⟩
  (generalize hE:upd H2 p1 _=H3 at *;have s3:=bM hE hp1;have e3:=aZ hE;clear hE)
  k_mem
  refine ⟨by decide,fun p2 hp2=>?_⟩
  (generalize hE:upd H3 p2 _=H4 at *;have s4:=bM hE hp2;have e4:=aZ hE;clear hE)
  k_upd
  refine ⟨_,s4 _ _ e3,_,e4,(by show 12<=sizeLine;decide),fun p3 hp3=>?_⟩
  (generalize hE:upd H4 p3 _=H5 at *;have s5:=bM hE hp3;have e5:=aZ hE;clear hE)
  k_mem
  refine ⟨.inl ⟨rfl,_,SqL.of e5⟩,_,e5,(by show 12 < sizeLine;decide),?_⟩
  have s24:=s3.trans (s4.trans (s5.rewr (o:=HO.lst (bT.map V.str)) hp3))
  have e6:upd H5 p3 (HO.lst (bT.map V.str)) p3=some (HO.lst (bT.map V.str)):=af
  show zt5 _ _ (upd H5 p3 (HO.lst (bT.map V.str)))
  generalize upd H5 p3 (HO.lst (bT.map V.str))=H6 at *
  have eph6:=s24 _ _ eph
  k_mem
  refine ⟨_,.inl (SqL.of eph6),(by show (-4611686018427387904:Int)<=((13:Nat):Int);decide),(by show ((13:Nat):Int) < 4611686018427387904;decide),?_⟩
  refine mr (n:=13) (fun j=>(u6 i).getD j false) (fun (j:Nat)=>.str (bT.getD j "")) (by rw [sizeLine_eq];decide) rfl (fun j hj N hN=>?_) (fun j hj _ N hN=>?_) fun lv hlv=>?_
  ·k_mem
   k_upd
   refine ⟨_,SqL.of eph6,_,i9 (by omega) (by show 0+(j:Int) < ((13:Nat):Int);omega),?_⟩
   k_mem
   rw [Int.zero_add,Int.toNat_natCast]
   exact hN
  ·k_mem
   k_upd
   refine ⟨_,SqL.of e6,_,?_,hN⟩
   rw [Int.zero_add]
   exact eZ (by rcases (by omega:j=0\/j=1\/j=2\/j=3\/j=4\/j=5\/j=6\/j=7\/j=8\/j=9\/j=10\/j=11\/j=12) with rfl | rfl | rfl | rfl | rfl | rfl | rfl | rfl | rfl | rfl | rfl | rfl | rfl<;>rfl)
  rw [MH hi]
  k_upd
  exact q lv _ (s1.trans (s2.trans (s24.lay hlv))) af
 have hx:∀H2,av H1 H2->M8 K Z (fun ph H'=>zt2 {nx:=fun x H'=>Q V.non H',rt:=Q} [some (V.ref w),some (V.ref dd),some (V.ref ph),none,none] H') (.ref (pd Z i)) none H2:=by
  intro H2 s2
  have kx:W.exmOne K (.ref (pd Z i)) (.ref Z.bJ)=some true/\ExI K (pd Z i)/\W.kitOne K (.ref (pd Z i)) (.ref Z.aM)=some (decide (i=0))/\W.kitOne K (.ref (pd Z i)) (.ref Z.ao)=some (decide (i=1))/\W.kitOne K (.ref (pd Z i)) (.ref Z.aL)=some (decide (i=2))/\W.kitOne K (.ref (pd Z i)) (.ref Z.br)=some (decide (i=3))/\W.kitOne K (.ref (pd Z i)) (.ref Z.az)=some (decide (i=4))/\W.kitOne K (.ref (pd Z i)) (.ref Z.ay)=some (decide (i=5))/\W.kitOne K (.ref (pd Z i)) (.ref Z.aP)=some (decide (i=6))/\W.kitOne K (.ref (pd Z i)) (.ref Z.aH)=some (decide (i=7))/\W.kitOne K (.ref (pd Z i)) (.ref Z.aV)=some (decide (i=8))/\W.kitOne K (.ref (pd Z i)) (.ref Z.aQ)=some (decide (i=9))/\W.kitOne K (.ref (pd Z i)) (.ref Z.aR)=some (decide (i=10))/\W.kitOne K (.ref (pd Z i)) (.ref Z.aG)=some (decide (i=11))/\W.kitOne K (.ref (pd Z i)) (.ref Z.aS)=some (decide (i=12)):=by
   rcases (by omega:i=0\/i=1\/i=2\/i=3\/i=4\/i=5\/i=6\/i=7\/i=8\/i=9\/i=10\/i=11\/i=12) with rfl | rfl | rfl | rfl | rfl | rfl | rfl | rfl | rfl | rfl | rfl | rfl | rfl
   ·k_upd
    exact ⟨T.oE,T.Dp,T.qi,T.kz,T.qj,T.t9,T.l4,T.l5,T.ql,T.oF,T.qm,T.qo,T.qp,T.oG,T.qk⟩
   ·k_upd
    exact ⟨T.jr,T.xp,T.jV,T.gH,T.jW,T.mz,T.ij,T.ik,T.jY,T.js,T.jZ,T.j0,T.ka,T.jt,T.jX⟩
   ·k_upd
    exact ⟨T.ow,T.Di,T.pS,T.kv,T.pT,T.tY,T.lX,T.lY,T.pV,T.ox,T.pW,T.pX,T.pY,T.oy,T.pU⟩
   ·k_upd
    exact ⟨T.rV,T.G6,T.tR,T.mI,T.tS,T.vK,T.oq,T.ot,T.tU,T.rW,T.tV,T.tW,T.tX,T.rX,T.tT⟩
   ·k_upd
    exact ⟨T.kq,T.yx,T.lQ,T.ip,T.lR,T.ou,T.iL,T.iM,T.lT,T.kr,T.lU,T.lV,T.lW,T.ku,T.lS⟩
   ·k_upd
    exact ⟨T.kb,T.yv,T.lE,T.il,T.lF,T.nP,T.iJ,T.iK,T.lH,T.ke,T.lI,T.lJ,T.lK,T.kg,T.lG⟩
   ·k_upd
    exact ⟨T.nQ,T.Df,T.pE,T.kh,T.pF,T.tP,T.lL,T.lM,T.pH,T.nR,T.pI,T.pJ,T.pK,T.nS,T.pG⟩
   ·k_upd
    exact ⟨T.mF,T.Bz,T.n6,T.jv,T.n8,T.rS,T.kl,T.km,T.oa,T.mG,T.og,T.oh,T.oi,T.mH,T.n9⟩
   ·k_upd
    exact ⟨T.oH,T.Dr,T.qq,T.kA,T.qr,T.ua,T.l7,T.l8,T.qt,T.oI,T.qu,T.qv,T.qw,T.oJ,T.qs⟩
   ·k_upd
    exact ⟨T.oz,T.Dk,T.pZ,T.ky,T.qa,T.tZ,T.lZ,T.l3,T.qc,T.oA,T.qd,T.qg,T.qh,T.oB,T.qb⟩
   ·k_upd
    exact ⟨T.oK,T.Du,T.qx,T.kB,T.qy,T.ub,T.l9,T.ma,T.qA,T.oM,T.qB,T.qC,T.qD,T.oN,T.qz⟩
   ·k_upd
    exact ⟨T.mB,T.By,T.nT,T.ju,T.nU,T.rR,T.ki,T.kj,T.nW,T.mD,T.nX,T.nY,T.nZ,T.mE,T.nV⟩
   ·k_upd
    exact ⟨T.oj,T.Dh,T.pL,T.ko,T.pM,T.tQ,T.lO,T.lP,T.pO,T.om,T.pP,T.pQ,T.pR,T.oo,T.pN⟩
  obtain ⟨z0,z1,z2,z3,z4,z5,z6,z7,z8,z9,z10,z11,z12,z13,z14⟩:=kx
  k_upd
  refine ⟨z0,fun y hy=>?_⟩
  (generalize hE:upd H2 y _=H3 at *;have t1:=bM hE hy;have ey1:=aZ hE;clear hE)
  refine uC ey1 z1 z2 dq (uC ey1 z1 z3 dq (uC ey1 z1 z4 dq (⟨by decide,fun q0 hq0=>?_⟩)))
  (generalize hE:upd H3 q0 _=H4 at *;have t2:=bM hE hq0;have e2:=aZ hE;clear hE)
  have ey2:=t2 _ _ ey1
  refine uC ey2 z1 z5 dq (uC ey2 z1 z6 dq (uC ey2 z1 z7 dq (⟨by decide,fun q1 hq1=>?_⟩)))
  (generalize hE:upd H4 q1 _=H5 at *;have t3:=bM hE hq1;have e3:=aZ hE;clear hE)
  have ey3:=t3 _ _ ey2
  k_upd
  refine ⟨_,t3 _ _ e2,_,e3,(by show 6<=sizeLine;decide),fun r1 hr1=>?_⟩
  (generalize hE:upd H5 r1 _=H6 at *;have t4:=bM hE hr1;have e4:=aZ hE;clear hE)
  have ey4:=t4 _ _ ey3
  refine uC ey4 z1 z8 dq (uC ey4 z1 z9 dq (uC ey4 z1 z10 dq (⟨by decide,fun q2 hq2=>?_⟩)))
  (generalize hE:upd H6 q2 _=H7 at *;have t5:=bM hE hq2;have e5:=aZ hE;clear hE)
  have ey5:=t5 _ _ ey4
  k_upd
  refine ⟨_,t5 _ _ e4,_,e5,(by show 9<=sizeLine;decide),fun r2 hr2=>?_⟩
  (generalize hE:upd H7 r2 _=H8 at *;have t6:=bM hE hr2;have e6:=aZ hE;clear hE)
  have ey6:=t6 _ _ ey5
  refine uC ey6 z1 z11 dq (uC ey6 z1 z12 dq (uC ey6 z1 z13 dq (⟨by decide,fun q3 hq3=>?_⟩)))
  (generalize hE:upd H8 q3 _=H9 at *;have t7:=bM hE hq3;have e7:=aZ hE;clear hE)
  have ey7:=t7 _ _ ey6
  k_upd
  refine ⟨_,t7 _ _ e6,_,e7,(by show 12<=sizeLine;decide),fun r3 hr3=>?_⟩
  (generalize hE:upd H9 r3 _=H10 at *;have t8:=bM hE hr3;have e8:=aZ hE;clear hE)
  k_upd
  refine ⟨.inl ⟨rfl,_,SqL.of e8⟩,uC (t8 _ _ ey7) z1 z14 dq ⟨_,e8,(by show 12 < sizeLine;decide),?_⟩⟩
  have t99:=(((((((s2.trans t1).trans t2).trans t3).trans t4).trans t5).trans t6).trans t7).trans (t8.rewr (o:=HO.lst ((u6 i).map V.bl)) hr3)
  have e99:upd H10 r3 (HO.lst ((u6 i).map V.bl)) r3=some (HO.lst ((u6 i).map V.bl)):=af
  exact fin r3 _ t99 e99
 k_upd
 refine ⟨w,bk,rl,dd,g,n0,rs,d,rfl,hW.same s1,hg,hn,by omega,s1.tup hD,ok,fun r e H2 s2=>?_,fun e h H2 s2=>?_,fun e h=>by omega⟩
 ·rcases hc with ⟨r',e',rfl⟩ | ⟨e',_⟩
  ·rw [e'] at e
   cases e
   have:=hx H2 s2
   rw [show pd Z (Hd r)=MG Z r by cases r<;>rfl] at this
   exact this
  ·rw [e'] at e;cases e
 ·rcases hc with ⟨r',e',_⟩ | ⟨_,rfl⟩
  ·rw [e'] at e;cases e
  ·exact hx H2 s2
variable (fS:KD P w K mg base CX0 8 "_law_refused" (gN K Z))
noncomputable def B2 (m:Int):List Ld:=[("coal",0,1),("men",m - 1,0),("coal",0,0)]
noncomputable def g26 (ds:List Int)(ls:List Cd)(slow fast:Int)(gt dd:Addr):Cfg:=qG ds ls slow fast (B2 (ds.length:Nat)) fun q=>(False\/q=gt)\/q=dd
noncomputable def bO (ds:List Int)(ls:List Cd)(gs:List Bool):a8:=⟨ds.getD 0 0,gs,ls.map fun _=>false,.no,[0,(ds.length:Int) - 1,0]⟩
noncomputable def S26 (ds:List Int)(ls:List Cd)(gs:List Bool)(wy:Nat)(l c:Int):a8:=⟨ds.getD 0 0,gs,if wy=6 then (ls.map fun _=>false).set l.toNat true else ls.map fun _=>false,if wy=1 then .wait l c else if wy=2 then .armed l c else .no,if wy=4\/wy=5 then [10,(ds.length:Int) - 1,0] else [0,(ds.length:Int) - 1,0]⟩
theorem yS (ls:List Cd)(i:Nat):(ls.map fun _=>false).getD i false=false:=by
 rw [List.getD_eq_getElem?_getD,List.getElem?_map];cases ls[i]?<;>rfl
theorem Fe (gs:List Bool)(i:Nat)(v:Bool)(h:gs.getD i false=v):gs.set i v=gs:=by
 apply List.ext_getElem?
 intro j
 rw [List.getElem?_set]
 split
 ·rename_i e
  subst e
  rw [List.getD_eq_getElem?_getD] at h
  split
  ·rename_i hl
   rw [List.getElem?_eq_getElem hl] at h ⊢
   rw [←h];rfl
  ·rename_i hl
   rw [List.getElem?_eq_none (by omega)]
 ·rfl
theorem c26 {ds:List Int}(hs:cn ds):cQ ds (ds.getD 0 0) 0=some 0:=by
 have l2:=hs.l2
 exact (if_pos rfl).trans (gU hs (i:=0) (by omega) rfl)
def xN (X:List Dd):Prop:=∀d∈X,∃lv:Int,1<=lv/\(d=.opn lv\/d=.sht lv)
theorem AK (g:Cfg):∀(X:List Dd) (n:a8),xN X->snD g n X={n with gates:=(snD g n X).gates}/\(snD g n X).gates.length=n.gates.length/\(snD g n X).gates.getD 0 false=n.gates.getD 0 false
 | [],n,_=>⟨rfl,rfl,rfl⟩
 | d::X,n,h=>by
  obtain ⟨lv,h1,h2⟩:=h d List.mem_cons_self
  have ih:=AK g X (bK g n d) fun x hx=>h x (List.mem_cons_of_mem _ hx)
  have e:∃b,bK g n d={n with gates:=n.gates.set lv.toNat b}:=by
   rcases h2 with rfl | rfl<;>exact ⟨_,rfl⟩
  obtain ⟨b,e⟩:=e
  show snD g (bK g n d) X=_/\(snD g (bK g n d) X).gates.length=_/\(snD g (bK g n d) X).gates.getD 0 false=_
  obtain ⟨i1,i2,i3⟩:=ih
  rw [e] at i1 i2 i3 ⊢
  refine ⟨by show _=({n with gates:=(snD g (bK g n d) X).gates}:a8);rw [e];exact i1,by rw [i2,List.length_set],by rw [i3,gQ,if_neg (by omega)]⟩
def zB (X:List Dd):Prop:=∀d∈X,∀g n,kK g n d=1
theorem Ep {X:List Dd}(h:xN X):zB X:=fun d hd g n=>by
 obtain ⟨lv,_,rfl | rfl⟩:=h d hd<;>rfl
theorem B3 (wy:Nat)(l c:Int):zB (aT wy l c):=by
 intro d hd g n
 unfold aT at hd
 split at hd<;>simp only [List.mem_cons,List.not_mem_nil,or_false] at hd
 ·subst hd;rfl
 ·rcases hd with rfl | rfl<;>rfl
 ·subst hd;rfl
 ·rcases hd with rfl | rfl<;>rfl
 ·rcases hd with rfl | rfl | rfl<;>rfl
 ·subst hd;rfl
theorem uv (g:Cfg)(n0:a8):∀(X:List Dd) (rs:List Row),zB X->eG (dA g n0 rs X)=eG rs+(X.length:Nat)
 | [],rs,_=>by simp [dA]
 | d::X,rs,h=>by
  show eG (dA g n0 (rs++[iS g n0 rs d]) X)=_
  rw [uv g n0 X _ fun x hx=>h x (List.mem_cons_of_mem _ hx),uG]
  show eG rs+kK g (aj n0 rs) d+_=_
  rw [h d List.mem_cons_self,List.length_cons]
  omega
theorem xO (g:Cfg)(n0:a8):∀(X:List Dd) (rs:List Row),Run g n0 rs->okS g (aj n0 rs) X->Run g n0 (dA g n0 rs X)
 | [],rs,h,_=>h
 | d::X,rs,h,ok=>xO g n0 X _ (h.snoc ok.1.1 ok.1.2) (by rw [fQ];exact ok.2)
theorem He {ls:List Cd}{l c:Int}{n:Nat}(hl:ls.length=n)(l0:0<=l)(l1:l < n)(gc:∀x∈ls,dM x)(hc:c=(ba ls l).1):(1<=c/\c<=9)/\¬(0=(ba ls l).1\/0=(ba ls l).2):=by
 have:=gc (ba ls l) (by unfold ba;rw [List.getD_eq_getElem?_getD,List.getElem?_eq_getElem (by omega)];exact List.getElem_mem _)
 obtain ⟨h1,h2,h3⟩:=this
 exact ⟨by rw [hc];exact h1,by omega⟩
theorem Jo {ds:List Int}{ls:List Cd}{slow fast:Int}{gt dd:Addr}{gs:List Bool}{wy:Nat}{l c:Int}(hs:cn ds)(hl:ls.length=ds.length)(hg:gs.length=ds.length)(h0:gs.getD 0 false=false)(l0:0<=l)(l1:l < ds.length)(gc:∀x∈ls,dM x)(hc:c=(ba ls l).1)(w7:wy < 7):okS (g26 ds ls slow fast gt dd) (bO ds ls gs) (aT wy l c)/\snD (g26 ds ls slow fast gt dd) (bO ds ls gs) (aT wy l c)=S26 ds ls (gs.set 0 (decide (wy=3\/wy=4))) wy l c:=by
 have l2:=hs.l2
 have c19:=(He hl l0 l1 gc hc).1
 have e0:gs.set 0 false=gs:=Fe gs 0 false h0
 have gl:∀b,(gs.set 0 b).getD 0 false=b:=fun b=>by rw [gQ,if_pos ⟨rfl,by omega⟩]
 have rr:∀gs',c8 (g26 ds ls slow fast gt dd) (bO ds ls gs') (.ring l c)=none:=fun gs'=>vb l0 l1 (yS _ _) (.inl hc)
 have ro:c8 (g26 ds ls slow fast gt dd) (bO ds ls gs) (.opn 0)=none:=kM (by decide) (by show (0:Int) < (ds.length:Nat);omega) h0
 have rl:c8 (g26 ds ls slow fast gt dd) (bO ds ls (gs.set 0 true)) (.load 0 0)=none:=Bj (l:=0) (by decide) (by show (0:Int) < 3;decide) (c26 hs) rfl (by show ¬(10+0:Int)∈[0,(ds.length:Int) - 1,0];have:=hs.l6;simp;omega) (gl true)
 rcases (by omega:wy=0\/wy=1\/wy=2\/wy=3\/wy=4\/wy=5\/wy=6) with rfl | rfl | rfl | rfl | rfl | rfl | rfl
 ·exact ⟨trivial,by show bO ds ls gs=S26 ds ls (gs.set 0 false) 0 l c;rw [e0];rfl⟩
 ·exact ⟨⟨⟨trivial,rr gs⟩,trivial⟩,by show _=S26 ds ls (gs.set 0 false) 1 l c;rw [e0];rfl⟩
 ·refine ⟨⟨⟨trivial,rr gs⟩,⟨trivial,vc (l:=l) (r:=c) rfl c19.1 c19.2⟩,trivial⟩,?_⟩
  show _=S26 ds ls (gs.set 0 false) 2 l c
  rw [e0]
  show bK _ (bK _ (bO ds ls gs) (.ring l c)) (.rept c)=_
  have:zV (g26 ds ls slow fast gt dd) (bK (g26 ds ls slow fast gt dd) (bO ds ls gs) (.ring l c)) (.rept c)=.armed l c:=if_pos rfl
  show (⟨ds.getD 0 0,gs,_,zV (g26 ds ls slow fast gt dd) (bK (g26 ds ls slow fast gt dd) (bO ds ls gs) (.ring l c)) (.rept c),_⟩:a8)=_
  rw [this]
  rfl
 ·exact ⟨⟨⟨trivial,ro⟩,trivial⟩,rfl⟩
 ·exact ⟨⟨⟨trivial,ro⟩,⟨⟨by decide,by decide⟩,rl⟩,trivial⟩,rfl⟩
 ·refine ⟨⟨⟨trivial,ro⟩,⟨⟨by decide,by decide⟩,rl⟩,⟨trivial,kO (by decide) (by show (0:Int) < (ds.length:Nat);omega) (gl true)⟩,trivial⟩,?_⟩
  show (⟨_,(gs.set 0 true).set 0 false,_,_,_⟩:a8)=_
  rw [List.set_set];rfl
 ·exact ⟨⟨⟨trivial,mW l0 l1 (yS _ _)⟩,trivial⟩,by show _=S26 ds ls (gs.set 0 false) 6 l c;rw [e0];rfl⟩
def B4 (g:Cfg)(n:a8)(x:Nat×Dd):Prop:=wz x.2/\x.1 < 13/\((∃r,c8 g n x.2=some r/\x.1=Hd r)\/(c8 g n x.2=none/\x.1=0))
theorem cB {g:Cfg}{n:a8}{i:Nat}{d:Dd}(r:Rw)(ok:wz d)(h:c8 g n d=some r)(e:i=Hd r):B4 g n (i,d):=⟨ok,by show i < 13;rw [e];exact Jn r,.inl ⟨r,h,e⟩⟩
theorem fT {g:Cfg}{n:a8}{i:Nat}{d:Dd}(ok:wz d)(h:c8 g n d=none)(e:i=0):B4 g n (i,d):=⟨ok,by show i < 13;omega,.inr ⟨h,e⟩⟩
theorem Jp {g:Cfg}{n:a8}{l s:Int}(h:¬(0<=l/\l < g.ds.length)):c8 g n (.ring l s)=some .lv:=if_pos h
theorem Jq {g:Cfg}{n:a8}{l:Int}(h:¬(0<=l/\l < g.ds.length)):c8 g n (.fail l)=some .lv:=if_pos h
theorem Lx {g:Cfg}{n:a8}{k c:Int}(h:¬(0<=k/\k < n.ws.length)):c8 g n (.load k c)=some .ul:=if_pos h
theorem Hf {ds:List Int}{ls:List Cd}{slow fast:Int}{gt dd:Addr}{gs:List Bool}{wy:Nat}{l c:Int}(hs:cn ds)(hl:ls.length=ds.length)(hg:gs.length=ds.length)(h0:gs.getD 0 false=decide (wy=3\/wy=4))(l0:0<=l)(l1:l < ds.length)(gc:∀x∈ls,dM x)(hc:c=(ba ls l).1)(w7:wy < 7):∀x∈uX wy l c,B4 (g26 ds ls slow fast gt dd) (S26 ds ls gs wy l c) x:=by
 have l2:=hs.l2
 have l6:=hs.l6
 obtain ⟨c19,cz⟩:=He hl l0 l1 gc hc
 have fs6:(S26 ds ls gs wy l c).fs.getD l.toNat false=decide (wy=6):=by
  by_cases h:wy=6
  ·rw [decide_eq_true h];show (if wy=6 then (ls.map fun _=>false).set l.toNat true else _).getD l.toNat false=true
   rw [if_pos h,gQ,if_pos ⟨rfl,by rw [WB];omega⟩]
  ·rw [decide_eq_false h];show (if wy=6 then (ls.map fun _=>false).set l.toNat true else _).getD l.toNat false=false
   rw [if_neg h,yS]
 have ws45:(S26 ds ls gs wy l c).ws=if wy=4\/wy=5 then [10,(ds.length:Int) - 1,0] else [0,(ds.length:Int) - 1,0]:=rfl
 have wl:(S26 ds ls gs wy l c).ws.length=3:=by rw [ws45];split<;>rfl
 have w2:(S26 ds ls gs wy l c).ws.getD 2 0=0:=by rw [ws45];split<;>rfl
 have w1:(S26 ds ls gs wy l c).ws.getD 1 0=(ds.length:Int) - 1:=by rw [ws45];split<;>rfl
 have w10:(10+0:Int)∈(S26 ds ls gs wy l c).ws↔wy=4\/wy=5:=by
  rw [ws45];split
  ·rename_i h;simp [h]
  ·rename_i h;simp [h];omega
 have w11:¬(10+1:Int)∈(S26 ds ls gs wy l c).ws:=by
  rw [ws45];split<;>simp<;>omega
 have cl0:cQ (g26 ds ls slow fast gt dd).ds (S26 ds ls gs wy l c).place 0=some 0:=c26 hs
 intro x hx
 simp only [uX,List.mem_cons,List.not_mem_nil,or_false] at hx
 rcases hx with rfl | rfl | rfl | rfl | rfl | rfl | rfl | rfl | rfl | rfl | rfl
 ·by_cases h:wy=6
  ·exact cB .db trivial ((if_neg (fun z=>z ⟨l0,l1⟩)).trans (if_pos (by rw [fs6,decide_eq_true h]))) (if_pos h)
  ·exact fT trivial (vb l0 l1 (by rw [fs6,decide_eq_false h]) (.inl hc)) (if_neg h)
 ·by_cases h:wy=6
  ·exact cB .db trivial ((if_neg (fun z=>z ⟨l0,l1⟩)).trans (if_pos (by rw [fs6,decide_eq_true h]))) (if_pos h)
  ·exact cB .nc trivial ((if_neg (fun z=>z ⟨l0,l1⟩)).trans ((if_neg (by rw [fs6,decide_eq_false h];decide)).trans (if_neg cz))) (if_neg h)
 ·by_cases h:wy=6
  ·exact cB .ch trivial ((if_neg (fun z=>z ⟨l0,l1⟩)).trans (if_pos (by rw [fs6,decide_eq_true h]))) (if_pos h)
  ·exact fT trivial (mW l0 l1 (by rw [fs6,decide_eq_false h])) (if_neg h)
 ·exact cB .lv trivial (Jp (fun z=>by omega)) rfl
 ·exact cB .lv trivial (Jq (fun z=>by have:(6:Int) < (ds.length:Nat):=z.2;omega)) rfl
 ·exact cB .ul ⟨by decide,by decide⟩ (Lx (fun z=>by rw [wl] at z;omega)) rfl
 ·refine cB .nt ⟨by decide,by decide⟩ ((if_neg (fun z=>z ⟨by decide,by rw [wl];decide⟩)).trans ?_) rfl
  rw [cl0]
  exact if_pos (by show _≠_;rw [show (1:Int).toNat=1 from rfl,w1];omega)
 ·by_cases h:wy=1
  ·exact fT trivial (vc (l:=l) (r:=c) (if_pos h) c19.1 c19.2) (if_pos h)
  ·refine cB .nr trivial ?_ (if_neg h)
   have:(S26 ds ls gs wy l c).e=if wy=2 then .armed l c else .no:=if_neg h
   simp only [c8,this]
   by_cases h2:wy=2<;>simp [h2]
 ·have hk:∀X:Option Rw,(if 10+0∈(S26 ds ls gs wy l c).ws then some Rw.ct else if (S26 ds ls gs wy l c).gates.getD (0:Int).toNat false=true then none else some Rw.gs)=X->c8 (g26 ds ls slow fast gt dd) (S26 ds ls gs wy l c) (.load 2 0)=X:=fun X e=>by
   refine (if_neg (fun z=>z ⟨by decide,by rw [wl];decide⟩)).trans ?_
   rw [cl0]
   exact (if_neg (fun z=>z w2)).trans e
  by_cases h45:wy=4\/wy=5
  ·refine cB .ct ⟨by decide,by decide⟩ (hk _ (if_pos (w10.mpr h45))) ?_
   rcases h45 with rfl | rfl<;>rfl
  ·have n10:=fun z=>h45 (w10.mp z)
   have gg:(S26 ds ls gs wy l c).gates.getD (0:Int).toNat false=decide (wy=3):=by
    show gs.getD 0 false=_
    rw [h0]
    by_cases h3:wy=3
    ·rw [decide_eq_true h3,decide_eq_true (.inl h3)]
    ·rw [decide_eq_false h3,decide_eq_false];omega
   by_cases h3:wy=3
   ·refine fT ⟨by decide,by decide⟩ (hk _ ((if_neg n10).trans (if_pos (by rw [gg,decide_eq_true h3])))) ?_
    rw [h3];rfl
   ·refine cB .gs ⟨by decide,by decide⟩ (hk _ ((if_neg n10).trans (if_neg (by rw [gg,decide_eq_false h3];decide)))) ?_
    rcases (by omega:wy=0\/wy=1\/wy=2\/wy=6) with rfl | rfl | rfl | rfl<;>rfl
 ·by_cases h45:wy=4\/wy=5
  ·have gg:(S26 ds ls gs wy l c).gates.getD (0:Int).toNat false=decide (wy=4):=by
    show gs.getD 0 false=_
    rw [h0]
    rcases h45 with rfl | rfl<;>rfl
   by_cases h4:wy=4
   ·refine fT ⟨by decide,by decide⟩ (yd (w10.mpr h45) cl0 (by rw [gg,decide_eq_true h4])) ?_
    rw [h4];rfl
   ·refine cB .gs ⟨by decide,by decide⟩ ((if_neg (fun z=>z (w10.mpr h45))).trans ?_) ?_
    ·rw [cl0]
     exact if_neg (by rw [gg,decide_eq_false h4];decide)
    ·rcases h45 with rfl | rfl
     ·exact absurd rfl h4
     ·rfl
  ·refine cB .ce ⟨by decide,by decide⟩ (if_pos (fun z=>h45 (w10.mp z))) ?_
   rcases (by omega:wy=0\/wy=1\/wy=2\/wy=3\/wy=6) with rfl | rfl | rfl | rfl | rfl<;>rfl
 ·exact cB .ce ⟨by decide,by decide⟩ (if_pos w11) rfl
theorem Hg (ds:List Int)(gs:List Bool)(n:Nat):ug ds gs n=true↔gs.getD 0 false=true\/∃i,i < n/\ds.getD i 0+ds.getD 0 0=cA ds/\gs.getD i false=true:=by
 induction n with
 | zero=>exact ⟨fun h=>.inl h,fun h=>h.elim id fun ⟨i,hi,_⟩=>absurd hi (Nat.not_lt_zero _)⟩
 | succ n ih=>
  show (_ || _)=true↔_
  rw [Bool.or_eq_true,ih,Bool.and_eq_true,decide_eq_true_eq]
  constructor
  ·rintro ((h | ⟨i,hi,h⟩) | h)
   ·exact .inl h
   ·exact .inr ⟨i,by omega,h⟩
   ·exact .inr ⟨n,by omega,h⟩
  ·rintro (h | ⟨i,hi,h⟩)
   ·exact .inl (.inl h)
   ·by_cases e:i=n
    ·subst e;exact .inr h
    ·exact .inl (.inr ⟨i,by omega,h⟩)
theorem Ly {ds:List Int}{ls:List Cd}{slow fast:Int}{gt dd:Addr}{gs:List Bool}{wy:Nat}{l c:Int}(hs:cn ds):ja (g26 ds ls slow fast gt dd) (S26 ds ls gs wy l c)=ug ds gs ds.length:=by
 have l2:=hs.l2
 rw [Bool.eq_iff_iff,Hg]
 unfold ja
 rw [List.any_eq_true]
 have inj:∀i,i < ds.length->ds.getD i 0=ds.getD 0 0->i=0:=fun i hi e=>by
  have h1:=gU hs hi e
  have h2:=gU hs (i:=0) (by omega) rfl
  rw [h1] at h2
  injection h2 with h2
  omega
 constructor
 ·rintro ⟨x,hx,ho⟩
  unfold fI at hx
  obtain ⟨i,hi,rfl⟩:=List.mem_map.mp hx
  rw [List.mem_filter,List.mem_range,decide_eq_true_eq] at hi
  have hi1:i < ds.length:=hi.1
  have hi2:ds.getD i 0=ds.getD 0 0\/ds.getD i 0=cA ds - ds.getD 0 0:=hi.2
  have ho:gs.getD i false=true:=ho
  rcases hi2 with h | h
  ·left;rw [inj i hi1 h] at ho;exact ho
  ·right;exact ⟨i,hi1,by omega,ho⟩
 ·have mem:∀i,i < ds.length->(ds.getD i 0=ds.getD 0 0\/ds.getD i 0=cA ds - ds.getD 0 0)->(i:Int)∈fI (g26 ds ls slow fast gt dd).ds (S26 ds ls gs wy l c).place:=fun i hi h=>by
   unfold fI
   refine List.mem_map.mpr ⟨i,?_,rfl⟩
   rw [List.mem_filter,List.mem_range,decide_eq_true_eq]
   exact ⟨hi,h⟩
  rintro (h | ⟨i,hi,he,h⟩)
  ·exact ⟨((0:Nat):Int),mem 0 (by omega) (.inl rfl),h⟩
  ·exact ⟨(i:Int),mem i hi (.inr (by omega)),h⟩
theorem Jr {gs:List Bool}{n:Nat}{x:Nat×Dd}(h:x∈zw gs n):∃i:Nat,i < n/\(x=(0,if gs.getD i false=true then .sht i else .opn i)\/x=(2,if gs.getD i false=true then .opn i else .sht i)):=by
 induction n with
 | zero=>cases h
 | succ n ih=>
  rcases List.mem_append.mp h with h | h
  ·rcases List.mem_append.mp h with h | h
   ·obtain ⟨i,hi,e⟩:=ih h
    exact ⟨i,by omega,e⟩
   ·exact ⟨n,by omega,.inl (List.mem_singleton.mp h)⟩
  ·exact ⟨n,by omega,.inr (List.mem_singleton.mp h)⟩
theorem Ff {ds:List Int}{ls:List Cd}{slow fast:Int}{gt dd:Addr}{gs:List Bool}{wy:Nat}{l c:Int}(hs:cn ds)(hg:gs.length=ds.length)(l0:0<=l)(l1:l < ds.length)(hc:c=(ba ls l).1):∀x∈pz ds gs wy l,B4 (g26 ds ls slow fast gt dd) (S26 ds ls gs wy l c) x:=by
 intro x hx
 rcases List.mem_append.mp hx with hx | hx
 ·obtain ⟨i,hi,e⟩:=Jr hx
  have h0:(0:Int)<=(i:Int):=by omega
  have h1:(i:Int) < (ds.length:Nat):=by omega
  have eg:(S26 ds ls gs wy l c).gates.getD (i:Int).toNat false=gs.getD i false:=rfl
  cases hb:gs.getD i false with
  | true=>
   rw [hb] at e eg
   rcases e with rfl | rfl
   ·exact fT trivial (kO h0 h1 eg) rfl
   ·exact cB .ch trivial ((if_neg (fun z=>z ⟨h0,h1⟩)).trans (if_pos eg)) rfl
  | false=>
   rw [hb] at e eg
   rcases e with rfl | rfl
   ·exact fT trivial (kM h0 h1 eg) rfl
   ·exact cB .ch trivial ((if_neg (fun z=>z ⟨h0,h1⟩)).trans (if_pos eg)) rfl
 ·have hx:=List.mem_singleton.mp hx
  subst hx
  have ok:wz (.wind 1 l "men"):=⟨⟨by decide,by decide⟩,.inl rfl⟩
  have ob:=Ly (ls:=ls) (slow:=slow) (fast:=fast) (gt:=gt) (dd:=dd) (gs:=gs) (wy:=wy) (l:=l) (c:=c) hs
  cases hw:ug ds gs ds.length with
  | true=>exact cB .go ok ((if_neg (fun z=>z ⟨l0,l1⟩)).trans (if_pos (by rw [ob,hw]))) rfl
  | false=>
   by_cases h2:wy=2
   ·refine fT ok (Bi l0 l1 (by rw [ob,hw]) ?_) (if_pos h2)
    subst h2
    show Eng.armed l c=.armed l (cO ls l "men")
    rw [hc];rfl
   ·refine cB .na ok ((if_neg (fun z=>z ⟨l0,l1⟩)).trans ((if_neg (by rw [ob,hw];decide)).trans (if_neg ?_))) (if_neg h2)
    intro z
    have z:(if wy=1 then Eng.wait l c else if wy=2 then .armed l c else .no)=Eng.armed l (cO ls l "men"):=z
    rw [if_neg h2] at z
    split at z<;>cases z
theorem MJ {ds:List Int}{ls:List Cd}{slow fast:Int}{gt dd:Addr}{X:List Dd}{wy:Nat}{l c:Int}{gs0:List Bool}(hl2:2<=ds.length)(hg:gs0.length=ds.length)(h0:gs0.getD 0 false=false)(hX:xN X)(w7:wy < 7):let n2:=snD (g26 ds ls slow fast gt dd) (bO ds ls gs0) (X++aT wy l c).dropLast;n2.fs.getD l.toNat false=false/\n2.gates.length=ds.length/\n2.gates.getD 0 false=decide (wy=4\/wy=5):=by
 intro n2
 have key:∀Y,xN Y->∃G:List Bool,G.length=ds.length/\G.getD 0 false=false/\snD (g26 ds ls slow fast gt dd) (bO ds ls gs0) Y=bO ds ls G:=fun Y hY=>by
  obtain ⟨a,b,c⟩:=AK (g26 ds ls slow fast gt dd) Y (bO ds ls gs0) hY
  exact ⟨_,b.trans hg,c.trans h0,a⟩
 obtain ⟨G,g1,g2,g3⟩:=key X hX
 have one:∀a:Dd,(X++[a]).dropLast=X:=fun a=>List.dropLast_concat
 have two:∀a b:Dd,(X++[a,b]).dropLast=X++[a]:=fun a b=>by rw [show X++[a,b]=(X++[a])++[b] by simp];exact List.dropLast_concat
 have thr:∀a b c:Dd,(X++[a,b,c]).dropLast=X++[a,b]:=fun a b c=>by rw [show X++[a,b,c]=(X++[a,b])++[c] by simp];exact List.dropLast_concat
 have gl:∀b,(G.set 0 b).getD 0 false=b:=fun b=>by rw [gQ,if_pos ⟨rfl,by omega⟩]
 rcases (by omega:wy=0\/wy=1\/wy=2\/wy=3\/wy=4\/wy=5\/wy=6) with rfl | rfl | rfl | rfl | rfl | rfl | rfl
 ·obtain ⟨G',a,b,c⟩:=key X.dropLast fun d hd=>hX d (List.dropLast_subset _ hd)
  have e:n2=bO ds ls G':=by rw [←c];show snD _ _ (X++[]).dropLast=_;rw [List.append_nil]
  rw [e];exact ⟨yS _ _,a,b⟩
 ·have e:n2=bO ds ls G:=by rw [←g3];show snD _ _ (X++[_]).dropLast=_;rw [one]
  rw [e];exact ⟨yS _ _,g1,g2⟩
 ·have e:n2=bK (g26 ds ls slow fast gt dd) (bO ds ls G) (.ring l c):=by show snD _ _ (X++[_,_]).dropLast=_;rw [two,px,g3];rfl
  rw [e];exact ⟨yS _ _,g1,g2⟩
 ·have e:n2=bO ds ls G:=by rw [←g3];show snD _ _ (X++[_]).dropLast=_;rw [one]
  rw [e];exact ⟨yS _ _,g1,g2⟩
 ·have e:n2=bK (g26 ds ls slow fast gt dd) (bO ds ls G) (.opn 0):=by show snD _ _ (X++[_,_]).dropLast=_;rw [two,px,g3];rfl
  rw [e];exact ⟨yS _ _,by show (G.set 0 true).length=_;rw [List.length_set,g1],gl true⟩
 ·have e:n2=bK (g26 ds ls slow fast gt dd) (bK (g26 ds ls slow fast gt dd) (bO ds ls G) (.opn 0)) (.load 0 0):=by show snD _ _ (X++[_,_,_]).dropLast=_;rw [thr,px,g3];rfl
  rw [e];exact ⟨yS _ _,by show (G.set 0 true).length=_;rw [List.length_set,g1],gl true⟩
 ·have e:n2=bO ds ls G:=by rw [←g3];show snD _ _ (X++[_]).dropLast=_;rw [one]
  rw [e];exact ⟨yS _ _,g1,g2⟩
structure B26 (K:WA)(H1:Hp)(dl cl rl gt dd:Addr)(as0:List Addr)(ds:List Int)(ls:List Cd)(slow fast:Int):Prop where
 hdl:H1 dl=some (.lst (ds.map V.int))
 hcl:H1 cl=some (.lst (as0.map V.ref))
 hT:cS cdV K H1 as0 ls
 sh:cn ds
 len:ls.length=ds.length
 gd:∀x∈ls,dM x
 sp:1<=slow/\slow<=fast/\fast<=500
 fr:H1 rl=none
 fg:H1 gt=none
 fd:H1 dd=none
structure xP (C:Cl)(K:WA)(H1 H':Hp)(w bk rl gt d2:Addr)(g:Cfg)(n0:a8)(rs:List Row)(gs:List Bool)(D:List Dd):Prop where
 sa:av H1 H'
 wk:WAt C K H' w bk rl g n0 rs
 hg:H' gt=some (.lst (gs.map V.bl))
 hd:∃as:List Addr,H' d2=some (.lst (as.map V.ref))/\dI K H' as D
 ng:gt≠rl
 nd:d2≠rl
theorem xP.same {C:Cl}{K:WA}{H1 H' H2:Hp}{w bk rl gt d2:Addr}{g:Cfg}{n0:a8}{rs:List Row}{gs:List Bool}{D:List Dd}(h:xP C K H1 H' w bk rl gt d2 g n0 rs gs D)(s:av H' H2):xP C K H1 H2 w bk rl gt d2 g n0 rs gs D:=by
 obtain ⟨h1,h2,h3,⟨as,h4,h5⟩,h6,h7⟩:=h
 exact ⟨h1.trans s,h2.same s,s _ _ h3,⟨as,s _ _ h4,h5.same s⟩,h6,h7⟩
theorem xP.keep {C:Cl}{K:WA}{H1 H' H2:Hp}{w bk rl gt d2:Addr}{g:Cfg}{n0:a8}{rs rs2:List Row}{gs:List Bool}{D:List Dd}(h:xP C K H1 H' w bk rl gt d2 g n0 rs gs D)(f:H1 rl=none)(k:ax rl H' H2)(hW:WAt C K H2 w bk rl g n0 rs2):xP C K H1 H2 w bk rl gt d2 g n0 rs2 gs D:=by
 obtain ⟨h1,h2,h3,⟨as,h4,h5⟩,h6,h7⟩:=h
 obtain ⟨ar,hr⟩:=h2.rows
 exact ⟨h1.keeps k f,hW,k _ _ h6 h3,⟨as,k _ _ h7 h4,h5.imp fun a x q=>q.keep k hr⟩,h6,h7⟩
theorem B26.cfg {K:WA}{H1:Hp}{dl cl rl gt dd:Addr}{as0:List Addr}{ds:List Int}{ls:List Cd}{slow fast:Int}(h:B26 K H1 dl cl rl gt dd as0 ds ls slow fast):sF (g26 ds ls slow fast gt dd):=K4 h.sh h.len h.gd h.sp (show 3<=30 by decide)
theorem MK {m:Nat}(h:2<=m):∀x∈B2 (m:Int),rB (m:Int) x:=by
 intro x hx
 simp only [B2,List.mem_cons,List.not_mem_nil,or_false] at hx
 rcases hx with rfl | rfl | rfl<;>refine ⟨⟨?_,?_⟩,?_,?_⟩<;>dsimp<;>omega
theorem B26.snap {K:WA}{H1:Hp}{dl cl rl gt dd:Addr}{as0:List Addr}{ds:List Int}{ls:List Cd}{slow fast:Int}(h:B26 K H1 dl cl rl gt dd as0 ds ls slow fast):jb (g26 ds ls slow fast gt dd) (bO ds ls (ds.map fun _=>false)):=Ib h.sh h.len (MK h.sh.l2)
def ML (Z:Adr)(K:WA)(H H1:Hp)(a dl cl ll w bk rl gt dd el:Addr)(ds:List Int)(ls:List Cd)(slow fast l:Int)(wy:Nat)(i:Nat)(σ:St)(H':Hp):Prop:=∃(X:List Dd) (gs:List Bool) (t13 t14:Option V),σ=[some (.ref a),some (.ref dl),some (.ref cl),some (.int slow),some (.int fast),some (.int (ds.length:Nat)),some (.ref ll),some (.ref w),some (.int wy),some (.int l),some (.ref gt),some (.ref dd),some (.ref el),t13,t14,none,none,none,none,none,none]/\xP (clZ Z) K H1 H' w bk rl gt dd (g26 ds ls slow fast gt dd) (bO ds ls (ds.map fun _=>false)) [] gs X/\okS (g26 ds ls slow fast gt dd) (bO ds ls (ds.map fun _=>false)) X/\xN X/\X.length=i/\gs=(snD (g26 ds ls slow fast gt dd) (bO ds ls (ds.map fun _=>false)) X).gates/\gs.length=ds.length/\∃es,H' el=some (.lst (es.map V.ref))/\dI K H' es (aT wy l (ba ls l).1)
theorem Lz {b:Bool}:atI [V.str "shut",V.str "open"] (if b=true then 1 else 0)=some (.str (if b=true then "open" else "shut")):=by
 cases b<;>rfl
theorem LA (wy:Nat)(l c:Int):(aT wy l c).length<=3:=by unfold aT;split<;>simp
theorem B5 (g:Cfg):∀(X:List Dd) (n:a8) (i:Nat),okS g n X->okS g n (X.take i)
 | [],n,i,h=>by rw [List.take_nil];exact h
 | d::X,n,0,h=>trivial
 | d::X,n,i+1,h=>⟨h.1,B5 g X _ i h.2⟩
theorem Fg {α:Type}(n:Nat)(x:α):(List.replicate n [x]).flatten=List.replicate n x:=by
 induction n with
 | zero=>rfl
 | succ n ih=>rw [List.replicate_succ,List.replicate_succ,List.flatten_cons,ih];rfl
theorem B26.code {K:WA}{H1 H':Hp}{cl:Addr}{as0:List Addr}{ls:List Cd}{l:Int}(hT:cS cdV K H1 as0 ls)(s:av H1 H')(l0:0<=l)(l1:l < ls.length):∃ca,atI (as0.map V.ref) l=some (.ref ca)/\SqT K H' ca (cdV (ba ls l)):=by
 obtain ⟨j,rfl⟩:=Int.eq_ofNat_of_zero_le l0
 have hlt:j < ls.length:=by omega
 have hx:ls[j]?=some (ba ls (j:Int)):=by unfold ba;rw [Int.toNat_natCast,List.getD_eq_getElem?_getD,List.getElem?_eq_getElem hlt];rfl
 obtain ⟨ca,ha⟩:∃ca,as0[j]?=some ca:=⟨_,List.getElem?_eq_getElem (by rw [hT.1];exact hlt)⟩
 exact ⟨ca,eZ (by rw [List.getElem?_map,ha];rfl),s.tup (hT.2 _ _ _ ha hx)⟩
theorem xQ (s:Str):eqL [V.str s] [V.str s]=true:=by
 have:eqV (.str s) (.str s)=true:=by cases h:eqV (.str s) (.str s) with
  | true=>rfl
  | false=>simp [eqV] at h
 simp [eqL,this]
def JV (Z:Adr)(K:WA)(H H1:Hp)(a dl cl ll w bk rl gt dd d2 el:Addr)(ds:List Int)(ls:List Cd)(slow fast l:Int)(wy:Nat)(X:List Dd)(gs:List Bool)(i:Nat)(σ:St)(H':Hp):Prop:=∃(t13 t14 t15:Option V),σ=[some (.ref a),some (.ref dl),some (.ref cl),some (.int slow),some (.int fast),some (.int (ds.length:Nat)),some (.ref ll),some (.ref w),some (.int wy),some (.int l),some (.ref gt),some (.ref d2),some (.ref el),t13,t14,t15,none,none,none,none,none]/\xP (clZ Z) K H1 H' w bk rl gt d2 (g26 ds ls slow fast gt dd) (bO ds ls (ds.map fun _=>false)) (dA (g26 ds ls slow fast gt dd) (bO ds ls (ds.map fun _=>false)) [] ((X++aT wy l (ba ls l).1).take i)) gs (X++aT wy l (ba ls l).1)
noncomputable def xR (K:WA)(Z:Adr):Sp:=fun vs H Q _=>∃(a:Addr) (ns:List Int),vs=[.ref a]/\SqL K H a (ns.map V.int)/\ns.length<=63/\∀H',Q (.bl true) H'
include T jB cy wa uf fu cJ dr gL gM pA dX dC kD kE fS in
theorem LB:FF P w K mg base (CXf P w) 9 "law" "law" jU GY (xR K Z):=fkF cT fun vs H Q E h=>by
 obtain ⟨a,ns,rfl,hS,hn,q⟩:=h
 k_all
 obtain ⟨t3,h3,k3⟩:∃t,PSs (cxF P w K mg base ["_law_script","_law_depths_here","_law_codes_here","_law_slow","_law_fast","_law_many","_law_loads","_law_works","_law_way","_law_level","_law_gates","_law_deeds","_law_ends","_law_k","_law_at_here","_law_told","_law_state_here","_law_late_here","_law_word","_law_deed","_law_book"] "law" (ai jU) zf zv zA zo zs H E) ((cv jU).drop 13) t/\∀(dl cl ll w bk rl gt dd el:Addr) (as0:List Addr) (ds:List Int) (ls:List Cd) (slow fast l:Int) (wy:Nat) (H1 H2:Hp),av H H1->B26 K H1 dl cl rl gt dd as0 ds ls slow fast->wy < 7->0<=l->l < ds.length->∀(d2:Addr) (X:List Dd) (gs:List Bool) (t13 t14 t15:Option V),xP (clZ Z) K H1 H2 w bk rl gt d2 (g26 ds ls slow fast gt dd) (bO ds ls (ds.map fun _=>false)) (dA (g26 ds ls slow fast gt dd) (bO ds ls (ds.map fun _=>false)) [] (X++aT wy l (ba ls l).1)) gs (X++aT wy l (ba ls l).1)->okS (g26 ds ls slow fast gt dd) (bO ds ls (ds.map fun _=>false)) (X++aT wy l (ba ls l).1)->xN X->(X++aT wy l (ba ls l).1).length=300->snD (g26 ds ls slow fast gt dd) (bO ds ls (ds.map fun _=>false)) (X++aT wy l (ba ls l).1)=S26 ds ls gs wy l (ba ls l).1->gs.length=ds.length->gs.getD 0 false=decide (wy=3\/wy=4)->t ({nx:=fun _ H2=>Q .non H2,rt:=Q}:mK) [some (.ref a),some (.ref dl),some (.ref cl),some (.int slow),some (.int fast),some (.int (ds.length:Nat)),some (.ref ll),some (.ref w),some (.int wy),some (.int l),some (.ref gt),some (.ref d2),some (.ref el),t13,t14,t15,none,none,none,none,none] H2:=by
  refine @seg _ _ _ 7 _ (@ag _ _ _ (aC (cZ (IX hr.units0) (dc0 fS hr.dn (pa2 (pv' 7) (aN aE (bh (pa2 (aO (pa2 au ah)) (aO (pa2 au ah)))) (bN c9 (by rfl) T.my fW (pa1 (cZ kQ (pv' 8) (aO (pa2 ah ah)) (by rfl))))))) (bh (pa1 au)) (cG _)))) fun zt7 zh7 ze7=>?_
  refine @seg _ _ _ 6 _ (@ae _ _ _ _ _ (bu (mL (dj (cb (dc0 dC hr.dn (pa2 (dm' (pv' 7) dX hr.dn bU (pa1 (pv' 9))) ah)))) (i6 (dj (cb (dc0 dC hr.dn (pa2 (c3 (by rfl) T.tN) ah)))))).pt (@ag _ _ _ (aC fA)) (aJ)) zh7) fun zt6 zh6 ze6=>?_
  refine @seg _ _ _ 5 _ (@ae _ _ _ _ _ (bu (mL (dj (cb (dc0 dC hr.dn (pa2 (c4 (pv' 7) cJ hr.dn bU) (aN aE (pv' 11) (AW sU ah)))))) (i6 (dj (cb (dc0 dC hr.dn (pa2 (c4 (pv' 7) dr hr.dn bw) ah)))))).pt (@ag _ _ _ (aC fA)) (aJ)) zh6) fun zt5 zh5 ze5=>?_
  refine @seg _ _ _ 4 _ (@ae _ _ _ _ _ (bu (mL (dj (cb (dc0 dC hr.dn (pa2 (dc0 kD hr.dn (pa1 (pv' 7))) (pv' 16))))) (i6 (dj (cb (dc0 dC hr.dn (pa2 (c4 (pv' 7) gL hr.dn bw) (pv' 20))))))).pt (@ag _ _ _ (aC fA)) (aJ)) zh5) fun zt4 zh4 ze4=>?_
  refine @seg _ _ _ 3 _ (@ae _ _ _ _ _ (JM ["_law_k","_law_deeds"] [none,some 11] (iy:=20) cT.nd rfl rfl (cK (by rfl) T.dW (pa1 ah)) (fun _ _ _ _=>(aW (i:=0) (show (["_law_k","_law_deeds"]:List Str).Nodup by decide +kernel) rfl orL)) (fun _ _ _ _=>iQ) (fun _ _ _ _=>(aO (pa3 (pv' 0) (bx cE (pv' 0) ah) (aN (show IxR _ (wD K) from aE) (pv' 1) (pv' 0)))))) zh4) fun zt3 zh3 ze3=>?_
  refine @seg _ _ _ 2 _ (@ae _ _ _ _ _ (dZ A5 rfl (dO (pv' 17)) (fJ rfl (a7 (aW (i:=18) cT.nd rfl orL) (a7 (aW (i:=19) cT.nd rfl orL) dN))) (@ag _ _ _ (bu (jQ (IY hr.units0) (dc0 fS hr.dn (pa2 (pv' 7) (pv' 19))) (bh (pa1 (pv' 18))) (cG _)) (@ag _ _ _ (aC fA)) (aJ)))) zh3) fun zt2 zh2 ze2=>?_
  refine @seg _ _ _ 1 _ (@ae _ _ _ _ _ (@aI _ _ 17 _ _ _ _ cT.nd rfl orL (bx eD (dc0 uf hr.dn (pa3 (aN bC (aN aE (pv' 2) (pv' 9)) ah) (pv' 8) (pv' 9))) (dc0 fu hr.dn (pa4 (pv' 1) (pv' 8) (pv' 9) (pv' 10)))) (by rfl) hfA) zh2) fun zt1 zh1 ze1=>?_
  refine ⟨_,@ae _ _ _ _ _ (@aI _ _ 16 _ _ _ _ cT.nd rfl orL (dc0 kD hr.dn (pa1 (pv' 7))) (by rfl) hfA) zh1,?_⟩
  intro dl cl ll w bk rl gt dd el as0 ds ls slow fast l wy H1 H2 s1 hB w7 l0 l1 d2 X gs t13 t14 t15 hSt hok htog h300 hsn hgl hg0
  have l2:=hB.sh.l2
  have l6:=hB.sh.l6
  have hg:=hB.cfg
  have hn:=hB.snap
  have hone:zB (X++aT wy l (ba ls l).1):=fun d hd=>by
   rcases List.mem_append.mp hd with h | h
   ·exact Ep htog d h
   ·exact B3 wy l (ba ls l).1 d h
  have hrun:=xO (g26 ds ls slow fast gt dd) (bO ds ls (ds.map fun _=>false)) (X++aT wy l (ba ls l).1) [] .nil hok
  have hlast:aj (bO ds ls (ds.map fun _=>false)) (dA (g26 ds ls slow fast gt dd) (bO ds ls (ds.map fun _=>false)) [] (X++aT wy l (ba ls l).1))=S26 ds ls gs wy l (ba ls l).1:=(pw _ _ _ _).trans hsn
  have hlen:(dA (g26 ds ls slow fast gt dd) (bO ds ls (ds.map fun _=>false)) [] (X++aT wy l (ba ls l).1)).length=300:=(mX _ _ _ _).trans (by show 0+_=_;rw [h300])
  have hsnap:=hrun.snap hg hn
  have hnow:eG (dA (g26 ds ls slow fast gt dd) (bO ds ls (ds.map fun _=>false)) [] (X++aT wy l (ba ls l).1))=300:=by
   rw [uv _ _ _ _ hone,h300];rfl
  k_mem
  refine ⟨w,bk,rl,_,_,_,rfl,hSt.wk,hg,hsnap,by omega,fun st xs H3 s3 hst hxs hrep=>?_⟩
  have h3:=hSt.same s3
  k_mem
  obtain ⟨ca,hca,hcd⟩:=B26.code (cl:=cl) hB.hT h3.sa l0 (by have:=hB.len;omega)
  have asl:=hB.hT.1
  k_upd
  refine ⟨_,SqL.of (h3.sa _ _ hB.hcl),_,hca,?_⟩
  k_upd
  refine ⟨_,hcd,_,rfl,?_⟩
  k_upd
  refine ⟨_,l,wy,rfl,w7,fun p1 as1 H4 s4 e4 hL1=>?_⟩
  have h4:=h3.same s4
  k_upd
  refine ⟨dl,gt,ds,gs,l,wy,rfl,h4.sa _ _ hB.hdl,h4.hg,hB.sh,hgl,w7,fun p2 as2 H5 s5 e5 hL2=>?_⟩
  have len1:as1.length=11:=hL1.1
  have len2:as2.length=2 * ds.length+1:=by rw [hL2.1,pz,List.length_append,uZ];rfl
  k_upd
  refine ⟨_,s5 _ _ e4,_,e5,by rw [WB,WB,sizeLine_eq];omega,fun p3 hp3=>?_⟩
  (generalize hE:upd H5 p3 _=H6 at *;have s6:=bM hE hp3;have e6:=aZ hE;clear hE)
  have hL:dE K H6 (as1++as2) (uX wy l (ba ls l).1++pz ds gs wy l):=dh.app (eW hL1 (s5.trans s6)) (eW hL2 s6)
  have hdue:∀x∈uX wy l (ba ls l).1++pz ds gs wy l,B4 (g26 ds ls slow fast gt dd) (S26 ds ls gs wy l (ba ls l).1) x:=fun x hx=>by
   rcases List.mem_append.mp hx with h | h
   ·exact Hf hB.sh hB.len hgl hg0 l0 l1 hB.gd rfl w7 x h
   ·exact Ff hB.sh hgl l0 l1 rfl x h
  rw [←List.map_append] at e6
  have s36:=(s4.trans s5).trans s6
  have h6:=h3.same s36
  have hst6:=s36 _ _ hst
  have hrep6:=hrep.same s36
  generalize uX wy l (ba ls l).1++pz ds gs wy l=L at *
  generalize as1++as2=as3 at *
  clear hL1 hL2 s36 e4 e5 len1 len2 hcd hca hrep hst h3 h4
  k_mem
  refine ⟨⟨_,SqL.of e6⟩,?_⟩
  k_upd
  refine jO (as3.map V.ref) (fun i σ H'=>av H6 H'/\∃t18 t19,σ=[some (.ref a),some (.ref dl),some (.ref cl),some (.int slow),some (.int fast),some (.int (ds.length:Nat)),some (.ref ll),some (.ref w),some (.int wy),some (.int l),some (.ref gt),some (.ref d2),some (.ref el),t13,t14,t15,some (.ref st),some (.ref p3),t18,t19,none]) ⟨av.refl _,_,_,rfl⟩ (fun i σ H' _ h=>SqL.of (h.1 _ _ e6)) ?_ ?_
  ·rintro i x σ H7 hx ⟨s7,t18,t19,rfl⟩
   rw [List.getElem?_map] at hx
   obtain ⟨aa,haa,rfl⟩:=Option.map_eq_some_iff.mp hx
   obtain ⟨y,hy⟩:∃y,L[i]?=some y:=⟨_,List.getElem?_eq_getElem (by rw [←hL.1];exact (List.getElem?_eq_some_iff.mp haa).1)⟩
   obtain ⟨b,hb1,hb2⟩:=hL.2 i aa y haa hy
   obtain ⟨ok,hi13,hd⟩:=hdue y (List.mem_of_getElem? hy)
   have h7:=h6.same s7
   k_mem
   refine ⟨_,SqT.of (s7 _ _ hb1),rfl,?_⟩
   show gN K Z [.ref w,.ref b] H7 _ E0
   k_upd
   refine ⟨w,bk,rl,b,_,_,_,y.2,y.1,rfl,h7.wk,hg,hsnap,hlen,s7.tup hb2,ok,hi13,by rw [hlast];exact hd,fun p H8 s8 e8=>?_⟩
   k_upd
   refine ⟨by decide,fun p9 hp9=>?_⟩
   k_upd
   refine ⟨_,SqL.of (upo e8 hp9),_,SqL.of af,rfl,rfl,?_⟩
   rw [xQ,if_neg (by decide)]
   k_upd
   exact ⟨(s7.trans s8).lay hp9,_,_,rfl⟩
  ·rintro σ H7 ⟨s7,t18,t19,rfl⟩
   have h7:=h6.same s7
   have hst7:=s7 _ _ hst6
   have hrep7:=hrep6.same s7
   clear hst6 hrep6 hL hdue h6 e6 s7
   k_mem
   refine ⟨by decide,by decide,?_⟩
   refine zS (n:=300) (fun i acc H'=>av H7 H'/\∃bs:List Addr,acc=bs.map V.ref/\eH K H' bs (dA (g26 ds ls slow fast gt dd) (bO ds ls (ds.map fun _=>false)) [] ((X++aT wy l (ba ls l).1).take i))) ⟨av.refl _,[],rfl,by rw [List.take_zero];exact eH.nil⟩ rfl ?_ ?_
   ·rintro i acc H8 hi ⟨s8,bs,rfl,hT⟩
    have hlen8:=mX (g26 ds ls slow fast gt dd) (bO ds ls (ds.map fun _=>false)) ((X++aT wy l (ba ls l).1).take i) []
    rw [List.length_take] at hlen8
    have hlen9:(dA (g26 ds ls slow fast gt dd) (bO ds ls (ds.map fun _=>false)) [] ((X++aT wy l (ba ls l).1).take i)).length=i:=by rw [hlen8];show 0+_=_;omega
    have hx:(X++aT wy l (ba ls l).1)[i]?=some (X++aT wy l (ba ls l).1)[i]:=List.getElem?_eq_getElem (by omega)
    have hnow8:eG (dA (g26 ds ls slow fast gt dd) (bO ds ls (ds.map fun _=>false)) [] ((X++aT wy l (ba ls l).1).take i))=(i:Int):=by
     rw [uv _ _ _ _ fun x hx=>hone x (List.mem_of_mem_take hx),List.length_take]
     show (0:Int)+_=_
     omega
    have htk:∀n,kK (g26 ds ls slow fast gt dd) n (X++aT wy l (ba ls l).1)[i]=1:=fun n=>hone _ (List.getElem_mem _) _ n
    obtain ⟨as,hd2,hD⟩:=(h7.same s8).hd
    obtain ⟨ad,had,hdd⟩:=hD.get hx
    k_upd
    refine ⟨dQ (by rw [WB,hT.1,hlen9];omega),fun N q'=>?_⟩
    k_mem
    refine ⟨_,SqL.of hd2,_,by rw [Int.zero_add];exact eZ (by rw [List.getElem?_map,had];rfl),by decide,fun p9 hp9=>?_⟩
    refine q' _ _ ⟨s8.lay hp9,bs++[p9],by rw [List.map_append];rfl,?_⟩
    rw [zd hx]
    refine (hT.same ((av.refl H8).lay hp9)).push ⟨ad,SqT.of ?_,((av.refl H8).lay hp9).tup hdd⟩
    rw [af]
    simp only [iS,hnow8,htk,Int.zero_add]
   rintro acc H8 ⟨s8,bs,rfl,hT⟩ bp hbp
   (generalize hE:upd H8 bp _=H9 at *;have s9:=bM hE hbp;have e9:=aZ hE;clear hE)
   have hT9:eH K H9 bs (dA (g26 ds ls slow fast gt dd) (bO ds ls (ds.map fun _=>false)) [] (X++aT wy l (ba ls l).1)):=by rw [List.take_of_length_le (by omega)] at hT;exact hT.same s9
   have s79:=s8.trans s9
   have h9:=h7.same s79
   have hst9:=s79 _ _ hst7
   have hrep9:=hrep7.same s79
   clear hT h7 hst7 hrep7
   k_mem
   refine ⟨w,bk,rl,_,_,_,rfl,h9.wk,hg,hsnap,by omega,fun st2 xs2 HA sA hstA hxsA hrepA=>?_⟩
   k_upd
   refine ⟨_,_,_,rfl,pB.rep hrepA (SqL.of hstA) (by omega),pB.rep (hrep9.same sA) (SqL.of (sA _ _ hst9)) (by omega),fun HB sB=>?_⟩
   have hB2:=h9.same (sA.trans sB)
   have eB:=(sA.trans sB) _ _ e9
   have hTB:=hT9.same (sA.trans sB)
   clear h9 e9 hT9 hst9 hrep9 hstA hrepA
   k_mem
   obtain ⟨dxb,dlb,glb,hobb,_⟩:=id hB2.wk.ob
   k_upd
   refine mgo hobb rfl ⟨w,bk,rl,_,_,_,rfl,hB2.wk,by omega,fun bq asq HC hbq sC eq hTq=>?_⟩
   k_upd
   refine ⟨_,_,_,rfl,Bg (SqL.of eq) hTq hrun.deeds (by omega),Bg (SqL.of (sC _ _ eB)) (hTB.same sC) hrun.deeds (by omega),fun HD sD=>?_⟩
   have hD:=hB2.same (sC.trans sD)
   clear hTq hTB eB eq hB2
   k_mem
   obtain ⟨d,hE⟩:∃d,(X++aT wy l (ba ls l).1)=(X++aT wy l (ba ls l).1).dropLast++[d]:=⟨_,(List.dropLast_concat_getLast (show (X++aT wy l (ba ls l).1)≠[] from fun z=>by rw [z] at h300;cases h300)).symm⟩
   have hdl:(X++aT wy l (ba ls l).1).dropLast.length=299:=by rw [List.length_dropLast,h300]
   obtain ⟨pf,pg,p0⟩:=MJ (ls:=ls) (slow:=slow) (fast:=fast) (gt:=gt) (dd:=dd) (X:=X) (wy:=wy) (l:=l) (c:=(ba ls l).1) (gs0:=ds.map fun _=>false) l2 (by rw [WB]) (by rw [List.getD_eq_getElem?_getD,List.getElem?_map];cases ds[0]?<;>rfl) htog w7
   have hone':zB (X++aT wy l (ba ls l).1).dropLast:=fun x hx=>hone x (List.dropLast_subset _ hx)
   have hnow':eG (dA (g26 ds ls slow fast gt dd) (bO ds ls (ds.map fun _=>false)) [] (X++aT wy l (ba ls l).1).dropLast)=299:=by rw [uv _ _ _ _ hone',hdl];rfl
   have hlen':(dA (g26 ds ls slow fast gt dd) (bO ds ls (ds.map fun _=>false)) [] (X++aT wy l (ba ls l).1).dropLast).length=299:=(mX _ _ _ _).trans (by show 0+_=_;rw [hdl])
   have hlast':aj (bO ds ls (ds.map fun _=>false)) (dA (g26 ds ls slow fast gt dd) (bO ds ls (ds.map fun _=>false)) [] (X++aT wy l (ba ls l).1).dropLast)=snD (g26 ds ls slow fast gt dd) (bO ds ls (ds.map fun _=>false)) (X++aT wy l (ba ls l).1).dropLast:=pw _ _ _ _
   have hrs:dA (g26 ds ls slow fast gt dd) (bO ds ls (ds.map fun _=>false)) [] (X++aT wy l (ba ls l).1)=dA (g26 ds ls slow fast gt dd) (bO ds ls (ds.map fun _=>false)) [] (X++aT wy l (ba ls l).1).dropLast++[iS (g26 ds ls slow fast gt dd) (bO ds ls (ds.map fun _=>false)) (dA (g26 ds ls slow fast gt dd) (bO ds ls (ds.map fun _=>false)) [] (X++aT wy l (ba ls l).1).dropLast) d]:=by
    conv=>lhs;rw [hE]
    exact uL _ _ _ _ _
   have hrun':Run (g26 ds ls slow fast gt dd) (bO ds ls (ds.map fun _=>false)) (dA (g26 ds ls slow fast gt dd) (bO ds ls (ds.map fun _=>false)) [] (X++aT wy l (ba ls l).1).dropLast):=by rw [hrs] at hrun;exact hrun.inv.1
   have hsnap':=hrun'.snap hg hn
   rw [←hlast'] at pf pg p0
   obtain ⟨dxb,dlb,glb,hobb,_⟩:=id hD.wk.ob
   k_upd
   refine mgo hobb rfl ⟨w,bk,rl,_,_,_,rfl,hD.wk,fun z=>(by rw [z] at hlen;cases hlen),fun rs' r er p HF kF hWF hp=>?_⟩
   rw [hrs] at er
   obtain ⟨e1,e2⟩:=Bf er
   subst e1 e2
   have hF:=hD.keep hB.fr kF hWF
   obtain ⟨as,hd2,hDe⟩:=hF.hd
   rw [hE] at hDe
   obtain ⟨as',al,rfl,_,hal⟩:=hDe.last
   k_upd
   refine ⟨_,SqL.of hd2,_,Ic,?_⟩
   k_upd
   refine ⟨_,_,_,rfl,jP hp (Nat.le_trans (zU d) (by decide)) (wx d),jP hal (Nat.le_trans (zU d) (by decide)) (wx d),fun HG sG=>?_⟩
   have hG:=hF.same sG
   k_mem
   obtain ⟨dxb,dlb,glb,hobb,_⟩:=id hG.wk.ob
   k_upd
   refine mgo hobb rfl ⟨w,bk,rl,_,_,_,rfl,hG.wk,?_⟩
   rw [hnow']
   k_upd
   refine ⟨_,_,.flat (.int 299),rfl,.flat rfl,.flat rfl,fun HI sI=>?_⟩
   have hI:=hG.same sI
   clear hF hG hD kF
   k_mem
   obtain ⟨dxb,dlb,glb,hobb,_⟩:=id hI.wk.ob
   have lc:=hB.len
   have hk:=hsnap'.wl
   k_upd
   refine mgo hobb rfl ⟨w,bk,rl,_,_,_,l,rfl,hI.wk,by show ls.length<=1000;omega,hk.symm,fun z=>absurd ⟨l0,by show l < (ls.length:Nat);omega⟩ z,fun _ _ z=>(by rw [pf] at z;cases z),fun _ _ _=>⟨fun z=>by omega,fun _ HJ kJ hWJ=>?_⟩⟩
   have hJ:=hI.keep hB.fr kJ hWJ
   have hnowJ:eG (dA (g26 ds ls slow fast gt dd) (bO ds ls (ds.map fun _=>false)) [] (X++aT wy l (ba ls l).1).dropLast)+kK (g26 ds ls slow fast gt dd) (aj (bO ds ls (ds.map fun _=>false)) (dA (g26 ds ls slow fast gt dd) (bO ds ls (ds.map fun _=>false)) [] (X++aT wy l (ba ls l).1).dropLast)) (.fail l)=300:=by rw [hnow'];rfl
   rw [hnowJ]
   k_upd
   refine ⟨_,_,.flat (.int 300),rfl,.flat rfl,.flat rfl,fun HL sL=>?_⟩
   k_mem
   refine ⟨_,_,.flat (.int 300),rfl,.flat rfl,.flat rfl,fun HM sM=>?_⟩
   have hM:=hJ.same (sL.trans sM)
   clear hJ hI
   k_mem
   refine ⟨by decide,fun b1 hb1=>?_⟩
   (generalize hE:upd HM b1 _=HN at *;have sN:=bM hE hb1;have eN:=aZ hE;clear hE)
   k_upd
   refine ⟨by decide,fun b2 hb2=>?_⟩
   (generalize hE:upd HN b2 _=HO1 at *;have sO:=bM hE hb2;have eO:=aZ hE;clear hE)
   k_upd
   refine ⟨by decide,fun b3 hb3=>?_⟩
   (generalize hE:upd HO1 b3 _=HP at *;have sP:=bM hE hb3;have eP:=aZ hE;clear hE)
   k_upd
   refine ⟨by decide,fun b4 hb4=>?_⟩
   (generalize hE:upd HP b4 _=HR at *;have sR:=bM hE hb4;have eR:=aZ hE;clear hE)
   have hz:=hM.same (((sN.trans sO).trans sP).trans sR)
   k_upd
   refine ⟨_,.inr (SqT.of eR),rfl,rfl,?_⟩
   have hin:inV (V.int (wy:Int)) [V.int 4,V.int 5]=decide (wy=4\/wy=5):=by
    rw [show [V.int 4,V.int 5]=([4,5]:List Int).map V.int from rfl,zQ]
    simp only [List.mem_cons,List.not_mem_nil,or_false]
    by_cases h:wy=4\/wy=5
    ·rw [decide_eq_true h,decide_eq_true];omega
    ·rw [decide_eq_false h,decide_eq_false];omega
   rw [hin]
   generalize decide (wy=4\/wy=5)=bz at *
   k_upd
   refine ⟨_,SqL.of (sR _ _ eP),_,two26,?_⟩
   have hlastJ:aj (bO ds ls (ds.map fun _=>false)) (dA (g26 ds ls slow fast gt dd) (bO ds ls (ds.map fun _=>false)) [] (X++aT wy l (ba ls l).1).dropLast++[iS (g26 ds ls slow fast gt dd) (bO ds ls (ds.map fun _=>false)) (dA (g26 ds ls slow fast gt dd) (bO ds ls (ds.map fun _=>false)) [] (X++aT wy l (ba ls l).1).dropLast) (.fail l)])=bK (g26 ds ls slow fast gt dd) (aj (bO ds ls (ds.map fun _=>false)) (dA (g26 ds ls slow fast gt dd) (bO ds ls (ds.map fun _=>false)) [] (X++aT wy l (ba ls l).1).dropLast)) (.fail l):=fQ ..
   have hrunJ:=hrun'.snoc (d:=.fail l) trivial (mW l0 l1 pf)
   have hz0:(0:Int) < (ds.length:Nat):=by omega
   k_upd
   refine ⟨w,bk,rl,if bz=true then b2 else b1,_,_,_,if bz=true then .sht 0 else .opn 0,0,rfl,hz.wk,hg,hrunJ.snap hg hn,by rw [List.length_append,hlen'];rfl,?_,?_,by decide,.inr ⟨?_,rfl⟩,fun p HS sS eS=>?_⟩
   ·cases bz
    ·exact SqT.of (((sO.trans sP).trans sR) _ _ eN)
    ·exact SqT.of ((sP.trans sR) _ _ eO)
   ·cases bz<;>trivial
   ·rw [hlastJ]
    cases bz
    ·exact kM (by decide) hz0 p0
    ·exact kO (by decide) hz0 p0
   k_upd
   refine ⟨by decide,fun p9 hp9=>?_⟩
   k_upd
   refine ⟨_,SqL.of (upo eS hp9),_,SqL.of af,rfl,rfl,?_⟩
   rw [show bT.getD 0 ""="BookFull" from rfl]
   have:=xQ "BookFull"
   rw [this]
   k_upd
   exact q _
 obtain ⟨t2,h2,k2⟩:∃t,PSs (cxF P w K mg base ["_law_script","_law_depths_here","_law_codes_here","_law_slow","_law_fast","_law_many","_law_loads","_law_works","_law_way","_law_level","_law_gates","_law_deeds","_law_ends","_law_k","_law_at_here","_law_told","_law_state_here","_law_late_here","_law_word","_law_deed","_law_book"] "law" (ai jU) zf zv zA zo zs H E) ((cv jU).drop 12) t/\∀(dl cl ll w bk rl gt dd el:Addr) (as0:List Addr) (ds:List Int) (ls:List Cd) (slow fast l:Int) (wy:Nat) (H1 H2:Hp),av H H1->B26 K H1 dl cl rl gt dd as0 ds ls slow fast->wy < 7->0<=l->l < ds.length->∀(d2:Addr) (X:List Dd) (gs:List Bool) (t13 t14:Option V),xP (clZ Z) K H1 H2 w bk rl gt d2 (g26 ds ls slow fast gt dd) (bO ds ls (ds.map fun _=>false)) [] gs (X++aT wy l (ba ls l).1)->okS (g26 ds ls slow fast gt dd) (bO ds ls (ds.map fun _=>false)) (X++aT wy l (ba ls l).1)->xN X->(X++aT wy l (ba ls l).1).length=300->snD (g26 ds ls slow fast gt dd) (bO ds ls (ds.map fun _=>false)) (X++aT wy l (ba ls l).1)=S26 ds ls gs wy l (ba ls l).1->gs.length=ds.length->gs.getD 0 false=decide (wy=3\/wy=4)->t ({nx:=fun _ H2=>Q .non H2,rt:=Q}:mK) [some (.ref a),some (.ref dl),some (.ref cl),some (.int slow),some (.int fast),some (.int (ds.length:Nat)),some (.ref ll),some (.ref w),some (.int wy),some (.int l),some (.ref gt),some (.ref d2),some (.ref el),t13,t14,none,none,none,none,none,none] H2:=by
  refine ⟨_,@ae _ _ _ _ _ (dZ A5 rfl (cK (by rfl) T.dW (pa1 ah)) (aW (i:=13) cT.nd rfl orL) (@ae _ _ _ _ _ (@aI _ _ 15 _ _ _ _ cT.nd rfl orL (dc kE hr.dn bU (pa2 (pv' 7) (aN aE (pv' 11) (pv' 13)))) (by rfl) hfA) (@ag _ _ _ (bu (zE (wF (aN bC (aN aE (pv' 11) (pv' 13)) ah) au) (vU (dj (cb (dc0 dC hr.dn (pa2 (pv' 15) (bx cE (pv' 13) ah))))))).pt (@ag _ _ _ (aC fA)) (aJ))))) h3,?_⟩
  intro dl cl ll w bk rl gt dd el as0 ds ls slow fast l wy H1 H2 s1 hB w7 l0 l1 d2 X gs t13 t14 hSt hok htog h300 hsn hgl hg0
  have l2:=hB.sh.l2
  have l6:=hB.sh.l6
  have hg:=hB.cfg
  have hn:=hB.snap
  have hone:zB (X++aT wy l (ba ls l).1):=fun d hd=>by
   rcases List.mem_append.mp hd with h | h
   ·exact Ep htog d h
   ·exact B3 wy l (ba ls l).1 d h
  k_mem
  refine ⟨by decide,by decide,?_⟩
  k_upd
  refine c6 (n:=300) (JV Z K H H1 a dl cl ll w bk rl gt dd d2 el ds ls slow fast l wy X gs) ⟨_,_,_,rfl,by rw [List.take_zero];exact hSt⟩ ?_ ?_
  ·rintro i σ H3 hi ⟨t13,t14,t15,rfl,h3⟩
   have hrun:=xO (g26 ds ls slow fast gt dd) (bO ds ls (ds.map fun _=>false)) ((X++aT wy l (ba ls l).1).take i) [] .nil (B5 _ _ _ i hok)
   have hx:(X++aT wy l (ba ls l).1)[i]?=some (X++aT wy l (ba ls l).1)[i]:=List.getElem?_eq_getElem (by omega)
   generalize hd:(X++aT wy l (ba ls l).1)[i]=d at hx
   obtain ⟨okd,hrf⟩:=GV _ _ _ _ _ hok hx
   have hlast:=pw (g26 ds ls slow fast gt dd) (bO ds ls (ds.map fun _=>false)) ((X++aT wy l (ba ls l).1).take i) []
   have hlen:=mX (g26 ds ls slow fast gt dd) (bO ds ls (ds.map fun _=>false)) ((X++aT wy l (ba ls l).1).take i) []
   rw [List.length_take] at hlen
   obtain ⟨as,hd2,hD⟩:=h3.hd
   obtain ⟨ad,had,hdd⟩:=hD.get hx
   have hrf':c8 (g26 ds ls slow fast gt dd) (aj (bO ds ls (ds.map fun _=>false)) (dA (g26 ds ls slow fast gt dd) (bO ds ls (ds.map fun _=>false)) [] ((X++aT wy l (ba ls l).1).take i))) d=none:=by rw [hlast];exact hrf
   have hnow:eG (dA (g26 ds ls slow fast gt dd) (bO ds ls (ds.map fun _=>false)) [] ((X++aT wy l (ba ls l).1).take i))=(i:Int):=by
    rw [uv _ _ _ _ fun x hx=>hone x (List.mem_of_mem_take hx),List.length_take]
    show (0:Int)+_=_
    omega
   have htk:∀n,kK (g26 ds ls slow fast gt dd) n d=1:=fun n=>hone d (by rw [←hd];exact List.getElem_mem _) _ n
   k_mem
   refine ⟨_,SqL.of hd2,_,by rw [Int.zero_add];exact eZ (by rw [List.getElem?_map,had];rfl),?_⟩
   k_upd
   refine ⟨w,bk,rl,ad,_,_,_,d,rfl,h3.wk,hg,hrun.snap hg hn,by rw [hlen];simp;omega,hdd,okd,fun r e=>(by rw [hrf'] at e;cases e),fun e h=>(by rw [hlen] at h;simp at h;omega),fun e h v H4 k4 hW4 hA=>?_⟩
   rw [←zd hx] at hW4
   have h4:=h3.keep hB.fr k4 hW4
   obtain ⟨as4,hd24,hD4⟩:=h4.hd
   obtain ⟨ad4,had4,hdd4⟩:=hD4.get hx
   k_upd
   refine ⟨_,SqL.of hd24,_,by rw [Int.zero_add];exact eZ (by rw [List.getElem?_map,had4];rfl),?_⟩
   rw [hnow,htk] at hA
   have fin:∀v:V,v=.int ((i:Int)+1)->zz K Z [v,.int (0+(i:Int)+1)] H4 (fun x H5=>onB x fun c=>if (!c)=true then Q (.bl false) H5 else JV Z K H H1 a dl cl ll w bk rl gt dd d2 el ds ls slow fast l wy X gs (i+1) [some (.ref a),some (.ref dl),some (.ref cl),some (.int slow),some (.int fast),some (.int (ds.length:Nat)),some (.ref ll),some (.ref w),some (.int wy),some (.int l),some (.ref gt),some (.ref d2),some (.ref el),some (.int (0+(i:Int))),t14,some v,none,none,none,none,none] H5) E0:=by
    rintro v rfl
    rw [show (0:Int)+(i:Int)+1=(i:Int)+1 by omega]
    k_upd
    refine ⟨_,_,.flat (.int ((i:Int)+1)),rfl,.flat rfl,.flat rfl,fun H5 s5=>?_⟩
    k_upd
    exact ⟨_,_,_,rfl,h4.same s5⟩
   cases d with
   | ring _ _=>exact ⟨_,hdd4,_,rfl,fin v hA⟩
   | rept _=>
    obtain ⟨p,_,_,rfl,_⟩:=hA
    k_upd
    exact ⟨_,hdd4,_,rfl,_,_,_,rfl,h4⟩
   | opn _=>exact ⟨_,hdd4,_,rfl,fin v hA⟩
   | sht _=>exact ⟨_,hdd4,_,rfl,fin v hA⟩
   | load _ _=>exact ⟨_,hdd4,_,rfl,fin v hA⟩
   | unload _=>exact ⟨_,hdd4,_,rfl,fin v hA⟩
   | wind _ _ _=>exact ⟨_,hdd4,_,rfl,fin v hA⟩
   | fail _=>exact ⟨_,hdd4,_,rfl,fin v hA⟩
  ·rintro σ H3 ⟨t13,t14,t15,rfl,h3⟩
   exact k3 dl cl ll w bk rl gt dd el as0 ds ls slow fast l wy H1 H3 s1 hB w7 l0 l1 d2 X gs t13 t14 t15 (by rw [List.take_of_length_le (by omega)] at h3;exact h3) hok htog h300 hsn hgl hg0
 obtain ⟨t1,h1,k1⟩:∃t,PSs (cxF P w K mg base ["_law_script","_law_depths_here","_law_codes_here","_law_slow","_law_fast","_law_many","_law_loads","_law_works","_law_way","_law_level","_law_gates","_law_deeds","_law_ends","_law_k","_law_at_here","_law_told","_law_state_here","_law_late_here","_law_word","_law_deed","_law_book"] "law" (ai jU) zf zv zA zo zs H E) ((cv jU).drop 9) t/\∀(dl cl ll w bk rl gt dd el:Addr) (as0:List Addr) (ds:List Int) (ls:List Cd) (slow fast l:Int) (wy:Nat) (H1 H2:Hp),av H H1->B26 K H1 dl cl rl gt dd as0 ds ls slow fast->wy < 7->0<=l->l < ds.length->gt≠dd->el≠gt->el≠dd->xP (clZ Z) K H1 H2 w bk rl gt dd (g26 ds ls slow fast gt dd) (bO ds ls (ds.map fun _=>false)) [] (ds.map fun _=>false) []->(∃es,H2 el=some (.lst (es.map V.ref))/\dI K H2 es (aT wy l (ba ls l).1))->t ({nx:=fun _ H2=>Q .non H2,rt:=Q}:mK) [some (.ref a),some (.ref dl),some (.ref cl),some (.int slow),some (.int fast),some (.int (ds.length:Nat)),some (.ref ll),some (.ref w),some (.int wy),some (.int l),some (.ref gt),some (.ref dd),some (.ref el),none,none,none,none,none,none,none,none] H2:=by
  refine @seg _ _ _ 2 _ (@ae _ _ _ _ _ (@aI _ _ 11 _ _ _ _ cT.nd rfl (Or.inr rfl) (bx eD (pv' 11) (pv' 12)) (by rfl) hfA) h2) fun zt2 zh2 ze2=>?_
  refine @seg _ _ _ 1 _ (@ae _ _ _ _ _ (rz (Lo (cZ gV (pv' 8) ah (cG _)) (zF (cZ gV (pv' 8) ah (cG _)))) (uw (pv' 10) ah gR)) zh2) fun zt1 zh1 ze1=>?_
  refine ⟨_,@ae _ _ _ _ _ (dZ A5 rfl (cK (by rfl) T.dW (pa1 (bx dU ah (aD aA (by rfl) T.cV ck (pa1 (pv' 12)))))) (aW (i:=13) cT.nd rfl orL) (@ae _ _ _ _ _ (@aI _ _ 14 _ _ _ _ cT.nd rfl orL (bx cE ah (dc0 cy hr.dn (pa3 (dc0 jB hr.dn (pa2 (pv' 0) ah)) (kR (pv' 13) ah) (bx dU (pv' 5) ah)))) (by rfl) hfA) (@ae _ _ _ _ _ (rz (Jc (aN aE (pv' 10) (pv' 14))) (uw (pv' 10) (pv' 14) gR)) (@ag _ _ _ (@bj _ _ _ _ (iP PySem.F.plainAttrs_list PySem.F.slot_list_append PySem.F.type_list_append cC (pv' 11) (pa1 (aO (pa2 (aN aE (bh (pa2 au au)) (bN c9 (by rfl) T.my fW (pa1 (aN aE (pv' 10) (pv' 14))))) (pv' 14))))) (by rfl)))))) zh1,?_⟩
  intro dl cl ll w bk rl gt dd el as0 ds ls slow fast l wy H1 H2 s1 hB w7 l0 l1 ngd neg ned hSt ⟨es,hel,hE⟩
  have l2:=hB.sh.l2
  have l6:=hB.sh.l6
  have edl:=LA wy l (ba ls l).1
  have esl:es.length<=3:=by rw [hE.1];exact edl
  k_mem
  refine ⟨_,.inl (SqL.of hel),by rw [WB];omega,by rw [WB];omega,?_⟩
  rw [WB]
  k_upd
  refine c6 (ML Z K H H1 a dl cl ll w bk rl gt dd el ds ls slow fast l wy) ⟨[],_,_,_,rfl,hSt,trivial,fun d hd=>(by cases hd),rfl,rfl,by rw [WB],es,hel,hE⟩ ?_ ?_
  ·rintro i σ H3 hi ⟨X,gs,t13,t14,rfl,h3,hok,htog,hX,hgs,hgl,es3,hel3,hE3⟩
   k_mem
   refine ⟨a,ns,7,rfl,(s1.trans h3.sa).seq hS,by decide,?_⟩
   k_upd
   refine ⟨_,_,_,rfl,by omega,by omega,by omega,fun r r0 r1=>?_⟩
   k_mem
   obtain ⟨as,hdd,hD⟩:=h3.hd
   have hng:g26 ds ls slow fast gt dd |>.N gt:=.inl (.inr rfl)
   have hnd:g26 ds ls slow fast gt dd |>.N dd:=.inr rfl
   k_upd
   refine ⟨_,SqL.of h3.hg,_,i9 (by omega) (by omega),?_⟩
   generalize hb:gs.getD (1+r).toNat false=b
   k_upd
   refine ⟨_,h3.hg,_,uE (by omega) (by rw [WB];omega),?_⟩
   rw [show (gs.map V.bl).set (1+r).toNat (V.bl !b)=(gs.set (1+r).toNat (!b)).map V.bl from List.map_set.symm]
   have k4:L2.ax gt H3 (upd H3 gt (HO.lst ((gs.set (1+r).toNat (!b)).map V.bl))):=(ax.of (av.refl H3)).put
   have hg4:upd H3 gt (HO.lst ((gs.set (1+r).toNat (!b)).map V.bl)) gt=some (HO.lst ((gs.set (1+r).toNat (!b)).map V.bl)):=af
   generalize upd H3 gt (HO.lst ((gs.set (1+r).toNat (!b)).map V.bl))=H4 at *
   have hdd4:=k4 _ _ ngd.symm hdd
   have hel4:=k4 _ _ neg hel3
   have hE4:dI K H4 es3 (aT wy l (ba ls l).1):=hE3.imp fun a x q=>q.keep k4 h3.hg
   have hD4:dI K H4 as X:=hD.imp fun a x q=>q.keep k4 h3.hg
   have hW4:=h3.wk.own hng k4 hg4
   have sa4:=h3.sa.keeps k4 hB.fg
   have bl:as.length<=300:=by rw [hD.1];omega
   k_upd
   refine ⟨.inl ⟨rfl,_,SqL.of hdd4⟩,by decide,fun p1 hp1=>?_⟩
   (generalize hE:upd H4 p1 _=H5 at *;have s5:=bM hE hp1;have e5:=aZ hE;clear hE)
   k_upd
   refine ⟨_,SqL.of (s5 _ _ hg4),_,i9 (by omega) (by rw [List.length_set];omega),?_⟩
   rw [show (gs.set (1+r).toNat (!b)).getD (1+r).toNat false=!b by rw [gQ,if_pos ⟨rfl,by omega⟩]]
   k_upd
   refine ⟨_,SqL.of e5,_,Lz,by decide,fun p2 hp2=>?_⟩
   (generalize hE:upd H5 p2 _=H6 at *;have s6:=bM hE hp2;have e6:=aZ hE;clear hE)
   have hdd6:=(s5.trans s6) _ _ hdd4
   k_upd
   refine ⟨_,hdd6,dQ (by rw [WB];omega),?_⟩
   have k7:L2.ax dd H6 (upd H6 dd (HO.lst (as.map V.ref++[V.ref p2]))):=(ax.of (av.refl H6)).put
   have hdd7:upd H6 dd (HO.lst (as.map V.ref++[V.ref p2])) dd=some (HO.lst ((as++[p2]).map V.ref)):=by rw [af,List.map_append];rfl
   generalize upd H6 dd (HO.lst (as.map V.ref++[V.ref p2]))=H7 at *
   have s46:=s5.trans s6
   have hd:SqT K H6 p2 (ddV (if b=true then .sht (1+r) else .opn (1+r))):=by
    refine SqT.of ?_
    rw [e6]
    cases b<;>rfl
   have hnx:∀n:a8,n.gates=gs->c8 (g26 ds ls slow fast gt dd) n (if b=true then .sht (1+r) else .opn (1+r))=none/\(bK (g26 ds ls slow fast gt dd) n (if b=true then .sht (1+r) else .opn (1+r))).gates=gs.set (1+r).toNat (!b):=fun n e=>by
    have r2:(1+r) < (ds.length:Nat):=by omega
    cases b with
    | true=>exact ⟨kO (by omega) r2 (by rw [e];exact hb),by show n.gates.set _ _=_;rw [e];rfl⟩
    | false=>exact ⟨kM (by omega) r2 (by rw [e];exact hb),by show n.gates.set _ _=_;rw [e];rfl⟩
   obtain ⟨hr1,hr2⟩:=hnx _ hgs.symm
   k_upd
   refine ⟨X++[if b=true then .sht (1+r) else .opn (1+r)],gs.set (1+r).toNat (!b),_,_,rfl,⟨(sa4.trans s46).keeps k7 hB.fd,(hW4.same s46).own hnd k7 hdd7,k7 _ _ ngd (s46 _ _ hg4),⟨_,hdd7,dh.push ((hD4.same s46).imp fun a x q=>q.keep k7 hdd6) (hd.keep k7 hdd6)⟩,h3.ng,h3.nd⟩,Ab _ _ _ _ hok ⟨⟨by cases b<;>trivial,hr1⟩,trivial⟩,?_,by rw [List.length_append,hX];rfl,?_,by rw [List.length_set];exact hgl,es3,k7 _ _ ned (s46 _ _ hel4),(hE4.same s46).imp fun a x q=>q.keep k7 hdd6⟩
   ·intro d hd
    rcases List.mem_append.mp hd with hd | hd
    ·exact htog d hd
    ·rw [List.mem_singleton.mp hd]
     k_upd
     refine ⟨1+r,by omega,?_⟩
     cases b
     ·exact .inl rfl
     ·exact .inr rfl
   ·rw [px]
    exact hr2.symm
  ·rintro σ H3 ⟨X,gs,t13,t14,rfl,h3,hok,htog,hX,hgs,hgl,es3,hel3,hE3⟩
   have hng:g26 ds ls slow fast gt dd |>.N gt:=.inl (.inr rfl)
   have h0g:gs.getD 0 false=false:=by
    rw [hgs,(AK _ X _ htog).2.2]
    show (ds.map fun _=>false).getD 0 false=false
    rw [List.getD_eq_getElem?_getD,List.getElem?_map];cases ds[0]?<;>rfl
   have fin:∀v:Bool,v=decide (wy=3\/wy=4)->∃xs,H3 gt=some (HO.lst xs)/\∃j,ixN xs.length 0=some j/\zt2 {nx:=fun x H2=>Q V.non H2,rt:=Q} [some (V.ref a),some (V.ref dl),some (V.ref cl),some (V.int slow),some (V.int fast),some (V.int ↑ds.length),some (V.ref ll),some (V.ref w),some (V.int ↑wy),some (V.int l),some (V.ref gt),some (V.ref dd),some (V.ref el),t13,t14,none,none,none,none,none,none] (upd H3 gt (HO.lst (xs.set j (V.bl v)))):=by
    intro v hv
    k_upd
    refine ⟨_,h3.hg,_,uE (by decide) (by rw [WB];omega),?_⟩
    rw [show (gs.map V.bl).set (0:Int).toNat (V.bl v)=(gs.set 0 v).map V.bl from List.map_set.symm]
    have k4:L2.ax gt H3 (upd H3 gt (HO.lst ((gs.set 0 v).map V.bl))):=(ax.of (av.refl H3)).put
    have hg4:upd H3 gt (HO.lst ((gs.set 0 v).map V.bl)) gt=some (HO.lst ((gs.set 0 v).map V.bl)):=af
    generalize upd H3 gt (HO.lst ((gs.set 0 v).map V.bl))=H4 at *
    obtain ⟨as,hdd,hD⟩:=h3.hd
    have hdd4:=k4 _ _ ngd.symm hdd
    have hel4:=k4 _ _ neg hel3
    have hE4:dI K H4 es3 (aT wy l (ba ls l).1):=hE3.imp fun a x q=>q.keep k4 h3.hg
    have hD4:dI K H4 as X:=hD.imp fun a x q=>q.keep k4 h3.hg
    have hW4:=h3.wk.own hng k4 hg4
    have sa4:=h3.sa.keeps k4 hB.fg
    k_mem
    refine ⟨_,hdd4,_,hel4,by rw [WB,WB,hD.1,hE3.1,sizeLine_eq];omega,fun d2 hd2=>?_⟩
    have nd2:d2≠rl:=by obtain ⟨ar,hr⟩:=hW4.rows;exact (ak hr hd2).symm
    (generalize hE:upd H4 d2 _=H5 at *;have s5:=bM hE hd2;have e5:=aZ hE;clear hE)
    obtain ⟨eo1,eo2⟩:=Jo (slow:=slow) (fast:=fast) (gt:=gt) (dd:=dd) (wy:=wy) hB.sh hB.len hgl h0g l0 l1 hB.gd rfl w7
    have hst:snD (g26 ds ls slow fast gt dd) (bO ds ls (ds.map fun _=>false)) X=bO ds ls gs:=by rw [hgs];exact (AK _ X _ htog).1
    refine k2 dl cl ll w bk rl gt dd el as0 ds ls slow fast l wy H1 H5 s1 hB w7 l0 l1 d2 X (gs.set 0 v) t13 t14 ⟨sa4.trans s5,hW4.same s5,s5 _ _ hg4,⟨as++es3,by rw [e5,List.map_append],(dh.app hD4 hE4).imp fun a x q=>s5.tup q⟩,h3.ng,nd2⟩ (Ab _ _ _ _ hok (by rw [hst];exact eo1)) htog ?_ ?_ (by rw [List.length_set];exact hgl) (by rw [gQ,if_pos ⟨rfl,by omega⟩];exact hv)
    ·have:=hE.1;rw [List.length_append,hX];omega
    ·rw [px,hst,eo2,hv]
   k_mem
   by_cases h3w:wy=3
   ·rw [if_pos (by omega)]
    exact fin _ (decide_eq_true (.inl h3w)).symm
   ·rw [if_neg (by omega)]
    refine fin _ ?_
    by_cases h4w:wy=4
    ·rw [decide_eq_true (by omega),decide_eq_true (.inr h4w)]
    ·rw [decide_eq_false (by omega),decide_eq_false (by omega)]
 refine @seg _ _ _ 8 _ (@ae _ _ _ _ _ (@aI _ _ 12 _ _ _ _ cT.nd rfl orL (dc0 wa hr.dn (pa3 (aN bC (aN aE (pv' 2) (pv' 9)) ah) (pv' 8) (pv' 9))) (by rfl) hfA) h1) fun zt8 zh8 ze8=>?_
 refine @seg _ _ _ 7 _ (@ae _ _ _ _ _ (@aI _ _ 11 _ _ _ _ cT.nd rfl (Or.inr rfl) (bh i7) (by rfl) hfA) zh8) fun zt7 zh7 ze7=>?_
 refine @seg _ _ _ 6 _ (@ae _ _ _ _ _ (@aI _ _ 10 _ _ _ _ cT.nd rfl orL (bx IW (bh (pa1 fA)) (pv' 5)) (by rfl) hfA) zh7) fun zt6 zh6 ze6=>?_
 refine @seg _ _ _ 5 _ (@ae _ _ _ _ _ (@aI _ _ 9 _ _ _ _ cT.nd rfl orL (bx Ac (dc0 jB hr.dn (pa2 (pv' 0) ah)) (pv' 5)) (by rfl) hfA) zh6) fun zt5 zh5 ze5=>?_
 refine @seg _ _ _ 4 _ (@ae _ _ _ _ _ (@aI _ _ 8 _ _ _ _ cT.nd rfl orL (kR (dc0 jB hr.dn (pa2 (pv' 0) ah)) ah) (by rfl) hfA) zh5) fun zt4 zh4 ze4=>?_
 refine @seg _ _ _ 3 _ (@ae _ _ _ _ _ (@aI _ _ 7 _ _ _ _ cT.nd rfl orL (dn gM hr.dn T.Jh bU (bZ (bN cq (by rfl) T.fD dR (pa1 (pv' 1))) (pa4 (bN cq (by rfl) T.fD dR (pa1 (pv' 2))) (pv' 3) (pv' 4) (pv' 6)))) (by rfl) hfA) zh4) fun zt3 zh3 ze3=>?_
 refine @seg _ _ _ 2 _ (@ae _ _ _ _ _ (@aI _ _ 6 _ _ _ _ cT.nd rfl orL (bh (pa3 (aO (pa3 au ah ah)) (aO (pa3 au (bx dU (pv' 5) ah) ah)) (aO (pa3 au ah ah)))) (by rfl) hfA) zh3) fun zt2 zh2 ze2=>?_
 refine @seg _ _ _ 1 _ (@ae _ _ _ _ _ (@aI _ _ 5 _ _ _ _ cT.nd rfl orL (aD aA (by rfl) T.cV ck (pa1 (pv' 1))) (by rfl) hfA) zh2) fun zt1 zh1 ze1=>?_
 refine ⟨_,@ae _ _ _ _ _ (rz (dc0 pA hr.dn (pa1 (pv' 0))) (I9 rfl (a7 (aW (i:=1) cT.nd rfl orL) (a7 (aW (i:=2) cT.nd rfl orL) (a7 (aW (i:=3) cT.nd rfl orL) (a7 (aW (i:=4) cT.nd rfl orL) dN)))))) zh1,?_⟩
 k_mem
 refine ⟨a,ns,rfl,hS,fun p dl cl ds as0 ls slow fast H1 s1 hpn hdn hcn ndc hp hdl hsh hcl hT hlen hg hsp=>?_⟩
 have l2:=hsh.l2
 have l6:=hsh.l6
 k_mem
 refine ⟨_,SqL.of hp,rfl,?_⟩
 k_mem
 refine ⟨_,.inl (SqL.of hdl),?_⟩
 rw [WB]
 k_mem
 refine ⟨by decide,fun q1 hq1=>?_⟩
 (generalize hE:upd H1 q1 _=J1 at *;have j1:=bM hE hq1;have v1:=aZ hE;clear hE)
 k_upd
 refine ⟨by decide,fun q2 hq2=>?_⟩
 (generalize hE:upd J1 q2 _=J2 at *;have j2:=bM hE hq2;have v2:=aZ hE;clear hE)
 k_upd
 refine ⟨by decide,fun q3 hq3=>?_⟩
 (generalize hE:upd J2 q3 _=J3 at *;have j3:=bM hE hq3;have v3:=aZ hE;clear hE)
 k_upd
 refine ⟨by decide,fun ll hll=>?_⟩
 (generalize hE:upd J3 ll _=J4 at *;have j4:=bM hE hll;have v4:=aZ hE;clear hE)
 have s14:=((j1.trans j2).trans j3).trans j4
 have hLL:dS K J4 ll (B2 (ds.length:Nat)):=by
  refine ⟨[q1,q2,q3],SqL.of v4,rfl,fun i a x e1 e2=>?_⟩
  rcases i with _ | _ | _ | i
  ·cases e1;cases e2;exact SqT.of (((j2.trans j3).trans j4) _ _ v1)
  ·cases e1;cases e2;exact SqT.of ((j3.trans j4) _ _ v2)
  ·cases e1;cases e2;exact SqT.of (j4 _ _ v3)
  ·cases e1
 k_mem
 refine ⟨_,.inl (SqL.of (s14 _ _ hdl)),fun h0 hh0=>?_⟩
 (generalize hE:upd J4 h0 _=J5 at *;have j5:=bM hE hh0;have v5:=aZ hE;clear hE)
 k_upd
 refine ⟨_,.inl (SqL.of ((s14.trans j5) _ _ hcl)),fun h1 hh1=>?_⟩
 (generalize hE:upd J5 h1 _=J6 at *;have j6:=bM hE hh1;have v6:=aZ hE;clear hE)
 have s16:=(s14.trans j5).trans j6
 refine fun w dx hx hdx nxd=>?_
 have hx':upd J6 dx (.own w) w=none:=by rw [aB (Ne.symm nxd)];exact hx
 have sx:=((av.refl J6).lay (o:=HO.own w) hdx).lay (o:=HO.ins Z.bB dx []) hx'
 k_upd
 refine ⟨w,dx,h0,h1,ll,ds,ls,B2 (ds.length:Nat),slow,fast,fun _=>False,rfl,af,sx.seq (SqL.of (j6 _ _ v5)),⟨as0,sx.seq (SqL.of v6),(hT.same s16).same sx⟩,dS.same ((j5.trans j6).trans sx) hLL,by omega,by omega,(show 3<=1000 by decide),fun p hp=>hp.elim,fun h=>absurd hsh h,fun _ h=>absurd ⟨by omega,hg⟩ h,fun _ _ h=>absurd hsp h,fun _ _ _ h=>absurd ⟨(show 3<=30 by decide),MK l2⟩ h,fun _ _ _ _ bk rl J7 kx hrl hW=>⟨rfl,?_⟩⟩
 have j7:=fR hx hdx kx
 have frl:J6 rl=none:=fe hrl
 clear kx hrl sx
 have s17:=s16.trans j7
 k_upd
 refine ⟨a,ns,5,rfl,(s1.trans s17).seq hS,by decide,?_⟩
 have w0:=Int.emod_nonneg (ns.getD 5 0) (show (7:Int)≠0 by decide)
 have w7:=Int.emod_lt_of_pos (ns.getD 5 0) (show (0:Int) < 7 by decide)
 have l0:=Int.emod_nonneg (ns.getD 6 0) (show ((ds.length:Nat):Int)≠0 by omega)
 have l1:=Int.emod_lt_of_pos (ns.getD 6 0) (show (0:Int) < ((ds.length:Nat):Int) by omega)
 k_mem
 refine ⟨a,ns,6,rfl,(s1.trans s17).seq hS,by decide,?_⟩
 k_upd
 refine ⟨by omega,?_⟩
 obtain ⟨wy,hwy⟩:=Int.eq_ofNat_of_zero_le w0
 show zt6 _ [some (V.ref a),some (V.ref dl),some (V.ref cl),some (V.int slow),some (V.int fast),some (V.int ↑ds.length),some (V.ref ll),some (V.ref w),some (V.int (ns.getD 5 0 % 7)),some (V.int (ns.getD 6 0 % ↑ds.length)),none,none,none,none,none,none,none,none,none,none,none] _
 rw [hwy] at w7 ⊢
 generalize ns.getD 6 0 % ((ds.length:Nat):Int)=l at *
 k_mem
 refine ⟨by decide,fun p4 hp4=>⟨_,af,by omega,by omega,by rw [sizeLine_eq];show 1 * _<=_;omega,fun gt hgt=>?_⟩⟩
 have e5:(List.replicate ((ds.length:Nat):Int).toNat [V.bl false]).flatten=(ds.map fun _=>false).map V.bl:=by
  rw [Int.toNat_natCast,Fg,List.map_map]
  exact (List.map_const' (l:=ds) (b:=V.bl false)).symm
 rw [e5]
 have j8:=(av.refl J7).lay (o:=HO.lst [V.bl false]) hp4
 have hW8:=(hW.same j8).grow hgt ((av.refl _).lay (o:=HO.lst ((ds.map fun _=>false).map V.bl)) hgt) af
 generalize upd J7 p4 (HO.lst [V.bl false])=J8 at *
 have fg8:J8 gt=none:=hgt
 (generalize hE:upd J8 gt _=J9 at *;have j9:=bM hE hgt;have v9:=aZ hE;clear hE)
 have s19:=(s17.trans j8).trans j9
 k_mem
 refine ⟨by decide,fun dd hdd=>?_⟩
 have hW10:=hW8.grow hdd ((av.refl _).lay (o:=HO.lst []) hdd) af
 have ngd:gt≠dd:=ak v9 hdd
 have fd9:J9 dd=none:=hdd
 (generalize hE:upd J9 dd _=J10 at *;have j10:=bM hE hdd;have v10:=aZ hE;clear hE)
 have s110:=s19.trans j10
 k_mem
 have hc:=s110 _ _ hcl
 obtain ⟨ca,hca,hcd⟩:=B26.code (cl:=cl) hT s110 l0 (by omega)
 k_upd
 refine ⟨_,SqL.of hc,_,hca,?_⟩
 k_upd
 refine ⟨_,hcd,_,rfl,_,l,wy,rfl,by omega,fun el es J11 fel j11 hel hE=>?_⟩
 have s111:=s110.trans j11
 have nge:el≠gt:=(ak (j10 _ _ v9) fel).symm
 have nde:el≠dd:=(ak v10 fel).symm
 obtain ⟨ar,hr⟩:=hW10.rows
 have ngr:gt≠rl:=(hW10.off gt (.inl (.inr rfl))).symm
 have ndr:dd≠rl:=(hW10.off dd (.inr rfl)).symm
 have hB:B26 K H1 dl cl rl gt dd as0 ds ls slow fast:=⟨hdl,hcl,hT,hsh,hlen,hg,hsp,s16.free frl,(s17.trans j8).free fg8,s19.free fd9⟩
 exact k1 dl cl ll w bk rl gt dd el as0 ds ls slow fast l wy H1 J11 s1 hB (by omega) l0 l1 ngd nge nde ⟨s111,hW10.same j11,(j10.trans j11) _ _ v9,⟨[],j11 _ _ v10,dh.nil⟩,ngr,ndr⟩ ⟨es,hel,hE⟩
include T jB cy wa uf fu cJ dr gL gM pA dX dC kD kE fS in
theorem LC:FF P w K mg base CX0 9 "law" "law" jU GY (xR K Z):=(LB T jB cy wa uf fu cJ dr gL gM pA dX dC kD kE fS).calm fun vs H Q E h=>h
end
theorem LD {l:W.OpenLaw}{w:World}{K:WA}{h:Heap}{mg:Str->Option Value}{fa:Addr}(X:K.In h)(G:h.Ns mainGlobals mg)(hfa:mg "law"=some (.ref fa)){C0 C1 C2 C3 C4 C5 C6 C7 C8 C9 C10 C11 C12 C13 C14 C15 C16 C17 C18 C19 C20 C21 C22 C23:Addr}{ta_KINDS:Addr}{tk_KINDS_0 tk_KINDS_1:Tok}{tn_KINDS:Nat}{ts_KINDS:Array (Option Value)}{ta_CAGE_SPOTS:Addr}{tk_CAGE_SPOTS_0 tk_CAGE_SPOTS_1:Tok}{to_CAGE_SPOTS:Option Addr}{tn_CAGE_SPOTS:Nat}{ts_CAGE_SPOTS:Array (Option Value)}(fx:JU K C0 C1 C2 C3 C4 C5 C6 C7 C8 C9 C10 C11 C12 C13 C14 C15 C16 C17 C18 C19 C20 C21 C22 C23 ta_KINDS tk_KINDS_0 tk_KINDS_1 tn_KINDS ts_KINDS ta_CAGE_SPOTS tk_CAGE_SPOTS_0 tk_CAGE_SPOTS_1 to_CAGE_SPOTS tn_CAGE_SPOTS ts_CAGE_SPOTS)
 : ∃Z:Adr,∃fd:FuncData,(∀(s:Shared) (v:Value),BindsTo s fd ⟨[v],[]⟩ [("_law_script",v)])/\∀base:Heap,K.In base->base.Ns mainGlobals mg->fU l.prog w K mg base CX0 9 fa fd ["_law_script"] (xR K Z):=by
 obtain ⟨z_len,z_list,z_enumerate,z_zip,z_range,z_abs,z_isinstance,z_tuple,z_int,z_str,z_bool,z_min,m0,m1,m2,m3,m4,m5,m6,m7,m8,m9,m10,m11,m12,m13,m14,m15,m16,m17,m18,m19,m20,m21,m22,m23,n_MOST_LOADS,n_FEWEST_STROKES,n_MOST_STROKES,n_FEWEST_LEVELS,n_MOST_LEVELS,n_GREATEST_DEPTH,n_GREATEST_SPEED,n_MOST_DEEDS,n_KINDS,lt_KINDS,n_CAGE_SPOTS,lt_CAGE_SPOTS,cl19,na19_kinds,na19_where,na19_many,cl20,na20_codes,na20_failed,na20_state,cl21,na21_place,na21_opened,na21_bells,na21_yard,cl22,na22_first,na22_most,na22_rows,cl23,na23_depths,na23_slow,na23_fast,na23_goals,na23_log,l0,x0,x1,x2,x3,x4,x5,x6,x7,x8,x9,x10,x11,x12,x13,x14,x15,x16,x17,e0_CageError,k0_BookFull,k0_UnknownLevel,k0_NoChange,k0_DeadBell,k0_NoCode,k0_NothingRung,k0_UnknownLoad,k0_NotThere,k0_CageEmpty,k0_GateOpen,k0_NotArmed,k0_GateShut,k0_CageTaken,e1_CageError,k1_BookFull,k1_UnknownLevel,k1_NoChange,k1_DeadBell,k1_NoCode,k1_NothingRung,k1_UnknownLoad,k1_NotThere,k1_CageEmpty,k1_GateOpen,k1_NotArmed,k1_GateShut,k1_CageTaken,e2_CageError,k2_BookFull,k2_UnknownLevel,k2_NoChange,k2_DeadBell,k2_NoCode,k2_NothingRung,k2_UnknownLoad,k2_NotThere,k2_CageEmpty,k2_GateOpen,k2_NotArmed,k2_GateShut,k2_CageTaken,e3_CageError,k3_BookFull,k3_UnknownLevel,k3_NoChange,k3_DeadBell,k3_NoCode,k3_NothingRung,k3_UnknownLoad,k3_NotThere,k3_CageEmpty,k3_GateOpen,k3_NotArmed,k3_GateShut,k3_CageTaken,e4_CageError,k4_BookFull,k4_UnknownLevel,k4_NoChange,k4_DeadBell,k4_NoCode,k4_NothingRung,k4_UnknownLoad,k4_NotThere,k4_CageEmpty,k4_GateOpen,k4_NotArmed,k4_GateShut,k4_CageTaken,e5_CageError,k5_BookFull,k5_UnknownLevel,k5_NoChange,k5_DeadBell,k5_NoCode,k5_NothingRung,k5_UnknownLoad,k5_NotThere,k5_CageEmpty,k5_GateOpen,k5_NotArmed,k5_GateShut,k5_CageTaken,e6_CageError,k6_BookFull,k6_UnknownLevel,k6_NoChange,k6_DeadBell,k6_NoCode,k6_NothingRung,k6_UnknownLoad,k6_NotThere,k6_CageEmpty,k6_GateOpen,k6_NotArmed,k6_GateShut,k6_CageTaken,e7_CageError,k7_BookFull,k7_UnknownLevel,k7_NoChange,k7_DeadBell,k7_NoCode,k7_NothingRung,k7_UnknownLoad,k7_NotThere,k7_CageEmpty,k7_GateOpen,k7_NotArmed,k7_GateShut,k7_CageTaken,e8_CageError,k8_BookFull,k8_UnknownLevel,k8_NoChange,k8_DeadBell,k8_NoCode,k8_NothingRung,k8_UnknownLoad,k8_NotThere,k8_CageEmpty,k8_GateOpen,k8_NotArmed,k8_GateShut,k8_CageTaken,e9_CageError,k9_BookFull,k9_UnknownLevel,k9_NoChange,k9_DeadBell,k9_NoCode,k9_NothingRung,k9_UnknownLoad,k9_NotThere,k9_CageEmpty,k9_GateOpen,k9_NotArmed,k9_GateShut,k9_CageTaken,e10_CageError,k10_BookFull,k10_UnknownLevel,k10_NoChange,k10_DeadBell,k10_NoCode,k10_NothingRung,k10_UnknownLoad,k10_NotThere,k10_CageEmpty,k10_GateOpen,k10_NotArmed,k10_GateShut,k10_CageTaken,e11_CageError,k11_BookFull,k11_UnknownLevel,k11_NoChange,k11_DeadBell,k11_NoCode,k11_NothingRung,k11_UnknownLoad,k11_NotThere,k11_CageEmpty,k11_GateOpen,k11_NotArmed,k11_GateShut,k11_CageTaken,e12_CageError,k12_BookFull,k12_UnknownLevel,k12_NoChange,k12_DeadBell,k12_NoCode,k12_NothingRung,k12_UnknownLoad,k12_NotThere,k12_CageEmpty,k12_GateOpen,k12_NotArmed,k12_GateShut,k12_CageTaken,e13_CageError,k13_BookFull,k13_UnknownLevel,k13_NoChange,k13_DeadBell,k13_NoCode,k13_NothingRung,k13_UnknownLoad,k13_NotThere,k13_CageEmpty,k13_GateOpen,k13_NotArmed,k13_GateShut,k13_CageTaken,e14_CageError,k14_BookFull,k14_UnknownLevel,k14_NoChange,k14_DeadBell,k14_NoCode,k14_NothingRung,k14_UnknownLoad,k14_NotThere,k14_CageEmpty,k14_GateOpen,k14_NotArmed,k14_GateShut,k14_CageTaken,e15_CageError,k15_BookFull,k15_UnknownLevel,k15_NoChange,k15_DeadBell,k15_NoCode,k15_NothingRung,k15_UnknownLoad,k15_NotThere,k15_CageEmpty,k15_GateOpen,k15_NotArmed,k15_GateShut,k15_CageTaken,e16_CageError,k16_BookFull,k16_UnknownLevel,k16_NoChange,k16_DeadBell,k16_NoCode,k16_NothingRung,k16_UnknownLoad,k16_NotThere,k16_CageEmpty,k16_GateOpen,k16_NotArmed,k16_GateShut,k16_CageTaken,e17_CageError,k17_BookFull,k17_UnknownLevel,k17_NoChange,k17_DeadBell,k17_NoCode,k17_NothingRung,k17_UnknownLoad,k17_NotThere,k17_CageEmpty,k17_GateOpen,k17_NotArmed,k17_GateShut,k17_CageTaken,d0,d1,d2,d3,d4,d5,d6,d7,d8,d9,d10,d11,d12,d13,d14,d15,d16,d17,d18,d19,d20,d21,d22,d23,d24,d25,d26,d27,d28,d29,d30,d31,d32,d33,d34,d35,d36,d37,d38,d39,d40,d41,d42,d43,d44,d45,d46,d47,d48,d49,d50,d51,d52,d53,d54,d55,d56,d57,d58,d59,d60,d61,d62,d63,d64,d65,d66,d67,d68,d69,d70,d71,d72,d73⟩:=fx
 obtain ⟨f0,_,b0,F0⟩:=d0
 obtain ⟨f1,_,b1,F1⟩:=d1
 obtain ⟨f2,_,b2,F2⟩:=d2
 obtain ⟨f3,_,b3,F3⟩:=d3
 obtain ⟨f4,_,b4,F4⟩:=d4
 obtain ⟨f5,_,b5,F5⟩:=d5
 obtain ⟨f6,_,b6,F6⟩:=d6
 obtain ⟨f7,_,b7,F7⟩:=d7
 obtain ⟨f8,_,b8,F8⟩:=d8
 obtain ⟨f9,_,b9,F9⟩:=d9
 obtain ⟨f10,_,b10,F10⟩:=d10
 obtain ⟨f11,_,b11,F11⟩:=d11
 obtain ⟨f12,_,b12,F12⟩:=d12
 obtain ⟨f13,_,b13,F13⟩:=d13
 obtain ⟨f14,_,b14,F14⟩:=d14
 obtain ⟨f15,_,b15,F15⟩:=d15
 obtain ⟨f16,_,b16,F16⟩:=d16
 obtain ⟨f17,_,b17,F17⟩:=d17
 obtain ⟨f18,_,b18,F18⟩:=d18
 obtain ⟨f19,_,b19,F19⟩:=d19
 obtain ⟨f20,_,b20,F20⟩:=d20
 obtain ⟨f21,_,b21,F21⟩:=d21
 obtain ⟨f22,_,b22,F22⟩:=d22
 obtain ⟨f23,_,b23,F23⟩:=d23
 obtain ⟨f24,_,b24,F24⟩:=d24
 obtain ⟨f25,_,b25,F25⟩:=d25
 obtain ⟨f26,_,b26,F26⟩:=d26
 obtain ⟨f27,_,b27,F27⟩:=d27
 obtain ⟨f28,_,b28,F28⟩:=d28
 obtain ⟨f29,_,b29,F29⟩:=d29
 obtain ⟨f30,_,b30,F30⟩:=d30
 obtain ⟨f31,_,b31,F31⟩:=d31
 obtain ⟨f32,_,b32,F32⟩:=d32
 obtain ⟨f33,_,b33,F33⟩:=d33
 obtain ⟨f34,_,b34,F34⟩:=d34
 obtain ⟨f35,_,b35,F35⟩:=d35
 obtain ⟨f36,_,b36,F36⟩:=d36
 obtain ⟨f37,_,b37,F37⟩:=d37
 obtain ⟨f38,_,b38,F38⟩:=d38
 obtain ⟨f39,_,b39,F39⟩:=d39
 obtain ⟨f40,_,b40,F40⟩:=d40
 obtain ⟨f41,_,b41,F41⟩:=d41
 obtain ⟨f42,_,b42,F42⟩:=d42
 obtain ⟨f43,_,b43,F43⟩:=d43
 obtain ⟨f44,_,b44,F44⟩:=d44
 obtain ⟨f45,_,b45,F45⟩:=d45
 obtain ⟨f46,_,b46,F46⟩:=d46
 obtain ⟨f47,_,b47,F47⟩:=d47
 obtain ⟨f48,_,b48,F48⟩:=d48
 obtain ⟨f49,_,b49,F49⟩:=d49
 obtain ⟨f50,_,b50,F50⟩:=d50
 obtain ⟨f51,_,b51,F51⟩:=d51
 obtain ⟨f52,_,b52,F52⟩:=d52
 obtain ⟨f53,_,b53,F53⟩:=d53
 obtain ⟨f54,_,b54,F54⟩:=d54
 obtain ⟨f55,_,b55,F55⟩:=d55
 obtain ⟨f56,_,b56,F56⟩:=d56
 obtain ⟨f57,_,b57,F57⟩:=d57
 obtain ⟨f58,_,b58,F58⟩:=d58
 obtain ⟨f59,_,b59,F59⟩:=d59
 obtain ⟨f60,_,b60,F60⟩:=d60
 obtain ⟨f61,_,b61,F61⟩:=d61
 obtain ⟨f62,_,b62,F62⟩:=d62
 obtain ⟨f63,_,b63,F63⟩:=d63
 obtain ⟨f64,_,b64,F64⟩:=d64
 obtain ⟨f65,_,b65,F65⟩:=d65
 obtain ⟨f66,_,b66,F66⟩:=d66
 obtain ⟨f67,_,b67,F67⟩:=d67
 obtain ⟨f68,_,b68,F68⟩:=d68
 obtain ⟨f69,_,b69,F69⟩:=d69
 obtain ⟨f70,_,b70,F70⟩:=d70
 obtain ⟨f71,_,b71,F71⟩:=d71
 obtain ⟨f72,_,b72,F72⟩:=d72
 obtain ⟨f73,_,b73,F73⟩:=d73
 have e:=hfa.symm.trans (W.mg_of X G b73)
 cases e
 obtain ⟨oc,od,kV,dc,pm,an,cd,ct,sl,rfl,ll,cc⟩:=F73.ex
 let Z:Adr:=⟨C0,C1,C2,C3,C4,C5,C6,C7,C8,C9,C10,C11,C12,C13,C14,C15,C16,C17,C18,C19,C20,C21,C22,C23,ta_KINDS,ta_CAGE_SPOTS⟩
 refine ⟨Z,W.fnOf "law" "law" (dw jU) (cv jU) (ai jU) .none kV dc pm an cd ct,fun s v=>.of_eq rfl,fun base _ _=>?_⟩
 have T:Txt l.prog w K mg base Z:=⟨W.mg_none_of X G z_len,W.mg_none_of X G z_list,W.mg_none_of X G z_enumerate,W.mg_none_of X G z_zip,W.mg_none_of X G z_range,W.mg_none_of X G z_abs,W.mg_none_of X G z_isinstance,W.mg_none_of X G z_tuple,W.mg_none_of X G z_int,W.mg_none_of X G z_str,W.mg_none_of X G z_bool,W.mg_none_of X G z_min,KI.txt X G n_MOST_LOADS,KI.txt X G n_FEWEST_STROKES,KI.txt X G n_MOST_STROKES,KI.txt X G n_FEWEST_LEVELS,KI.txt X G n_MOST_LEVELS,KI.txt X G n_GREATEST_DEPTH,KI.txt X G n_GREATEST_SPEED,KI.txt X G n_MOST_DEEDS,⟨_,W.mg_of X G n_KINDS,rfl⟩,fun H=>.inr ⟨_,_,_,lt_KINDS,rfl,rfl,(by show 2<=sizeLine;decide),.cons ⟨_,rfl⟩ (.cons ⟨_,rfl⟩ .nil)⟩,⟨_,lt_KINDS,rfl,rfl⟩,⟨_,W.mg_of X G n_CAGE_SPOTS,rfl⟩,fun H=>.inr ⟨_,_,_,lt_CAGE_SPOTS,rfl,rfl,(by show 2<=sizeLine;decide),.cons ⟨_,rfl⟩ (.cons ⟨_,rfl⟩ .nil)⟩,W.mg_of X G m0,W.mg_of X G m1,W.mg_of X G m2,W.mg_of X G m3,W.mg_of X G m4,W.mg_of X G m5,W.mg_of X G m6,W.mg_of X G m7,W.mg_of X G m8,W.mg_of X G m9,W.mg_of X G m10,W.mg_of X G m11,W.mg_of X G m12,W.mg_of X G m13,W.mg_of X G m14,W.mg_of X G m15,W.mg_of X G m16,W.mg_of X G m17,W.mg_of X G m18,W.mg_of X G m19,W.mg_of X G m20,W.mg_of X G m21,W.mg_of X G m22,W.mg_of X G m23,cl19,na19_kinds,na19_where,na19_many,cl20,na20_codes,na20_failed,na20_state,cl21,na21_place,na21_opened,na21_bells,na21_yard,cl22,na22_first,na22_most,na22_rows,cl23,na23_depths,na23_slow,na23_fast,na23_goals,na23_log,(x0 l0).ex,x0 l0,e0_CageError,k0_BookFull,k0_UnknownLevel,k0_NoChange,k0_DeadBell,k0_NoCode,k0_NothingRung,k0_UnknownLoad,k0_NotThere,k0_CageEmpty,k0_GateOpen,k0_NotArmed,k0_GateShut,k0_CageTaken,(x1 l0).ex,x1 l0,e1_CageError,k1_BookFull,k1_UnknownLevel,k1_NoChange,k1_DeadBell,k1_NoCode,k1_NothingRung,k1_UnknownLoad,k1_NotThere,k1_CageEmpty,k1_GateOpen,k1_NotArmed,k1_GateShut,k1_CageTaken,(x2 l0).ex,x2 l0,e2_CageError,k2_BookFull,k2_UnknownLevel,k2_NoChange,k2_DeadBell,k2_NoCode,k2_NothingRung,k2_UnknownLoad,k2_NotThere,k2_CageEmpty,k2_GateOpen,k2_NotArmed,k2_GateShut,k2_CageTaken,(x3 l0).ex,x3 l0,e3_CageError,k3_BookFull,k3_UnknownLevel,k3_NoChange,k3_DeadBell,k3_NoCode,k3_NothingRung,k3_UnknownLoad,k3_NotThere,k3_CageEmpty,k3_GateOpen,k3_NotArmed,k3_GateShut,k3_CageTaken,(x4 l0).ex,x4 l0,e4_CageError,k4_BookFull,k4_UnknownLevel,k4_NoChange,k4_DeadBell,k4_NoCode,k4_NothingRung,k4_UnknownLoad,k4_NotThere,k4_CageEmpty,k4_GateOpen,k4_NotArmed,k4_GateShut,k4_CageTaken,(x5 l0).ex,x5 l0,e5_CageError,k5_BookFull,k5_UnknownLevel,k5_NoChange,k5_DeadBell,k5_NoCode,k5_NothingRung,k5_UnknownLoad,k5_NotThere,k5_CageEmpty,k5_GateOpen,k5_NotArmed,k5_GateShut,k5_CageTaken,(x6 l0).ex,x6 l0,e6_CageError,k6_BookFull,k6_UnknownLevel,k6_NoChange,k6_DeadBell,k6_NoCode,k6_NothingRung,k6_UnknownLoad,k6_NotThere,k6_CageEmpty,k6_GateOpen,k6_NotArmed,k6_GateShut,k6_CageTaken,(x7 l0).ex,x7 l0,e7_CageError,k7_BookFull,k7_UnknownLevel,k7_NoChange,k7_DeadBell,k7_NoCode,k7_NothingRung,k7_UnknownLoad,k7_NotThere,k7_CageEmpty,k7_GateOpen,k7_NotArmed,k7_GateShut,k7_CageTaken,(x8 l0).ex,x8 l0,e8_CageError,k8_BookFull,k8_UnknownLevel,k8_NoChange,k8_DeadBell,k8_NoCode,k8_NothingRung,k8_UnknownLoad,k8_NotThere,k8_CageEmpty,k8_GateOpen,k8_NotArmed,k8_GateShut,k8_CageTaken,(x9 l0).ex,x9 l0,e9_CageError,k9_BookFull,k9_UnknownLevel,k9_NoChange,k9_DeadBell,k9_NoCode,k9_NothingRung,k9_UnknownLoad,k9_NotThere,k9_CageEmpty,k9_GateOpen,k9_NotArmed,k9_GateShut,k9_CageTaken,(x10 l0).ex,x10 l0,e10_CageError,k10_BookFull,k10_UnknownLevel,k10_NoChange,k10_DeadBell,k10_NoCode,k10_NothingRung,k10_UnknownLoad,k10_NotThere,k10_CageEmpty,k10_GateOpen,k10_NotArmed,k10_GateShut,k10_CageTaken,(x11 l0).ex,x11 l0,e11_CageError,k11_BookFull,k11_UnknownLevel,k11_NoChange,k11_DeadBell,k11_NoCode,k11_NothingRung,k11_UnknownLoad,k11_NotThere,k11_CageEmpty,k11_GateOpen,k11_NotArmed,k11_GateShut,k11_CageTaken,(x12 l0).ex,x12 l0,e12_CageError,k12_BookFull,k12_UnknownLevel,k12_NoChange,k12_DeadBell,k12_NoCode,k12_NothingRung,k12_UnknownLoad,k12_NotThere,k12_CageEmpty,k12_GateOpen,k12_NotArmed,k12_GateShut,k12_CageTaken,(x13 l0).ex,x13 l0,e13_CageError,k13_BookFull,k13_UnknownLevel,k13_NoChange,k13_DeadBell,k13_NoCode,k13_NothingRung,k13_UnknownLoad,k13_NotThere,k13_CageEmpty,k13_GateOpen,k13_NotArmed,k13_GateShut,k13_CageTaken,(x14 l0).ex,x14 l0,e14_CageError,k14_BookFull,k14_UnknownLevel,k14_NoChange,k14_DeadBell,k14_NoCode,k14_NothingRung,k14_UnknownLoad,k14_NotThere,k14_CageEmpty,k14_GateOpen,k14_NotArmed,k14_GateShut,k14_CageTaken,(x15 l0).ex,x15 l0,e15_CageError,k15_BookFull,k15_UnknownLevel,k15_NoChange,k15_DeadBell,k15_NoCode,k15_NothingRung,k15_UnknownLoad,k15_NotThere,k15_CageEmpty,k15_GateOpen,k15_NotArmed,k15_GateShut,k15_CageTaken,(x16 l0).ex,x16 l0,e16_CageError,k16_BookFull,k16_UnknownLevel,k16_NoChange,k16_DeadBell,k16_NoCode,k16_NothingRung,k16_UnknownLoad,k16_NotThere,k16_CageEmpty,k16_GateOpen,k16_NotArmed,k16_GateShut,k16_CageTaken,(x17 l0).ex,x17 l0,e17_CageError,k17_BookFull,k17_UnknownLevel,k17_NoChange,k17_DeadBell,k17_NoCode,k17_NothingRung,k17_UnknownLoad,k17_NotThere,k17_CageEmpty,k17_GateOpen,k17_NotArmed,k17_GateShut,k17_CageTaken⟩
 have D0:=KD.mk (W.mg_of X G b0) F0 F0.b2 (BV T)
 have D4:=KN.mk b4 F4 F4.b3 (AA T)
 have D7:=KM.mk cl19 b7 F7 F7.b1 (yB T)
 have D8:=KM.mk cl19 b8 F8 F8.b2 (vL T)
 have D9:=KM.mk cl19 b9 F9 F9.b1 (rY T)
 have D11:=KD.mk (W.mg_of X G b11) F11 F11.b1 (xu T)
 have D13:=KN.mk b13 F13 F13.b2 (yC T)
 have D16:=KM.mk cl20 b16 F16 F16.b1 (vM T)
 have D18:=KM.mk cl20 b18 F18 F18.b1 (yD T)
 have D21:=KD.mk (W.mg_of X G b21) F21 F21.b1 (vN T)
 have D22:=KD.mk (W.mg_of X G b22) F22 F22.b1 (yE T)
 have D24:=KD.mk (W.mg_of X G b24) F24 F24.b2 (BW T)
 have D27:=KD.mk (W.mg_of X G b27) F27 F27.b2 (vO T)
 have D28:=KD.mk (W.mg_of X G b28) F28 F28.b2 (yF T)
 have D29:=KN.mk b29 F29 F29.b5 (uV T)
 have D31:=KN.mk b31 F31 F31.b3 (AB T)
 have D33:=KM.mk cl22 b33 F33 F33.b1 (xw T)
 have D34:=KM.mk cl22 b34 F34 F34.b1 (BX T)
 have D35:=KM.mk cl22 b35 F35 F35.b1 (xx T)
 have D36:=KM.mk cl22 b36 F36 F36.b1 (AD T)
 have D61:=KD.mk (W.mg_of X G b61) F61 F61.b2 (Jj T)
 have D62:=KD.mk (W.mg_of X G b62) F62 F62.b3 (E5 T)
 have D69:=KD.mk (W.mg_of X G b69) F69 F69.b3 (G9 T)
 have D70:=KD.mk (W.mg_of X G b70) F70 F70.b3 (E6 T)
 have D71:=KD.mk (W.mg_of X G b71) F71 F71.b4 (vP T)
 have D1:=KD.mk (W.mg_of X G b1) F1 F1.b2 (xA T D0)
 have D2:=KD.mk (W.mg_of X G b2) F2 F2.b2 (yG T D0)
 have D3:=KD.mk (W.mg_of X G b3) F3 F3.b2 (xB T D0)
 have D12:=KD.mk (W.mg_of X G b12) F12 F12.b2 (xC T D11)
 have D15:=KM.mk cl20 b15 F15 F15.b2 (vQ T D11)
 have D23:=KD.mk (W.mg_of X G b23) F23 F23.b2 (xD T D22)
 have D32:=KM.mk cl22 b32 F32 F32.b5 (yH T D34)
 have D47:=KM.mk cl23 b47 F47 F47.b1 (r6 T D33)
 have D49:=KM.mk cl23 b49 F49 F49.b2 (qF T D9)
 have D51:=KM.mk cl23 b51 F51 F51.b2 (iO T D35)
 have D52:=KM.mk cl23 b52 F52 F52.b1 (AF T D34)
 have D53:=KM.mk cl23 b53 F53 F53.b1 (yI T D36)
 have D54:=KM.mk cl23 b54 F54 F54.b1 (vR T D16 D35)
 have D55:=KM.mk cl23 b55 F55 F55.b1 (yJ T D18 D35)
 have D56:=KM.mk cl23 b56 F56 F56.b1 (xE T D35)
 have D59:=KM.mk cl23 b59 F59 F59.b1 (xF T D7 D35)
 have D60:=KM.mk cl23 b60 F60 F60.b2 (u0 T D8 D35)
 have D64:=KD.mk (W.mg_of X G b64) F64 F64.b1 (BY T D62)
 have D65:=KD.mk (W.mg_of X G b65) F65 F65.b2 (Dx T D62)
 have D5:=KM.mk cl19 b5 F5 F5.b3 (AG T D8 D2)
 have D6:=KM.mk cl19 b6 F6 F6.b3 (BZ T D8 D1)
 have D10:=KM.mk cl19 b10 F10 F10.b1 (AH T D4)
 have D14:=KM.mk cl20 b14 F14 F14.b3 (yK T D1)
 have D17:=KM.mk cl20 b17 F17 F17.b2 (yL T D1)
 have D19:=KM.mk cl20 b19 F19 F19.b3 (AI T D1)
 have D20:=KM.mk cl20 b20 F20 F20.b1 (yM T D13)
 have D25:=KD.mk (W.mg_of X G b25) F25 F25.b3 (xI T D23)
 have D26:=KD.mk (W.mg_of X G b26) F26 F26.b2 (B0 T D23)
 have D37:=KN.mk b37 F37 F37.b6 (yN T D4 D13 D21 D27 D29 D31 D3 D12)
 have D48:=KM.mk cl23 b48 F48 F48.b4 (xK T D32 D49 D52)
 have D58:=KM.mk cl23 b58 F58 F58.b2 (o6 T D23)
 have D66:=KD.mk (W.mg_of X G b66) F66 F66.b1 (Dy T D61 D62 D64 D65)
 have D30:=KM.mk cl21 b30 F30 F30.b1 (u4 T D29 D10 D20)
 have D57:=KM.mk cl23 b57 F57 F57.b1 (xM T D35 D58)
 have D38:=KM.mk cl23 b38 F38 F38.b3 (yO T D35 D14 D48 D30)
 have D39:=KM.mk cl23 b39 F39 F39.b2 (vS T D35 D15 D48 D30)
 have D40:=KM.mk cl23 b40 F40 F40.b2 (yP T D35 D17 D48 D30)
 have D43:=KM.mk cl23 b43 F43 F43.b4 (sd T D35 D1 D48 D30)
 have D46:=KM.mk cl23 b46 F46 F46.b4 (yQ T D28 D35 D1 D49 D19 D25 D26 D48 D30)
 have D50:=KM.mk cl23 b50 F50 F50.b2 (ur T D24 D57)
 have D63:=KD.mk (W.mg_of X G b63) F63 F63.b2 (Fc T (W.mg_of X G b63) F63 F63.b2)
 have D72:=KD.mk (W.mg_of X G b72) F72 F72.b1 (Dz T D52 D54 D55 D56 D59 D57)
 have D41:=KM.mk cl23 b41 F41 F41.b2 (sg T D43)
 have D42:=KM.mk cl23 b42 F42 F42.b2 (si T D43)
 have D44:=KM.mk cl23 b44 F44 F44.b3 (yR T D7 D35 D2 D51 D5 D48 D30 D50)
 have D45:=KM.mk cl23 b45 F45 F45.b2 (vT T D8 D35 D51 D6 D48 D30 D50)
 have D67:=KD.mk (W.mg_of X G b67) F67 F67.b2 (Fd T D47 D38 D39 D40 D46 D41 D42 D44 D45)
 have D68:=KD.mk (W.mg_of X G b68) F68 F68.b2 (AJ T D67)
 exact LC T D61 D62 D69 D70 D71 D47 D52 D53 D37 D66 D40 D63 D72 D67 D68 _ _ F73
theorem Fh {K:WA}{Z:Adr}{H:Hp}{a:Addr}{ns:List Int}(hl:ns.length<=63)(hS:SqL K H a (ns.map V.int)){Q:VK}{E:XK}(q:∀H',Q (.bl true) H'):xR K Z [.ref a] H Q E:=⟨a,ns,rfl,hS,hl,q⟩
noncomputable def SPl (K:WA):Sp:=fun vs H Q _=>∃(a:Addr) (ns:List Int),vs=[.ref a]/\SqL K H a (ns.map V.int)/\ns.length<=63/\∀H',Q (.bl true) H'
theorem M9 {l:W.OpenLaw}{q:Program}{loose:List Str}{XP:(Str->Option Value)->Heap->Prop}{YP:World->Heap->Prop}{d:DefRec}{K:Params->WA}(hn:l.most=some 63)(hdf:d.params.defaults=[])
  (hY:∀(w:World) (h:Heap),YP w h->(K w.params).In h)
  (F:∀(w:World) (mg:Str->Option Value) (fa:Addr) (h:Heap),(K w.params).In h->h.Ns mainGlobals mg->mg d.name=some (.ref fa)->
   ∃Z:Adr,∃fd:FuncData,(∀(s:Shared) (u:Value),BindsTo s fd ⟨[u],[]⟩ [("_law_script",u)])/\∀base:Heap,(K w.params).In base->base.Ns mainGlobals mg->fU l.prog w (K w.params) mg base CX0 9 fa fd ["_law_script"] (xR (K w.params) Z)) :
  W.WalkO q loose XP YP l.row.toRowW d [] (fun f vs=>PySem.call f vs):=
 L2.HK (n:=63) (k:=9) (x:="_law_script") (CX:=fun _=>CX0) (sp:=fun w=>SPl (K w.params)) hn (by decide) hdf ⟨rfl,by decide,by decide⟩ hY
  (fun w mg fa h a b c=>let ⟨Z,fd,b1,b2⟩:=F w mg fa h a b c;⟨fd,b1,fun base x y=>(b2 base x y).imp fun vs H Q E ⟨a,ns,e,hS,hl,q⟩=>by subst e;exact Fh hl hS q⟩) (fun _ _ a ns hl _ hS=>⟨a,ns,rfl,hS,hl,fun _=>rfl⟩) fun _ _ _ _ _ z=>z
end K26
local macro_rules | `(tactic| walk_at "m_is") => `(tactic| (delta L2.Xm; kts_exm))
local macro_rules | `(tactic| walk_at "h_is") => `(tactic| (delta L2.Kt; kit_is))
local macro_rules | `(tactic| walk_at "n_is") => `(tactic| (delta L2.NI; k_is))
local macro_rules | `(tactic| walk_at "a_is") => `(tactic| (delta L2.bg; k_is))
local macro_rules | `(tactic| walk_at "i_is") => `(tactic| (apply L2.KI.mk; k_is))
local macro_rules | `(tactic| walk_at "c_is") => `(tactic| (apply L2.Cls.mk; iterate 4 k_is))
local macro_rules | `(tactic| walk_at "o_is") => `(tactic| (apply L2.C0I.mk; k_is; exact rfl; k_is; exact rfl; exact rfl))
local macro_rules | `(tactic| walk_at "x_is") => `(tactic| (apply L2.XI.mk; k_is; k_is; exact rfl; exact rfl; k_is; k_is))
local macro_rules | `(tactic| walk_at "d_is") => `(tactic| (apply L2.DI.mk; iterate 4 k_is))
local macro_rules | `(tactic| walk_at "e_is") => `(tactic| (apply L2.MI.mk; iterate 5 k_is))
local macro_rules | `(tactic| walk_at "t_is") => `(tactic| (apply L2.II.mk; iterate 7 k_is))
open PySem PySem.W PyProof.Rows
set_option maxRecDepth 100000 in
set_option maxHeartbeats 0 in
theorem PySem.Challenge.cw_cagebells_k26_book_full_holds : PySem.Challenge.rw_cagebells_k26_book_full.Holds := by
 refine hd ?_
 k_fill
 refine K26.M9 (l:=PySem.Challenge.rw_cagebells_k26_book_full) rfl rfl (fun w h Y=>W.kIn_of Y) ?F
 case F=>
  intro w mg fa h KX G hmg
  apply K26.LD KX G hmg
  apply K26.JU.mk
  iterate 12 k_is
  iterate 24 walk_at "n_is"
  iterate 8 walk_at "i_is"
  iterate 4 k_is
  walk_at "c_is"
  iterate 3 walk_at "a_is"
  walk_at "c_is"
  iterate 3 walk_at "a_is"
  walk_at "c_is"
  iterate 4 walk_at "a_is"
  walk_at "c_is"
  iterate 3 walk_at "a_is"
  walk_at "c_is"
  iterate 5 walk_at "a_is"
  walk_at "o_is"
  iterate 18 walk_at "x_is"
  walk_at "m_is"
  iterate 13 walk_at "h_is"
  walk_at "m_is"
  iterate 13 walk_at "h_is"
  walk_at "m_is"
  iterate 13 walk_at "h_is"
  walk_at "m_is"
  iterate 13 walk_at "h_is"
  walk_at "m_is"
  iterate 13 walk_at "h_is"
  walk_at "m_is"
  iterate 13 walk_at "h_is"
  walk_at "m_is"
  iterate 13 walk_at "h_is"
  walk_at "m_is"
  iterate 13 walk_at "h_is"
  walk_at "m_is"
  iterate 13 walk_at "h_is"
  walk_at "m_is"
  iterate 13 walk_at "h_is"
  walk_at "m_is"
  iterate 13 walk_at "h_is"
  walk_at "m_is"
  iterate 13 walk_at "h_is"
  walk_at "m_is"
  iterate 13 walk_at "h_is"
  walk_at "m_is"
  iterate 13 walk_at "h_is"
  walk_at "m_is"
  iterate 13 walk_at "h_is"
  walk_at "m_is"
  iterate 13 walk_at "h_is"
  walk_at "m_is"
  iterate 13 walk_at "h_is"
  walk_at "m_is"
  iterate 13 walk_at "h_is"
  iterate 4 walk_at "d_is"
  walk_at "t_is"
  iterate 6 walk_at "e_is"
  iterate 2 walk_at "d_is"
  walk_at "t_is"
  iterate 7 walk_at "e_is"
  iterate 8 walk_at "d_is"
  walk_at "t_is"
  walk_at "e_is"
  walk_at "t_is"
  iterate 5 walk_at "e_is"
  walk_at "t_is"
  iterate 23 walk_at "e_is"
  iterate 13 walk_at "d_is"
