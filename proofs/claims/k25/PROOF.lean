import PyProof.Rows.All
import OpenK.KLine
import KE.RegKIsAll
import KE.RegKTryMore
import Lean
import PyProof.EqAt
import PyProof.EqKinds
import PyProof.TupleCall
import KE.KTupSum
import KE.KItem
import PySem.Challenge.RW_cagebells_k25_in_and_out
set_option Elab.async false
set_option linter.all false
set_option maxRecDepth 100000
set_option compiler.extract_closed false
namespace PySem.W.Fast
noncomputable abbrev T:=True
theorem t:T:=⟨⟩
theorem tw13215326141854239149:T:=t
theorem tw861502493610598483:T:=t
theorem tw9075320774682361017:T:=t
theorem tw11895137114770202065:T:=t
theorem tw7803841389314116483:T:=t
theorem tw11938172151560616342:T:=t
theorem tw8156932348028877967:T:=t
theorem tw6678784296486475458:T:=t
theorem tw7774113678449685934:T:=t
theorem tw14797863916429433284:T:=t
theorem tw13049043944605299518:T:=t
theorem tw13406377419850843074:T:=t
theorem tw4038046598495731775:T:=t
theorem tw18430476961869974472:T:=t
theorem tw13359257691425115219:T:=t
theorem tw10321690164698994850:T:=t
theorem tw8917917961894373751:T:=t
theorem tw9721000390032803332:T:=t
theorem tw18017129668781235815:T:=t
theorem tw17723881924890802966:T:=t
theorem tw13797646191491285992:T:=t
theorem tw9023412946914863120:T:=t
theorem tw3071672057996947647:T:=t
theorem tw6605169337270321112:T:=t
theorem tw17391296394322583936:T:=t
theorem tw15018716904364860632:T:=t
theorem tw14565471765716263578:T:=t
theorem tw12145756527313086355:T:=t
theorem tw15279809834360698895:T:=t
theorem tw3719891259706897012:T:=t
theorem tw431221854992830470:T:=t
theorem tw11863963456291920697:T:=t
theorem tw2127061852082412059:T:=t
theorem tw3507769193172341495:T:=t
theorem tw6973427100653255629:T:=t
theorem tw11589282660436910429:T:=t
theorem tw17680797132471856694:T:=t
theorem tw9385439782273163706:T:=t
theorem tw16945406819829945896:T:=t
theorem tw8392358500681263680:T:=t
theorem tw542136212441584030:T:=t
theorem tw17047726808428361225:T:=t
theorem tw11076892268299887525:T:=t
theorem tw11153475782318119604:T:=t
theorem tw12528533614272120300:T:=t
theorem tw6594970650091316094:T:=t
theorem tw13385558918117058561:T:=t
theorem tw561727478393794602:T:=t
theorem tw10368827614151553891:T:=t
theorem tw14334995849660946996:T:=t
theorem tw9872438946963307937:T:=t
theorem tw9004299641416957276:T:=t
theorem tw13298828918039433023:T:=t
theorem tw18183970276198133131:T:=t
theorem tw8498532028676091811:T:=t
theorem tw18293242582946804979:T:=t
theorem tw8413399678365625193:T:=t
theorem tw12461081396071149458:T:=t
theorem tw3208522521903949160:T:=t
theorem tw7985883749528016586:T:=t
theorem tw14540961386073393648:T:=t
theorem tw16506471722634982818:T:=t
theorem tw11024694936033576346:T:=t
theorem tw2597523674469684444:T:=t
theorem tw10550934584343373414:T:=t
theorem tw4449799235075362730:T:=t
theorem tw8428246938381088814:T:=t
theorem tw15805137534098808535:T:=t
theorem tw8431482922422412695:T:=t
theorem tw7353485770183898095:T:=t
theorem tw7900394595670775223:T:=t
theorem tw6880980288501444468:T:=t
theorem tw17713387462200973399:T:=t
theorem tw7607420049574824106:T:=t
theorem tw11009225556382593827:T:=t
theorem tw2875624504187281209:T:=t
theorem tw16746677531222629524:T:=t
theorem tw726351398001015727:T:=t
theorem tw6194202620331982285:T:=t
theorem tw13205091638197436094:T:=t
theorem tw5205737364524765896:T:=t
theorem tw7484994123860896570:T:=t
theorem tw11373181179767321252:T:=t
theorem tw14801369171006070438:T:=t
theorem tw6094820017090691545:T:=t
theorem tw12091442091272426231:T:=t
theorem tw578191462805490351:T:=t
theorem tw10624116801336726872:T:=t
theorem tw16086907953836968628:T:=t
theorem tw18127189064453720709:T:=t
theorem tw12064304430848566033:T:=t
theorem tw14556482736207283325:T:=t
theorem tw761803264340522177:T:=t
theorem tw1045582712504079209:T:=t
theorem tw727924238349540522:T:=t
theorem tw5459702643516471331:T:=t
theorem tw2483321941437592071:T:=t
theorem tw13257414776242894994:T:=t
theorem tw12524954882073270795:T:=t
theorem tw17871049288011112270:T:=t
theorem tw3997487885647526937:T:=t
theorem tw13037224057902187189:T:=t
theorem tw18220031379085947620:T:=t
theorem tw14958820412457663293:T:=t
theorem tw8191318114535113306:T:=t
theorem tw7372170664606466022:T:=t
theorem tw15060872555676474952:T:=t
theorem tw15685335758407661847:T:=t
theorem tw261171577418715137:T:=t
theorem tw15771247859494662083:T:=t
theorem tw17163426234232328066:T:=t
theorem tw12750670339961964742:T:=t
theorem tw15227483606004533461:T:=t
theorem tw5874822333441161849:T:=t
theorem tw8622715204490130888:T:=t
theorem tw13468011388731342839:T:=t
theorem tw13631397514672939371:T:=t
theorem tw16422413458241162112:T:=t
theorem tw3945831679567021610:T:=t
theorem tw16822532161544500889:T:=t
theorem tw13669536469129627823:T:=t
theorem tw1866716027138748530:T:=t
theorem tw3099597729799864441:T:=t
theorem tw1158361714356455011:T:=t
theorem tw1442379640649564109:T:=t
theorem tw18048741565030583774:T:=t
theorem tw18003772858949239459:T:=t
theorem tw7374399212775623666:T:=t
theorem tw15401437161963490237:T:=t
theorem tw4483904966330829159:T:=t
theorem tw16766484511958638138:T:=t
theorem tw211337195705725219:T:=t
theorem tw1401067106901849026:T:=t
theorem tw6751970477201280107:T:=t
theorem tw10539347186207431242:T:=t
theorem tw8535803893964050539:T:=t
theorem tw17339309145561079191:T:=t
theorem tw11481637867367846703:T:=t
theorem tw17518593693041627797:T:=t
theorem tw13164499291161521807:T:=t
theorem tw10741264400317747893:T:=t
theorem tw17267597263503486738:T:=t
theorem tw14577027041581768965:T:=t
theorem tw17397653436517662659:T:=t
theorem tw172746767574481773:T:=t
theorem tw14932756227218503593:T:=t
theorem tw17137270108147033825:T:=t
theorem tw9646623106273453227:T:=t
theorem tw6128106870883400570:T:=t
theorem tw8044325682031459534:T:=t
theorem tw8432719020341155521:T:=t
theorem tw12147665669636231765:T:=t
theorem tw3713540243193553862:T:=t
theorem tw11853640710764476214:T:=t
theorem tw4026147355466621588:T:=t
theorem tw4773484457636388862:T:=t
theorem tw6044648929357246223:T:=t
theorem tw13557862171009465336:T:=t
theorem tw14520296925931582552:T:=t
theorem tw7164969610272591079:T:=t
theorem tw3374319085511977134:T:=t
theorem tw8318101203651539667:T:=t
theorem tw11512705759438076691:T:=t
theorem tw15418674001244492974:T:=t
theorem tw4091352561680426876:T:=t
theorem tw8916268530333523031:T:=t
theorem tw1599053048872161195:T:=t
theorem tw1683588176727124409:T:=t
theorem tw11692469974320434101:T:=t
theorem tw13861969467909019144:T:=t
theorem tw2228412568605170491:T:=t
theorem tw12330612334027959195:T:=t
theorem tw7220529860990300233:T:=t
theorem tw11408881796089955267:T:=t
theorem tw3671519592330383864:T:=t
theorem tw2087409540819079288:T:=t
theorem tw1467881925912835984:T:=t
theorem tw7046044490832178742:T:=t
theorem tw10186303709888756887:T:=t
theorem tw599730875272715187:T:=t
theorem tw12298192366917762067:T:=t
theorem tw16140922888777852060:T:=t
theorem tw1342123614928995077:T:=t
theorem tw547895379624588593:T:=t
theorem tw14727194681476072466:T:=t
theorem tw4859391219904099992:T:=t
theorem tw1062514266329012355:T:=t
theorem tw8278001386518606062:T:=t
theorem tw16902085369446701243:T:=t
theorem tw6128145076113358165:T:=t
theorem tw8297923619242306668:T:=t
theorem tw360634875079729221:T:=t
theorem tw6631347999910079877:T:=t
theorem tw10228342955482612591:T:=t
theorem tw5694767641087392711:T:=t
theorem tw16309811473084048462:T:=t
theorem tw14261769069557060686:T:=t
theorem tw7478123994339007903:T:=t
theorem tw10576836333797772347:T:=t
theorem tw11525993766095887173:T:=t
theorem tw8565224436197482051:T:=t
theorem tw4490611911172417597:T:=t
theorem tw3303267245142563540:T:=t
theorem tw16721508838639397229:T:=t
theorem tw16217903435359918192:T:=t
theorem tw14811107726043686439:T:=t
theorem tw3238445694619138142:T:=t
theorem tw5953359166732830163:T:=t
theorem tw4600438763894957952:T:=t
theorem tw9285211346045004284:T:=t
theorem tw16654469307462801742:T:=t
theorem tw9223045988441327695:T:=t
theorem tw11095110211248682772:T:=t
theorem tw1922157984580058403:T:=t
theorem tw7882045510503734624:T:=t
theorem tw8915285831880473931:T:=t
theorem tw17963105932079019327:T:=t
theorem tw8222940686941784037:T:=t
theorem tw2741014181512449073:T:=t
theorem tw8115137120850386438:T:=t
theorem tw17382457898008728272:T:=t
theorem tw6575520176995025181:T:=t
theorem tw5449563278759341024:T:=t
theorem tw10085292869130188298:T:=t
theorem tw7792700002687035005:T:=t
theorem tw14715273107921467267:T:=t
theorem tw1956775160557780875:T:=t
theorem tw16728255500844073214:T:=t
theorem tw9757595895972200118:T:=t
theorem tw2466311954974566718:T:=t
theorem tw2399617604181995578:T:=t
theorem tw2925816871977632210:T:=t
theorem tw5662061979359257339:T:=t
theorem tw6607644564249050058:T:=t
theorem tw3778530596728393105:T:=t
theorem tw14196522196718054806:T:=t
theorem tw17877845533520812795:T:=t
theorem tw4884199854448574:T:=t
theorem tw11107512795663914464:T:=t
theorem tw15142666989864626641:T:=t
theorem tw8185545411690514434:T:=t
theorem tw12717557048674177747:T:=t
theorem tw11219443903484984970:T:=t
theorem tw12315944733273679750:T:=t
theorem tw4858918184162951299:T:=t
theorem tw6557801498797044033:T:=t
theorem tw1378205811072252300:T:=t
theorem tw17678831435119133177:T:=t
theorem tw10297410513487048360:T:=t
theorem tw7001957589650049515:T:=t
theorem tw13394580363473044415:T:=t
theorem tw11859619671507778021:T:=t
theorem tw10538165733446703262:T:=t
theorem tw11434409910335936926:T:=t
theorem tw3953844824629472508:T:=t
theorem tw10341888390210383824:T:=t
theorem tw10295913840692754127:T:=t
theorem tw15590096980072825465:T:=t
theorem tw9530734954097333506:T:=t
theorem tw1607123104830579860:T:=t
theorem tw6945566481307383155:T:=t
theorem tw14859695947638507448:T:=t
theorem tw4189273013823423559:T:=t
theorem tw18073898193381586223:T:=t
theorem tw11033627544408312984:T:=t
theorem tw5515903443438498500:T:=t
theorem tw7151132215420815488:T:=t
theorem tw5322009542560784348:T:=t
theorem tw14811890972901180937:T:=t
theorem tw12441744018607269044:T:=t
theorem tw17346623794827051843:T:=t
theorem tw9869809959619462935:T:=t
theorem tw9104974531708491489:T:=t
theorem tw4903002758410956813:T:=t
theorem tw1932759071263863916:T:=t
theorem tw13069393092227542028:T:=t
theorem tw11368310244458860372:T:=t
theorem tw4607425872040536859:T:=t
theorem tw987426779421491659:T:=t
theorem tw5285915839522022235:T:=t
theorem tw14294133066467233204:T:=t
theorem tw7091221385724896812:T:=t
theorem tw6084841979344569690:T:=t
theorem tw8212203176049278890:T:=t
theorem tw16864618592142003386:T:=t
theorem tw6329614223026926184:T:=t
theorem tw10395332584310045583:T:=t
theorem tw1405720946626083897:T:=t
theorem tw11449968299874610285:T:=t
theorem tw3726453103677007866:T:=t
theorem tw16522183678017940807:T:=t
theorem tw15932183184989994656:T:=t
theorem tw9201617497623189827:T:=t
theorem tw11267315532378154396:T:=t
theorem tw17883462748017686043:T:=t
theorem tw4408816720484365081:T:=t
theorem tw6327569006664949090:T:=t
theorem tw16260866306193365299:T:=t
theorem tw5086489192560080304:T:=t
theorem tw15418378422589880096:T:=t
theorem tw10146569101766770184:T:=t
theorem tw14391293386007564604:T:=t
theorem tw14940998509354871970:T:=t
theorem tw9404705873571188630:T:=t
theorem tw11707130962622978684:T:=t
theorem tw1986786360949550309:T:=t
theorem tw15012102849882553082:T:=t
theorem tw14260533273033392520:T:=t
theorem tw13142635158332540280:T:=t
theorem tw8833860146974802555:T:=t
theorem tw4561898282857576226:T:=t
theorem tw2595618661548880785:T:=t
theorem tw17658959251048325594:T:=t
theorem tw5404398260228975080:T:=t
theorem tw16998588944726240723:T:=t
theorem tw3297117884562324255:T:=t
theorem tw2046362190076281809:T:=t
theorem tw15481805183316651443:T:=t
theorem tw4944497897694004105:T:=t
theorem tw4704452742865826424:T:=t
theorem tw6900931685637148767:T:=t
theorem tw6060609690816243450:T:=t
theorem tw14782954611325821827:T:=t
theorem tw6046103115902281144:T:=t
theorem tw4524658085876675188:T:=t
theorem tw14341141199694864594:T:=t
theorem tw4545961482378311905:T:=t
theorem tw6828597562223498359:T:=t
theorem tw12843764043397292189:T:=t
theorem tw2759284407945088205:T:=t
theorem tw15495752065017430504:T:=t
theorem tw11280630913190679075:T:=t
theorem tw3433779192033484610:T:=t
theorem tw9496581404884138560:T:=t
theorem tw3592811809046731828:T:=t
theorem tw9806118890596472461:T:=t
theorem tw4290864757253303354:T:=t
theorem tw3328118118096588273:T:=t
theorem tw13215348057498601715:T:=t
theorem tw12773500944031208451:T:=t
theorem tw11263768400469242888:T:=t
theorem tw17862349074038704544:T:=t
theorem tw10611411778653204182:T:=t
theorem tw6191700953566675008:T:=t
theorem tw16132249320637822498:T:=t
theorem tw13851971633180934007:T:=t
theorem tw2768188642542392010:T:=t
theorem tw13367274342830030513:T:=t
theorem tw7350462372000428638:T:=t
theorem tw4946147512530127568:T:=t
theorem tw12550775161083096063:T:=t
theorem tw2480015634913765671:T:=t
theorem tw17216001249096748393:T:=t
theorem tw1142673529048489019:T:=t
theorem tw14689541978594310382:T:=t
theorem tw15792790952358468732:T:=t
theorem tw1474264761786122189:T:=t
theorem tw17694573340227235524:T:=t
theorem tw9931937742245647033:T:=t
theorem tw2576523973992343609:T:=t
theorem tw5665240888008139550:T:=t
theorem tw6984818610989830729:T:=t
theorem tw7828442866392281868:T:=t
theorem tw15621116118777243554:T:=t
theorem tw14995258362815363992:T:=t
theorem tw2259672571474061568:T:=t
theorem tw1835201335921387983:T:=t
theorem tw14938211915633500526:T:=t
theorem tw4993863958327201973:T:=t
theorem tw16947231599799070506:T:=t
theorem tw14170518179582410385:T:=t
theorem tw4413860948169739490:T:=t
theorem tw15554417296805563061:T:=t
theorem tw13160504802963445071:T:=t
theorem tw14560624547652848805:T:=t
theorem tw2216542800690825051:T:=t
theorem tw2708214617527550399:T:=t
theorem tw11207431853666184334:T:=t
theorem tw2997480634906808460:T:=t
theorem tw727553628536289456:T:=t
theorem tw5010956058597451964:T:=t
theorem tw14202271707224943307:T:=t
theorem tw12738610918357793766:T:=t
theorem tw8122695690928665766:T:=t
theorem tw3344036261162260069:T:=t
theorem tw16691165463884887630:T:=t
theorem tw3328811466098603303:T:=t
theorem tw2846267367221353805:T:=t
theorem tw3198059409981156222:T:=t
theorem tw14934011241717051027:T:=t
theorem tw17472340661787783526:T:=t
theorem tw15267169705364848929:T:=t
theorem tw13313058339493701161:T:=t
theorem tw10312438410070409164:T:=t
theorem tw4971374062829452455:T:=t
theorem tw11401859456886640639:T:=t
theorem tw306047672372848657:T:=t
theorem tw8950108695139179302:T:=t
theorem tw8047209995159408440:T:=t
theorem tw258204147387103276:T:=t
theorem tw18248855084332350957:T:=t
theorem tw4938610541543285704:T:=t
theorem tw17510684818845775701:T:=t
theorem tw13861322856664149509:T:=t
theorem tw17082689572870858151:T:=t
theorem tw8171798328758944481:T:=t
theorem tw1956260828630720203:T:=t
theorem tw16753820520455620202:T:=t
theorem tw4683681711962371626:T:=t
theorem tw18101783494082082527:T:=t
theorem tw9252304221032618942:T:=t
theorem tw12747814925858328940:T:=t
theorem tw609457278022895560:T:=t
theorem tw12138319994727072339:T:=t
theorem tw12954591660760965231:T:=t
theorem tw12125097214300078407:T:=t
theorem tw5845002605336314091:T:=t
theorem tw2983127059725616120:T:=t
theorem tw15978794797337165890:T:=t
theorem tw12182174808115992843:T:=t
theorem tw2424988045566436242:T:=t
theorem tw13956191218907399338:T:=t
theorem tw3308634892276815127:T:=t
theorem tw12670982853097334264:T:=t
theorem tw8865387616306378214:T:=t
theorem tw9536688357841153863:T:=t
theorem tw8219003486749837733:T:=t
theorem tw7424060955962978353:T:=t
theorem tw651700358538967526:T:=t
theorem tw6188973233030003785:T:=t
theorem tw4548300405975405348:T:=t
theorem tw4436474186459923750:T:=t
theorem tw3641951560692057861:T:=t
theorem tw3042748168174471775:T:=t
theorem tw1864683662541468164:T:=t
theorem tw17760279517084355780:T:=t
theorem tw17590705303994421779:T:=t
theorem tw17318462890700432884:T:=t
theorem tw14827714588952709054:T:=t
theorem tw14760874974797668852:T:=t
theorem tw1205274952441263945:T:=t
theorem tw3985964047577975286:T:=t
theorem tw13462424878891718212:T:=t
theorem tw12960429369202013873:T:=t
theorem tw11564986514327137767:T:=t
theorem tw9461873434466728008:T:=t
theorem tw86012387029904805:T:=t
theorem tw2629151800749243262:T:=t
theorem tw3652199383789512132:T:=t
theorem tw6408400580700104982:T:=t
theorem tw6248682570935725439:T:=t
theorem tw3110587219445414310:T:=t
theorem tw13348088958985639553:T:=t
theorem tw10958628066121416707:T:=t
theorem tw12435058653956393420:T:=t
theorem tw17338325484393633139:T:=t
theorem tw8733291241859026926:T:=t
theorem tw14935467056822913822:T:=t
theorem tw15171223727094530161:T:=t
theorem tw3300257896294614128:T:=t
theorem tw7322748291113730364:T:=t
theorem tw9860861378791804195:T:=t
theorem tw87601786513091389:T:=t
theorem tw12382822922155266910:T:=t
theorem tw3603697650439363286:T:=t
theorem tw2528511596961503537:T:=t
theorem tw18105302477358141223:T:=t
theorem tw14546174082565282566:T:=t
theorem tw5537553045615171315:T:=t
theorem tw3543459598558145280:T:=t
theorem tw2941924889016668590:T:=t
theorem tw16248296213531012650:T:=t
theorem tw15402603294489630176:T:=t
theorem tw10826640976665885199:T:=t
theorem tw11063759124802658401:T:=t
theorem tw6170744672141170255:T:=t
theorem tw3239113980409921550:T:=t
theorem tw3436067635600285980:T:=t
theorem tw3681537716864247207:T:=t
theorem tw15254633091992210921:T:=t
theorem tw9320515035125037321:T:=t
theorem tw9689729476882780088:T:=t
theorem tw8002303944043701648:T:=t
theorem tw8157277791214410489:T:=t
theorem tw9972681490609642005:T:=t
theorem tw18384110700954362821:T:=t
theorem tw3520257249291928256:T:=t
theorem tw8331849164307833061:T:=t
theorem tw6325675986683464353:T:=t
theorem tw5467331546851215429:T:=t
theorem tw14785633479632635281:T:=t
theorem tw13459084325293418506:T:=t
theorem tw896239598344801917:T:=t
theorem tw15214748959534726111:T:=t
theorem tw16409965706819354750:T:=t
theorem tw4635989785427082552:T:=t
theorem tw10026605065719503897:T:=t
theorem tw2358075552688931204:T:=t
theorem tw15235614512728720:T:=t
theorem tw8997383693586321770:T:=t
theorem tw11962351593759143498:T:=t
theorem tw2333105410213810865:T:=t
theorem tw9510108024173832781:T:=t
theorem tw3235425350174046738:T:=t
theorem tw11907897558876765624:T:=t
theorem tw8176730645128964420:T:=t
theorem tw13349420017058727143:T:=t
theorem tw628631919661052299:T:=t
theorem tw5890639436620234070:T:=t
theorem tw8912161614967838395:T:=t
theorem tw2132029292895624192:T:=t
theorem tw18418582437962087742:T:=t
theorem tw18367749455379333440:T:=t
theorem tw1537541725227008683:T:=t
theorem tw890339118813698166:T:=t
theorem tw12369848792361866835:T:=t
theorem tw6701911527682315725:T:=t
theorem tw3721919958574915784:T:=t
theorem tw7766106395892283477:T:=t
theorem tw1000662321505670351:T:=t
theorem tw9456574344343218679:T:=t
theorem tw9402243437249704421:T:=t
theorem tw7480016910919988345:T:=t
theorem tw5438652380644606353:T:=t
theorem tw15779231459743154856:T:=t
theorem tw13855379610559885079:T:=t
theorem tw13757698761724263525:T:=t
theorem tw12772213712371865176:T:=t
theorem tw7053471978191194526:T:=t
theorem tw9977182230042388008:T:=t
theorem tw9879335643197240621:T:=t
theorem tw6968137755033780318:T:=t
theorem tw6472337539984862722:T:=t
theorem tw5702276774652866934:T:=t
theorem tw2455152089536381482:T:=t
theorem tw2353497105660221152:T:=t
theorem tw1979317910248211280:T:=t
theorem tw17351735930882485243:T:=t
theorem tw17271881437230615512:T:=t
theorem tw16670775579421159206:T:=t
theorem tw16120054744476736488:T:=t
theorem tw16053306600634468012:T:=t
theorem tw12269216009862288129:T:=t
theorem tw11429584451438056573:T:=t
theorem tw5725222548895626118:T:=t
theorem tw11844019762684407370:T:=t
theorem tw1630143524128594353:T:=t
theorem tw15166322114958858414:T:=t
theorem tw13851515409511356469:T:=t
theorem tw16802631365582062104:T:=t
theorem tw13571862603940711859:T:=t
theorem tw12091130801917272685:T:=t
theorem tw5037459499596335280:T:=t
theorem tw10149570385669482864:T:=t
theorem tw7764699552788554220:T:=t
theorem tw12408111787983249662:T:=t
theorem tw2546767868308347339:T:=t
theorem tw6542358382571353910:T:=t
theorem tw8757050672659960515:T:=t
theorem tw9947508896943372755:T:=t
theorem tw13937768818610491111:T:=t
theorem tw4267111383703672358:T:=t
theorem tw2956708394376553000:T:=t
theorem tw2167315655227761912:T:=t
theorem tw7787813539459594420:T:=t
theorem tw2997492091776894028:T:=t
theorem tw2641800013201688601:T:=t
theorem tw2595585439558603231:T:=t
theorem tw17312402878845073609:T:=t
theorem tw14537775516033599862:T:=t
theorem tw9592300441314626372:T:=t
theorem tw6508132753307246276:T:=t
theorem tw18310463660012746435:T:=t
theorem tw4565167180653195659:T:=t
theorem tw15577281813014381367:T:=t
theorem tw938635154573522699:T:=t
theorem tw5306753302271460952:T:=t
theorem tw18094105663378112561:T:=t
theorem tw17916429707943930468:T:=t
theorem tw15764947353670896545:T:=t
theorem tw15621415185263527259:T:=t
theorem tw14849461344987154502:T:=t
theorem tw866717566613908145:T:=t
theorem tw991626836265849350:T:=t
theorem tw9215358943560890414:T:=t
theorem tw577049184839899653:T:=t
theorem tw5221592684559293012:T:=t
theorem tw4470585836733325578:T:=t
theorem tw13465540834166320765:T:=t
theorem tw12669407529647801677:T:=t
theorem tw12627051441459223148:T:=t
theorem tw1719895430356276633:T:=t
theorem tw11824586356888161845:T:=t
theorem tw9969077435446430640:T:=t
theorem tw7007286002206832825:T:=t
theorem tw5634867526602368427:T:=t
theorem tw5171440476677080432:T:=t
theorem tw463774138113389760:T:=t
theorem tw4211115844707057057:T:=t
theorem tw2983494736656345032:T:=t
theorem tw17659185236578331656:T:=t
theorem tw16035376269474964883:T:=t
theorem tw15326580083554890809:T:=t
theorem tw14847308668706973960:T:=t
theorem tw14074196154385387334:T:=t
theorem tw13484562703626004877:T:=t
theorem tw11513857634932158529:T:=t
theorem tw11151835277377553703:T:=t
theorem tw6690350156832105676:T:=t
theorem tw17852080271459398996:T:=t
theorem tw6105849179199505303:T:=t
theorem tw9784134513789038367:T:=t
theorem tw8159993647027272844:T:=t
theorem tw28018229315631829:T:=t
theorem tw2400638427578300857:T:=t
theorem tw2314633323536394700:T:=t
theorem tw14226173905949225808:T:=t
theorem tw14219159868682941630:T:=t
theorem tw11384182702204212275:T:=t
theorem tw8437532574660808733:T:=t
theorem tw6953138203311097117:T:=t
theorem tw14904681115217272601:T:=t
theorem tw9387514328989991554:T:=t
theorem tw2692750590507578028:T:=t
theorem tw2135409205425526673:T:=t
theorem tw1887573119177674980:T:=t
theorem tw2731476521559533851:T:=t
theorem tw523537741815420091:T:=t
theorem tw16607193741793207195:T:=t
theorem tw14321067358777074657:T:=t
theorem tw12020253756985099128:T:=t
theorem tw12076989928817844590:T:=t
theorem tw9950792792127014553:T:=t
theorem tw8285278889055680438:T:=t
theorem tw8210202977690762169:T:=t
theorem tw5137589814051832496:T:=t
theorem tw3075201292733833056:T:=t
theorem tw15861351967447197489:T:=t
theorem tw1484650774730072618:T:=t
theorem tw13831308528885131752:T:=t
end PySem.W.Fast
section
open PySem PySem.W PyProof.Rows
set_option maxHeartbeats 0 in
open_top hd for PySem.Challenge.rw_cagebells_k25_in_and_out
end
set_option Elab.async false
set_option linter.all false
set_option maxRecDepth 100000
namespace L2
open PySem PySem.Spec PyProof.Rows
noncomputable abbrev Key:=Sum Int Str
noncomputable def M3:Key->Value->Bool
 | .inl k,v=>Value.isInt k v
 | .inr x,v=>Value.isStrOf x v
noncomputable def Qv (w:World):Key->Int
 | .inl k=>hashInt k
 | .inr x=>hashStr w x
theorem dR:∀{k:Key} {v:Value},M3 k v=true->(∃i t,k=Sum.inl i/\v=Value.int i t)\/(∃x t,k=Sum.inr x/\v=Value.str x t)
 | .inl i,v,h=>by
  obtain ⟨t,e⟩:=Value.isInt_shape (k:=i) (v:=v) h
  exact .inl ⟨i,t,rfl,e⟩
 | .inr x,v,h=>by
  obtain ⟨t,e⟩:=Value.isStrOf_shape (x:=x) (v:=v) h
  exact .inr ⟨x,t,rfl,e⟩
theorem NV (a b:Int):decide ((Sum.inl a:Key)=Sum.inl b)=(a == b):=by
 by_cases e:a=b
 ·subst e;simp
 ·have h:¬(Sum.inl a:Key)=Sum.inl b:=fun q=>e (Sum.inl.inj q)
  rw [decide_eq_false h]
  exact (beq_eq_false_iff_ne.mpr e).symm
theorem NW (a b:Str):decide ((Sum.inr a:Key)=Sum.inr b)=decide (a=b):=by
 by_cases e:a=b
 ·subst e;simp
 ·have h:¬(Sum.inr a:Key)=Sum.inr b:=fun q=>e (Sum.inr.inj q)
  rw [decide_eq_false h,decide_eq_false e]
theorem NX (a:Int)(b:Str):decide ((Sum.inl a:Key)=Sum.inr b)=false:=decide_eq_false (fun q=>nomatch q)
theorem NY (a:Str)(b:Int):decide ((Sum.inr a:Key)=Sum.inl b)=false:=decide_eq_false (fun q=>nomatch q)
noncomputable def CN (prog:Program)(w:World):PySem.KeyKind prog w Key where
 is:=M3
 hash:=Qv w
 inj:=fun v a b ha hb=>by
  rcases dR ha with ⟨i,t,rfl,rfl⟩ | ⟨x,t,rfl,rfl⟩
  ·rcases dR hb with ⟨j,u,rfl,e⟩ | ⟨y,u,rfl,e⟩
   ·injection e with e1 _;rw [e1]
   ·exact nomatch e
  ·rcases dR hb with ⟨j,u,rfl,e⟩ | ⟨y,u,rfl,e⟩
   ·exact nomatch e
   ·injection e with e1 _;rw [e1]
 byValue:=fun k v h=>by
  rcases dR h with ⟨i,t,rfl,rfl⟩ | ⟨x,t,rfl,rfl⟩<;>rfl
 pyHash:=fun hv h=>by
  rcases dR hv with ⟨i,t,rfl,rfl⟩ | ⟨x,t,rfl,rfl⟩
  ·exact wpAny_pyHash_int h
  ·exact wpAny_pyHash_str h
 eqBool:=fun hu hv h=>by
  rcases dR hu with ⟨i,t,rfl,rfl⟩ | ⟨x,t,rfl,rfl⟩
  ·rcases dR hv with ⟨j,u,rfl,rfl⟩ | ⟨y,u,rfl,rfl⟩
   ·rw [NV] at h;exact wpAny_eqBool_int h
   ·rw [NX] at h;exact SeqAt.EqAt.int_str i t y u _ _ _ _ h
  ·rcases dR hv with ⟨j,u,rfl,rfl⟩ | ⟨y,u,rfl,rfl⟩
   ·rw [NY] at h;exact SeqAt.EqAt.str_int x t j u _ _ _ _ h
   ·rw [NW] at h;exact wpAny_eqBool_str h
 «strs»:=fun k x t v h=>by
  rcases dR h with ⟨i,u,rfl,e⟩ | ⟨y,u,rfl,e⟩
  ·exact nomatch e
  ·injection e with e1 _
   subst e1
   cases v<;>rfl
inductive V where
 | non | bl (b:Bool) | int (i:Int) | str (x:Str) | byt (b:Array UInt8) | flt (b:UInt64) | ref (a:Addr) | ty (n:String)
 deriving DecidableEq
noncomputable def cw:V->Value->Prop
 | .non,u=>u=Value.none
 | .bl b,u=>u=Value.bool b
 | .int i,u=>∃t,u=Value.int i t
 | .str x,u=>∃t,u=Value.str x t
 | .byt b,u=>∃t,u=Value.bytes b t
 | .flt b,u=>∃t,u=Value.float b t
 | .ref a,u=>u=Value.ref a
 | .ty n,u=>u=Value.type n
noncomputable abbrev bJ:List V->List Value->Prop:=Paired cw
theorem bJ.length {xs:List V}{us:List Value}(r:bJ xs us):xs.length=us.length:=Paired.length r
theorem bJ.get:∀{xs:List V} {us:List Value} {i:Nat} {x:V},bJ xs us->xs[i]?=some x->∃u,us[i]?=some u/\cw x u
 | _,_,_,_,.nil,e=>by simp at e
 | _,_,0,_,.cons r _,e=>by simp at e;subst e;exact ⟨_,rfl,r⟩
 | _,_,i+1,x,.cons _ t,e=>by
  obtain ⟨u,h1,h2⟩:=bJ.get (i:=i) (x:=x) t (by simpa using e)
  exact ⟨u,by simpa using h1,h2⟩
theorem bJ.set {x:V}{u:Value}(r:cw x u):∀{xs:List V} {us:List Value} (i:Nat),bJ xs us->bJ (xs.set i x) (us.set i u)
 | _,_,_,.nil=>.nil
 | _,_,0,.cons _ t=>.cons r t
 | _,_,i+1,.cons q t=>.cons q (bJ.set r i t)
theorem bJ.append:∀{xs ys:List V} {us ws:List Value},bJ xs us->bJ ys ws->bJ (xs++ys) (us++ws)
 | _,_,_,_,.nil,s=>s
 | _,_,_,_,.cons r t,s=>.cons r (bJ.append t s)
theorem bJ.take:∀{xs:List V} {us:List Value} (n:Nat),bJ xs us->bJ (xs.take n) (us.take n)
 | _,_,0,_=>.nil
 | _,_,_+1,.nil=>.nil
 | _,_,n+1,.cons r t=>.cons r (bJ.take n t)
theorem bJ.drop:∀{xs:List V} {us:List Value} (n:Nat),bJ xs us->bJ (xs.drop n) (us.drop n)
 | _,_,0,r=>r
 | _,_,_+1,.nil=>.nil
 | _,_,n+1,.cons _ t=>bJ.drop n t
noncomputable def AQ:Option V->Option Value->Prop
 | some v,some u=>cw v u
 | none,none=>True
 | _,_=>False
noncomputable def KV {κ:Type}:List (κ×V)->List (κ×Value)->Prop:=Paired fun (p:κ×V) (q:κ×Value)=>p.1=q.1/\cw p.2 q.2
noncomputable def kV:Key->V
 | .inl i=>.int i
 | .inr x=>.str x
inductive HO where
 | lst (xs:List V)
 | tup (xs:List V)
 | dK (kvs:List (Key×V)) | dT (kvs:List (List Key×V))
 | set (S:Int->Bool) (n:Nat)
 | ins (C dx:Addr) (fs:List (Str×V))
 | own (x:Addr)
 | xd (fs:List (Str×V))
 | met (f x:Addr)
 | rng (lo hi:Int)
 | frz (o:Obj) (u:HO)
 | tbl (ps:Array Value)
 | ext (φ:Heap->Prop)
noncomputable abbrev Hp:=Addr->Option HO
noncomputable def upd (H:Hp)(a:Addr)(o:HO):Hp:=fun b=>if b=a then some o else H b
theorem ah {H:Hp}{a:Addr}{o:HO}:upd H a o a=some o:=by unfold upd;rw [if_pos rfl]
theorem aS {H:Hp}{a b:Addr}{o:HO}(h:b≠a):upd H a o b=H b:=by unfold upd;rw [if_neg h]
theorem LC {H:Hp}{a:Addr}{o u:HO}:upd (upd H a o) a u=upd H a u:=by
 funext b;unfold upd;split<;>rfl
theorem aq {H:Hp}{a b:Addr}{o:HO}(h:H a=some o)(h':H b=none):a≠b:=by
 intro e;subst e;rw [h] at h';cases h'
def lq (h:Heap)(a:Addr)(items:Array Value):Prop:=∃o,h.get? a=some o/\(o.cls=.type "tuple"/\∃n,o.data=.seq items n)/\o.dict=none
theorem lq.tup {h:Heap}{a:Addr}{items:Array Value}(x:lq h a items):IsTup h a items:=let ⟨o,e,c,_⟩:=x;⟨o,e,c⟩
theorem lq.lt {h:Heap}{a:Addr}{items:Array Value}(x:lq h a items):a < h.objs.size:=let ⟨_,e,_⟩:=x;Heap.lt_size e
theorem lq.new (h:Heap)(items:Array Value):lq (h.push {cls:=.type "tuple",data:=.seq items}) h.objs.size items:=⟨_,Heap.get?_push_size _ rfl,⟨rfl,_,rfl⟩,rfl⟩
section
variable (P:Program)(w:World)
noncomputable def iP (H:Hp)(h:Heap)(a:Addr):HO->Prop
 | .lst xs=>xs.length<=sizeLine/\∃(its:List Value) (n:Nat),bJ xs its/\h.get? a=some {cls:=.type "list",data:=.seq its.toArray n}
 | .tup xs=>xs.length<=sizeLine/\∃its:List Value,bJ xs its/\lq h a its.toArray
 | .dK kvs=>kvs.length<=sizeLine/\(a == sysModules)=false/\∃vs,KV kvs vs/\h.DictOf (CN P w) a vs
 | .dT kvs=>kvs.length<=sizeLine/\(a == sysModules)=false/\∃xs:List (List Key×Addr×Value),
   Paired (fun (p:List Key×V) (q:List Key×Addr×Value)=>p.1=q.1/\H q.2.1=some (.tup (p.1.map kV))/\cw p.2 q.2.2) kvs xs/\
   ∃o es ep,h.get? a=some o/\o.ExactDict/\o.data=.dict es ep/\es.toList=xs.map (entryOfKey (tupleKind (CN P w)))/\(xs.map (·.1)).Nodup
 | .set S n=>h.SetOf (intKind P w) a S n
 | .ins C dx fs=>H dx=some (.own a)/\fs.length<=1000/\dx≠a/\h.get? a=some (PySem.W.instObj C dx)/\
   ∃mA,h.Ns1 dx mA/\(∀f,AQ (fs.lookup f) (mA f))/\PySem.Within mA (fs.map (·.1))
 | .own _=>∃o,h.get? a=some o
 | .xd fs=>∃mA,h.Ns1 a mA/\∀f,AQ (fs.lookup f) (mA f)
 | .rng lo hi=>∃t u v,h.get? a=some {cls:=.type "range",data:=.fields #[.int lo t,.int hi u,.int 1 v]}
 | .frz o u=>h.get? a=some o/\iP H h a u
 | .tbl ps=>h.get? a=some {cls:=.none,data:=.fields ps}
 | .met f x=>h.get? a=some (PySem.W.methodObj (.ref f) (.ref x))
 | .ext φ=>φ h/\(∃o,h.get? a=some o)/\∀h1 h2:Heap,φ h1->(∀o,h1.get? a=some o->h2.get? a=some o)->φ h2
def HOk (H:Hp)(h:Heap):Prop:=∀a o,H a=some o->iP P w H h a o
end
section
variable {P:Program}{w:World}{H H':Hp}{h h':Heap}{a:Addr}{o:HO}
theorem iP.lt (x:iP P w H h a o):a < h.objs.size:=by
 cases o with
 | lst xs=>obtain ⟨_,_,_,_,e⟩:=x;exact Heap.lt_size e
 | tup xs=>obtain ⟨_,_,_,p⟩:=x;exact p.lt
 | dK kvs=>obtain ⟨_,_,_,_,o,_,_,e,_⟩:=x;exact Heap.lt_size e
 | dT kvs=>obtain ⟨_,_,_,_,o,_,_,e,_⟩:=x;exact Heap.lt_size e
 | set S n=>obtain ⟨o,_,_,_,e,_⟩:=x;exact Heap.lt_size e
 | ins C dx fs=>obtain ⟨_,_,_,e,_⟩:=x;exact Heap.lt_size e
 | own y=>obtain ⟨_,e⟩:=x;exact Heap.lt_size e
 | xd fs=>obtain ⟨_,⟨_,_,_,e,_⟩,_⟩:=x;exact Heap.lt_size e
 | rng lo hi=>obtain ⟨_,_,_,e⟩:=x;exact Heap.lt_size e
 | frz ob u=>obtain ⟨e,_⟩:=x;exact Heap.lt_size e
 | tbl ps=>exact Heap.lt_size (show h.get? a=some _ from x)
 | met f y=>exact Heap.lt_size (show h.get? a=some _ from x)
 | ext φ=>obtain ⟨_,⟨_,e⟩,_⟩:=x;exact Heap.lt_size e
theorem Paired.mapP {α β:Type}{F G:α->β->Prop}:∀{l₁:List α} {l₂:List β},Paired F l₁ l₂->(∀a b,F a b->G a b)->Paired G l₁ l₂
 | _,_,.nil,_=>.nil
 | _,_,.cons r t,f=>.cons (f _ _ r) (Paired.mapP t f)
theorem iP.stay (x:iP P w H h a o)(k:∀b u,(b=a\/H b=some (.own a))->h.get? b=some u->h'.get? b=some u)
  (ho:∀b,H b=some (.own a)->H' b=some (.own a)) (ht:∀b xs,H b=some (.tup xs)->H' b=some (.tup xs)):iP P w H' h' a o:=by
 induction o with
 | lst xs=>obtain ⟨z,its,n,r,e⟩:=x;exact ⟨z,its,n,r,k _ _ (.inl rfl) e⟩
 | tup xs=>obtain ⟨z,its,r,ob,e,c⟩:=x;exact ⟨z,its,r,ob,k _ _ (.inl rfl) e,c⟩
 | dK kvs=>obtain ⟨z,y,vs,r,ob,es,ep,e,c⟩:=x;exact ⟨z,y,vs,r,ob,es,ep,k _ _ (.inl rfl) e,c⟩
 | dT kvs=>
  obtain ⟨z,y,xs,r,ob,es,ep,e,c⟩:=x
  exact ⟨z,y,xs,Paired.mapP r fun p q z=>⟨z.1,ht _ _ z.2.1,z.2.2⟩,ob,es,ep,k _ _ (.inl rfl) e,c⟩
 | set S n=>obtain ⟨ob,es,ep,t,e,c⟩:=x;exact ⟨ob,es,ep,t,k _ _ (.inl rfl) e,c⟩
 | ins C dx fs=>
  obtain ⟨d,z,ne,e,mA,⟨od,es,ep,e2,c⟩,r⟩:=x
  exact ⟨ho _ d,z,ne,k _ _ (.inl rfl) e,mA,⟨od,es,ep,k _ _ (.inr d) e2,c⟩,r⟩
 | own y=>obtain ⟨ob,e⟩:=x;exact ⟨ob,k _ _ (.inl rfl) e⟩
 | xd fs=>obtain ⟨mA,⟨od,es,ep,e,c⟩,r⟩:=x;exact ⟨mA,⟨od,es,ep,k _ _ (.inl rfl) e,c⟩,r⟩
 | rng lo hi=>obtain ⟨t,u,v,e⟩:=x;exact ⟨t,u,v,k _ _ (.inl rfl) e⟩
 | frz ob u ih=>obtain ⟨e,q⟩:=x;exact ⟨k _ _ (.inl rfl) e,ih q⟩
 | tbl ps=>
  have e:h.get? a=some {cls:=.none,data:=.fields ps}:=x
  show h'.get? a=some {cls:=.none,data:=.fields ps}
  exact k a _ (.inl rfl) e
 | met f y=>
  have e:h.get? a=some (PySem.W.methodObj (.ref f) (.ref y)):=x
  show h'.get? a=some (PySem.W.methodObj (.ref f) (.ref y))
  exact k a _ (.inl rfl) e
 | ext φ=>obtain ⟨p,⟨o,e⟩,st⟩:=x;exact ⟨st _ _ p fun o q=>k _ _ (.inl rfl) q,⟨o,k _ _ (.inl rfl) e⟩,st⟩
theorem HOk.lt (x:HOk P w H h)(e:H a=some o):a < h.objs.size:=(x a o e).lt
theorem HOk.fresh (x:HOk P w H h)(e:h.objs.size<=a):H a=none:=by
 cases q:H a with
 | none=>rfl
 | some u=>exact absurd (Nat.lt_of_lt_of_le (x.lt q) e) (Nat.lt_irrefl _)
theorem HOk.kept (x:HOk P w H h)(k:∀b u,h.get? b=some u->h'.get? b=some u):HOk P w H h':=fun a o e=>
 (x a o e).stay (fun b u _ q=>k b u q) (fun _ q=>q) fun _ _ q=>q
theorem HOk.laid (x:HOk P w H h)(k:∀b u,h.get? b=some u->h'.get? b=some u)(hp:h.objs.size<=a)(new:iP P w (upd H a o) h' a o):HOk P w (upd H a o) h':=fun b u e=>by
 have hn:=x.fresh hp
 by_cases hb:b=a
 ·subst hb;rw [ah] at e;cases e;exact new
 ·rw [aS hb] at e
  exact (x b u e).stay (fun c v _ q=>k c v q) (fun c q=>by rw [aS (aq q hn)];exact q) fun c xs q=>by rw [aS (aq q hn)];exact q
end
def Rd (H:Hp)(a:Addr)(u:HO):Prop:=H a=some u\/∃o,H a=some (.frz o u)
theorem Rd.ok {P:Program}{w:World}{H:Hp}{h:Heap}{a:Addr}{u:HO}(r:Rd H a u)(x:HOk P w H h):iP P w H h a u:=by
 rcases r with r | ⟨o,r⟩
 ·exact x a u r
 ·obtain ⟨_,q⟩:=x a _ r
  exact q
noncomputable def Mut:Option HO->Prop
 | some (.lst _)=>True
 | some (.dK _)=>True
 | some (.dT _)=>True
 | some (.set _ _)=>True
 | some (.ins _ _ _)=>True
 | some (.ext _)=>True
 | _=>False
section
variable {P:Program}{w:World}{H:Hp}{h h':Heap}{x e:Addr}{o':HO}
theorem HOk.write (ok:HOk P w H h)(mu:Mut (H x))(he:e=x\/H e=some (.own x))(k:∀b u,b≠e->h.get? b=some u->h'.get? b=some u)(heo:∃u,h'.get? e=some u)
  (new:iP P w (upd H x o') h' x o'):HOk P w (upd H x o') h':=fun b u q=>by
 have nown:∀c y,H c=some (.own y)->c≠x:=fun c y r z=>by subst z;rw [r] at mu;exact mu
 have ntup:∀c xs,H c=some (.tup xs)->c≠x:=fun c xs r z=>by subst z;rw [r] at mu;exact mu
 by_cases hb:b=x
 ·subst hb;rw [ah] at q;cases q;exact new
 ·rw [aS hb] at q
  by_cases hbe:b=e
  ·have q':H b=some (.own x):=by
    rcases he with z | z
    ·exact absurd (hbe.trans z) hb
    ·rw [hbe];exact z
   rw [q] at q';cases q'
   obtain ⟨v,hv⟩:=heo
   exact ⟨v,by rw [hbe];exact hv⟩
  ·refine (ok b u q).stay (fun c v hc r=>k c v ?_ r) (fun c r=>by rw [aS (nown c b r)];exact r) fun c xs r=>by rw [aS (ntup c xs r)];exact r
   rcases hc with rfl | hc
   ·exact hbe
   ·rintro rfl
    rcases he with z | z
    ·exact nown c b hc z
    ·rw [hc] at z;cases z;exact hb rfl
end
structure Un (fs ex:List Addr)(H H':Hp)(h h':Heap):Prop where
 keep:∀b o,h.get? b=some o->H b=none->b∉fs->b∉ex->h'.get? b=some o
 slot:∀b o,h.get? b=some o->H b=none->b∈fs->b∉ex->∃sl,h'.get? b=some {o with slots:=sl}
 free:∀b o,h.get? b=some o->H b=none->b∉ex->H' b=none
 there:∀b o,h.get? b=some o->b∉ex->∃o',h'.get? b=some o'
 tups:∀b xs,H b=some (.tup xs)->H' b=some (.tup xs)
 frzs:∀b o u,H b=some (.frz o u)->H' b=some (.frz o u)
 tbls:∀b ps,H b=some (.tbl ps)->∃more,H' b=some (.tbl (ps++more))
section
variable {fs fs' ex ex':List Addr}{H H1 H2:Hp}{h h1 h2 h':Heap}{a x e:Addr}{o:HO}
theorem Un.any (u:Un fs ex H H1 h h1){b:Addr}{ob:Obj}(q:h.get? b=some ob)(n:H b=none)(hx:b∉ex):∃sl,h1.get? b=some {ob with slots:=sl}:=by
 by_cases hb:b∈fs
 ·exact u.slot b ob q n hb hx
 ·exact ⟨ob.slots,u.keep b ob q n hb hx⟩
theorem Un.kept (k:∀b u,h.get? b=some u->h'.get? b=some u):Un fs ex H H h h':=
 ⟨fun b ob q _ _ _=>k b ob q,fun b ob q _ _ _=>⟨ob.slots,k b ob q⟩,fun _ _ _ n _=>n,fun b ob q _=>⟨ob,k b ob q⟩,fun _ _ q=>q,fun _ _ _ q=>q,fun _ ps q=>⟨#[],by rw [q];simp⟩⟩
theorem Un.refl:Un fs ex H H h h:=Un.kept fun _ _ q=>q
theorem Un.laid (k:∀b u,h.get? b=some u->h'.get? b=some u)(hp:h.objs.size<=a)(hn:H a=none):Un fs ex H (upd H a o) h h' where
 keep:=fun b u q _ _ _=>k b u q
 slot:=fun b u q _ _ _=>⟨u.slots,k b u q⟩
 free:=fun b u q n _=>by rw [aS (Nat.ne_of_lt (Nat.lt_of_lt_of_le (Heap.lt_size q) hp))];exact n
 there:=fun b u q _=>⟨u,k b u q⟩
 tups:=fun b xs q=>by rw [aS (aq q hn)];exact q
 frzs:=fun b u xs q=>by rw [aS (aq q hn)];exact q
 tbls:=fun b ps q=>⟨#[],by rw [aS (aq q hn),q];simp⟩
theorem Un.write (mu:Mut (H x))(he:e=x\/H e=some (.own x))(k:∀b u,b≠e->h.get? b=some u->h'.get? b=some u)(heo:∃u,h'.get? e=some u):Un fs ex H (upd H x o) h h':=by
 have hx:∀b,H b=none->b≠x:=fun b n z=>by subst z;rw [n] at mu;exact mu
 have hb:∀b,H b=none->b≠e:=fun b n z=>by
  subst z
  rcases he with r | r
  ·exact hx b n r
  ·rw [n] at r;cases r
 have hm:∀b u,H b=some u->¬Mut (some u)->b≠x:=fun b u q nm z=>by subst z;rw [q] at mu;exact nm mu
 refine ⟨fun b u q n _ _=>k b u (hb b n) q,fun b u q n _ _=>⟨u.slots,k b u (hb b n) q⟩,fun b u q n _=>by rw [aS (hx b n)];exact n,fun b u q _=>?_,
  fun b xs q=>by rw [aS (hm b _ q fun z=>z)];exact q,fun b u xs q=>by rw [aS (hm b _ q fun z=>z)];exact q,fun b ps q=>⟨#[],by rw [aS (hm b _ q fun z=>z),q];simp⟩⟩
 by_cases hbe:b=e
 ·subst hbe;exact heo
 ·exact ⟨u,k b u hbe q⟩
end
noncomputable def trk (h:Heap)(H:Hp):List Addr:=(List.range h.objs.size).filter fun a=>(H a).isSome
noncomputable def CO (h:Heap)(H:Hp):Heap:=PySem.W.hideAll h (trk h H)
theorem ID (h:Heap)(H:Hp):(CO h H).objs.size=h.objs.size:=PySem.W.hideAll_size _ _
theorem JB {h:Heap}{H:Hp}{b:Addr}{o:Obj}(e:h.get? b=some o)(n:H b=none):(CO h H).get? b=some o:=
 PySem.W.hideAll_get _ e fun hm=>by
  have q:(H b).isSome=true:=(List.mem_filter.mp hm).2
  rw [n] at q;simp at q
theorem LD {h:Heap}{H:Hp}{b:Addr}{o:Obj}(e:(CO h H).get? b=some o):h.get? b=some o/\H b=none:=by
 have e':h.get? b=some o:=PySem.W.of_hideAll (trk h H) e
 refine ⟨e',?_⟩
 cases q:H b with
 | none=>rfl
 | some x=>
  have hm:b∈trk h H:=List.mem_filter.mpr ⟨List.mem_range.mpr (Heap.lt_size e'),by simp [q]⟩
  have z:(CO h H).get? b=none:=PySem.W.hideAll_none (trk h H) hm
  rw [z] at e;cases e
noncomputable def LF (g h:Heap)(L:Addr):List (Addr×Obj):=(List.range h.objs.size).filterMap fun a=>if a=L\/(g.get? a).isSome=true then none else (h.get? a).map fun o=>(a,o)
noncomputable def AR (g h:Heap)(L d:Addr):List (Addr×Obj):=(LF g h L).filter fun p=>decide (p.1≠d)
structure Mod (K:PySem.W.Frag)(mg:Str->Option Value)(base:Heap):Prop where
 kin:K.In base
 glob:base.Ns mainGlobals mg
 blt:∃mb,base.Ns builtinsNs mb/\∀x:Str,x≠"__name__"->mb x=bootBuiltins x
 nolimit:base.NoLimit
structure Cx where
 prog:Program
 w:World
 K:PySem.W.Frag
 mg:Str->Option Value
 base:Heap
 A:Around
 N:List Str
 s₀:Shared
 H₀:Hp
 env:Env
 outer:List Env
 stack:List Env
 ex:List Addr
 fn:Str->Bool
 calm:Bool
 pn:List (Addr×Obj)
 xe:Value->Shared->Prop
noncomputable def frs (l:List Env):List Addr:=l.filterMap (·.frame)
noncomputable abbrev Cx.fs (X:Cx):List Addr:=frs X.outer
def Vis (sc:Scope)(x:Str):Prop:=sc.names.lookup x=some .local\/sc.names.lookup x=some .cell\/sc.names.lookup x=some .free
def Loc (sc:Scope)(x:Str):Prop:=sc.names.lookup x=some .local\/sc.names.lookup x=some .cell
def Qw (env:Env)(h:Heap)(m:Str->Option Value)(x:Str)(u:Value):Prop:=
 (env.kindOf x=some .local/\m x=some u)\/((env.kindOf x=some .cell\/env.kindOf x=some .free)/\∃c,env.cells.lookup x=some c/\h.IsCell c (some u))
structure Cx.Ok (X:Cx):Prop where
 mod:Mod X.K X.mg X.base
 kind:X.env.scope.kind=.function
 glob:X.env.globals=mainGlobals
 blt:X.env.builtins=builtinsNs
 above:X.s₀.heap.objs.size<=X.env.locals
 inj:∀x y c,X.env.cells.lookup x=some c->X.env.cells.lookup y=some c->x=y
 has:∀x,(X.env.kindOf x=some .cell\/X.env.kindOf x=some .free)->∃c,X.env.cells.lookup x=some c
 cab:∀x c,X.fn x=true->X.env.cells.lookup x=some c->X.s₀.heap.objs.size<=c
 hd:X.calm=true->X.A.handled=none
 frames:X.A.frames=some X.stack
 stk:X.stack=X.outer\/(X.stack=X.env::X.outer/\X.env.frame=some X.env.locals)
 exf:∀b∈X.ex,b≠X.env.locals/\∀x c,X.env.cells.lookup x=some c->c≠b
 bs:∀b o,X.base.get? b=some o->X.s₀.heap.get? b=some o/\X.H₀ b=none
 bsz:X.base.objs.size<=X.s₀.heap.objs.size
 noex:∀b o,X.base.get? b=some o->b∉X.ex
 exfs:∀b∈X.ex,b∉X.fs
 funs:X.s₀.heap.FunFrames X.base X.outer
 frf:∀b∈X.fs,X.H₀ b=none
structure Inv (X:Cx)(pins:List (Addr×Obj))(σ:List (Option V))(H:Hp)(s:Shared):Prop where
 ok:X.Ok
 os:s.os=X.s₀.os
 bare:AllBare s.gens
 base:Un X.fs X.ex X.H₀ H X.s₀.heap s.heap
 loc:∃m,s.heap.Ns X.env.locals m/\∀(i:Nat) (x:Str) (v:V),X.N[i]?=some x->σ[i]?=some (some v)->Vis X.env.scope x->∃u,cw v u/\Qw X.env s.heap m x u
 cell:∀x c,X.env.cells.lookup x=some c->∃v,s.heap.IsCell c v
 free:H X.env.locals=none
 freeC:∀x c,X.env.cells.lookup x=some c->H c=none
 pin:∀p∈X.pn++pins,s.heap.get? p.1=some p.2/\H p.1=none/\p.1≠X.env.locals/\p.1∉X.fs/\∀v,p.2.data≠.cell v
 hok:HOk X.prog X.w H s.heap
 len:σ.length=X.N.length
section
variable {X:Cx}{pins:List (Addr×Obj)}{σ:List (Option V)}{H H':Hp}{s:Shared}{h':Heap}
theorem Cx.Ok.nofr (ok:X.Ok){b:Addr}{o:Obj}(e:X.base.get? b=some o):b∉X.fs:=fun hb=>by
 have:=(ok.funs.mem hb).1
 rw [e] at this;cases this
theorem Inv.bs (I:Inv X pins σ H s):∀b o,X.base.get? b=some o->s.heap.get? b=some o/\H b=none:=fun b o e=>
 ⟨I.base.keep b o (I.ok.bs b o e).1 (I.ok.bs b o e).2 (I.ok.nofr e) (I.ok.noex b o e),I.base.free b o (I.ok.bs b o e).1 (I.ok.bs b o e).2 (I.ok.noex b o e)⟩
theorem Inv.bk (I:Inv X pins σ H s):∀b o,X.base.get? b=some o->s.heap.get? b=some o:=fun b o e=>(I.bs b o e).1
theorem Inv.mod (I:Inv X pins σ H s):Mod X.K X.mg X.base:=I.ok.mod
theorem Inv.kIn (I:Inv X pins σ H s):X.K.In s.heap:=I.ok.mod.kin.keeps I.bk
theorem Inv.fr (I:Inv X pins σ H s):∃m,Fr X.base X.env.locals s.heap m:=
 let ⟨m,hn,_⟩:=I.loc
 ⟨m,hn,I.bk,Nat.le_trans I.ok.bsz I.ok.above⟩
theorem Inv.lt (I:Inv X pins σ H s):X.env.locals < s.heap.objs.size:=let ⟨_,hn,_⟩:=I.loc;hn.lt
theorem Inv.sz (I:Inv X pins σ H s):X.s₀.heap.objs.size<=s.heap.objs.size:=Nat.le_trans I.ok.above (Nat.le_of_lt I.lt)
theorem Inv.nofs (I:Inv X pins σ H s){a:Addr}(h:s.heap.objs.size<=a):a∉X.fs:=fun hb=>by
 obtain ⟨_,o,ho,_⟩:=I.ok.funs.mem hb
 exact absurd (Nat.lt_of_lt_of_le (Heap.lt_size ho) (Nat.le_trans I.sz h)) (Nat.lt_irrefl _)
theorem Inv.cne (I:Inv X pins σ H s):∀x c,X.env.cells.lookup x=some c->c≠X.env.locals:=fun x c e z=>by
 obtain ⟨v,o,ho,hd⟩:=I.cell x c e
 obtain ⟨m,⟨o',es,ep,ho',hd',_⟩,_⟩:=I.loc
 rw [z,ho'] at ho;cases ho;rw [hd'] at hd;cases hd
theorem Inv.funs (I:Inv X pins σ H s):s.heap.FunFrames X.base X.outer:=by
 have all:∀(l:List Env),(∀b∈frs l,b∈X.fs)->X.s₀.heap.FunFrames X.base l->s.heap.FunFrames X.base l:=by
  intro l
  induction l with
  | nil=>intro _ _;trivial
  | cons env r ih=>
   intro hs hl
   obtain ⟨hk,⟨L,o,hf,hn,ho,hd⟩,hr⟩:=hl
   have hL:L∈X.fs:=hs L (by unfold frs;rw [List.filterMap_cons,hf];exact List.mem_cons_self)
   obtain ⟨sl,e⟩:=I.base.slot L o ho (I.ok.frf L hL) hL fun z=>I.ok.exfs L z hL
   exact ⟨hk,⟨L,_,hf,hn,e,hd⟩,ih (fun b hb=>hs b (by unfold frs;rw [List.filterMap_cons,hf];exact List.mem_cons_of_mem _ hb)) hr⟩
 exact all X.outer (fun _ hb=>hb) I.ok.funs
theorem Inv.stack (I:Inv X pins σ H s):s.heap.FunFrames X.base X.stack:=by
 rcases I.ok.stk with e | ⟨e,hf⟩
 ·rw [e];exact I.funs
 ·rw [e]
  obtain ⟨m,hn,_⟩:=I.loc
  refine .cons (by rw [I.ok.kind];decide) hf hn ?_ I.funs
  exact Heap.get?_none_of_le (Nat.le_trans I.ok.bsz I.ok.above)
theorem Inv.stkSub (I:Inv X pins σ H s):∀b∈frs X.stack,b∈X.env.locals::X.fs:=fun b hb=>by
 rcases I.ok.stk with e | ⟨e,hf⟩
 ·rw [e] at hb;exact List.mem_cons_of_mem _ hb
 ·rw [e] at hb
  unfold frs at hb
  rw [List.filterMap_cons,hf] at hb
  exact hb
theorem Inv.stkFree (I:Inv X pins σ H s):∀b∈frs X.stack,H b=none:=fun b hb=>by
 rcases List.mem_cons.mp (I.stkSub b hb) with e | hb
 ·rw [e];exact I.free
 ·obtain ⟨_,o,ho,_⟩:=I.ok.funs.mem hb
  exact I.base.free b o ho (I.ok.frf b hb) fun z=>I.ok.exfs b z hb
theorem Inv.step {g':Array GenState}{t':Nat}{d':Drawn}{ch:List Addr}(I:Inv X pins σ H s)
  (hch:∀b∈ch,(b∈X.ex\/X.s₀.heap.objs.size<=b)/\b≠X.env.locals/\(∀x c,X.env.cells.lookup x=some c->c≠b)/\∀p∈X.pn++pins,p.1≠b)
  (keep:∀b o,b≠X.env.locals->b∉X.fs->b∉ch->s.heap.get? b=some o->H b=none->h'.get? b=some o)
  (slot:∀b o,b≠X.env.locals->b∈X.fs->b∉ch->s.heap.get? b=some o->H b=none->∃sl,h'.get? b=some {o with slots:=sl}) (free:∀b o,b∉ch->s.heap.get? b=some o->H b=none->H' b=none)
  (there:∀b o,b∉ch->s.heap.get? b=some o->∃o',h'.get? b=some o')
  (tups:∀b xs,H b=some (.tup xs)->H' b=some (.tup xs)) (frzs:∀b o u,H b=some (.frz o u)->H' b=some (.frz o u)) (tbls:∀b ps,H b=some (.tbl ps)->∃more,H' b=some (.tbl (ps++more)))
  (ns:∀m,s.heap.Ns X.env.locals m->h'.Ns X.env.locals m) (hok:HOk X.prog X.w H' h') (hg:AllBare g') :
  Inv X pins σ H' {s with heap:=h',gens:=g',drawn:=d',toks:=t'}:=by
 have neL:∀b o,X.s₀.heap.get? b=some o->b≠X.env.locals:=fun b o e=>Nat.ne_of_lt (Nat.lt_of_lt_of_le (Heap.lt_size e) I.ok.above)
 have neC:∀b o,X.s₀.heap.get? b=some o->b∉X.ex->b∉ch:=fun b o e hx hb=>by
  rcases (hch b hb).1 with z | z
  ·exact hx z
  ·exact absurd (Nat.lt_of_lt_of_le (Heap.lt_size e) z) (Nat.lt_irrefl _)
 have cellK:∀x c,X.env.cells.lookup x=some c->∀v,s.heap.IsCell c v->h'.IsCell c v:=fun x c e v ⟨o,ho,hd⟩=>by
  have nch:c∉ch:=fun z=>(hch c z).2.2.1 x c e rfl
  by_cases hc:c∈X.fs
  ·obtain ⟨sl,q⟩:=slot c o (I.cne x c e) hc nch ho (I.freeC x c e)
   exact ⟨_,q,hd⟩
  ·exact ⟨o,keep c o (I.cne x c e) hc nch ho (I.freeC x c e),hd⟩
 refine ⟨I.ok,I.os,hg,⟨fun b o e n hb hx=>?_,fun b o e n hb hx=>?_,fun b o e n hx=>?_,fun b o e hx=>?_,fun b xs e=>tups b xs (I.base.tups b xs e),fun b o xs e=>frzs b o xs (I.base.frzs b o xs e),fun b ps e=>?_⟩,?_,fun x c e=>?_,?_,fun x c e=>?_,fun p hp=>?_,hok,I.len⟩
 ·exact keep b o (neL b o e) hb (neC b o e hx) (I.base.keep b o e n hb hx) (I.base.free b o e n hx)
 ·obtain ⟨sl,e1⟩:=I.base.slot b o e n hb hx
  obtain ⟨sl',e2⟩:=slot b _ (neL b o e) hb (neC b o e hx) e1 (I.base.free b o e n hx)
  exact ⟨sl',e2⟩
 ·obtain ⟨o',e1⟩:=I.base.there b o e hx
  exact free b o' (neC b o e hx) e1 (I.base.free b o e n hx)
 ·obtain ⟨o',e1⟩:=I.base.there b o e hx
  exact there b o' (neC b o e hx) e1
 ·obtain ⟨m1,e1⟩:=I.base.tbls b ps e
  obtain ⟨m2,e2⟩:=tbls b _ e1
  exact ⟨m1++m2,by rw [e2,Array.append_assoc]⟩
 ·obtain ⟨m,hn,hl⟩:=I.loc
  refine ⟨m,ns m hn,fun i x v e1 e2 e3=>?_⟩
  obtain ⟨u,r,l⟩:=hl i x v e1 e2 e3
  refine ⟨u,r,?_⟩
  rcases l with l | ⟨k,c,e,z⟩
  ·exact .inl l
  ·exact .inr ⟨k,c,e,cellK x c e _ z⟩
 ·obtain ⟨v,z⟩:=I.cell x c e
  exact ⟨v,cellK x c e v z⟩
 ·obtain ⟨m,⟨o,_,_,ho,_⟩,_⟩:=I.loc
  exact free _ o (fun z=>(hch _ z).2.1 rfl) ho I.free
 ·obtain ⟨v,o,ho,hd⟩:=I.cell x c e
  exact free c o (fun z=>(hch c z).2.2.1 x c e rfl) ho (I.freeC x c e)
 ·obtain ⟨e,n,ne,nf,d⟩:=I.pin p hp
  have nch:p.1∉ch:=fun z=>(hch p.1 z).2.2.2 p hp rfl
  exact ⟨keep p.1 p.2 ne nf nch e n,free p.1 p.2 nch e n,ne,nf,d⟩
theorem Inv.un {t':Nat}(I:Inv X pins σ H s)(u:Un X.fs [] H H' s.heap h')(hok:HOk X.prog X.w H' h'):Inv X pins σ H' {s with heap:=h',toks:=t'}:=by
 obtain ⟨m,⟨o,es,ep,ho,r⟩,_⟩:=id I.loc
 obtain ⟨sl,hL⟩:=u.any ho I.free (by simp)
 exact I.step (g':=s.gens) (d':=s.drawn) (ch:=[]) (fun _ z=>nomatch z) (fun b o _ hb _ e n=>u.keep b o e n hb (by simp)) (fun b o _ hb _ e n=>u.slot b o e n hb (by simp)) (fun b o _ e n=>u.free b o e n (by simp)) (fun b o _ e=>u.there b o e (by simp)) u.tups u.frzs u.tbls (fun m' hm=>by
  obtain ⟨o',es',ep',ho',r'⟩:=hm
  rw [ho] at ho';cases ho'
  exact ⟨_,es',ep',hL,r'⟩) hok I.bare
theorem Inv.call {g':Array GenState}{t':Nat}{d':Drawn}{ch:List Addr}(I:Inv X pins σ H s)(u:Un (frs X.stack) ch H H' s.heap h')(hok:HOk X.prog X.w H' h')(hg:AllBare g')
  (hch:∀b∈ch,(b∈X.ex\/X.s₀.heap.objs.size<=b)/\b≠X.env.locals/\(∀x c,X.env.cells.lookup x=some c->c≠b)/\∀p∈X.pn++pins,p.1≠b) :
  Inv X pins σ H' {s with heap:=h',gens:=g',drawn:=d',toks:=t'}:=by
 obtain ⟨m,⟨o,es,ep,ho,r⟩,_⟩:=id I.loc
 obtain ⟨sl,hL⟩:=u.any ho I.free fun z=>(hch _ z).2.1 rfl
 exact I.step (ch:=ch) hch (fun b o hL hb hc e n=>u.keep b o e n (fun z=>(List.mem_cons.mp (I.stkSub b z)).elim hL hb) hc) (fun b o _ _ hc e n=>u.any e n hc) (fun b o hc e n=>u.free b o e n hc) (fun b o hc e=>u.there b o e hc) u.tups u.frzs u.tbls (fun m' hm=>by
  obtain ⟨o',es',ep',ho',r'⟩:=hm
  rw [ho] at ho';cases ho'
  exact ⟨_,es',ep',hL,r'⟩) hok hg
theorem Inv.turned {t':Nat}{it:Addr}(I:Inv X pins σ H s)(k:∀b o,b≠it->s.heap.get? b=some o->h'.get? b=some o)(hn:H it=none)(hL:it≠X.env.locals)
  (h1:it∈X.ex\/X.s₀.heap.objs.size<=it) (h2:∀x c,X.env.cells.lookup x=some c->c≠it) (h3:∀p∈X.pn++pins,p.1≠it):Inv X pins σ H {s with heap:=h',toks:=t'}:=by
 have nit:∀b u,H b=some u->b≠it:=fun b u e z=>by rw [z,hn] at e;cases e
 refine I.step (g':=s.gens) (d':=s.drawn) (ch:=[it]) (fun b hb=>?_) (fun b o _ _ hc e _=>k b o (fun z=>hc (by simp [z])) e) (fun b o _ _ hc e _=>⟨o.slots,k b o (fun z=>hc (by simp [z])) e⟩) (fun _ _ _ _ n=>n)
  (fun b o hc e=>⟨o,k b o (fun z=>hc (by simp [z])) e⟩) (fun _ _ e=>e) (fun _ _ _ e=>e) (fun b ps e=>⟨#[],by rw [e];simp⟩) (fun m hm=>?_) (fun b u e=>?_) I.bare
 ·have e:b=it:=by simpa using hb
  subst e
  exact ⟨h1,hL,h2,h3⟩
 ·obtain ⟨o,es,ep,ho,r⟩:=hm
  exact ⟨o,es,ep,k _ o (Ne.symm hL) ho,r⟩
 ·refine (I.hok b u e).stay (fun c v hc q=>k c v ?_ q) (fun _ q=>q) fun _ _ q=>q
  rcases hc with z | z
  ·rw [z];exact nit b u e
  ·exact nit c _ z
theorem Inv.tok (I:Inv X pins σ H s)(t:Nat):Inv X pins σ H {s with toks:=t}:=I.un (h':=s.heap) (t':=t) Un.refl I.hok
theorem Inv.kept {t':Nat}(I:Inv X pins σ H s)(k:∀b u,s.heap.get? b=some u->h'.get? b=some u):Inv X pins σ H {s with heap:=h',toks:=t'}:=I.un (Un.kept k) (I.hok.kept k)
theorem Inv.laid {a:Addr}{o:HO}{t':Nat}(I:Inv X pins σ H s)(k:∀b u,s.heap.get? b=some u->h'.get? b=some u)(hp:s.heap.objs.size<=a)(new:iP X.prog X.w (upd H a o) h' a o) :
  Inv X pins σ (upd H a o) {s with heap:=h',toks:=t'}:=I.un (Un.laid k hp (I.hok.fresh hp)) (I.hok.laid k hp new)
theorem Inv.write {x e:Addr}{o:HO}{t':Nat}(I:Inv X pins σ H s)(mu:Mut (H x))(he:e=x\/H e=some (.own x))(k:∀b u,b≠e->s.heap.get? b=some u->h'.get? b=some u)(heo:∃u,h'.get? e=some u)
  (new:iP X.prog X.w (upd H x o) h' x o):Inv X pins σ (upd H x o) {s with heap:=h',toks:=t'}:=I.un (Un.write mu he k heo) (I.hok.write mu he k heo new)
theorem Inv.weak {σ':List (Option V)}(I:Inv X pins σ H s)(hl:σ'.length=σ.length)(w:∀(i:Nat) v,σ'[i]?=some (some v)->σ[i]?=some (some v)):Inv X pins σ' H s:=
 ⟨I.ok,I.os,I.bare,I.base,let ⟨m,hn,hl'⟩:=I.loc;⟨m,hn,fun i x v e1 e2 e3=>hl' i x v e1 (w i v e2) e3⟩,I.cell,I.free,I.freeC,I.pin,I.hok,hl.trans I.len⟩
theorem Inv.pins_of {pins':List (Addr×Obj)}(I:Inv X pins σ H s)(h:∀p∈pins',s.heap.get? p.1=some p.2/\H p.1=none/\p.1≠X.env.locals/\p.1∉X.fs/\∀v,p.2.data≠.cell v):Inv X pins' σ H s:=
 ⟨I.ok,I.os,I.bare,I.base,I.loc,I.cell,I.free,I.freeC,fun p hp=>(List.mem_append.mp hp).elim (fun z=>I.pin p (List.mem_append_left _ z)) (h p),I.hok,I.len⟩
theorem zd {N:List Str}(hN:N.Nodup){i j:Nat}{x:Str}(a:N[i]?=some x)(b:N[j]?=some x):i=j:=by
 obtain ⟨h1,e1⟩:=List.getElem?_eq_some_iff.mp a
 obtain ⟨h2,e2⟩:=List.getElem?_eq_some_iff.mp b
 exact (List.getElem_inj hN).mp (e1.trans e2.symm)
theorem xi {M:Model}{A:Around}{E:Value->Shared->Prop}{i:Nat}{x:Str}{v:V}{u:Value}{Q:Unit->Shared->Prop}(I:Inv X pins σ H s)(hN:X.N.Nodup)(hi:X.N[i]?=some x)(hx:Loc X.env.scope x)(r:cw v u)
  (h:∀s',Inv X pins (σ.set i (some v)) H s'->(∃a,Heap.SameBut a s.heap s'.heap/\(a=X.env.locals\/X.env.cells.lookup x=some a))->Q () s') (hf:X.fn x=true\/X.env.scope.names.lookup x=some .local:=by first | exact .inl rfl | exact .inr rfl | assumption):wpAny M A (storeName X.env x u) Q E s:=by
 obtain ⟨m,hn,hl⟩:=id I.loc
 have hcls:(X.env.scope.kind == .class || (X.env.scope.kind == .module && X.env.locals != X.env.globals))=false:=by rw [I.ok.kind];rfl
 have hiσ:i < σ.length:=by rw [I.len];exact (List.getElem?_eq_some_iff.mp hi).1
 have cne:=I.cne
 have tracked:∀{a:Addr} {h':Heap},(∃o,s.heap.get? a=some o/\H a=none)->Heap.SameBut a s.heap h'->HOk X.prog X.w H h':=fun {a h'} ha hs b ob e=>by
  obtain ⟨_,_,hfree⟩:=ha
  refine (I.hok b ob e).stay (fun c w' hc q=>(hs.2 c ?_).trans q) (fun _ q=>q) fun _ _ q=>q
  rintro rfl
  rcases hc with rfl | hc
  ·rw [hfree] at e;cases e
  ·rw [hfree] at hc;cases hc
 rcases hx with hk | hk
 ·refine wpAny_storeName_local hk hn (fun h' hn' hs=>?_) hcls
  obtain ⟨oL,_,_,hoL,_⟩:=id hn
  refine h _ ⟨I.ok,I.os,I.bare,⟨fun b o e n hb hx=>?_,fun b o e n hb hx=>?_,I.base.free,fun b o e hx=>?_,I.base.tups,I.base.frzs,I.base.tbls⟩,⟨_,hn',fun j y v' e1 e2 e3=>?_⟩,fun y c e=>?_,I.free,I.freeC,fun p hp=>?_,tracked ⟨oL,hoL,I.free⟩ hs,by simpa using I.len⟩ ⟨_,hs,.inl rfl⟩
  ·exact (hs.2 b (Nat.ne_of_lt (Nat.lt_of_lt_of_le (Heap.lt_size e) I.ok.above))).trans (I.base.keep b o e n hb hx)
  ·obtain ⟨sl,e1⟩:=I.base.slot b o e n hb hx
   exact ⟨sl,(hs.2 b (Nat.ne_of_lt (Nat.lt_of_lt_of_le (Heap.lt_size e) I.ok.above))).trans e1⟩
  ·obtain ⟨o',e1⟩:=I.base.there b o e hx
   exact ⟨o',(hs.2 b (Nat.ne_of_lt (Nat.lt_of_lt_of_le (Heap.lt_size e) I.ok.above))).trans e1⟩
  ·by_cases hj:j=i
   ·subst hj
    rw [hi] at e1;cases e1
    rw [List.getElem?_set_self hiσ] at e2
    cases e2
    exact ⟨u,r,.inl ⟨hk,by simp⟩⟩
   ·rw [List.getElem?_set_ne (Ne.symm hj)] at e2
    obtain ⟨u',r',q⟩:=hl j y v' e1 e2 e3
    refine ⟨u',r',?_⟩
    rcases q with ⟨k,e⟩ | ⟨k,c,e,z⟩
    ·refine .inl ⟨k,?_⟩
     have:y≠x:=fun e=>hj (zd hN e1 (e▸hi))
     simp [this,e]
    ·exact .inr ⟨k,c,e,z.sameBut hs (cne y c e)⟩
  ·obtain ⟨w',z⟩:=I.cell y c e
   exact ⟨w',z.sameBut hs (cne y c e)⟩
  ·obtain ⟨e,n,ne,nf,d⟩:=I.pin p hp
   exact ⟨(hs.2 p.1 ne).trans e,n,ne,nf,d⟩
 ·have hfn:X.fn x=true:=by
   rcases hf with z | z
   ·exact z
   ·rw [z] at hk;cases hk
  obtain ⟨c,hc⟩:=I.ok.has x (.inl hk)
  obtain ⟨w',z⟩:=I.cell x c hc
  refine wpAny_storeName_cell I.ok.kind hk hc z (fun h' hc' hs=>?_)
  obtain ⟨oc,hoc,hocd⟩:=id z
  refine h {s with heap:=h'} ⟨I.ok,I.os,I.bare,⟨fun b o e n hb hx=>?_,fun b o e n hb hx=>?_,I.base.free,fun b o e hx=>?_,I.base.tups,I.base.frzs,I.base.tbls⟩,⟨m,hn.sameBut hs (Ne.symm (cne x c hc)),fun j y v' e1 e2 e3=>?_⟩,fun y c' e=>?_,I.free,I.freeC,fun p hp=>?_,tracked ⟨oc,hoc,I.freeC x c hc⟩ hs,by simpa using I.len⟩ ⟨c,hs,.inr hc⟩
  ·exact (hs.2 b (Nat.ne_of_lt (Nat.lt_of_lt_of_le (Heap.lt_size e) (I.ok.cab x c hfn hc)))).trans (I.base.keep b o e n hb hx)
  ·obtain ⟨sl,e1⟩:=I.base.slot b o e n hb hx
   exact ⟨sl,(hs.2 b (Nat.ne_of_lt (Nat.lt_of_lt_of_le (Heap.lt_size e) (I.ok.cab x c hfn hc)))).trans e1⟩
  ·obtain ⟨o',e1⟩:=I.base.there b o e hx
   exact ⟨o',(hs.2 b (Nat.ne_of_lt (Nat.lt_of_lt_of_le (Heap.lt_size e) (I.ok.cab x c hfn hc)))).trans e1⟩
  ·by_cases hj:j=i
   ·subst hj
    rw [hi] at e1;cases e1
    rw [List.getElem?_set_self hiσ] at e2
    cases e2
    exact ⟨u,r,.inr ⟨.inl hk,c,hc,hc'⟩⟩
   ·rw [List.getElem?_set_ne (Ne.symm hj)] at e2
    obtain ⟨u',r',q⟩:=hl j y v' e1 e2 e3
    refine ⟨u',r',?_⟩
    rcases q with q | ⟨k,c',e,z'⟩
    ·exact .inl q
    ·refine .inr ⟨k,c',e,z'.sameBut hs ?_⟩
     rintro rfl
     exact hj (zd hN e1 (I.ok.inj _ _ _ e hc▸hi))
  ·by_cases hcc:c'=c
   ·subst hcc;exact ⟨_,hc'⟩
   ·obtain ⟨w2,z2⟩:=I.cell y c' e
    exact ⟨w2,z2.sameBut hs hcc⟩
  ·obtain ⟨e,n,ne,nf,d⟩:=I.pin p hp
   refine ⟨(hs.2 p.1 ?_).trans e,n,ne,nf,d⟩
   intro q
   rw [q,hoc] at e
   have q':oc=p.2:=Option.some.inj e
   exact d w' (by rw [←q'];exact hocd)
theorem nB {M:Model}{A:Around}{E:Value->Shared->Prop}{i:Nat}{x:Str}{v:V}{u:Value}{Q:Unit->Shared->Prop}(I:Inv X pins σ H s)(hN:X.N.Nodup)(hi:X.N[i]?=some x)(hx:Loc X.env.scope x)(r:cw v u)
  (h:∀s',Inv X pins (σ.set i (some v)) H s'->Q () s') (hf:X.fn x=true\/X.env.scope.names.lookup x=some .local:=by first | exact .inl rfl | exact .inr rfl | assumption):wpAny M A (storeName X.env x u) Q E s:=
 xi I hN hi hx r (fun s' I' _=>h s' I') hf
theorem Inv.call' {s':Shared}{ch:List Addr}(I:Inv X pins σ H s)(ho:s'.os=s.os)(u:Un (frs X.stack) ch H H' s.heap s'.heap)(hok:HOk X.prog X.w H' s'.heap)(hg:AllBare s'.gens)
  (hch:∀b∈ch,(b∈X.ex\/X.s₀.heap.objs.size<=b)/\b≠X.env.locals/\(∀x c,X.env.cells.lookup x=some c->c≠b)/\∀p∈X.pn++pins,p.1≠b):Inv X pins σ H' s':=by
 obtain ⟨h',g',d',t',o'⟩:=s'
 have e:o'=s.os:=ho
 subst e
 exact I.call (g':=g') (t':=t') (d':=d') u hok hg hch
end
noncomputable abbrev XK:=Value->Option Addr->Hp->Prop
noncomputable abbrev St:=List (Option V)
noncomputable abbrev VK:=V->Hp->Prop
noncomputable abbrev TE:=St->Hp->VK->Prop
noncomputable abbrev TT:=St->Hp->(Bool->Hp->Prop)->Prop
noncomputable abbrev TA:=St->Hp->(List V->Hp->Prop)->Prop
structure lr where
 nx:St->Hp->Prop
 rt:VK
 bk:St->Hp->Prop:=fun _ _=>False
 ct:St->Hp->Prop:=fun _ _=>False
noncomputable abbrev TS:=lr->St->Hp->Prop
def EP (X:Cx)(pins:List (Addr×Obj))(σ:St)(Q:VK)(u:Value)(s':Shared):Prop:=∃v H',Inv X pins σ H' s'/\cw v u/\Q v H'
def TP (X:Cx)(pins:List (Addr×Obj))(σ:St)(Q:Bool->Hp->Prop)(b:Bool)(s':Shared):Prop:=∃H',Inv X pins σ H' s'/\Q b H'
def AP (X:Cx)(pins:List (Addr×Obj))(σ:St)(Q:List V->Hp->Prop)(us:List Value)(s':Shared):Prop:=∃vs H',Inv X pins σ H' s'/\bJ vs us/\Q vs H'
def SP (X:Cx)(pins:List (Addr×Obj))(D:lr)(f:Flow)(s':Shared):Prop:=
 match f with
 | .next=>∃σ' H',Inv X pins σ' H' s'/\D.nx σ' H'
 | .brk=>∃σ' H',Inv X pins σ' H' s'/\D.bk σ' H'
 | .cont=>∃σ' H',Inv X pins σ' H' s'/\D.ct σ' H'
 | .ret u=>∃v σ' H',Inv X pins σ' H' s'/\cw v u/\D.rt v H'
def PE (X:Cx)(e:Expr)(t:TE):Prop:=
 ∀(pins:List (Addr×Obj)) (s:Shared) (σ:St) (H:Hp) (Q:VK),Inv X pins σ H s->t σ H Q->wpAny (model X.prog X.w) X.A (eval e X.env) (EP X pins σ Q) X.xe s
def PT (X:Cx)(e:Expr)(t:TT):Prop:=
 ∀(pins:List (Addr×Obj)) (s:Shared) (σ:St) (H:Hp) (Q:Bool->Hp->Prop),Inv X pins σ H s->t σ H Q->wpAny (model X.prog X.w) X.A (isTrue e X.env (eval e X.env)) (TP X pins σ Q) X.xe s
def PW (X:Cx)(e:Expr)(t:TT):Prop:=
 ∀(cQ:Sem Value) (pins:List (Addr×Obj)) (s:Shared) (σ:St) (H:Hp) (Q:Bool->Hp->Prop),Inv X pins σ H s->t σ H Q->wpAny (model X.prog X.w) X.A (isTrue e X.env cQ) (TP X pins σ Q) X.xe s
theorem PW.pt {X:Cx}{e:Expr}{t:TT}(h:PW X e t):PT X e t:=h _
def PA (X:Cx)(es:List Expr)(t:TA):Prop:=
 ∀(pos:Pos) (pins:List (Addr×Obj)) (s:Shared) (σ:St) (H:Hp) (Q:List V->Hp->Prop),Inv X pins σ H s->t σ H Q->wpAny (model X.prog X.w) X.A (spliced (backTo pos (starEach es X.env))) (AP X pins σ Q) X.xe s
def PS (X:Cx)(st:Stmt)(t:TS):Prop:=
 ∀(pins:List (Addr×Obj)) (s:Shared) (σ:St) (H:Hp) (D:lr),Inv X pins σ H s->t D σ H->wpAny (model X.prog X.w) X.A (exec st X.env) (SP X pins D) X.xe s
def PSs (X:Cx)(st:List Stmt)(t:TS):Prop:=
 ∀(pins:List (Addr×Obj)) (s:Shared) (σ:St) (H:Hp) (D:lr),Inv X pins σ H s->t D σ H->wpAny (model X.prog X.w) X.A (execs st X.env) (SP X pins D) X.xe s
theorem thn {α:Type}{t:Sem α}{Q Q':α->Shared->Prop}{M:Model}{A:Around}{E:Value->Shared->Prop}{s:Shared}(h:wpAny M A t Q E s)(hQ:∀a s,Q a s->Q' a s):wpAny M A t Q' E s:=wpAny_mono h hQ fun _ _ x=>x
section
variable {X:Cx}
theorem bin {a b:Expr}{ta tb:TE}(ha:PE X a ta)(hb:PE X b tb){pins:List (Addr×Obj)}{s:Shared}{σ:St}{H:Hp}{R:V->V->Hp->Prop}(I:Inv X pins σ H s)(h:ta σ H fun x H1=>tb σ H1 fun y H2=>R x y H2)
  {α:Type} {Q:α->Shared->Prop} {f:Value->Value->Sem α}
  (hf:∀v u s2 x y H2,Inv X pins σ H2 s2->cw x v->cw y u->R x y H2->wpAny (model X.prog X.w) X.A (f v u) Q X.xe s2) :
  wpAny (model X.prog X.w) X.A (eval a X.env) (fun v s₁=>wpAny (model X.prog X.w) X.A (eval b X.env) (fun u s₂=>wpAny (model X.prog X.w) X.A (f v u) Q X.xe s₂) X.xe s₁) X.xe s:=by
 refine thn (ha pins s σ H _ I h) fun v s1 ⟨x,H1,I1,r1,q1⟩=>?_
 refine thn (hb pins s1 σ H1 _ I1 q1) fun u s2 ⟨y,H2,I2,r2,q2⟩=>?_
 exact hf v u s2 x y H2 I2 r1 r2 q2
noncomputable def NZ (i:Nat):TE:=fun σ H Q=>∃v,σ[i]?=some (some v)/\Q v H
noncomputable def tC (v:V):TE:=fun _ H Q=>Q v H
theorem N1 {i:Nat}{x:Str}{pos:Pos}(hN:X.N[i]?=some x)(hv:Vis X.env.scope x)(hd:(x == ("__debug__":Str))=false:=by decide)(hcd:(x == ("__classdict__":Str))=false:=by decide):PE X (.Name x pos) (NZ i):=by
 intro pins s σ H Q I h
 obtain ⟨v,e,h⟩:=h
 obtain ⟨m,hn,hl⟩:=I.loc
 obtain ⟨u,r,l⟩:=hl i x v hN e hv
 have fin:EP X pins σ Q u s:=⟨v,H,I,r,h⟩
 rcases l with ⟨hk,hm⟩ | ⟨hk,c,hc,hcell⟩
 ·exact wpAny_Name (wpAny_loadName_local I.ok.kind hk hn hm fin) hd
 ·rcases hk with hk | hk
  ·exact wpAny_Name (wpAny_loadName_cell I.ok.kind hk hc hcell fin) hd
  ·exact wpAny_Name (wpAny_loadName_free I.ok.kind hk hc hcell fin hcd) hd
theorem ai {i j pos}:PE X (.Constant (.int i) j pos) (tC (.int i)):=fun _ _ _ H _ I h=>wpAny_Constant_int ⟨.int i,H,I.tok _,⟨_,rfl⟩,h⟩
theorem iF {b j pos}:PE X (.Constant (.bool b) j pos) (tC (.bl b)):=fun _ _ _ H _ I h=>Constant_bool ⟨.bl b,H,I,rfl,h⟩
theorem fO {j pos}:PE X (.Constant .none j pos) (tC .non):=fun _ _ _ H _ I h=>Constant_none ⟨.non,H,I,rfl,h⟩
theorem aC {x j pos}:PE X (.Constant (.str x) j pos) (tC (.str x)):=fun _ _ _ H _ I h=>Calls.Constant_str ⟨.str x,H,I.tok _,⟨_,rfl⟩,h⟩
def Gl (X:Cx)(x:Str):Prop:=X.env.kindOf x=some .globalImplicit
theorem sA {E:Value->Shared->Prop}{pins:List (Addr×Obj)}{s:Shared}{σ:St}{H:Hp}{x:Str}{u:Value}{pos:Pos}{Q:Value->Shared->Prop}(I:Inv X pins σ H s)(hg:Gl X x)(hm:X.mg x=some u)(h:Q u s)
  (hd:(x == ("__debug__":Str))=false:=by decide):wpAny (model X.prog X.w) X.A (eval (.Name x pos) X.env) Q E s:=
 Calls.Name_function_global I.ok.kind hg (Calls.loadGlobal_global (by rw [I.ok.glob];exact I.mod.glob.keeps I.bk) hm h) hd
theorem uV {E:Value->Shared->Prop}{pins:List (Addr×Obj)}{s:Shared}{σ:St}{H:Hp}{x:Str}{u:Value}{pos:Pos}{Q:Value->Shared->Prop}(I:Inv X pins σ H s)(hg:Gl X x)(hm:X.mg x=none)(hv:bootBuiltins x=some u)(h:Q u s)
  (hn:x≠"__name__":=by decide) (hd:(x == ("__debug__":Str))=false:=by decide):wpAny (model X.prog X.w) X.A (eval (.Name x pos) X.env) Q E s:=by
 obtain ⟨mb,h1,h2⟩:=I.mod.blt
 exact Calls.Name_function_global I.ok.kind hg (Calls.loadGlobal_builtin (by rw [I.ok.glob];exact I.mod.glob.keeps I.bk) hm (by rw [I.ok.blt];exact h1.keeps I.bk) ((h2 x hn).trans hv) h) hd
theorem sC {x:Str}{v:V}{u:Value}{pos:Pos}(hg:Gl X x)(hm:X.mg x=some u)(r:cw v u)(hd:(x == ("__debug__":Str))=false:=by decide):PE X (.Name x pos) (tC v):=
 fun _ _ _ H _ I h=>sA I hg hm ⟨v,H,I,r,h⟩ hd
theorem ix {x:Str}{v:V}{u:Value}{pos:Pos}(hg:Gl X x)(hm:X.mg x=none)(hv:bootBuiltins x=some u)(r:cw v u)(hn:x≠"__name__":=by decide)(hd:(x == ("__debug__":Str))=false:=by decide):PE X (.Name x pos) (tC v):=
 fun _ _ _ H _ I h=>uV I hg hm hv ⟨v,H,I,r,h⟩ hn hd
variable {a b:Expr}{ta tb:TE}{pos:Pos}
def PC (X:Cx)(op:CmpOp)(a b:Expr)(t:TE):Prop:=
 ∀(pins:List (Addr×Obj)) (s:Shared) (σ:St) (H:Hp) (Q:VK),Inv X pins σ H s->t σ H Q->
  wpAny (model X.prog X.w) X.A (eval a X.env) (fun v s₁=>wpAny (model X.prog X.w) X.A (eval b X.env) (fun u s₂=>wpAny (model X.prog X.w) X.A (compareOp op v u) (EP X pins σ Q) X.xe s₂) X.xe s₁) X.xe s
theorem JC (b:Expr){op:CmpOp}(h:op≠.In)(h2:op≠.NotIn):behindInMarks op b=false:=by
 have e1:(op == CmpOp.In)=false:=by cases op<;>first | rfl | exact absurd rfl h
 have e2:(op == CmpOp.NotIn)=false:=by cases op<;>first | rfl | exact absurd rfl h2
 cases b<;>simp [behindInMarks,e1,e2]
noncomputable def tB (t:TE):TT:=fun σ H Q=>t σ H fun x H1=>∃c,x=.bl c/\Q c H1
theorem Qx {op:CmpOp}{t:TE}(h:PC X op a b t)(h1:behindInMarks op b=false:=by first | exact JC _ (by decide) (by decide) | rfl):PT X (.Compare a [op] [b] pos) (tB t):=by
 intro pins s σ H Q I hw
 refine wpAny_isTrue_Compare1 (thn (h pins s σ H _ I hw) fun v s1 h1=>thn h1 fun u s2 h2=>thn h2 fun c s3 ⟨x,H1,I1,r1,q1⟩=>?_) h1
 obtain ⟨d,rfl,q⟩:=q1
 cases r1
 exact wpAny_truthy_bool ⟨H1,I1,q⟩
theorem dj {e:Expr}{t:TE}(h:PE X e t)(he:∀cQ,isTrue e X.env cQ=(do let v ←cQ;standAt e.pos;holding [v] (truthy v)):=by intro _;rfl):PT X e (tB t):=by
 intro pins s σ H Q I hw
 refine isTrue_plain (thn (h pins s σ H _ I hw) fun v s1 ⟨x,H1,I1,r1,q1⟩=>?_) (he _)
 obtain ⟨d,rfl,q⟩:=q1
 cases r1
 exact wpAny_truthy_bool ⟨H1,I1,q⟩
variable {tA tB':TT}{AR:List Expr}
noncomputable def Pe (t u:TT):TT:=fun σ H Q=>t σ H fun c H1=>if c=true then u σ H1 Q else Q false H1
noncomputable def tOr (t u:TT):TT:=fun σ H Q=>t σ H fun c H1=>if c=true then Q true H1 else u σ H1 Q
noncomputable def Pf (t:TT):TT:=fun σ H Q=>t σ H fun c H1=>Q (!c) H1
theorem mr (ha:PT X a tA):PW X (.BoolOp .And [a] pos) tA:=by
 intro wh pins s σ H Q I h
 refine isTrue_and (thn (ha pins s σ H Q I h) fun c s1 e=>?_)
 cases c with
 | true=>exact isTrue_and_nil e
 | false=>exact e
theorem mZ (ha:PT X a tA):PW X (.BoolOp .Or [a] pos) tA:=by
 intro wh pins s σ H Q I h
 refine isTrue_or (thn (ha pins s σ H Q I h) fun c s1 e=>?_)
 cases c with
 | false=>exact isTrue_or_nil e
 | true=>exact e
theorem oG (ha:PT X a tA)(hb:PW X (.BoolOp .And (b::AR) pos) tB'):PW X (.BoolOp .And (a::b::AR) pos) (Pe tA tB'):=by
 intro wh pins s σ H Q I h
 refine isTrue_and (thn (ha pins s σ H _ I h) fun c s1 ⟨H1,I1,q1⟩=>?_)
 cases c with
 | true=>exact hb wh pins s1 σ H1 Q I1 q1
 | false=>exact ⟨H1,I1,q1⟩
theorem qf (ha:PT X a tA)(hb:PW X (.BoolOp .Or (b::AR) pos) tB'):PW X (.BoolOp .Or (a::b::AR) pos) (tOr tA tB'):=by
 intro wh pins s σ H Q I h
 refine isTrue_or (thn (ha pins s σ H _ I h) fun c s1 ⟨H1,I1,q1⟩=>?_)
 cases c with
 | true=>exact ⟨H1,I1,q1⟩
 | false=>exact hb wh pins s1 σ H1 Q I1 q1
theorem eZ (ha:PT X a tA):PT X (.UnaryOp .Not a pos) (Pf tA):=by
 intro pins s σ H Q I h
 exact isTrue_not (ha pins s σ H (fun c H1=>Q (!c) H1) I h)
noncomputable def M4 (ta tb:TE):TE:=fun σ H Q=>ta σ H fun x H1=>∃c,x=.bl c/\if c=true then tb σ H1 Q else Q (.bl false) H1
noncomputable def Qy (ta tb:TE):TE:=fun σ H Q=>ta σ H fun x H1=>∃c,x=.bl c/\if c=true then Q (.bl true) H1 else tb σ H1 Q
noncomputable def Pg (ta:TE):TE:=fun σ H Q=>ta σ H fun x H1=>∃c,x=.bl c/\Q (.bl (!c)) H1
theorem Gh {op}{t:TE}(h:PE X a t):PE X (.BoolOp op [a] pos) t:=fun pins s σ H Q I hw=>BoolOp_one (h pins s σ H Q I hw)
theorem CP (ha:PE X a ta)(hb:PE X (.BoolOp .And (b::AR) pos) tb):PE X (.BoolOp .And (a::b::AR) pos) (M4 ta tb):=by
 intro pins s σ H Q I h
 refine BoolOp_and (thn (ha pins s σ H _ I h) fun v s1 ⟨x,H1,I1,r1,q1⟩=>?_)
 obtain ⟨c,rfl,q1⟩:=q1
 cases r1
 refine wpAny_truthy_bool ?_
 cases c with
 | true=>exact hb pins s1 σ H1 Q I1 q1
 | false=>exact ⟨.bl false,H1,I1,rfl,q1⟩
noncomputable def tIf (t:TT)(ta tb:TE):TE:=fun σ H Q=>t σ H fun c H1=>if c=true then ta σ H1 Q else tb σ H1 Q
theorem Ee {c:Expr}(hc:PT X c tA)(ha:PE X a ta)(hb:PE X b tb):PE X (.IfExp c a b pos) (tIf tA ta tb):=by
 intro pins s σ H Q I h
 refine wpAny_IfExp (thn (hc pins s σ H _ I h) fun d s1 ⟨H1,I1,q1⟩=>?_)
 cases d with
 | true=>exact ha pins s1 σ H1 Q I1 q1
 | false=>exact hb pins s1 σ H1 Q I1 q1
end
def SqL (K:PySem.W.Frag)(H:Hp)(a:Addr)(xs:List V):Prop:=
 Rd H a (.lst xs)\/
  ∃(o:Obj) (its:Array Value) (n:Nat),K.lookup a=some o/\o.cls=.type "list"/\o.dict=none/\o.data=.seq its n/\its.size<=sizeLine/\bJ xs its.toList
def SqT (K:PySem.W.Frag)(H:Hp)(a:Addr)(xs:List V):Prop:=
 Rd H a (.tup xs)\/
  ∃(o:Obj) (its:Array Value) (n:Nat),K.lookup a=some o/\o.cls=.type "tuple"/\o.data=.seq its n/\its.size<=sizeLine/\bJ xs its.toList
noncomputable def Qz:Value->Option V
 | .none=>some .non
 | .bool b=>some (.bl b)
 | .int i _=>some (.int i)
 | .str x _=>some (.str x)
 | .bytes b _=>some (.byt b)
 | .float b _=>some (.flt b)
 | .ref a=>some (.ref a)
 | .type n=>some (.ty n)
 | _=>none
theorem cw.abs {x:V}{u:Value}(r:cw x u):Qz u=some x:=by
 cases x with
 | non=>cases r;rfl
 | bl _=>cases r;rfl
 | int _=>obtain ⟨t,rfl⟩:=r;rfl
 | str _=>obtain ⟨t,rfl⟩:=r;rfl
 | byt _=>obtain ⟨t,rfl⟩:=r;rfl
 | flt _=>obtain ⟨t,rfl⟩:=r;rfl
 | ref _=>cases r;rfl
 | ty _=>cases r;rfl
theorem cw.inj {x y:V}{u:Value}(r:cw x u)(q:cw y u):x=y:=Option.some.inj (r.abs.symm.trans q.abs)
theorem bJ.inj:∀{xs ys:List V} {us:List Value},bJ xs us->bJ ys us->xs=ys
 | _,_,_,.nil,.nil=>rfl
 | _,_,_,.cons r t,.cons r' t'=>by rw [r.inj r',bJ.inj t t']
section
variable {X:Cx}{pins:List (Addr×Obj)}{σ:St}{H:Hp}{s:Shared}{a:Addr}{xs ys:List V}
theorem SqL.of {K:PySem.W.Frag}(h:H a=some (.lst xs)):SqL K H a xs:=.inl (.inl h)
theorem SqT.of {K:PySem.W.Frag}(h:H a=some (.tup xs)):SqT K H a xs:=.inl (.inl h)
theorem Inv.list (I:Inv X pins σ H s)(h:SqL X.K H a xs):∃its:List Value,bJ xs its/\PlainL s.heap a its.toArray/\xs.length<=sizeLine:=by
 rcases h with h | ⟨o,its,n,hk,hc,hd,hs,hz,r⟩
 ·obtain ⟨z,its,n,r,e⟩:=h.ok I.hok
  exact ⟨its,r,⟨_,n,e,rfl,rfl,rfl⟩,z⟩
 ·refine ⟨its.toList,r,⟨o,n,I.kIn a o hk,hc,hd,by simpa using hs⟩,?_⟩
  have e:=r.length
  simp only [Array.length_toList] at e
  omega
theorem Inv.tuple (I:Inv X pins σ H s)(h:SqT X.K H a xs):∃its:List Value,bJ xs its/\IsTup s.heap a its.toArray/\xs.length<=sizeLine:=by
 rcases h with h | ⟨o,its,n,hk,hc,hs,hz,r⟩
 ·obtain ⟨z,its,r,p⟩:=h.ok I.hok
  exact ⟨its,r,p.tup,z⟩
 ·refine ⟨its.toList,r,⟨o,I.kIn a o hk,hc,n,by simpa using hs⟩,?_⟩
  have e:=r.length
  simp only [Array.length_toList] at e
  omega
theorem Inv.list_inj (I:Inv X pins σ H s)(h:SqL X.K H a xs)(h':SqL X.K H a ys):xs=ys:=by
 obtain ⟨its,r,⟨o,n,e,_,_,d⟩,_⟩:=I.list h
 obtain ⟨its',r',⟨o',n',e',_,_,d'⟩,_⟩:=I.list h'
 rw [e] at e';cases e'
 rw [d] at d'
 injection d' with d1 _
 have:its=its':=by simpa using congrArg Array.toList d1
 subst this
 exact r.inj r'
end
noncomputable abbrev Cx.wish (X:Cx)(E:Value->Shared->Prop):Cx:={X with xe:=E}
noncomputable abbrev Cx.nox (X:Cx):Cx:=X.wish fun _ _=>False
theorem Cx.Ok.wish {X:Cx}(ok:X.Ok)(E:Value->Shared->Prop):(X.wish E).Ok:=
 ⟨ok.mod,ok.kind,ok.glob,ok.blt,ok.above,ok.inj,ok.has,ok.cab,ok.hd,ok.frames,ok.stk,ok.exf,ok.bs,ok.bsz,ok.noex,ok.exfs,ok.funs,ok.frf⟩
theorem Cx.Ok.unwish {X:Cx}{E:Value->Shared->Prop}(ok:(X.wish E).Ok):X.Ok:=
 ⟨ok.mod,ok.kind,ok.glob,ok.blt,ok.above,ok.inj,ok.has,ok.cab,ok.hd,ok.frames,ok.stk,ok.exf,ok.bs,ok.bsz,ok.noex,ok.exfs,ok.funs,ok.frf⟩
section
variable {X:Cx}{pins:List (Addr×Obj)}{σ:St}{H:Hp}{s:Shared}{E:Value->Shared->Prop}
theorem Inv.wish (I:Inv X pins σ H s)(E:Value->Shared->Prop):Inv (X.wish E) pins σ H s:=⟨I.ok.wish E,I.os,I.bare,I.base,I.loc,I.cell,I.free,I.freeC,I.pin,I.hok,I.len⟩
theorem Inv.unwish (I:Inv (X.wish E) pins σ H s):Inv X pins σ H s:=⟨I.ok.unwish,I.os,I.bare,I.base,I.loc,I.cell,I.free,I.freeC,I.pin,I.hok,I.len⟩
theorem SP.unwish {D:lr}{f:Flow}{s':Shared}(h:SP (X.wish E) pins D f s'):SP X pins D f s':=by
 cases f with
 | next=>obtain ⟨σ',H',I,q⟩:=h;exact ⟨σ',H',I.unwish,q⟩
 | brk=>obtain ⟨σ',H',I,q⟩:=h;exact ⟨σ',H',I.unwish,q⟩
 | cont=>obtain ⟨σ',H',I,q⟩:=h;exact ⟨σ',H',I.unwish,q⟩
 | ret u=>obtain ⟨v,σ',H',I,r,q⟩:=h;exact ⟨v,σ',H',I.unwish,r,q⟩
theorem PSs.nox {st:List Stmt}{t:TS}(h:PSs X.nox st t):PSs X st t:=fun pins s σ H D I hw=>
 wpAny_mono (h pins s σ H D (I.wish _) hw) (fun _ _ q=>q.unwish) fun _ _ z=>False.elim z
end
section
variable {X:Cx}{st:Stmt}{AR:List Stmt}{t u:TS}{e:Expr}{te:TE}{pos:Pos}
noncomputable def M5:TS:=fun D σ H=>D.nx σ H
noncomputable def Ph (t u:TS):TS:=fun D σ H=>t {D with nx:=u D} σ H
theorem aD:PSs X [] M5:=fun _ _ σ H _ I h=>wpAny_execs_nil ⟨σ,H,I,h⟩
theorem ag (h1:PS X st t)(h2:PSs X AR u):PSs X (st::AR) (Ph t u):=by
 intro pins s σ H D I h
 refine wpAny_execs_cons (thn (h1 pins s σ H {D with nx:=u D} I h) fun f s1 q=>?_)
 cases f with
 | next=>
  obtain ⟨σ',H',I',q⟩:=q
  exact h2 pins s1 σ' H' D I' q
 | ret v=>exact q
 | brk=>exact q
 | cont=>exact q
theorem aj (h1:PS X st t):PSs X [st] t:=by
 intro pins s σ H D I h
 refine wpAny_execs_cons (thn (h1 pins s σ H D I h) fun f s1 q=>?_)
 cases f with
 | next=>exact wpAny_execs_nil q
 | ret v=>exact q
 | brk=>exact q
 | cont=>exact q
theorem Inv.quiet {pins:List (Addr×Obj)}{σ:St}{H:Hp}{s:Shared}(I:Inv X pins σ H s):interactive X.env=false:=by simp [interactive,I.ok.kind]
noncomputable def M6 (te:TE):TS:=fun D σ H=>te σ H fun _ H1=>D.nx σ H1
theorem bK (he:PE X e te)(hs:swapsWith e none pos.line X.env=pure false:=by rfl):PS X (.Expr e pos) (M6 te):=by
 intro pins s σ H D I h
 exact wpAny_Expr_any (thn (he pins s σ H _ I h) fun v s1 ⟨x,H1,I1,r1,q1⟩=>⟨σ,H1,I1,q1⟩) I.quiet hs
noncomputable def Pj (te:TE):TS:=fun D σ H=>te σ H D.rt
theorem aw (he:PE X e te):PS X (.Return (some e) pos) (Pj te):=by
 intro pins s σ H D I h
 exact wpAny_Return_some (thn (he pins s σ H _ I h) fun v s1 ⟨x,H1,I1,r1,q1⟩=>⟨x,σ,H1,I1,r1,q1⟩)
noncomputable def Pk:TS:=fun D _ H=>D.rt .non H
noncomputable def Pl (c:TT)(t u:TS):TS:=fun D σ H=>c σ H fun b H1=>if b=true then t D σ H1 else u D σ H1
theorem aY {c:Expr}{a b:List Stmt}{tc:TT}(hc:PT X c tc)(ha:PSs X a t)(hb:PSs X b u):PS X (.If c a b pos) (Pl tc t u):=by
 intro pins s σ H D I h
 refine wpAny_If (thn (hc pins s σ H _ I h) fun d s1 ⟨H1,I1,q1⟩=>?_)
 cases d with
 | true=>exact ha pins s1 σ H1 D I1 q1
 | false=>exact hb pins s1 σ H1 D I1 q1
end
noncomputable abbrev TG:=V->St->Hp->(St->Hp->Prop)->Prop
noncomputable abbrev TGs:=List V->St->Hp->(St->Hp->Prop)->Prop
def PG (X:Cx)(target:Expr)(t:TG):Prop:=
 ∀(pins:List (Addr×Obj)) (s:Shared) (σ:St) (H:Hp) (v:V) (u:Value) (Q:St->Hp->Prop),Inv X pins σ H s->cw v u->t v σ H Q->
  wpAny (model X.prog X.w) X.A (assign target X.env u) (fun _ s'=>∃σ' H',Inv X pins σ' H' s'/\Q σ' H') X.xe s
def PGs (X:Cx)(ts:List Expr)(t:TGs):Prop:=
 ∀(pins:List (Addr×Obj)) (s:Shared) (σ:St) (H:Hp) (vs:List V) (us:List Value) (Q:St->Hp->Prop),Inv X pins σ H s->bJ vs us->t vs σ H Q->
  wpAny (model X.prog X.w) X.A (assignInOrder ((assignEach ts X.env).map (·.2)) us) (fun _ s'=>∃σ' H',Inv X pins σ' H' s'/\Q σ' H') X.xe s
noncomputable abbrev N2:=V->V->V->Hp->(Hp->Prop)->Prop
def Pm (X:Cx)(t:N2):Prop:=
 ∀(pins:List (Addr×Obj)) (s:Shared) (σ:St) (H:Hp) (o i v:V) (ov iv u:Value) (Q:Hp->Prop),Inv X pins σ H s->cw o ov->cw i iv->cw v u->t o i v H Q->
  wpAny (model X.prog X.w) X.A (setItem ov iv u) (fun _ s'=>∃H',Inv X pins σ H' s'/\Q H') X.xe s
section
variable {X:Cx}{pos:Pos}
noncomputable def gN (i:Nat):TG:=fun v σ H Q=>Q (σ.set i (some v)) H
theorem aM {i:Nat}{x:Str}(hN:X.N.Nodup)(hi:X.N[i]?=some x)(hx:Loc X.env.scope x)(hf:X.fn x=true\/X.env.scope.names.lookup x=some .local:=by first | exact .inl rfl | exact .inr rfl | assumption):PG X (.Name x pos) (gN i):=by
 intro pins s σ H v u Q I r h
 exact wpAny_assign_Name (nB I hN hi hx r (fun s' I'=>⟨_,H,I',h⟩) hf)
noncomputable def N3:TGs:=fun vs σ H Q=>vs=[]/\Q σ H
noncomputable def Ef (t:TG)(u:TGs):TGs:=fun vs σ H Q=>∃v r,vs=v::r/\t v σ H fun σ' H'=>u r σ' H' Q
theorem fe:PGs X [] N3:=by
 intro pins s σ H vs us Q I r h
 obtain ⟨e,h⟩:=h
 subst e
 cases r
 exact assignInOrder_nil ⟨σ,H,I,h⟩
theorem aV {e:Expr}{es:List Expr}{t:TG}{u:TGs}(h1:PG X e t)(h2:PGs X es u)
  (hs:(assignEach (e::es) X.env).map (·.2)=assign e X.env::(assignEach es X.env).map (·.2):=by rfl):PGs X (e::es) (Ef t u):=by
 intro pins s σ H vs us Q I r h
 obtain ⟨v,vr,e1,h⟩:=h
 subst e1
 cases r with
 | cons r rr=>
  rw [hs]
  refine assignInOrder_cons (thn (h1 pins s σ H _ _ _ I r h) fun _ s1 ⟨σ1,H1,I1,q1⟩=>?_)
  exact h2 pins s1 σ1 H1 _ _ Q I1 rr q1
noncomputable def CQ (K:PySem.W.Frag)(n:Nat)(t:TGs):TG:=fun v σ H Q=>∃a xs,v=.ref a/\SqT K H a xs/\xs.length=n/\t xs σ H Q
theorem kA {es:List Expr}{k:Nat}{t:TGs}{n:Nat}(hc:X.calm=true)(h:PGs X es t)
  (hn:(assignEach es X.env).length=n:=by rfl) (hst:(assignEach es X.env).findIdx? (·.1)=none:=by rfl):PG X (.Tuple es k pos) (CQ X.K n t):=by
 intro pins s σ H v u Q I r hw
 obtain ⟨a,xs,e1,hq,hl,hw⟩:=hw
 subst e1
 cases r
 obtain ⟨its,rv,ht,hz⟩:=I.tuple hq
 refine assign_Tuple_tuple (I.ok.hd hc) ht (by simp [hn,←hl,rv.length]) hst fun h' hx=>?_
 have I1:Inv X pins σ H {s with heap:=h'}:=I.kept (t':=s.toks) fun b o e=>hx b o (Nat.ne_of_lt (Heap.lt_size e)) e
 exact h pins _ σ H xs _ Q I1 (by simpa using rv) hw
noncomputable def Pn (to ti:TE)(t:N2):TG:=fun v σ H Q=>to σ H fun o H1=>ti σ H1 fun i H2=>t o i v H2 fun H3=>Q σ H3
theorem xj {o i:Expr}{to ti:TE}{t:N2}(ho:PE X o to)(hi:PE X i ti)(hs:Pm X t)
  (ha:∀v,assign (.Subscript o i pos) X.env v=(do
   let ov ←holding [v] (eval o X.env)
   let iv ←holding [v,ov] (eval i X.env)
   standAt pos
   holding [v,ov,iv] (setItem ov iv v)
   release [v,ov,iv] []):=by intro _;rfl):PG X (.Subscript o i pos) (Pn to ti t):=by
 intro pins s σ H v u Q I r h
 rw [ha]
 refine wpAny_bind (wpAny_holding (thn (ho pins s σ H _ I h) fun ov s1 ⟨x,H1,I1,r1,q1⟩=>?_))
 refine wpAny_bind (wpAny_holding (thn (hi pins s1 σ H1 _ I1 q1) fun iv s2 ⟨y,H2,I2,r2,q2⟩=>?_))
 refine wpAny_bind (wpAny_standAt (wpAny_bind (wpAny_holding (thn (hs pins s2 σ H2 x y v ov iv u _ I2 r1 r2 r q2) fun _ s3 ⟨H3,I3,q3⟩=>?_))))
 exact wpAny_release ⟨σ,H3,I3,q3⟩
noncomputable def Gi (te:TE)(g:TG):TS:=fun D σ H=>te σ H fun x H1=>g x σ H1 D.nx
theorem lu {tg e:Expr}{te:TE}{g:TG}(he:PE X e te)(hg:PG X tg g)(hs:swapsWithSole [tg] e pos.line X.env=pure false:=by rfl)(hw:swappedStores [tg] e X.env=pure none:=by rfl)
  (h1:(assignEach [tg] X.env).map (·.2)=[assign tg X.env]:=by rfl):PS X (.Assign [tg] e pos) (Gi te g):=by
 intro pins s σ H D I h
 refine wpAny_Assign_stores (thn (he pins s σ H _ I h) fun v s1 ⟨x,H1,I1,r1,q1⟩=>?_) hs hw
 rw [h1]
 exact thn (hg pins s1 σ H1 x v _ I1 r1 q1) fun _ s2 q=>q
theorem aL {i:Nat}{x:Str}{e:Expr}{te:TE}{pos':Pos}(hN:X.N.Nodup)(hi:X.N[i]?=some x)(hx:Loc X.env.scope x)(he:PE X e te)(hs:swapsWith e (some (.Name x pos')) pos.line X.env=pure false:=by rfl)(hf:X.fn x=true\/X.env.scope.names.lookup x=some .local:=by first | exact .inl rfl | exact .inr rfl | assumption) :
  PS X (.Assign [.Name x pos'] e pos) (Gi te (gN i)):=by
 intro pins s σ H D I h
 refine wpAny_Assign_Name (thn (he pins s σ H _ I h) fun v s1 ⟨y,H1,I1,r1,q1⟩=>?_) hs
 exact nB I1 hN hi hx r1 (fun s2 I2=>⟨_,H1,I2,q1⟩) hf
noncomputable def Po (i j:Nat)(ta:TA):TS:=fun D σ H=>ta σ H fun vs H1=>∃v w,vs=[v,w]/\D.nx ((σ.set i (some v)).set j (some w)) H1
theorem N4 {i j:Nat}{x y:Str}{a b:Expr}{ta:TA}{px py pt:Pos}{kt k2 pt2}(hc:X.calm=true)(hN:X.N.Nodup)(hi:X.N[i]?=some x)(hj:X.N[j]?=some y)(hij:i≠j)
  (hx:X.env.scope.names.lookup x=some .local) (hy:X.env.scope.names.lookup y=some .local) (ha:PA X [a,b] ta)
  (hw:swappedStores [.Tuple [.Name x px,.Name y py] kt pt] (.Tuple [a,b] k2 pt2) X.env=pure (some [x,y]))
  (hs:swapsWithSole [.Tuple [.Name x px,.Name y py] kt pt] (.Tuple [a,b] k2 pt2) pos.line X.env=pure false:=by rfl) :
  PS X (.Assign [.Tuple [.Name x px,.Name y py] kt pt] (.Tuple [a,b] k2 pt2) pos) (Po i j ta):=by
 intro pins s σ H D I h
 rw [exec_Assign_arm]
 refine wpAny_bind (wpAny_standAt ?_)
 rw [hs]
 refine wpAny_bind (wpAny_pure ?_)
 rw [if_neg (by decide)]
 refine wpAny_bind (Tuple_ (thn (ha _ pins s σ H _ I h) fun us s1 ⟨vs,H1,I1,r1,q1⟩=>?_))
 obtain ⟨v,w,e1,q1⟩:=q1
 subst e1
 obtain ⟨u1,u2,rfl,rv,rw'⟩:∃u1 u2,us=[u1,u2]/\cw v u1/\cw w u2:=by
  cases r1 with
  | cons p q=>
   cases q with
   | cons p' q'=>
    cases q'
    exact ⟨_,_,rfl,p,p'⟩
 refine wpAny_newObj_type ?_ (by show 2<=sizeLine;decide)
 have I2:Inv X pins σ H1 {s1 with heap:=s1.heap.push {cls:=.type "tuple",data:=.seq [u1,u2].toArray}}:=I1.kept (t':=s1.toks) fun b o e=>Heap.get?_push_of_some _ e
 rw [hw]
 refine wpAny_bind (wpAny_pure ?_)
 show wpAny (model X.prog X.w) X.A (do rule "assign.swapped-stores";let items ←unpackItems (.ref s1.heap.objs.size) 2 none;assignInOrder [fun v=>bindName X.env y v,fun v=>bindName X.env x v] items.reverse;pure Flow.next) _ _ _
 refine wpAny_bind (wpAny_rule (wpAny_bind (unpackItems_tuple (items:=#[u1,u2]) (I.ok.hd hc) (IsTup.new s1.heap _) fun h' hx'=>?_)))
 have I3:=I2.kept (h':=h') (t':=s1.toks) fun b o e=>hx' b o (Nat.ne_of_lt (Heap.lt_size e)) e
 show wpAny _ _ (assignInOrder [fun v=>bindName X.env y v,fun v=>bindName X.env x v] [u2,u1] >>= fun _=>pure Flow.next) _ _ _
 refine wpAny_bind (assignInOrder_cons (wpAny_bindName (nB I3 hN hj (.inl hy) rw' (fun s2 I4=>?_) (.inr hy))))
 refine assignInOrder_cons (wpAny_bindName (nB I4 hN hi (.inl hx) rv (fun s3 I5=>assignInOrder_nil (wpAny_pure ?_)) (.inr hx)))
 rw [List.set_comm _ _ (Ne.symm hij)] at I5
 exact ⟨_,H1,I5,q1⟩
end
section
variable {X:Cx}{pos:Pos}
noncomputable def JD (c:TT)(tb:TS):TS:=fun D σ H=>∃W:Nat->St->Hp->Prop,(∃m,W m σ H)/\∀m σ H,W m σ H->
 c σ H fun b H1=>if b=true then ∃N:St->Hp->Prop,(∀σ' H',N σ' H'->∃m',m' < m/\W m' σ' H')/\tb {D with nx:=N,ct:=N,bk:=D.nx} σ H1 else D.nx σ H1
theorem JE {c:Expr}{body:List Stmt}{tc:TT}{tb:TS}(hp:PassesOwn (model X.prog X.w) X.A X.env X.xe)(hc:PT X c tc)(hb:PSs X body tb):PS X (.While c body [] pos) (JD tc tb):=by
 intro pins s σ H D I h
 obtain ⟨W,⟨m0,w0⟩,turn⟩:=h
 refine wpAny_While (codeAny_whileLoop (fun n s'=>∃σ' H',Inv X pins σ' H' s'/\W n σ' H') ?_ m0 ⟨σ,H,I,w0⟩)
 rintro n s1 ⟨σ1,H1,I1,w1⟩
 refine wpAny_passesOwn hp (thn (hc pins s1 σ1 H1 _ I1 (turn n σ1 H1 w1)) fun b s2 ⟨H2,I2,q2⟩=>?_)
 cases b with
 | true=>
  obtain ⟨N,hN,q2⟩:=q2
  rw [if_pos rfl]
  refine wpAny_passesOwn hp (thn (hb pins s2 σ1 H2 _ I2 q2) fun f s3 q3=>?_)
  cases f with
  | next=>
   obtain ⟨σ3,H3,I3,n3⟩:=q3
   obtain ⟨m',hm,w3⟩:=hN σ3 H3 n3
   exact ⟨m',hm,σ3,H3,I3,w3⟩
  | cont=>
   obtain ⟨σ3,H3,I3,n3⟩:=q3
   obtain ⟨m',hm,w3⟩:=hN σ3 H3 n3
   exact ⟨m',hm,σ3,H3,I3,w3⟩
  | brk=>exact q3
  | ret v=>exact q3
 | false=>
  rw [if_neg Bool.false_ne_true]
  exact wpAny_execs_nil ⟨σ1,H2,I2,q2⟩
end
structure It where
 go:Nat->Hp->Prop
 yld:Nat->Hp->V->Hp->Prop
 stop:Nat->Hp->Prop
def qg (X:Cx)(pins:List (Addr×Obj))(H:Hp)(b:Addr):Prop:=
 H b=none/\b≠X.env.locals/\b∉X.fs/\(b∈X.ex\/X.s₀.heap.objs.size<=b)/\(∀x c,X.env.cells.lookup x=some c->c≠b)/\∀p∈X.pn++pins,p.1≠b
theorem Inv.fpOk {X:Cx}{pins:List (Addr×Obj)}{σ:St}{H H':Hp}{s:Shared}{b:Addr}(I:Inv X pins σ H s)(hb:s.heap.objs.size<=b)(hn:H' b=none):qg X pins H' b:=by
 refine ⟨hn,Nat.ne_of_gt (Nat.lt_of_lt_of_le I.lt hb),I.nofs hb,.inr (Nat.le_trans I.sz hb),fun x c e z=>?_,fun p hp z=>?_⟩
 ·obtain ⟨v,q⟩:=I.cell x c e
  exact absurd (Nat.lt_of_lt_of_le q.lt (by rw [z];exact hb)) (Nat.lt_irrefl _)
 ·exact absurd (Nat.lt_of_lt_of_le (Heap.lt_size (I.pin p hp).1) (by rw [z];exact hb)) (Nat.lt_irrefl _)
structure JF (P:Program)(w:World)(K:PySem.W.Frag)(tg:Expr)(J:It)(fp:List Addr)(it:Addr)(tn:Nat->Heap->Prop):Prop where
 mem:it∈fp
 obj:∀i h,tn i h->∀b∈fp,∃o,h.get? b=some o/\∀v,o.data≠.cell v
 keep:∀i h h',tn i h->(∀b∈fp,∀o,h.get? b=some o->h'.get? b=some o)->tn i h'
 item:∀(X:Cx),X.prog=P->X.w=w->X.K=K->X.calm=true->∀(i:Nat) (pins:List (Addr×Obj)) (s:Shared) (σ:St) (H:Hp) (E:Value->Shared->Prop),Inv X pins σ H s->(∀b∈fp,qg X pins H b)->tn i s.heap->J.go i H->
  wpAny (model P w) X.A (pyNext (.ref it)) (fun r s1=>∃u,r=some u/\
   wpAny (model P w) X.A (letOwnedTupleGo tg (.ref it) u) (fun _ s2=>∃x H',Inv X pins σ H' s2/\cw x u/\J.yld i H x H'/\tn (i+1) s2.heap/\∀b∈fp,H' b=none) E s1) E s
 done:∀(X:Cx),X.prog=P->X.w=w->X.K=K->X.calm=true->∀(i:Nat) (pins:List (Addr×Obj)) (s:Shared) (σ:St) (H:Hp) (E:Value->Shared->Prop),Inv X pins σ H s->(∀b∈fp,qg X pins H b)->tn i s.heap->J.stop i H->
  wpAny (model P w) X.A (pyNext (.ref it)) (fun r s1=>r=none/\Inv X pins σ H s1) E s
 self:∀(A:Around) (i:Nat) (s:Shared) (Q:Value->Shared->Prop) (E:Value->Shared->Prop),tn i s.heap->Q (.ref it) s->wpAny (model P w) A (pyIter (.ref it)) Q E s
noncomputable abbrev TI:=St->Hp->(It->Hp->Prop)->Prop
def PIE (X:Cx)(pins:List (Addr×Obj))(σ:St)(tg:Expr)(R:It->Hp->Prop)(itv:Value)(s2:Shared):Prop:=
 ∃(it:Addr) (fp:List Addr) (tn:Nat->Heap->Prop) (J:It) (H':Hp),itv=.ref it/\Inv X pins σ H' s2/\JF X.prog X.w X.K tg J fp it tn/\tn 0 s2.heap/\(∀b∈fp,qg X pins H' b)/\R J H'
def PI (X:Cx)(tg iter:Expr)(wi:TI):Prop:=
 ∀(pins:List (Addr×Obj)) (s:Shared) (σ:St) (H:Hp) (R:It->Hp->Prop),Inv X pins σ H s->wi σ H R->
  wpAny (model X.prog X.w) X.A (eval iter X.env) (fun v s1=>wpAny (model X.prog X.w) X.A (pyIter v) (PIE X pins σ tg R) X.xe s1) X.xe s
theorem M7 {M:Model}{A:Around}{E:Value->Shared->Prop}{s:Shared}{tg:Expr}{it:Addr}{u:Value}{o:Obj}{n:String}{vs:Array Value}{Q:Unit->Shared->Prop}(ho:s.heap.get? it=some o)(hc:o.cls=.type n)(hd:o.data=.fields vs)
  (hn:["enumerate","zip","dict_itemiterator","dict_reverseitemiterator","odict_iterator","itertools.zip_longest","itertools.pairwise"].contains n=false) (hQ:Q () s):wpAny M A (letOwnedTupleGo tg (.ref it) u) Q E s:=by
 unfold letOwnedTupleGo
 cases tg<;>first
  | exact wpAny_pure hQ
  | (cases u<;>first
    | exact wpAny_pure hQ
    | (refine wpAny_bind (wpAny_load ho ?_)
       rw [hc,hd]
       show wpAny M A (if (["enumerate","zip","dict_itemiterator","dict_reverseitemiterator","odict_iterator","itertools.zip_longest","itertools.pairwise"].contains n && vs[0]? == some (rawInt _))=true then _ else _) Q E s
       rw [if_neg (by intro h;rw [hn,Bool.false_and] at h;cases h)]
       exact wpAny_pure hQ))
noncomputable def Itl (K:PySem.W.Frag)(a:Addr):It:=
 ⟨fun i H=>∃xs x,SqL K H a xs/\xs[i]?=some x,fun i H x H'=>H'=H/\∀xs,SqL K H a xs->xs[i]?=some x,fun i H=>∃xs,SqL K H a xs/\xs.length<=i⟩
noncomputable def Itt (K:PySem.W.Frag)(a:Addr):It:=
 ⟨fun i H=>∃xs x,SqT K H a xs/\xs[i]?=some x,fun i H x H'=>H'=H/\∀xs,SqT K H a xs->xs[i]?=some x,fun i H=>∃xs,SqT K H a xs/\xs.length<=i⟩
noncomputable def Itr (lo:Int)(n:Nat):It:=⟨fun i _=>i < n,fun i H x H'=>H'=H/\x=.int (lo+i),fun i _=>n<=i⟩
theorem IE {P:Program}{w:World}{K:PySem.W.Frag}{tg:Expr}(a it:Addr):JF P w K tg (Itl K a) [it] it (fun i h=>h.IsListIter it a i) where
 mem:=by simp
 obj:=fun i h st b hb=>by
  have e:b=it:=by simpa using hb
  subst e
  obtain ⟨o,e,c,d⟩:=st
  exact ⟨o,e,fun v z=>by rw [d] at z;cases z⟩
 keep:=fun i h h' st k=>st.at fun o e=>k it (by simp) o e
 item:=by
  intro X hP hw hK hc i pins s σ H E I hf st hg
  subst hP hw hK
  obtain ⟨xs,x,hq,hx⟩:=hg
  obtain ⟨its,rv,p,hz⟩:=I.list hq
  obtain ⟨u,hu,ru⟩:=rv.get hx
  obtain ⟨f0,f1,f2,f3,f4,f5⟩:=hf it (by simp)
  refine wpAny_pyNext_list_item st p.isList (x:=u) (by simpa using hu) fun h' st' sb=>?_
  have I1:Inv X pins σ H {s with heap:=h'}:=I.turned (t':=s.toks) (fun b o hb e=>(sb.2 b hb).trans e) f0 f1 f3 f4 f5
  obtain ⟨o,e,c,d⟩:=id st'
  exact ⟨u,rfl,M7 (s:={s with heap:=h'}) e c d (by decide) ⟨x,H,I1,ru,⟨rfl,fun ys hy=>by rw [I.list_inj hy hq];exact hx⟩,st',fun b hb=>(hf b hb).1⟩⟩
 done:=by
  intro X hP hw hK hc i pins s σ H E I hf st hg
  subst hP hw hK
  obtain ⟨xs,hq,hx⟩:=hg
  obtain ⟨its,rv,p,hz⟩:=I.list hq
  obtain ⟨f0,f1,f2,f3,f4,f5⟩:=hf it (by simp)
  have hl:=rv.length
  exact wpAny_pyNext_list_end (I.ok.hd hc) st p.isList (by simp;omega) fun h' eb=>⟨rfl,I.turned (t':=s.toks) (fun b o hb e=>eb b o hb e) f0 f1 f3 f4 f5⟩
 self:=fun _ _ _ _ _ st h=>wpAny_pyIter_listiter st h
theorem Gj {P:Program}{w:World}{K:PySem.W.Frag}{tg:Expr}(it:Addr)(lo:Int)(n:Nat):JF P w K tg (Itr lo n) [it] it (fun i h=>IsRangeIter h it (lo+(i:Nat) * 1) ((n:Int) - (i:Nat)) 1) where
 mem:=by simp
 obj:=fun i h st b hb=>by
  have e:b=it:=by simpa using hb
  subst e
  exact ⟨_,st,fun v z=>by
   have z':Data.fields _=Data.cell v:=z
   cases z'⟩
 keep:=fun i h h' st k=>k it (by simp) _ st
 item:=by
  intro X hP hw hK hc i pins s σ H E I hf st hg
  subst hP hw hK
  obtain ⟨f0,f1,f2,f3,f4,f5⟩:=hf it (by simp)
  have W:=Walks.range (prog:=X.prog) (w:=X.w) (I.ok.hd hc) it lo 1 n
  refine W.item i s _ _ hg st fun v h' tk hv st' kk=>?_
  obtain ⟨t,rfl⟩:=hv
  have I1:Inv X pins σ H {s with heap:=h',toks:=tk}:=I.turned (fun b o hb e=>kk b o (by simpa using hb) e) f0 f1 f3 f4 f5
  refine ⟨_,rfl,M7 (s:={s with heap:=h',toks:=tk}) (n:="range_iterator") st' rfl rfl (by decide) ⟨.int (lo+i),H,I1,⟨t,?_⟩,⟨rfl,rfl⟩,st',fun b hb=>(hf b hb).1⟩⟩
  rw [Int.mul_one]
 done:=by
  intro X hP hw hK hc i pins s σ H E I hf st hg
  subst hP hw hK
  obtain ⟨f0,f1,f2,f3,f4,f5⟩:=hf it (by simp)
  exact wpAny_pyNext_range_end (I.ok.hd hc) st (by have:n<=i:=hg;omega) fun h' eb=>⟨rfl,I.turned (t':=s.toks) (fun b o hb e=>eb b o hb e) f0 f1 f3 f4 f5⟩
 self:=fun _ _ _ _ _ st h=>wpAny_pyIter_rangeiter st h
section
variable {X:Cx}{tg:Expr}
noncomputable def M8 (K:PySem.W.Frag)(tl:TE):TI:=fun σ H R=>tl σ H fun x H1=>∃a,x=.ref a/\(∃xs,SqL K H1 a xs)/\R (Itl K a) H1
noncomputable def QA (K:PySem.W.Frag)(tl:TE):TI:=fun σ H R=>tl σ H fun x H1=>∃a,x=.ref a/\(∃xs,SqT K H1 a xs)/\R (Itt K a) H1
theorem gx {l:Expr}{tl:TE}(hl:PE X l tl):PI X tg l (M8 X.K tl):=by
 intro pins s σ H R I h
 refine thn (hl pins s σ H _ I h) fun v s1 ⟨x,H1,I1,r1,q1⟩=>?_
 obtain ⟨a,e,⟨xs,hq⟩,q⟩:=q1
 subst e
 cases r1
 obtain ⟨its,rv,p,hz⟩:=I1.list hq
 refine wpAny_pyIter_list p.isList ?_
 refine ⟨s1.heap.objs.size,[s1.heap.objs.size],_,_,H1,rfl,I1.kept (t':=s1.toks) fun b o e=>Heap.get?_push_of_some _ e,IE a _,⟨_,Heap.get?_push_size _ rfl,rfl,rfl⟩,fun b hb=>?_,q⟩
 have e:b=s1.heap.objs.size:=by simpa using hb
 subst e
 exact I1.fpOk (Nat.le_refl _) (I1.hok.fresh (Nat.le_refl _))
theorem Eg {pins:List (Addr×Obj)}{σ:St}{H:Hp}{s:Shared}{R:It->Hp->Prop}{E:Value->Shared->Prop}{lo hi:Int}{t u v:Tok}{tk:Nat}(I:Inv X pins σ H s)(h1:-(2 ^ 62)<=lo)(h2:lo < 2 ^ 62)(h3:-(2 ^ 62)<=hi)(h4:hi < 2 ^ 62)
  (q:R (Itr lo (hi - lo).toNat) H):wpAny (model X.prog X.w) X.A (pyIter (.ref s.heap.objs.size)) (PIE X pins σ tg R) E {s with heap:=s.heap.push {cls:=.type "range",data:=.fields #[.int lo t,.int hi u,.int 1 v]},toks:=tk}:=by
 refine wpAny_pyIter_range (IsRange.new ..) (small_one h1 h2 h3 h4) ?_
 have I1:Inv X pins σ H {s with heap:=s.heap.push {cls:=.type "range",data:=.fields #[.int lo t,.int hi u,.int 1 v]},toks:=tk}:=I.kept fun b o e=>Heap.get?_push_of_some _ e
 refine ⟨(s.heap.push {cls:=.type "range",data:=.fields #[.int lo t,.int hi u,.int 1 v]}).objs.size,[(s.heap.push {cls:=.type "range",data:=.fields #[.int lo t,.int hi u,.int 1 v]}).objs.size],_,_,H,rfl,
  I1.kept (t':=tk) fun b o e=>Heap.get?_push_of_some _ e,Gj _ lo (hi - lo).toNat,?_,fun b hb=>?_,q⟩
 ·have e1:lo+((0:Nat):Int) * 1=lo:=by simp
  have e2:(((hi - lo).toNat:Nat):Int) - ((0:Nat):Int)=Builtin.Range.rangeSize lo hi 1:=by rw [rangeSize_one];split<;>omega
  show IsRangeIter _ _ (lo+((0:Nat):Int) * 1) ((((hi - lo).toNat:Nat):Int) - ((0:Nat):Int)) 1
  rw [e1,e2]
  exact Heap.get?_push_size _ rfl
 ·have e:b=(s.heap.push {cls:=.type "range",data:=.fields #[.int lo t,.int hi u,.int 1 v]}).objs.size:=by simpa using hb
  subst e
  exact I1.fpOk (Nat.le_refl _) (I1.hok.fresh (Nat.le_refl _))
noncomputable def M9 (ta:TA):TI:=fun σ H R=>ta σ H fun vs H1=>∃j:Int,vs=[.int j]/\-(2 ^ 62)<=j/\j < 2 ^ 62/\R (Itr 0 j.toNat) H1
noncomputable def Na (ta:TA):TI:=fun σ H R=>ta σ H fun vs H1=>∃i j:Int,vs=[.int i,.int j]/\(-(2 ^ 62)<=i/\i < 2 ^ 62/\-(2 ^ 62)<=j/\j < 2 ^ 62)/\R (Itr i (j - i).toNat) H1
theorem cC {a:Expr}{ta:TA}{p pos:Pos}(hg:Gl X "range")(hm:X.mg "range"=none)(ha:PA X [a] ta)(hs:starEach [a] X.env=[(false,eval a X.env)]:=by rfl):PI X tg (.Call (.Name "range" p) [a] [] pos) (M9 ta):=by
 intro pins s σ H R I h
 refine Call_ (uV I hg hm boot_range (PyProof.Rows.callWith_type1 (thn (ha pos pins s σ H _ I h) fun us s1 ⟨vs,H1,I1,r1,q1⟩=>?_) hs rfl))
 obtain ⟨j,e,q1,q2,q⟩:=q1
 subst e
 cases r1 with
 | cons r rr=>
  cases rr
  obtain ⟨t,rfl⟩:=r
  exact call_range_1 (Eg I1 (by omega) (by omega) q1 q2 (by simpa using q))
theorem BF {a b:Expr}{ta:TA}{p pos:Pos}(hg:Gl X "range")(hm:X.mg "range"=none)(ha:PA X [a,b] ta)(hs:starEach [a,b] X.env=[(false,eval a X.env),(false,eval b X.env)]:=by rfl)(hs2:starEach [b] X.env=[(false,eval b X.env)]:=by rfl) :
  PI X tg (.Call (.Name "range" p) [a,b] [] pos) (Na ta):=by
 intro pins s σ H R I h
 refine Call_ (uV I hg hm boot_range (PyProof.Rows.callWith_type1 (thn (ha pos pins s σ H _ I h) fun us s1 ⟨vs,H1,I1,r1,q1⟩=>?_) (by rw [hs,hs2]) (by rw [hs2];rfl)))
 obtain ⟨i,j,e,⟨q1,q2,q3,q4⟩,q⟩:=q1
 subst e
 cases r1 with
 | cons r rr=>
  cases rr with
  | cons r' rr=>
   cases rr
   obtain ⟨t,rfl⟩:=r
   obtain ⟨t',rfl⟩:=r'
   exact call_range_2 (Eg I1 q1 q2 q3 q4 q)
noncomputable def Pp (wi:TI)(g:TG)(tb:TS):TS:=fun D σ H=>wi σ H fun J H1=>∃W:Nat->Nat->St->Hp->Prop,(∃m,W 0 m σ H1)/\∀i m σ H,W i m σ H->
 (J.stop i H/\D.nx σ H)\/(J.go i H/\∃N:St->Hp->Prop,(∀σ' H',N σ' H'->∃m',m' < m/\W (i+1) m' σ' H')/\∀x H',J.yld i H x H'->g x σ H' fun σ2 H2=>tb {D with nx:=N,ct:=N,bk:=D.nx} σ2 H2)
noncomputable def uW (fp:List Addr)(h:Heap):List (Addr×Obj):=fp.filterMap fun b=>(h.get? b).map fun o=>(b,o)
theorem fP {fp:List Addr}{h:Heap}{b:Addr}{o:Obj}(hb:b∈fp)(e:h.get? b=some o):(b,o)∈uW fp h:=List.mem_filterMap.mpr ⟨b,hb,by rw [e];rfl⟩
theorem IF {fp:List Addr}{h:Heap}{p:Addr×Obj}(hp:p∈uW fp h):p.1∈fp/\h.get? p.1=some p.2:=by
 obtain ⟨b,hb,e⟩:=List.mem_filterMap.mp hp
 cases q:h.get? b with
 | none=>rw [q] at e;cases e
 | some o=>
  rw [q] at e
  have e':(b,o)=p:=Option.some.inj e
  subst e'
  exact ⟨hb,q⟩
theorem Inv.pinned {pins:List (Addr×Obj)}{σ:St}{H:Hp}{s:Shared}{fp:List Addr}(I:Inv X pins σ H s)(hf:∀b∈fp,qg X pins H b)(ho:∀b∈fp,∃o,s.heap.get? b=some o/\∀v,o.data≠.cell v):Inv X (pins++uW fp s.heap) σ H s:=
 I.pins_of fun p hp=>(List.mem_append.mp hp).elim (fun z=>I.pin p (List.mem_append_right _ z)) fun z=>by
  obtain ⟨hb,e⟩:=IF z
  obtain ⟨f0,f1,f2,_⟩:=hf p.1 hb
  obtain ⟨o,e',d⟩:=ho p.1 hb
  rw [e] at e';cases e'
  exact ⟨e,f0,f1,f2,d⟩
theorem Inv.unpinned {pins pl:List (Addr×Obj)}{σ:St}{H:Hp}{s:Shared}(I:Inv X (pins++pl) σ H s):Inv X pins σ H s:=I.pins_of fun p hp=>I.pin p (List.mem_append_right _ (List.mem_append_left _ hp))
theorem eJ {iter:Expr}{body:List Stmt}{wi:TI}{g:TG}{tb:TS}{pos:Pos}(hp:PassesOwn (model X.prog X.w) X.A X.env X.xe)(hc:X.calm=true)(hi:PI X tg iter wi)(hg:PG X tg g)(hb:PSs X body tb)
  (hs:∀x,foldedSetIterable iter X.env x=pure x:=by intro _;rfl):PS X (.For tg iter body [] pos) (Pp wi g tb):=by
 intro pins s σ H D I h
 refine wpAny_For (thn (hi pins s σ H _ I h) fun v s1 h1=>thn h1 fun itv s2 h2=>?_) hs
 obtain ⟨it,fp,tn,J,H2,e,I2,T,st2,f2,W,⟨m0,w0⟩,turn⟩:=h2
 subst e
 have stat:∀{H':Hp},(∀b∈fp,H' b=none)->∀b∈fp,qg X pins H' b:=fun hn b hb=>⟨hn b hb,(f2 b hb).2⟩
 refine codeAny_forLoop_any (fun n s'=>∃i σ' H',Inv X pins σ' H' s'/\tn i s'.heap/\(∀b∈fp,H' b=none)/\W i n σ' H') ?_ m0 ⟨0,σ,H2,I2,st2,fun b hb=>(f2 b hb).1,w0⟩
 rintro n s3 ⟨i,σ3,H3,I3,st3,fr3,w3⟩
 rcases turn i n σ3 H3 w3 with ⟨stop,qn⟩ | ⟨go,N,hN,step⟩
 ·refine wpAny_passesOwn hp (thn (T.done X rfl rfl rfl hc i pins s3 σ3 H3 X.xe I3 (stat fr3) st3 stop) fun r s4 ⟨hr,I4⟩=>?_)
  subst hr
  exact wpAny_execs_nil ⟨σ3,H3,I4,qn⟩
 ·refine wpAny_passesOwn hp (thn (T.item X rfl rfl rfl hc i pins s3 σ3 H3 X.xe I3 (stat fr3) st3 go) fun r s4 ⟨u,hr,h4⟩=>?_)
  subst hr
  refine wpAny_passesOwn hp (thn h4 fun _ s5 ⟨x,H5,I5,r5,y5,st5,fr5⟩=>?_)
  have I5':=I5.pinned (stat fr5) (T.obj _ _ st5)
  refine wpAny_passesOwn hp (thn (hg _ s5 σ3 H5 x u _ I5' r5 (step x H5 y5)) fun _ s6 ⟨σ6,H6,I6,q6⟩=>?_)
  refine wpAny_passesOwn hp (thn (hb _ s6 σ6 H6 _ I6 q6) fun f s7 q7=>?_)
  have again:∀{σ7:St} {H7:Hp},Inv X (pins++uW fp s5.heap) σ7 H7 s7->N σ7 H7->∃m,m < n/\∃i σ' H',Inv X pins σ' H' s7/\tn i s7.heap/\(∀b∈fp,H' b=none)/\W i m σ' H':=fun {σ7 H7} I7 n7=>by
   obtain ⟨m',hm,w7⟩:=hN σ7 H7 n7
   refine ⟨m',hm,i+1,σ7,H7,I7.unpinned,T.keep _ _ _ st5 fun b hb o e=>(I7.pin (b,o) (List.mem_append_right _ (List.mem_append_right _ (fP hb e)))).1,fun b hb=>?_,w7⟩
   obtain ⟨o,e,d⟩:=T.obj _ _ st5 b hb
   exact (I7.pin (b,o) (List.mem_append_right _ (List.mem_append_right _ (fP hb e)))).2.1
  cases f with
  | next=>obtain ⟨σ7,H7,I7,n7⟩:=q7;exact again I7 n7
  | cont=>obtain ⟨σ7,H7,I7,n7⟩:=q7;exact again I7 n7
  | brk=>obtain ⟨σ7,H7,I7,q7⟩:=q7;exact ⟨σ7,H7,I7.unpinned,q7⟩
  | ret v=>obtain ⟨x7,σ7,H7,I7,r7,q7⟩:=q7;exact ⟨x7,σ7,H7,I7.unpinned,r7,q7⟩
end
theorem JG {K:PySem.W.Frag}{a:Addr}{xs:List V}{g:TG}{tb:TS}{D:lr}{σ:St}{H:Hp}(Pv:Nat->St->Hp->Prop)(h0:Pv 0 σ H)(hl:∀i σ H,i<=xs.length->Pv i σ H->SqL K H a xs)
  (hs:∀i x σ H,xs[i]?=some x->Pv i σ H->g x σ H fun σ2 H2=>tb {D with nx:=Pv (i+1),ct:=Pv (i+1),bk:=D.nx} σ2 H2) (hd:∀σ H,Pv xs.length σ H->D.nx σ H) :
  ∃W:Nat->Nat->St->Hp->Prop,(∃m,W 0 m σ H)/\∀i m σ H,W i m σ H->
   ((Itl K a).stop i H/\D.nx σ H)\/((Itl K a).go i H/\∃N:St->Hp->Prop,(∀σ' H',N σ' H'->∃m',m' < m/\W (i+1) m' σ' H')/\∀x H',(Itl K a).yld i H x H'->g x σ H' fun σ2 H2=>tb {D with nx:=N,ct:=N,bk:=D.nx} σ2 H2):=by
 refine ⟨fun i m σ H=>m=xs.length - i/\i<=xs.length/\Pv i σ H,⟨xs.length,by simp,Nat.zero_le _,h0⟩,?_⟩
 rintro i m σ H ⟨rfl,hi,p⟩
 have q:=hl i σ H hi p
 by_cases hlt:i < xs.length
 ·refine .inr ⟨⟨xs,xs[i],q,by simp [hlt]⟩,Pv (i+1),fun σ' H' p'=>⟨xs.length - (i+1),by omega,rfl,hlt,p'⟩,fun x H' y=>?_⟩
  obtain ⟨e,y⟩:=y
  subst e
  exact hs i x σ _ (y xs q) p
 ·have e:i=xs.length:=by omega
  subst e
  exact .inl ⟨⟨xs,q,Nat.le_refl _⟩,hd σ H p⟩
theorem IG {lo:Int}{n:Nat}{g:TG}{tb:TS}{D:lr}{σ:St}{H:Hp}(Pv:Nat->St->Hp->Prop)(h0:Pv 0 σ H)
  (hs:∀i σ H,i < n->Pv i σ H->g (.int (lo+i)) σ H fun σ2 H2=>tb {D with nx:=Pv (i+1),ct:=Pv (i+1),bk:=D.nx} σ2 H2) (hd:∀σ H,Pv n σ H->D.nx σ H) :
  ∃W:Nat->Nat->St->Hp->Prop,(∃m,W 0 m σ H)/\∀i m σ H,W i m σ H->
   ((Itr lo n).stop i H/\D.nx σ H)\/((Itr lo n).go i H/\∃N:St->Hp->Prop,(∀σ' H',N σ' H'->∃m',m' < m/\W (i+1) m' σ' H')/\∀x H',(Itr lo n).yld i H x H'->g x σ H' fun σ2 H2=>tb {D with nx:=N,ct:=N,bk:=D.nx} σ2 H2):=by
 refine ⟨fun i m σ H=>m=n - i/\i<=n/\Pv i σ H,⟨n,by simp,Nat.zero_le _,h0⟩,?_⟩
 rintro i m σ H ⟨rfl,hi,p⟩
 by_cases hlt:i < n
 ·refine .inr ⟨hlt,Pv (i+1),fun σ' H' p'=>⟨n - (i+1),by omega,rfl,hlt,p'⟩,fun x H' y=>?_⟩
  obtain ⟨e,y⟩:=y
  subst e y
  exact hs i σ _ hlt p
 ·have e:i=n:=by omega
  subst e
  exact .inl ⟨Nat.le_refl _,hd σ H p⟩
theorem JH {c:TT}{tb:TS}{D:lr}{σ:St}{H:Hp}(Pv:St->Hp->Prop)(μ:St->Hp->Nat)(h0:Pv σ H)
  (hs:∀σ H,Pv σ H->c σ H fun b H1=>if b=true then tb {D with nx:=fun σ' H'=>Pv σ' H'/\μ σ' H' < μ σ H,ct:=fun σ' H'=>Pv σ' H'/\μ σ' H' < μ σ H,bk:=D.nx} σ H1 else D.nx σ H1)
  (mono:∀σ H Q Q',(∀b H1,Q b H1->Q' b H1)->c σ H Q->c σ H Q'):JD c tb D σ H:=by
 refine ⟨fun m σ H=>m=μ σ H/\Pv σ H,⟨_,rfl,h0⟩,?_⟩
 rintro m σ H ⟨rfl,p⟩
 refine mono σ H _ _ (fun b H1 q=>?_) (hs σ H p)
 cases b with
 | true=>exact ⟨_,fun σ' H' ⟨p',l⟩=>⟨_,l,rfl,p'⟩,q⟩
 | false=>exact q
noncomputable abbrev R2:=V->V->Hp->VK->Prop
def OpR (X:Cx)(f:Value->Value->Sem Value)(r:R2):Prop:=
 ∀(pins:List (Addr×Obj)) (s:Shared) (σ:St) (H:Hp) (x y:V) (v u:Value) (Q:VK),Inv X pins σ H s->cw x v->cw y u->r x y H Q->
  wpAny (model X.prog X.w) X.A (f v u) (EP X pins σ Q) X.xe s
def UnR (X:Cx)(f:Value->Sem Value)(r:V->Hp->VK->Prop):Prop:=
 ∀(pins:List (Addr×Obj)) (s:Shared) (σ:St) (H:Hp) (x:V) (v:Value) (Q:VK),Inv X pins σ H s->cw x v->r x H Q->
  wpAny (model X.prog X.w) X.A (f v) (EP X pins σ Q) X.xe s
def iG (X:Cx)(f:Value)(r:List V->Hp->VK->Prop):Prop:=
 ∀(pins:List (Addr×Obj)) (s:Shared) (σ:St) (H:Hp) (xs:List V) (us:List Value) (Q:VK),Inv X pins σ H s->bJ xs us->r xs H Q->
  wpAny (model X.prog X.w) X.A (call f us) (EP X pins σ Q) X.xe s
def QB (X:Cx)(r:V->Hp->(Bool->Hp->Prop)->Prop):Prop:=
 ∀(pins:List (Addr×Obj)) (s:Shared) (σ:St) (H:Hp) (x:V) (v:Value) (Q:Bool->Hp->Prop),Inv X pins σ H s->cw x v->r x H Q->
  wpAny (model X.prog X.w) X.A (truthy v) (TP X pins σ Q) X.xe s
noncomputable def tOp (r:R2)(ta tb:TE):TE:=fun σ H Q=>ta σ H fun x H1=>tb σ H1 fun y H2=>r x y H2 Q
noncomputable def tUn (r:V->Hp->VK->Prop)(ta:TE):TE:=fun σ H Q=>ta σ H fun x H1=>r x H1 Q
noncomputable def rI (C:Int->Int->Prop)(g:Int->Int->V):R2:=fun x y H Q=>∃i j,x=.int i/\y=.int j/\C i j/\Q (g i j) H
noncomputable def rI0 (g:Int->Int->V):R2:=fun x y H Q=>∃i j,x=.int i/\y=.int j/\Q (g i j) H
noncomputable def rU (g:Int->V):V->Hp->VK->Prop:=fun x H Q=>∃i,x=.int i/\Q (g i) H
section
variable {X:Cx}{a b c:Expr}{ta tb tc:TE}{pos:Pos}
theorem N5 (ha:PE X a ta)(hb:PE X b tb){pins:List (Addr×Obj)}{s:Shared}{σ:St}{H:Hp}{R:V->V->Hp->Prop}(I:Inv X pins σ H s)
  (h:ta σ H fun x H1=>tb σ H1 fun y H2=>R x y H2) {Q:Value->Shared->Prop} {f:Value->Value->Sem Value}
  (hf:∀v u s2 x y H2,Inv X pins σ H2 s2->cw x v->cw y u->R x y H2->wpAny (model X.prog X.w) X.A (f v u) Q X.xe s2) :
  wpAny (model X.prog X.w) X.A (eval a X.env) (fun v s₁=>wpAny (model X.prog X.w) X.A (eval b X.env) (fun u s₂=>wpAny (model X.prog X.w) X.A (f v u) Q X.xe s₂) X.xe s₁) X.xe s:=by
 refine thn (ha pins s σ H _ I h) fun v s1 ⟨x,H1,I1,r1,q1⟩=>?_
 refine thn (hb pins s1 σ H1 _ I1 q1) fun u s2 ⟨y,H2,I2,r2,q2⟩=>?_
 exact hf v u s2 x y H2 I2 r1 r2 q2
theorem aT {op:Operator}{r:R2}(ho:OpR X (binaryOp op) r)(ha:PE X a ta)(hb:PE X b tb):PE X (.BinOp a op b pos) (tOp r ta tb):=by
 intro pins s σ H Q I h
 exact wpAny_BinOp (N5 ha hb I h fun v u s2 x y H2 I2 rx ry q=>ho pins s2 σ H2 x y v u Q I2 rx ry q)
theorem jZ {op:UnaryOp}{r:V->Hp->VK->Prop}(ho:UnR X (unaryOp op) r)(ha:PE X a ta):PE X (.UnaryOp op a pos) (tUn r ta):=by
 intro pins s σ H Q I h
 exact UnaryOp_ (thn (ha pins s σ H _ I h) fun v s1 ⟨x,H1,I1,r1,q1⟩=>ho pins s1 σ H1 x v Q I1 r1 q1)
theorem opI {f:Value->Value->Sem Value}{C:Int->Int->Prop}{g:Int->Int->Int}
  (rule:∀(i j:Int) (t u:Tok) (s:Shared) (Q:Value->Shared->Prop) (E:Value->Shared->Prop),C i j->Q (.int (g i j) s.toks) {s with toks:=s.toks+1}->wpAny (model X.prog X.w) X.A (f (.int i t) (.int j u)) Q E s) :
  OpR X f (rI C fun i j=>.int (g i j)):=by
 intro pins s σ H x y v u Q I rx ry h
 obtain ⟨i,j,rfl,rfl,hc,q⟩:=h
 obtain ⟨t,rfl⟩:=rx
 obtain ⟨t',rfl⟩:=ry
 exact rule i j t t' s _ _ hc ⟨.int (g i j),H,I.tok _,⟨_,rfl⟩,q⟩
theorem Pq {f:Value->Value->Sem Value}{g:Int->Int->Int}
  (rule:∀(i j:Int) (t u:Tok) (s:Shared) (Q:Value->Shared->Prop) (E:Value->Shared->Prop),Q (.int (g i j) s.toks) {s with toks:=s.toks+1}->wpAny (model X.prog X.w) X.A (f (.int i t) (.int j u)) Q E s) :
  OpR X f (rI0 fun i j=>.int (g i j)):=by
 intro pins s σ H x y v u Q I rx ry h
 obtain ⟨i,j,rfl,rfl,q⟩:=h
 obtain ⟨t,rfl⟩:=rx
 obtain ⟨t',rfl⟩:=ry
 exact rule i j t t' s _ _ ⟨.int (g i j),H,I.tok _,⟨_,rfl⟩,q⟩
theorem LG {f:Value->Value->Sem Value}{g:Int->Int->Bool}
  (rule:∀(i j:Int) (t u:Tok) (s:Shared) (Q:Value->Shared->Prop) (E:Value->Shared->Prop),Q (.bool (g i j)) s->wpAny (model X.prog X.w) X.A (f (.int i t) (.int j u)) Q E s) :
  OpR X f (rI0 fun i j=>.bl (g i j)):=by
 intro pins s σ H x y v u Q I rx ry h
 obtain ⟨i,j,rfl,rfl,q⟩:=h
 obtain ⟨t,rfl⟩:=rx
 obtain ⟨t',rfl⟩:=ry
 exact rule i j t t' s _ _ ⟨.bl (g i j),H,I,rfl,q⟩
def JI (i j:Int):Prop:=0 < j/\j < 1073741824
def Pr (i j:Int):Prop:=0<=j/\j<=1000000/\i.natAbs < 2 ^ 64
def AS (i j:Int):Prop:=(-(2 ^ 64) < i/\i < 2 ^ 64)\/(-(2 ^ 64) < j/\j < 2 ^ 64)
theorem AS.ok {i j:Int}(h:AS i j):IntMulOk i j:=by
 rcases h with ⟨h1,h2⟩ | ⟨h1,h2⟩
 ·exact .of_left (intBits_le_64 h1 h2)
 ·exact .of_right (intBits_le_64 h1 h2)
theorem cu:OpR X (binaryOp .Add) (rI0 fun i j=>.int (i+j)):=Pq fun _ _ _ _ _ _ _ q=>add_int q
theorem gJ:OpR X (binaryOp .Sub) (rI0 fun i j=>.int (i - j)):=Pq fun _ _ _ _ _ _ _ q=>sub_int q
theorem jO:OpR X (binaryOp .Mult) (rI AS fun i j=>.int (i * j)):=opI fun _ _ _ _ _ _ _ hc q=>mul_int q hc.ok
theorem oH:OpR X (binaryOp .FloorDiv) (rI JI fun i j=>.int (i / j)):=opI fun i j _ _ _ _ _ hc q=>by
 have h1:(0:Int) < j:=hc.1
 have h2:j < 1073741824:=hc.2
 exact floordiv_int (by omega) (by rw [Int.fdiv_eq_ediv_of_nonneg i (by omega)];exact q) (.inl (PyProof.noPylong_small (by omega)))
theorem c9:OpR X (binaryOp .Mod) (rI (fun _ j=>0 < j) fun i j=>.int (i % j)):=opI fun i j _ _ _ _ _ hc q=>by
 have h1:(0:Int) < j:=hc
 exact mod_int' (by omega) (by rw [Int.fmod_eq_emod_of_nonneg i (by omega)];exact q)
theorem N6:OpR X (binaryOp .Pow) (rI Pr fun i j=>.int (i ^ j.toNat)):=opI fun _ _ _ _ _ _ _ hc q=>pow_int_small hc.1 hc.2.1 hc.2.2 q
theorem unI {f:Value->Sem Value}{g:Int->Int}
  (rule:∀(i:Int) (t:Tok) (s:Shared) (Q:Value->Shared->Prop) (E:Value->Shared->Prop),Q (.int (g i) s.toks) {s with toks:=s.toks+1}->wpAny (model X.prog X.w) X.A (f (.int i t)) Q E s) :
  UnR X f (rU fun i=>.int (g i)):=by
 intro pins s σ H x v Q I rx h
 obtain ⟨i,rfl,q⟩:=h
 obtain ⟨t,rfl⟩:=rx
 exact rule i t s _ _ ⟨.int (g i),H,I.tok _,⟨_,rfl⟩,q⟩
theorem fQ:UnR X (unaryOp .USub) (rU fun i=>.int (-i)):=unI fun _ _ _ _ _ q=>neg_int q
end
noncomputable def AU:V->V->Bool
 | .non,.non=>true | .non,.int _=>true | .int _,.non=>true | .non,.bl _=>true | .bl _,.non=>true | .non,.str _=>true | .str _,.non=>true
 | .int _,.int _=>true | .bl _,.bl _=>true | .str _,.str _=>true | .byt _,.byt _=>true
 | .int _,.str _=>true | .str _,.int _=>true | .bl _,.str _=>true | .str _,.bl _=>true
 | _,_=>false
noncomputable def rEq:R2:=fun x y H Q=>AU x y=true/\Q (.bl (decide (x=y))) H
noncomputable def rNe:R2:=fun x y H Q=>AU x y=true/\Q (.bl (!decide (x=y))) H
theorem Hx {i j:Int}:decide (V.int i=V.int j)=(i == j):=by
 rw [Bool.eq_iff_iff]
 simp
theorem JJ {i j:Bool}:decide (V.bl i=V.bl j)=(i == j):=by
 rw [Bool.eq_iff_iff]
 simp
theorem Hy {i j:Str}:decide (V.str i=V.str j)=(i == j):=by
 rw [Bool.eq_iff_iff]
 simp
theorem Hz {i j:Array UInt8}:decide (V.byt i=V.byt j)=(i.toList == j.toList):=by
 rw [Bool.eq_iff_iff]
 cases i
 cases j
 simp
section
variable {X:Cx}{a b c:Expr}{ta tb tc:TE}{pos:Pos}
theorem cE {pins:List (Addr×Obj)}{σ:St}{H:Hp}{s:Shared}{Q:VK}{k k':Bool}(I:Inv X pins σ H s)(q:Q (.bl k) H)(e:k=k'):EP X pins σ Q (.bool k') s:=by
 subst e
 exact ⟨.bl k,H,I,rfl,q⟩
theorem bM:OpR X (compareOp .Eq) rEq:=by
 intro pins s σ H x y v u Q I rx ry h
 obtain ⟨hs,q⟩:=h
 cases x with
 | non=>
  cases rx
  cases y with
  | non=>cases ry;exact PySem.EqNone.eq_none_none (cE I q (by simp))
  | bl j=>cases ry;exact PySem.EqNone.eq_none_bool (cE I q (by simp))
  | int j=>obtain ⟨t',rfl⟩:=ry;exact PySem.EqNone.eq_none_int (cE I q (by simp))
  | str j=>obtain ⟨t',rfl⟩:=ry;exact PySem.EqNone.eq_none_str (cE I q (by simp))
  | _=>exact absurd (show false=true from hs) Bool.false_ne_true
 | bl i=>
  cases rx
  cases y with
  | non=>cases ry;exact PySem.EqNone.eq_bool_none (cE I q (by simp))
  | bl j=>cases ry;exact eq_bool (cE I q JJ)
  | str j=>obtain ⟨t',rfl⟩:=ry;exact PySem.EqMixed.eq_bool_str (cE I q (by simp))
  | _=>exact absurd (show false=true from hs) Bool.false_ne_true
 | int i=>
  obtain ⟨t,rfl⟩:=rx
  cases y with
  | non=>cases ry;exact PySem.EqNone.eq_int_none (cE I q (by simp))
  | int j=>obtain ⟨t',rfl⟩:=ry;exact eq_int (cE I q Hx)
  | str j=>obtain ⟨t',rfl⟩:=ry;exact PySem.EqMixed.eq_int_str (cE I q (by simp))
  | _=>exact absurd (show false=true from hs) Bool.false_ne_true
 | str i=>
  obtain ⟨t,rfl⟩:=rx
  cases y with
  | non=>cases ry;exact PySem.EqNone.eq_str_none (cE I q (by simp))
  | bl j=>cases ry;exact PySem.EqMixed.eq_str_bool (cE I q (by simp))
  | int j=>obtain ⟨t',rfl⟩:=ry;exact PySem.EqMixed.eq_str_int (cE I q (by simp))
  | str j=>obtain ⟨t',rfl⟩:=ry;exact eq_str (cE I q Hy)
  | _=>exact absurd (show false=true from hs) Bool.false_ne_true
 | byt i=>
  obtain ⟨t,rfl⟩:=rx
  cases y with
  | byt j=>obtain ⟨t',rfl⟩:=ry;exact PySem.W.eq_bytes (cE I q Hz)
  | _=>exact absurd (show false=true from hs) Bool.false_ne_true
 | _=>cases y<;>exact absurd (show false=true from hs) Bool.false_ne_true
theorem tE:OpR X (compareOp .NotEq) rNe:=by
 intro pins s σ H x y v u Q I rx ry h
 obtain ⟨hs,q⟩:=h
 cases x with
 | non=>
  cases rx
  cases y with
  | non=>cases ry;exact PySem.EqNone.ne_none_none (cE I q (by simp))
  | bl j=>cases ry;exact PySem.EqNone.ne_none_bool (cE I q (by simp))
  | int j=>obtain ⟨t',rfl⟩:=ry;exact PySem.EqNone.ne_none_int (cE I q (by simp))
  | str j=>obtain ⟨t',rfl⟩:=ry;exact PySem.EqNone.ne_none_str (cE I q (by simp))
  | _=>exact absurd (show false=true from hs) Bool.false_ne_true
 | bl i=>
  cases rx
  cases y with
  | non=>cases ry;exact PySem.EqNone.ne_bool_none (cE I q (by simp))
  | bl j=>cases ry;exact ne_bool (cE I q (congrArg not JJ))
  | str j=>obtain ⟨t',rfl⟩:=ry;exact PySem.EqMixed.ne_bool_str (cE I q (by simp))
  | _=>exact absurd (show false=true from hs) Bool.false_ne_true
 | int i=>
  obtain ⟨t,rfl⟩:=rx
  cases y with
  | non=>cases ry;exact PySem.EqNone.ne_int_none (cE I q (by simp))
  | int j=>obtain ⟨t',rfl⟩:=ry;exact ne_int (cE I q (congrArg not Hx))
  | str j=>obtain ⟨t',rfl⟩:=ry;exact PySem.EqMixed.ne_int_str (cE I q (by simp))
  | _=>exact absurd (show false=true from hs) Bool.false_ne_true
 | str i=>
  obtain ⟨t,rfl⟩:=rx
  cases y with
  | non=>cases ry;exact PySem.EqNone.ne_str_none (cE I q (by simp))
  | bl j=>cases ry;exact PySem.EqMixed.ne_str_bool (cE I q (by simp))
  | int j=>obtain ⟨t',rfl⟩:=ry;exact PySem.EqMixed.ne_str_int (cE I q (by simp))
  | str j=>obtain ⟨t',rfl⟩:=ry;exact ne_str (cE I q (congrArg not Hy))
  | _=>exact absurd (show false=true from hs) Bool.false_ne_true
 | byt i=>
  obtain ⟨t,rfl⟩:=rx
  cases y with
  | byt j=>obtain ⟨t',rfl⟩:=ry;exact PySem.W.ne_bytes (cE I q (congrArg not Hz))
  | _=>exact absurd (show false=true from hs) Bool.false_ne_true
 | _=>cases y<;>exact absurd (show false=true from hs) Bool.false_ne_true
theorem nC:OpR X (compareOp .Lt) (rI0 fun i j=>.bl (decide (i < j))):=LG fun _ _ _ _ _ _ _ q=>lt_int q
theorem Nb:OpR X (compareOp .LtE) (rI0 fun i j=>.bl (decide (i<=j))):=LG fun _ _ _ _ _ _ _ q=>le_int q
theorem Eh:OpR X (compareOp .Gt) (rI0 fun i j=>.bl (decide (j < i))):=LG fun _ _ _ _ _ _ _ q=>gt_int q
theorem ze:OpR X (compareOp .GtE) (rI0 fun i j=>.bl (decide (j<=i))):=LG fun _ _ _ _ _ _ _ q=>ge_int q
theorem CS:OpR X (compareOp .Is) (fun x y H Q=>y=.non/\Q (.bl (decide (x=.non))) H):=by
 intro pins s σ H x y v u Q I rx ry h
 obtain ⟨rfl,q⟩:=h
 cases ry
 refine is_none_gen (cE I q ?_)
 cases x<;>first
  | (cases rx;rfl)
  | (obtain ⟨t,rfl⟩:=rx;rfl)
theorem LH:OpR X (compareOp .IsNot) (fun x y H Q=>y=.non/\Q (.bl (!decide (x=.non))) H):=by
 intro pins s σ H x y v u Q I rx ry h
 obtain ⟨rfl,q⟩:=h
 cases ry
 refine isnot_none_gen (cE I q ?_)
 cases x<;>first
  | (cases rx;rfl)
  | (obtain ⟨t,rfl⟩:=rx;rfl)
theorem aJ (b:Expr){op:CmpOp}(h:op≠.In:=by decide)(h2:op≠.NotIn:=by decide):behindInMarks op b=false:=by
 have e1:(op == CmpOp.In)=false:=by cases op<;>first | rfl | exact absurd rfl h
 have e2:(op == CmpOp.NotIn)=false:=by cases op<;>first | rfl | exact absurd rfl h2
 cases b<;>simp [behindInMarks,e1,e2]
theorem fK {op:CmpOp}{r:R2}(ho:OpR X (compareOp op) r)(ha:PE X a ta)(hb:PE X b tb)(hm:behindInMarks op b=false):PE X (.Compare a [op] [b] pos) (tOp r ta tb):=by
 intro pins s σ H Q I h
 exact wpAny_Compare1 (N5 ha hb I h fun v u s2 x y H2 I2 rx ry q=>ho pins s2 σ H2 x y v u Q I2 rx ry q) hm
noncomputable def qh (t:TE):TT:=fun σ H Q=>t σ H fun x H'=>∃k,x=.bl k/\Q k H'
theorem az {op:CmpOp}{r:R2}(ho:OpR X (compareOp op) r)(ha:PE X a ta)(hb:PE X b tb)(hm:behindInMarks op b=false):PT X (.Compare a [op] [b] pos) (qh (tOp r ta tb)):=by
 intro pins s σ H Q I h
 refine wpAny_isTrue_Compare1 (thn (ha pins s σ H _ I h) fun v s1 ⟨x,H1,I1,r1,q1⟩=>thn (hb pins s1 σ H1 _ I1 q1) fun u s2 ⟨y,H2,I2,r2,q2⟩=>
  thn (ho pins s2 σ H2 x y v u _ I2 r1 r2 q2) fun c s3 ⟨z,H3,I3,r3,k,e,q3⟩=>?_) hm
 subst e
 cases r3
 exact wpAny_truthy_bool ⟨H3,I3,q3⟩
def Pt (K:PySem.W.Frag)(x:V)(H:Hp)(k:Bool):Prop:=
 match x with
 | .non=>k=false
 | .bl b=>k=b
 | .int i=>k=(i != 0)
 | .str y=>y.length<=sizeLine/\k=((y.length:Int) != 0)
 | .byt y=>y.size<=sizeLine/\k=((y.size:Int) != 0)
 | .ref p=>(∃xs,SqL K H p xs/\k=!xs.isEmpty)\/(∃xs,SqT K H p xs/\k=!xs.isEmpty)\/∃kvs,H p=some (.dK kvs)/\k=!kvs.isEmpty
 | _=>False
theorem Gk {κ:Type}{kvs:List (κ×V)}{vs:List (κ×Value)}(r:KV kvs vs):(!vs.isEmpty)=!kvs.isEmpty:=by
 cases r<;>rfl
theorem zf {xs:List V}{its:List Value}(r:bJ xs its):(!its.toArray.isEmpty)=!xs.isEmpty:=by
 cases r<;>simp
theorem xk:(sizeLine:Nat) < 2 ^ 63:=by rw [sizeLine_eq];decide
theorem N7:QB X (fun x H Q=>∃k,Pt X.K x H k/\Q k H):=by
 intro pins s σ H x v Q I rx h
 obtain ⟨k,e,q⟩:=h
 have hl:=xk
 have hs:sizeLine=16777216:=sizeLine_eq
 cases x with
 | non=>
  cases rx
  have e':k=false:=e
  subst e'
  exact truthy_none ⟨H,I,q⟩
 | bl b=>
  cases rx
  have e':k=b:=e
  subst e'
  exact wpAny_truthy_bool ⟨H,I,q⟩
 | int i=>
  obtain ⟨t,rfl⟩:=rx
  have e':k=(i != 0):=e
  subst e'
  exact PySem.P.truthy_int ⟨H,I,q⟩
 | str y=>
  obtain ⟨t,rfl⟩:=rx
  obtain ⟨hy,e'⟩:y.length<=sizeLine/\k=((y.length:Int) != 0):=e
  subst e'
  exact PySem.P.truthy_str (by omega) ⟨H,I.tok _,q⟩
 | byt y=>
  obtain ⟨t,rfl⟩:=rx
  obtain ⟨hy,e'⟩:y.size<=sizeLine/\k=((y.size:Int) != 0):=e
  subst e'
  exact PySem.W.truthy_bytes (by omega) ⟨H,I.tok _,q⟩
 | ref p=>
  cases rx
  have e':(∃xs,SqL X.K H p xs/\k=!xs.isEmpty)\/(∃xs,SqT X.K H p xs/\k=!xs.isEmpty)\/∃kvs,H p=some (.dK kvs)/\k=!kvs.isEmpty:=e
  rcases e' with ⟨xs,hx,e'⟩ | ⟨xs,hx,e'⟩ | ⟨kvs,hx,e'⟩
  ·subst e'
   obtain ⟨its,r,pl,hz⟩:=I.list hx
   have hlen:=r.length
   exact wpAny_truthy_list pl.isList (by simp only [List.size_toArray];omega) ⟨H,I.tok _,by rw [zf r];exact q⟩
  ·subst e'
   obtain ⟨its,r,pl,hz⟩:=I.tuple hx
   have hlen:=r.length
   exact truthy_tuple pl (by simp only [List.size_toArray];omega) ⟨H,I.tok _,by rw [zf r];exact q⟩
  ·subst e'
   obtain ⟨hz,hS,vs,r,m⟩:kvs.length<=sizeLine/\(p == sysModules)=false/\∃vs,KV kvs vs/\s.heap.DictOf (CN X.prog X.w) p vs:=I.hok p _ hx
   have hlen:kvs.length=vs.length:=Paired.length r
   exact wpAny_truthy_dict hS m (by omega) ⟨H,I.tok _,by rw [Gk r];exact q⟩
 | _=>exact (show False from e).elim
theorem zg (ha:PE X a ta)(he:∀cQ,isTrue a X.env cQ=(do let v ←cQ;standAt a.pos;holding [v] (truthy v))) :
  PT X a (fun σ H Q=>ta σ H fun x H'=>∃k,Pt X.K x H' k/\Q k H'):=by
 intro pins s σ H Q I h
 exact isTrue_plain (thn (ha pins s σ H _ I h) fun v s1 ⟨x,H1,I1,r1,q1⟩=>N7 pins s1 σ H1 x v Q I1 r1 q1) (he _)
theorem xU {x:V}{us:List Value}(r:bJ [x] us):∃u,us=[u]/\cw x u:=by
 cases r with
 | cons r1 r2=>cases r2;exact ⟨_,rfl,r1⟩
theorem HJ {x y:V}{us:List Value}(r:bJ [x,y] us):∃u w',us=[u,w']/\cw x u/\cw y w':=by
 cases r with
 | cons r1 r2=>
  cases r2 with
  | cons r3 r4=>cases r4;exact ⟨_,_,rfl,r1,r3⟩
theorem Ei:iG X (.builtin "abs") (fun xs H Q=>∃i,xs=[.int i]/\Q (.int (if i < 0 then -i else i)) H):=by
 intro pins s σ H xs us Q I r h
 obtain ⟨i,rfl,q⟩:=h
 obtain ⟨u,rfl,t,rfl⟩:=xU r
 exact call_abs_int fun u tk=>⟨.int (if i < 0 then -i else i),H,I.tok _,⟨_,rfl⟩,q⟩
theorem xl (hc:X.calm=true):iG X (.builtin "min") (fun xs H Q=>∃i j,xs=[.int i,.int j]/\Q (.int (if j < i then j else i)) H):=by
 intro pins s σ H xs us Q I r h
 obtain ⟨i,j,rfl,q⟩:=h
 obtain ⟨u,w',rfl,⟨t,rfl⟩,⟨t',rfl⟩⟩:=HJ r
 refine min_two_ints (I.ok.hd hc) fun h' tk k=>⟨_,H,I.kept k,?_,q⟩
 by_cases hj:j < i
 ·rw [if_pos hj,if_pos hj];exact ⟨_,rfl⟩
 ·rw [if_neg hj,if_neg hj];exact ⟨_,rfl⟩
theorem iH:iG X (.type "int") (fun xs H Q=>(∃i,xs=[.int i]/\Q (.int i) H)\/∃k,xs=[.bl k]/\Q (.int (if k then 1 else 0)) H):=by
 intro pins s σ H xs us Q I r h
 rcases h with ⟨i,rfl,q⟩ | ⟨k,rfl,q⟩
 ·obtain ⟨u,rfl,t,rfl⟩:=xU r
  exact call_int_int ⟨.int i,H,I,⟨_,rfl⟩,q⟩
 ·obtain ⟨u,rfl,r1⟩:=xU r
  cases r1
  exact call_int_bool ⟨.int (if k then 1 else 0),H,I.tok _,⟨_,rfl⟩,q⟩
end
structure Gm (h:Heap)(x dx C:Addr)(mA:Str->Option Value):Prop where
 obj:h.get? x=some (PySem.W.instObj C dx)
 ns:h.Ns1 dx mA
 ne:dx≠x
theorem IH {h:Heap}{dx:Addr}{mA:Str->Option Value}(n:h.Ns1 dx mA):∃od,h.get? dx=some od/\∀name,PySem.W.lookIn name od=some (mA name):=by
 obtain ⟨o,es,ep,ho,hd,hk,_,hm⟩:=n
 refine ⟨o,ho,fun name=>?_⟩
 have e:=hm name
 unfold nsFind findBy at e
 rw [←Array.find?_toList] at e
 unfold PySem.W.lookIn
 rw [hd]
 dsimp only
 split
 ·rename_i y q
  rw [q] at e
  exact congrArg some e
 ·rename_i q
  rw [q] at e
  have a:es.toList.any (·.refKey)=false:=by
   rw [List.any_eq_false]
   intro y hy
   obtain ⟨z,t,hkey⟩:=hk y (Array.mem_toList_iff.mp hy)
   simp [DictEntry.refKey,hkey]
  have a':¬es.toList.any (·.refKey)=true:=by rw [a];exact Bool.false_ne_true
  rw [if_neg a']
  exact congrArg some e
theorem Gm.look {h:Heap}{x dx C:Addr}{mA:Str->Option Value}(I:Gm h x dx C mA):∃od,PySem.W.InstAt h x (PySem.W.instObj C dx) C (some od)/\∀name,PySem.W.lookIn name od=some (mA name):=
 let ⟨od,ho,hl⟩:=IH I.ns
 ⟨od,⟨I.obj,rfl,rfl,ho⟩,hl⟩
section
variable {prog:Program}{w:World}{A:Around}{E:Value->Shared->Prop}{s:Shared}{K:PySem.W.Frag}{x dx C f:Addr}{mA:Str->Option Value}{name:Str}{v:Value}
theorem LI {expr:Bool}{Q:Value->Shared->Prop}(X:K.In s.heap)(I:Gm s.heap x dx C mA)(hg:PySem.W.plainGet K C name=true)(hh:PySem.W.hasDictIn K C=true)
  (ha:PySem.W.findIn K (.ref C) name=some none) (hv:mA name=some v) (hv':PySem.W.handedIn v=true) (h:Q v {s with toks:=s.toks+1}) :
  wpAny (model prog w) A (getAttr (.ref x) name expr) Q E s:=by
 obtain ⟨od,J,hl⟩:=I.look
 exact PySem.W.get_value X J (PySem.W.plainGet_of hg).1 (PySem.W.findObj_own hh ha rfl (by rw [hl,hv])) hv' h
theorem JK {pl:Sem Bool}{Q:Value×List Value->Shared->Prop}(X:K.In s.heap)(I:Gm s.heap x dx C mA)(hg:PySem.W.plainGet K C name=true)
  (hf:PySem.W.findIn K (.ref C) name=some (some (.ref f))) (ht:PySem.W.isFn K (.ref f)=true) (hv:mA name=none) (h:Q (.ref f,[.ref x]) s) :
  wpAny (model prog w) A (getMethod (.ref x) name pl) Q E s:=by
 obtain ⟨od,J,hl⟩:=I.look
 exact PySem.W.method_fn X J (PySem.W.plainGet_of hg).1 (PySem.W.plainGet_of hg).2 hf (beq_iff_eq.mp ht) (by show (PySem.W.lookIn name od).map (·.isSome)=some false;rw [hl,hv];rfl) h
theorem LJ {ns:List Str}{Q:Unit->Shared->Prop}(X:K.In s.heap)(I:Gm s.heap x dx C mA)
  (hs:PySem.W.findIn K (.ref C) "__setattr__"=some (some (.builtin "object.__setattr__"))) (hp:PySem.W.plainOver K C=true) (ht:PySem.W.takerIn K C name=some none) (hh:PySem.W.hasDictIn K C=true)
  (hw:PySem.Within mA ns) (hsz:ns.length<=sizeLine)
  (h:∀h',Gm h' x dx C (fun y=>if y=name then some v else mA y)->Heap.SameBut dx s.heap h'->Q () {s with heap:=h',toks:=s.toks+2}) :
  wpAny (model prog w) A (setAttr (.ref x) name v) Q E s:=by
 obtain ⟨od,J,hl⟩:=I.look
 refine PySem.W.set_plain X J hs (PySem.W.osa_open (s:={s with toks:=s.toks+1}) (r:=none) X J hp ht fun b=>?_)
 obtain ⟨cd,hc,hd'⟩:=PySem.W.any_some hh
 have hx:s.heap.get? x=some ⟨.ref C,some dx,.plain,#[]⟩:=I.obj
 refine wpAny_bind (wpAny_pure (wpAny_bind (wpAny_bind (wpAny_loadPart hx (wpAny_bind (PySem.W.Looks.here (s:={s with toks:=s.toks+1}) (PySem.W.looks_clsIn X hc) ?_))))))
 rw [hd']
 refine wpAny_pure (a:=some dx) (wpAny_bind (wpAny_pure (wpAny_bind ?_)))
 refine wpAny_nsSet1 (s:={s with toks:=s.toks+1}) I.ns fun h' hn2 hs2=>?_
 obtain ⟨oD,esD,epD,hoD,hdD,hcD⟩:=hn2.count (PySem.Within.cons name v hw)
 refine wpAny_bind (wpAny_lookBehind hoD (by rw [hdD];exact pastItsLine_dict (Nat.le_trans hcD (by rw [List.length_cons];omega))) ?_)
 exact wpAny_pure (h _ ⟨(hs2.2 _ (Ne.symm I.ne)).trans I.obj,hn2,I.ne⟩ hs2)
theorem JL {R:Result->Shared->Prop}{vs:List Value}{kw:List (Str×Value)}(X:K.In s.heap)(hm:PySem.W.makesIn K C=true)
  (hi:PySem.W.findIn K (.ref C) "__init__"=some (some (.ref f))) (hf:PySem.W.typeIn K (.ref f)=some (.type "function"))
  (h:codeAny (model prog w) (A.under (.builtin "type.__call__" ⟨.ref C::vs,kw⟩)) (.call (.ref f) ⟨.ref (s.heap.objs.size+1)::vs,kw⟩) (PySem.W.InitBack (s.heap.objs.size+1) R)
   {s with heap:=(s.heap.push PySem.W.emptyDict).push (PySem.W.instObj C s.heap.objs.size)}) :
  codeAny (model prog w) A (.call (.ref C) ⟨vs,kw⟩) R s:=by
 obtain ⟨hh,g,d,t,os⟩:=s
 exact PySem.W.make_core (PySem.W.makes_of X hm) (PySem.W.looks_findIn X hi) (fun self=>PySem.W.bind_fn X self hf) (.inl rfl) h
end
noncomputable def bL (f:Str)(v:V):List (Str×V)->List (Str×V)
 | []=>[(f,v)]
 | (g,x)::r=>if g=f then (g,v)::r else (g,x)::bL f v r
theorem xV (f g:Str)(v:V):∀fs:List (Str×V),(bL f v fs).lookup g=if g=f then some v else fs.lookup g
 | []=>by
  show List.lookup g [(f,v)]=_
  by_cases h:g=f
  ·have hb:(g == f)=true:=beq_iff_eq.mpr h
   simp only [List.lookup,hb,if_pos h]
  ·have hb:(g == f)=false:=beq_eq_false_iff_ne.mpr h
   simp only [List.lookup,hb,if_neg h]
 | (k,x)::r=>by
  have ih:=xV f g v r
  rw [show bL f v ((k,x)::r)=(if k=f then (k,v)::r else (k,x)::bL f v r) from rfl]
  by_cases hk:k=f
  ·rw [if_pos hk]
   by_cases h:g=k
   ·have hb:(g == k)=true:=beq_iff_eq.mpr h
    simp only [List.lookup,hb,if_pos (h.trans hk)]
   ·have hb:(g == k)=false:=beq_eq_false_iff_ne.mpr h
    simp only [List.lookup,hb,if_neg (fun e:g=f=>h (e.trans hk.symm))]
  ·rw [if_neg hk]
   by_cases h:g=k
   ·have hb:(g == k)=true:=beq_iff_eq.mpr h
    simp only [List.lookup,hb,if_neg (fun e:g=f=>hk (h.symm.trans e))]
   ·have hb:(g == k)=false:=beq_eq_false_iff_ne.mpr h
    simp only [List.lookup,hb]
    exact ih
theorem xm (f:Str)(v:V):∀fs:List (Str×V),f∈(bL f v fs).map (·.1)/\∀g,g∈fs.map (·.1)->g∈(bL f v fs).map (·.1)
 | []=>⟨by simp [bL],fun g h=>by simp at h⟩
 | (k,x)::r=>by
  obtain ⟨i1,i2⟩:=xm f v r
  rw [show bL f v ((k,x)::r)=(if k=f then (k,v)::r else (k,x)::bL f v r) from rfl]
  by_cases hk:k=f
  ·rw [if_pos hk]
   subst hk
   exact ⟨by simp,fun g h=>by simpa using h⟩
  ·rw [if_neg hk]
   refine ⟨?_,fun g h=>?_⟩
   ·rw [List.map_cons]
    exact List.mem_cons_of_mem _ i1
   ·rw [List.map_cons] at h ⊢
    rcases List.mem_cons.mp h with e | e
    ·exact List.mem_cons.mpr (.inl e)
    ·exact List.mem_cons_of_mem _ (i2 g e)
theorem qi (f:Str)(v:V):∀fs:List (Str×V),(bL f v fs).length<=fs.length+1
 | []=>by simp [bL]
 | (k,x)::r=>by
  have ih:=qi f v r
  rw [show bL f v ((k,x)::r)=(if k=f then (k,v)::r else (k,x)::bL f v r) from rfl]
  by_cases hk:k=f
  ·rw [if_pos hk,List.length_cons,List.length_cons];omega
  ·rw [if_neg hk,List.length_cons,List.length_cons];omega
theorem AQ.some_of {v:V}{o:Option Value}(r:AQ (some v) o):∃u,o=some u/\cw v u:=by
 cases o with
 | none=>exact (show False from r).elim
 | some u=>exact ⟨u,rfl,r⟩
theorem AQ.none_of {o:Option Value}(r:AQ none o):o=none:=by
 cases o with
 | none=>rfl
 | some u=>exact (show False from r).elim
theorem IJ {v:V}{u:Value}(r:cw v u):PySem.W.handedIn u=true:=by
 cases v with
 | non=>cases (show u=Value.none from r);rfl
 | bl b=>cases (show u=Value.bool b from r);rfl
 | int i=>obtain ⟨t,e⟩:=(show ∃t,u=Value.int i t from r);cases e;rfl
 | str x=>obtain ⟨t,e⟩:=(show ∃t,u=Value.str x t from r);cases e;rfl
 | byt b=>obtain ⟨t,e⟩:=(show ∃t,u=Value.bytes b t from r);cases e;rfl
 | flt b=>obtain ⟨t,e⟩:=(show ∃t,u=Value.float b t from r);cases e;rfl
 | ref a=>cases (show u=Value.ref a from r);rfl
 | ty n=>cases (show u=Value.type n from r);rfl
section
variable {P:Program}{w:World}{H H':Hp}{h h':Heap}{a C dx:Addr}{fs fs':List (Str×V)}
theorem CT (hok:HOk P w H h)(e:H a=some (.ins C dx fs)):∃mA,Gm h a dx C mA/\(∀f,AQ (fs.lookup f) (mA f))/\PySem.Within mA (fs.map (·.1))/\fs.length<=1000/\H dx=some (.own a):=by
 obtain ⟨d,z,ne,ob,mA,n,r,q⟩:=(show iP P w H h a (.ins C dx fs) from hok a _ e)
 exact ⟨mA,⟨ob,n,ne⟩,r,q,z,d⟩
end
structure Cls (K:PySem.W.Frag)(C:Addr):Prop where
 pg:PySem.W.plainGet K C Str.empty=true
 hd:PySem.W.hasDictIn K C=true
 po:PySem.W.plainOver K C=true
 sa:PySem.W.findIn K (.ref C) "__setattr__"=some (some (.builtin "object.__setattr__"))
theorem Cls.get {K:PySem.W.Frag}{C:Addr}(c:Cls K C)(f:Str):PySem.W.plainGet K C f=true:=c.pg
def bE (K:PySem.W.Frag)(C:Addr)(f:Str):Prop:=PySem.W.findIn K (.ref C) f=some none
theorem bE.taker {K:PySem.W.Frag}{C:Addr}{f:Str}(n:bE K C f):PySem.W.takerIn K C f=some none:=by
 unfold PySem.W.takerIn
 rw [show PySem.W.findIn K (.ref C) f=some none from n]
 rfl
structure IK (K:PySem.W.Frag)(C:Addr)(m:Str)(f:Addr):Prop where
 at_:PySem.W.findIn K (.ref C) m=some (some (.ref f))
 fn:PySem.W.isFn K (.ref f)=true
 kp:PySem.W.keepIn K (.ref f)=true
section
variable {X:Cx}{pins:List (Addr×Obj)}{σ:St}{H:Hp}{s:Shared}{a C dx:Addr}{fs:List (Str×V)}{f:Str}{v:V}{A:Around}{E:Value->Shared->Prop}
theorem Gn {b:Bool}{Q:Value->Shared->Prop}(I:Inv X pins σ H s)(e:H a=some (.ins C dx fs))(c:Cls X.K C)(n:bE X.K C f)(l:fs.lookup f=some v)
  (h:∀u s',Inv X pins σ H s'->cw v u->Q u s'):wpAny (model X.prog X.w) A (getAttr (.ref a) f b) Q E s:=by
 obtain ⟨mA,O,r,_,_,_⟩:=CT I.hok e
 obtain ⟨u,hu,ru⟩:=AQ.some_of (v:=v) (o:=mA f) (by rw [←l];exact r f)
 exact LI I.kIn O (c.get f) c.hd n hu (IJ ru) (h u _ (I.tok _) ru)
theorem uX {m:Str}{g:Addr}{pl:Sem Bool}{Q:Value×List Value->Shared->Prop}(I:Inv X pins σ H s)(e:H a=some (.ins C dx fs))(c:Cls X.K C)(k:IK X.K C m g)(l:fs.lookup m=none)
  (h:Q (.ref g,[.ref a]) s):wpAny (model X.prog X.w) A (getMethod (.ref a) m pl) Q E s:=by
 obtain ⟨mA,O,r,_,_,_⟩:=CT I.hok e
 have hn:mA m=none:=AQ.none_of (by rw [←l];exact r m)
 exact JK I.kIn O (c.get m) k.at_ k.fn hn h
theorem Gp {y:V}{u:Value}{Q:Unit->Shared->Prop}(I:Inv X pins σ H s)(e:H a=some (.ins C dx fs))(c:Cls X.K C)(n:bE X.K C f)(hl:fs.length < 1000)(ry:cw y u)
  (h:∀s',Inv X pins σ (upd H a (.ins C dx (bL f y fs))) s'->Q () s'):wpAny (model X.prog X.w) A (setAttr (.ref a) f u) Q E s:=by
 obtain ⟨mA,O,r,wi,_,ho⟩:=CT I.hok e
 have hz:(fs.map (·.1)).length<=sizeLine:=by rw [List.length_map,sizeLine_eq];omega
 refine LJ I.kIn O c.sa c.po n.taker c.hd wi hz fun h' O' sb=>h _ ?_
 have hd:∃o,h'.get? dx=some o:=let ⟨o,_,_,e',_⟩:=O'.ns;⟨o,e'⟩
 refine I.write (x:=a) (e:=dx) (by rw [e];exact True.intro) (.inr ho) (fun b q hb z=>(sb.2 b hb).trans z) hd ?_
 refine ⟨by rw [aS O.ne];exact ho,?_,O.ne,O'.obj,_,O'.ns,fun g=>?_,fun g hg=>?_⟩
 ·have:=qi f y fs;omega
 ·show AQ ((bL f y fs).lookup g) (if g=f then some u else mA g)
  rw [xV]
  by_cases q:g=f
  ·rw [if_pos q,if_pos q];exact ry
  ·rw [if_neg q,if_neg q];exact r g
 ·by_cases q:g=f
  ·rw [q];exact (xm f y fs).1
  ·refine (xm f y fs).2 g (wi g fun z=>hg ?_)
   show (if g=f then some u else mA g)=none
   rw [if_neg q];exact z
theorem Inv.made (I:Inv X pins σ H s):Inv X pins σ (upd (upd H s.heap.objs.size (.own (s.heap.objs.size+1))) (s.heap.objs.size+1) (.ins C s.heap.objs.size []))
  {s with heap:=(s.heap.push PySem.W.emptyDict).push (PySem.W.instObj C s.heap.objs.size)}:=by
 have e1:(s.heap.push PySem.W.emptyDict).get? s.heap.objs.size=some PySem.W.emptyDict:=Heap.get?_push_size s.heap rfl
 have e2:((s.heap.push PySem.W.emptyDict).push (PySem.W.instObj C s.heap.objs.size)).get? (s.heap.objs.size+1)=some (PySem.W.instObj C s.heap.objs.size):=by
  have:=Heap.get?_push_size (s.heap.push PySem.W.emptyDict) (o:=PySem.W.instObj C s.heap.objs.size) rfl
  rwa [Heap.size_push] at this
 have e3:(s.heap.push PySem.W.emptyDict).Ns s.heap.objs.size (fun _=>none):=⟨PySem.W.emptyDict,#[],_,e1,rfl,(fun e he=>absurd he (by simp)),fun _=>rfl⟩
 have I1:=I.laid (a:=s.heap.objs.size) (o:=.own (s.heap.objs.size+1)) (h':=s.heap.push PySem.W.emptyDict) (t':=s.toks) (fun b u q=>Heap.get?_push_of_some _ q) (Nat.le_refl _) ⟨_,e1⟩
 refine I1.laid (a:=s.heap.objs.size+1) (o:=.ins C s.heap.objs.size []) (t':=s.toks) (fun b u q=>Heap.get?_push_of_some _ q) (Nat.le_of_eq (Heap.size_push _ _)) ?_
 have ne:s.heap.objs.size≠s.heap.objs.size+1:=Nat.ne_of_lt (Nat.lt_succ_self _)
 refine ⟨by rw [aS ne,ah],Nat.zero_le _,ne,e2,fun _=>none,(Heap.Ns1.of_empty e3).at fun o q=>Heap.get?_push_of_some _ q,fun _=>True.intro,fun y hy=>absurd rfl hy⟩
theorem LK {prog:Program}{w:World}{env:Env}{e:Expr}{f:Str}{pos:Pos}{s:Shared}{Q:Value->Shared->Prop}(hb:attributeBase e f env (eval e env)=eval e env)
  (h:wpAny (model prog w) A (eval e env) (fun o s₁=>wpAny (model prog w) A (getAttr o f true) Q E s₁) E s):wpAny (model prog w) A (eval (.Attribute e f pos) env) Q E s:=
 Attribute_any_ h (by rw [arm_eval_Attribute,hb])
end
noncomputable def Pu (K:PySem.W.Frag)(ta:TE)(f:Str):TE:=fun σ H Q=>ta σ H fun x H1=>∃a C dx fs v,x=.ref a/\H1 a=some (.ins C dx fs)/\Cls K C/\bE K C f/\fs.lookup f=some v/\Q v H1
noncomputable def Pw (K:PySem.W.Frag)(ta tv:TE)(f:Str):TS:=fun D σ H=>tv σ H fun y H1=>ta σ H1 fun x H2=>∃a C dx fs,x=.ref a/\H2 a=some (.ins C dx fs)/\Cls K C/\bE K C f/\fs.length < 1000/\
 D.nx σ (upd H2 a (.ins C dx (bL f y fs)))
section
variable {X:Cx}{o e value:Expr}{f:Str}{pos pos' tpos:Pos}{ta tv:TE}
theorem aK (he:PE X e ta)(hb:attributeBase e f X.env (eval e X.env)=eval e X.env):PE X (.Attribute e f pos) (Pu X.K ta f):=by
 intro pins s σ H Q I h
 refine LK hb (thn (he pins s σ H _ I h) fun u s1 ⟨x,H1,I1,rx,a,C,dx,fs,v,ex,ea,c,n,l,q⟩=>?_)
 subst ex
 obtain rfl:u=Value.ref a:=rx
 exact Gn I1 ea c n l fun u' s2 I2 ru=>⟨v,H1,I2,ru,q⟩
theorem cW (ha:PE X o ta)(hv:PE X value tv)(hs:swapsWith value (some (.Attribute o f pos')) pos.line X.env=pure false):PS X (.Assign [.Attribute o f pos'] value pos) (Pw X.K ta tv f):=by
 intro pins s σ H D I h
 refine plainObj_wpAny_Assign_Attribute (thn (hv pins s σ H _ I h) fun u s1 ⟨y,H1,I1,ry,q⟩=>thn (ha pins s1 σ H1 _ I1 q) fun ov s2 ⟨x,H2,I2,rx,a,C,dx,fs,ex,ea,c,n,l,q2⟩=>?_) hs
 subst ex
 obtain rfl:ov=Value.ref a:=rx
 exact Gp I2 ea c n l ry fun s3 I3=>⟨σ,_,I3,q2⟩
theorem Nd {pl:Sem Bool}{m:Str}{apos:Pos}{args:List Expr}{pins:List (Addr×Obj)}{s:Shared}{σ:St}{H:Hp}{Q:Value->Shared->Prop}{te:TE}(he:PE X e te)(I:Inv X pins σ H s)
  (h:te σ H fun x H1=>∃a C dx fs g,x=.ref a/\H1 a=some (.ins C dx fs)/\Cls X.K C/\IK X.K C m g/\fs.lookup m=none/\
   ∀s1,Inv X pins σ H1 s1->wpAny (model X.prog X.w) X.A (callWith pos (.ref g) [.ref a] (backTo pos (starEach args X.env)) (backToKw pos (keywordEach [] X.env))) Q X.xe s1)
  (ht:eval (.Call (.Attribute e m apos) args [] pos) X.env=(do
   let ov ←eval e X.env
   standAt apos.atName
   let (f,first) ←holding [ov] (getMethod ov m pl)
   callWith pos f first (backTo pos (starEach args X.env)) (backToKw pos (keywordEach [] X.env)))) :
  wpAny (model X.prog X.w) X.A (eval (.Call (.Attribute e m apos) args [] pos) X.env) Q X.xe s:=by
 refine PySem.W.methodCall_KW (pl:=pl) (thn (he pins s σ H _ I h) fun u s1 ⟨x,H1,I1,rx,a,C,dx,fs,g,ex,ea,c,k,l,q⟩=>?_) ht
 subst ex
 obtain rfl:u=Value.ref a:=rx
 exact uX I1 ea c k l (q s1 I1)
end
structure iQ (k:Nat)(A:Around):Prop where
 hd:A.handled=none
 dp:A.depth+3 * k+5 < recursionLimit
 un:A.units+16 * k+200 < cLine
theorem iQ.mono {j k:Nat}{A:Around}(r:iQ k A)(h:j<=k):iQ j A:=⟨r.hd,by have:=r.dp;omega,by have:=r.un;omega⟩
theorem iQ.deeper {k:Nat}{A:Around}(r:iQ (k+1) A)(env:Env):iQ k (A.deeper env):=
 ⟨r.hd,by have:=r.dp;show A.depth+1+3 * k+5 < _;omega,by have:=r.un;show A.units+3+16 * k+200 < _;omega⟩
theorem Gq {A:Around}{C:Addr}{us:List Value}{kw:List (Str×Value)}:(A.under (.builtin "type.__call__" ⟨.ref C::us,kw⟩)).depth=A.depth+1:=by
 first | rfl | simp [Around.under,Code.weight,Code.isCreation,Code.isGuard,Code.isCaller,Code.frames,Code.isFrame,guardIds]
theorem Gr {A:Around}{C:Addr}{us:List Value}{kw:List (Str×Value)}:(A.under (.builtin "type.__call__" ⟨.ref C::us,kw⟩)).units=A.units+1:=by
 first | rfl | simp [Around.under,Code.cUnits,Code.frames,Code.isFrame]
theorem iQ.make {k:Nat}{A:Around}(r:iQ (k+1) A)(C:Addr)(us:List Value)(kw:List (Str×Value)):iQ k (A.under (.builtin "type.__call__" ⟨.ref C::us,kw⟩)):=
 ⟨r.hd,by have:=r.dp;rw [Gq];omega,by have:=r.un;rw [Gr];omega⟩
theorem iQ.depth {k:Nat}{A:Around}(r:iQ k A):A.depth < recursionLimit:=by have:=r.dp;omega
theorem iQ.units0 {k:Nat}{A:Around}(r:iQ k A):A.units < cLine:=by have:=r.un;omega
noncomputable def N8:TA:=fun _ H Q=>Q [] H
noncomputable def Nf (ta:TE)(tr:TA):TA:=fun σ H Q=>ta σ H fun x H1=>tr σ H1 fun xs H2=>Q (x::xs) H2
section
variable {X:Cx}{e:Expr}{es:List Expr}{te:TE}{t:TA}{pos:Pos}
theorem af:PA X [] N8:=fun _ _ _ _ H Q I h=>Calls.spliced_nil ⟨[],H,I,.nil,h⟩
theorem ae (ha:PE X e te)(hr:PA X es t)(hs:starEach (e::es) X.env=(false,eval e X.env)::starEach es X.env:=by rfl):PA X (e::es) (Nf te t):=by
 intro pos pins s σ H Q I h
 rw [hs]
 show wpAny _ _ (spliced ((false,eval e X.env)::backTo pos (starEach es X.env))) _ _ s
 refine Calls.spliced_cons (thn (ha pins s σ H _ I h) fun u s1 ⟨x,H1,I1,r1,q1⟩=>?_)
 exact thn (hr pos pins s1 σ H1 _ I1 q1) fun us s2 ⟨xs,H2,I2,r2,q2⟩=>⟨x::xs,H2,I2,.cons r1 r2,q2⟩
noncomputable def Px (t:TA):TE:=fun σ H Q=>t σ H fun xs H1=>xs.length<=sizeLine/\∀p,H1 p=none->Q (.ref p) (upd H1 p (.tup xs))
noncomputable def Py (t:TA):TE:=fun σ H Q=>t σ H fun xs H1=>xs.length<=sizeLine/\∀p,H1 p=none->Q (.ref p) (upd H1 p (.lst xs))
theorem bq {x1}(h:PA X es t):PE X (.Tuple es x1 pos) (Px t):=by
 intro pins s σ H Q I hq
 refine wpAny_Tuple_spliced (thn (h pos pins s σ H _ I hq) fun us s1 ⟨xs,H1,I1,r,z,q⟩=>⟨by rw [←r.length];exact z,?_⟩)
 have hf:H1 s1.heap.objs.size=none:=I1.hok.fresh (Nat.le_refl _)
 refine ⟨.ref s1.heap.objs.size,upd H1 s1.heap.objs.size (.tup xs),I1.laid (t':=s1.toks) (fun b u e=>Heap.get?_push_of_some _ e) (Nat.le_refl _) ?_,rfl,q _ hf⟩
 exact ⟨z,us,r,⟨_,Heap.get?_push_size _ rfl,⟨rfl,_,rfl⟩,rfl⟩⟩
theorem bB (h:PA X es t):PE X (.List es pos) (Py t):=by
 intro pins s σ H Q I hq
 refine wpAny_List_spliced (thn (h pos pins s σ H _ I hq) fun us s1 ⟨xs,H1,I1,r,z,q⟩=>⟨by rw [←r.length];exact z,?_⟩)
 have hf:H1 s1.heap.objs.size=none:=I1.hok.fresh (Nat.le_refl _)
 refine ⟨.ref s1.heap.objs.size,upd H1 s1.heap.objs.size (.lst xs),I1.laid (t':=s1.toks) (fun b u e=>Heap.get?_push_of_some _ e) (Nat.le_refl _) ?_,rfl,q _ hf⟩
 exact ⟨z,us,0,r,Heap.get?_push_size _ rfl⟩
end
noncomputable abbrev Sp:=List V->Hp->VK->XK->Prop
noncomputable abbrev CXT:=List Env->Hp->Shared->XK->Value->Shared->Prop
structure Gs (P:Program)(w:World)(K:PySem.W.Frag)(mg:Str->Option Value)(base:Heap)(A:Around)(outer:List Env)(s:Shared)(H:Hp):Prop where
 frames:A.frames=some outer
 mod:Mod K mg base
 bs:∀b o,base.get? b=some o->s.heap.get? b=some o/\H b=none
 bsz:base.objs.size<=s.heap.objs.size
 funs:s.heap.FunFrames base outer
 frf:∀b∈frs outer,H b=none
 hok:HOk P w H s.heap
 bare:AllBare s.gens
def CE (outer:List Env)(P:Program)(w:World)(H:Hp)(s:Shared)(Q:VK)(u:Value)(s':Shared):Prop:=
 ∃v H',s'.os=s.os/\AllBare s'.gens/\Un (frs outer) [] H H' s.heap s'.heap/\HOk P w H' s'.heap/\cw v u/\Q v H'
def CR (CX:CXT)(outer:List Env)(P:Program)(w:World)(H:Hp)(s:Shared)(Q:VK)(E:XK)(r:Result)(s':Shared):Prop:=
 match r with
 | .ok (.ret u)=>CE outer P w H s Q u s'
 | .ok _=>False
 | .error e=>CX outer H s E e s'
structure aH (P:Program)(w:World)(K:PySem.W.Frag)(mg:Str->Option Value)(base:Heap)(CX:CXT)(k:Nat)(f:Addr)(fd:FuncData)(ps:List Str)(sp:Sp):Prop where
 len:∀vs H Q E,sp vs H Q E->vs.length=ps.length
 run:∀(A:Around) (outer:List Env) (s:Shared) (H:Hp) (args:Args) (us:List Value) (vs:List V) (Q:VK) (E:XK),iQ k A->Gs P w K mg base A outer s H->BindsTo s fd args (ps.zip us)->bJ vs us->sp vs H Q E->
  codeAny (model P w) A (.call (.ref f) args) (CR CX outer P w H s Q E) s
theorem aH.imp {P:Program}{w:World}{K:PySem.W.Frag}{mg:Str->Option Value}{base:Heap}{CX:CXT}{k:Nat}{f:Addr}{fd:FuncData}{ps:List Str}{sp sp':Sp}(F:aH P w K mg base CX k f fd ps sp)
  (h:∀vs H Q E,sp' vs H Q E->sp vs H Q E):aH P w K mg base CX k f fd ps sp':=
 ⟨fun vs H Q E q=>F.len vs H Q E (h _ _ _ _ q),fun A outer s H args us vs Q E hr he hb hv hs=>F.run A outer s H args us vs Q E hr he hb hv (h _ _ _ _ hs)⟩
theorem Gs.make {P:Program}{w:World}{K:PySem.W.Frag}{mg:Str->Option Value}{base:Heap}{A:Around}{outer:List Env}{s:Shared}{H:Hp}(e:Gs P w K mg base A outer s H)(C:Addr)(us:List Value)(kw:List (Str×Value)) :
  Gs P w K mg base (A.under (.builtin "type.__call__" ⟨.ref C::us,kw⟩)) outer s H:=⟨by first | exact e.frames | (simpa [Around.under,Code.envs,Code.isFrame,pushEnvs] using e.frames),e.mod,e.bs,e.bsz,e.funs,e.frf,e.hok,e.bare⟩
section
variable {X:Cx}{pins:List (Addr×Obj)}{σ:St}{H:Hp}{s s':Shared}
theorem Inv.env0 (I:Inv X pins σ H s):Gs X.prog X.w X.K X.mg X.base X.A X.stack s H:=
 ⟨I.ok.frames,I.ok.mod,I.bs,Nat.le_trans I.ok.bsz I.sz,I.stack,I.stkFree,I.hok,I.bare⟩
theorem Inv.after {Q:VK}{u:Value}(I:Inv X pins σ H s)(h:CE X.stack X.prog X.w H s Q u s'):EP X pins σ Q u s':=by
 obtain ⟨v,H',os,bare,un,hok,r,q⟩:=h
 obtain ⟨hh,g,d,t,os'⟩:=s'
 obtain rfl:os'=s.os:=os
 exact ⟨v,H',I.call (h':=hh) (g':=g) (d':=d) (t':=t) (ch:=[]) un hok bare (fun b z=>absurd z (by simp)),r,q⟩
end
noncomputable def Ng (sp:Sp)(dvs:List V)(E:XK)(t:TA):TE:=fun σ H Q=>t σ H fun vs H1=>sp (vs++dvs) H1 Q E
noncomputable def HK (C:Addr)(m:Str)(sp:Sp)(dvs:List V)(E:XK)(ta:TE)(t:TA):TE:=fun σ H Q=>ta σ H fun x H1=>∃a dx fs,x=.ref a/\H1 a=some (.ins C dx fs)/\fs.lookup m=none/\
 t σ H1 fun vs H2=>sp (x::(vs++dvs)) H2 Q E
noncomputable def Nh (C:Addr)(sp:Sp)(dvs:List V)(E:XK)(t:TA):TE:=fun σ H Q=>t σ H fun vs H1=>∀x dx,H1 x=none->H1 dx=none->dx≠x->
 sp (.ref x::(vs++dvs)) (upd (upd H1 dx (.own x)) x (.ins C dx [])) (fun v H2=>v=.non/\Q (.ref x) H2) E
def iI (K:PySem.W.Frag)(fd:FuncData)(ps:List Str)(ds:List Value):Prop:=
 ∀(s:Shared) (us:List Value),K.In s.heap->(us++ds).length=ps.length->BindsTo s fd ⟨us,[]⟩ (ps.zip (us++ds))
theorem iI.all {K:PySem.W.Frag}{fd:FuncData}{ps:List Str}(h:∀us:List Value,us.length=ps.length->bindArgs fd ⟨us,[]⟩=pure (ps.zip us)):iI K fd ps []:=fun s us _ hl=>by
 rw [List.append_nil] at hl ⊢
 exact .of_eq (h us hl)
def qj (CX:CXT)(X:Cx)(E:XK):Prop:=∀(pins:List (Addr×Obj)) (σ:St) (H:Hp) (s:Shared) (e:Value) (s':Shared),Inv X pins σ H s->CX X.stack H s E e s'->X.xe e s'
section
variable {X:Cx}{CX:CXT}{k:Nat}{f C:Addr}{fd:FuncData}{ps:List Str}{sp:Sp}{dvs:List V}{ds:List Value}{E:XK}{x m:Str}{p pos apos:Pos}{e o:Expr}{es:List Expr}{ta:TE}{t:TA}
theorem Gu {pins:List (Addr×Obj)}{σ:St}{H:Hp}{s:Shared}{Q:VK}{us:List Value}{vs:List V}(F:aH X.prog X.w X.K X.mg X.base CX k f fd ps sp)(hr:iQ k X.A)(hb:iI X.K fd ps ds)(hd:bJ dvs ds)(hx:qj CX X E)
  (I:Inv X pins σ H s) (r:bJ vs us) (h:sp (vs++dvs) H Q E):wpAny (model X.prog X.w) X.A (call (.ref f) us) (EP X pins σ Q) X.xe s:=by
 have r2:bJ (vs++dvs) (us++ds):=r.append hd
 have hl:(us++ds).length=ps.length:=by rw [←r2.length];exact F.len _ _ _ _ h
 refine wpAny_call (codeAny_mono (F.run X.A X.stack s H ⟨us,[]⟩ (us++ds) (vs++dvs) Q E hr I.env0 (hb s us I.kIn hl) r2 h) fun r s' hq=>?_)
 cases r with
 | error e=>exact hx pins σ H s e s' I hq
 | ok fl=>
  cases fl with
  | ret u=>exact I.after hq
  | next=>exact False.elim hq
  | brk=>exact False.elim hq
  | cont=>exact False.elim hq
theorem aF (F:aH X.prog X.w X.K X.mg X.base CX k f fd ps sp)(hr:iQ k X.A)(hg:Gl X x)(hm:X.mg x=some (.ref f))(hk:PySem.W.keepIn X.K (.ref f)=true)(hb:iI X.K fd ps ds)(hd:bJ dvs ds)(hx:qj CX X E)
  (ha:PA X (e::es) t) (hdb:(x == ("__debug__":Str))=false:=by decide) (he:starEach (e::es) X.env=(false,eval e X.env)::starEach es X.env:=by rfl) (hpl:(backTo pos (starEach es X.env)).any (·.1)=false:=by rfl) :
  PE X (.Call (.Name x p) (e::es) [] pos) (Ng sp dvs E t):=by
 intro pins s σ H Q I h
 refine wpAny_Call_Name_kw (sA I hg hm ?_ hdb)
 refine PySem.W.callWith_K (h₀:=X.base) I.ok.mod.kin hk (thn (ha pos pins s σ H _ I h) fun us s1 ⟨vs,H1,I1,r,q⟩=>⟨I1.kIn,?_⟩) he hpl
 exact Gu F hr hb hd hx I1 r q
theorem bz {pl:Sem Bool}(he:PE X o ta)(c:Cls X.K C)(hm:IK X.K C m f)(F:aH X.prog X.w X.K X.mg X.base CX k f fd ps sp)(hr:iQ k X.A)(hb:iI X.K fd ps ds)(hd:bJ dvs ds)(hx:qj CX X E)(ha:PA X (e::es) t)
  (hst:starEach (e::es) X.env=(false,eval e X.env)::starEach es X.env:=by rfl) (hpl:(backTo pos (starEach es X.env)).any (·.1)=false:=by rfl)
  (ht:eval (.Call (.Attribute o m apos) (e::es) [] pos) X.env=(do
   let ov ←eval o X.env
   standAt apos.atName
   let (f,first) ←holding [ov] (getMethod ov m pl)
   callWith pos f first (backTo pos (starEach (e::es) X.env)) (backToKw pos (keywordEach [] X.env))):=by rfl) :
  PE X (.Call (.Attribute o m apos) (e::es) [] pos) (HK C m sp dvs E ta t):=by
 intro pins s σ H Q I h
 refine PySem.W.methodCall_KW (pl:=pl) (thn (he pins s σ H _ I h) fun u s1 ⟨x,H1,I1,rx,a,dx,fs,ex,ea,l,q⟩=>?_) ht
 subst ex
 obtain rfl:u=Value.ref a:=rx
 refine uX I1 ea c hm l ?_
 refine PySem.W.callWith_K (first:=[.ref a]) (h₀:=X.base) I.ok.mod.kin hm.kp (thn (ha pos pins s1 σ H1 _ I1 q) fun us s2 ⟨vs,H2,I2,r,q2⟩=>⟨I2.kIn,?_⟩) hst hpl
 exact Gu (us:=.ref a::us) (vs:=.ref a::vs) F hr hb hd hx I2 (.cons rfl r) q2
theorem ba {pl:Sem Bool}(he:PE X o ta)(c:Cls X.K C)(hm:IK X.K C m f)(F:aH X.prog X.w X.K X.mg X.base CX k f fd ps sp)(hr:iQ k X.A)(hb:iI X.K fd ps ds)(hd:bJ dvs ds)(hx:qj CX X E)
  (ht:eval (.Call (.Attribute o m apos) [] [] pos) X.env=(do
   let ov ←eval o X.env
   standAt apos.atName
   let (f,first) ←holding [ov] (getMethod ov m pl)
   callWith pos f first (backTo pos (starEach [] X.env)) (backToKw pos (keywordEach [] X.env))):=by rfl) :
  PE X (.Call (.Attribute o m apos) [] [] pos) (HK C m sp dvs E ta N8):=by
 intro pins s σ H Q I h
 refine PySem.W.methodCall_KW (pl:=pl) (thn (he pins s σ H _ I h) fun u s1 ⟨x,H1,I1,rx,a,dx,fs,ex,ea,l,q⟩=>?_) ht
 subst ex
 obtain rfl:u=Value.ref a:=rx
 refine uX I1 ea c hm l ?_
 exact PySem.W.callWith_K0 (first:=[.ref a]) I1.kIn hm.kp (Gu (us:=[.ref a]) (vs:=[.ref a]) F hr hb hd hx I1 (.cons rfl .nil) q)
structure Mk (K:PySem.W.Frag)(C f:Addr):Prop where
 makes:PySem.W.makesIn K C=true
 init:PySem.W.findIn K (.ref C) "__init__"=some (some (.ref f))
 fn:PySem.W.isFn K (.ref f)=true
 kp:PySem.W.keepIn K (.ref C)=true
theorem JM {pins:List (Addr×Obj)}{σ:St}{H:Hp}{s:Shared}{Q:VK}{us:List Value}{vs:List V}(M:Mk X.K C f)(F:aH X.prog X.w X.K X.mg X.base CX k f fd ps sp)(hr:iQ (k+1) X.A)(hb:iI X.K fd ps ds)(hd:bJ dvs ds)
  (hx:qj CX X E) (I:Inv X pins σ H s) (r:bJ vs us)
  (h:∀x dx,H x=none->H dx=none->dx≠x->sp (.ref x::(vs++dvs)) (upd (upd H dx (.own x)) x (.ins C dx [])) (fun v H2=>v=.non/\Q (.ref x) H2) E) :
  wpAny (model X.prog X.w) X.A (call (.ref C) us) (EP X pins σ Q) X.xe s:=by
 have hq:=h (s.heap.objs.size+1) s.heap.objs.size (I.hok.fresh (Nat.le_succ _)) (I.hok.fresh (Nat.le_refl _)) (Nat.ne_of_lt (Nat.lt_succ_self _))
 have I2:=Inv.made (C:=C) I
 have r2:bJ (V.ref (s.heap.objs.size+1)::(vs++dvs)) (Value.ref (s.heap.objs.size+1)::(us++ds)):=.cons rfl (r.append hd)
 have hl:(Value.ref (s.heap.objs.size+1)::us++ds).length=ps.length:=by
  have e:=r2.length
  rw [F.len _ _ _ _ hq] at e
  exact e.symm
 refine wpAny_call (JL (f:=f) I.kIn M.makes M.init (beq_iff_eq.mp M.fn) (codeAny_mono (F.run _ X.stack _ _ ⟨Value.ref (s.heap.objs.size+1)::us,[]⟩ (Value.ref (s.heap.objs.size+1)::(us++ds)) _ _ E (hr.make C us [])
  (I2.env0.make C us []) (hb _ (Value.ref (s.heap.objs.size+1)::us) I2.kIn hl) r2 hq) fun r s' hq'=>?_))
 cases r with
 | error e=>exact hx pins σ _ _ e s' I2 hq'
 | ok fl=>
  cases fl with
  | ret u=>
   obtain ⟨v,H',I3,rv,ev,q3⟩:=I2.after hq'
   subst ev
   exact ⟨rv,⟨V.ref (s.heap.objs.size+1),H',I3,rfl,q3⟩⟩
  | next=>exact False.elim hq'
  | brk=>exact False.elim hq'
  | cont=>exact False.elim hq'
theorem mv (M:Mk X.K C f)(F:aH X.prog X.w X.K X.mg X.base CX k f fd ps sp)(hr:iQ (k+1) X.A)(hg:Gl X x)(hm:X.mg x=some (.ref C))(hb:iI X.K fd ps ds)(hd:bJ dvs ds)(hx:qj CX X E)
  (ha:PA X (e::es) t) (hdb:(x == ("__debug__":Str))=false:=by decide) (he:starEach (e::es) X.env=(false,eval e X.env)::starEach es X.env:=by rfl) (hpl:(backTo pos (starEach es X.env)).any (·.1)=false:=by rfl) :
  PE X (.Call (.Name x p) (e::es) [] pos) (Nh C sp dvs E t):=by
 intro pins s σ H Q I h
 refine wpAny_Call_Name_kw (sA I hg hm ?_ hdb)
 refine PySem.W.callWith_K (h₀:=X.base) I.ok.mod.kin M.kp (thn (ha pos pins s σ H _ I h) fun us s1 ⟨vs,H1,I1,r,q⟩=>⟨I1.kIn,?_⟩) he hpl
 exact JM M F hr hb hd hx I1 r q
end
structure aA (N P:List Str)(sc:Scope):Prop where
 kind:sc.kind=.function
 co:sc.isCoroutine=false
 gen:sc.isGenerator=false
 nd:N.Nodup
 pre:N.take P.length=P
 par:∀x∈P,sc.names.lookup x=some .local\/sc.names.lookup x=some .cell
 nofree:∀y∈sc.names,y.2≠.free
theorem BG {kindOf:Str->Option NameKind}{x:Str}:∀{binds:List (Str×Value)} {m:Str->Option Value},(∀v,(x,v)∉binds)->bindL kindOf binds m x=m x
 | [],_,_=>rfl
 | (n,v)::r,m,h=>by
  unfold bindL
  rw [BG fun w hw=>h w (List.mem_cons_of_mem _ hw)]
  split
  ·have:x≠n:=by rintro rfl;exact h v List.mem_cons_self
   simp [this]
  ·rfl
theorem BH {kindOf:Str->Option NameKind}{x:Str}:∀{binds:List (Str×Value)} {m:Str->Option Value},(∀v,(x,v)∉binds)->bindC kindOf binds m x=m x
 | [],_,_=>rfl
 | (n,v)::r,m,h=>by
  unfold bindC
  rw [BH fun w hw=>h w (List.mem_cons_of_mem _ hw)]
  split
  ·rfl
  ·have:x≠n:=by rintro rfl;exact h v List.mem_cons_self
   simp [this]
theorem BI {kindOf:Str->Option NameKind}{x:Str}{v:Value}:∀{P:List Str} {vs:List Value} {i:Nat} {m:Str->Option Value},P.Nodup->P[i]?=some x->vs[i]?=some v->kindOf x=some .local->
  bindL kindOf (P.zip vs) m x=some v
 | [],_,_,_,_,h,_,_=>by simp at h
 | _::_,[],_,_,_,_,h,_=>by simp at h
 | p::P,w::vs,0,m,nd,h1,h2,hk=>by
  simp at h1 h2;subst h1;subst h2
  show bindL kindOf ((p,w)::P.zip vs) m p=_
  unfold bindL
  rw [BG fun v hv=>(List.nodup_cons.mp nd).1 (List.of_mem_zip hv).1,if_pos hk]
  simp
 | p::P,w::vs,i+1,m,nd,h1,h2,hk=>by
  show bindL kindOf ((p,w)::P.zip vs) m x=_
  unfold bindL
  exact BI (i:=i) (List.nodup_cons.mp nd).2 (by simpa using h1) (by simpa using h2) hk
theorem BJ {kindOf:Str->Option NameKind}{x:Str}{v:Value}:∀{P:List Str} {vs:List Value} {i:Nat} {m:Str->Option Value},P.Nodup->P[i]?=some x->vs[i]?=some v->kindOf x≠some .local->
  bindC kindOf (P.zip vs) m x=some v
 | [],_,_,_,_,h,_,_=>by simp at h
 | _::_,[],_,_,_,_,h,_=>by simp at h
 | p::P,w::vs,0,m,nd,h1,h2,hk=>by
  simp at h1 h2;subst h1;subst h2
  show bindC kindOf ((p,w)::P.zip vs) m p=_
  unfold bindC
  rw [BH fun v hv=>(List.nodup_cons.mp nd).1 (List.of_mem_zip hv).1,if_neg hk]
  simp
 | p::P,w::vs,i+1,m,nd,h1,h2,hk=>by
  show bindC kindOf ((p,w)::P.zip vs) m x=_
  unfold bindC
  exact BJ (i:=i) (List.nodup_cons.mp nd).2 (by simpa using h1) (by simpa using h2) hk
noncomputable def tF (N:List Str)(vs:List V):St:=vs.map some++List.replicate (N.length - vs.length) none
noncomputable def vo (CX:CXT)(P:Program)(w:World)(K:PySem.W.Frag)(mg:Str->Option Value)(base:Heap)(N:List Str)(qual:Str)(scope:Scope)(f:Addr)(cd:Value)(A:Around)(outer:List Env)(s:Shared)(H:Hp)(E:XK):Cx where
 prog:=P
 w:=w
 K:=K
 mg:=mg
 base:=base
 A:=A.deeper (envOfC qual scope s.heap.objs.size f cd)
 N:=N
 s₀:=s
 H₀:=H
 env:=envOfC qual scope s.heap.objs.size f cd
 outer:=outer
 stack:=envOfC qual scope s.heap.objs.size f cd::outer
 ex:=[]
 calm:=true
 fn:=fun _=>true
 pn:=[]
 xe:=fun e s'=>wpAny (model P w) (A.deeper (envOfC qual scope s.heap.objs.size f cd)) (leaving (envOfC qual scope s.heap.objs.size f cd) e) (fun _ s''=>CX outer H s E e s'') (fun e' s''=>CX outer H s E e' s'') s'
theorem Ej {sc:Scope}{n:Nat}{x:Str}(h:sc.names.lookup x=some .cell):∃c,(cellsFrom n sc.names []).lookup x=some c:=by
 have q:=PySem.W.cellsFrom_some sc.names n [] (.inl h)
 exact Option.isSome_iff_exists.mp q
theorem IL {CX:CXT}{P:Program}{w:World}{K:PySem.W.Frag}{mg:Str->Option Value}{base:Heap}{N ps:List Str}{qual:Str}{scope:Scope}{f:Addr}{cd:Value}{A:Around}{outer:List Env}{s s1:Shared}{H:Hp}{E:XK}{us:List Value}{vs:List V}
  (S:aA N ps scope) (hd:A.handled=none) (e0:Gs P w K mg base A outer s H) (hl:vs.length=ps.length) (r:bJ vs us)
  (x:InCallC s s.heap.objs.size (bindL (envOfC qual scope s.heap.objs.size f cd).kindOf (ps.zip us) fun _=>none) (cellsFrom (s.heap.objs.size+1) scope.names []) (bindC (envOfC qual scope s.heap.objs.size f cd).kindOf (ps.zip us) fun _=>none) s1) :
  Inv (vo CX P w K mg base N qual scope f cd A outer s H E) [] (tF N vs) H s1:=by
 have hpl:ps.length<=N.length:=by have:=congrArg List.length S.pre;rw [List.length_take] at this;omega
 obtain ⟨h1,tk,rfl,hk⟩:=x.done
 have noA:∀b:Addr,b∉(vo CX P w K mg base N qual scope f cd A outer s H E).ex:=fun b z=>absurd (show b∈([]:List Addr) from z) (by simp)
 refine ⟨⟨e0.mod,S.kind,rfl,rfl,Nat.le_refl _,fun y z c h1 h2=>?_,fun y hy=>?_,fun y c _ h=>?_,fun _=>hd,Around.frames_deeper e0.frames,.inr ⟨rfl,rfl⟩,fun b z=>absurd z (noA b),e0.bs,e0.bsz,fun b _ _=>noA b,fun b z=>absurd z (noA b),e0.funs,e0.frf⟩,
  rfl,e0.bare,Un.kept hk,⟨_,x.toInCall.ns,fun i y v h1 h2 h3=>?_⟩,fun y c h=>⟨_,x.cell y c h⟩,e0.hok.fresh (Nat.le_refl _),fun y c h=>?_,fun p hp=>absurd (show p∈([]:List (Addr×Obj)) from hp) (by simp),e0.hok.kept hk,?_⟩
 ·exact name_of_addr x.apart (PySem.mem_of_lookup h1) (PySem.mem_of_lookup h2)
 ·have hy:scope.names.lookup y=some .cell\/scope.names.lookup y=some .free:=hy
  rcases hy with hy | hy
  ·exact Ej hy
  ·exact absurd rfl (S.nofree _ (PySem.mem_of_lookup hy))
 ·exact Nat.le_of_lt (x.above y c (PySem.mem_of_lookup h))
 ·have hi:i < vs.length:=by
   unfold tF at h2
   by_cases hi:i < vs.length
   ·exact hi
   ·rw [List.getElem?_append_right (by simpa using hi)] at h2
    rw [List.getElem?_replicate] at h2
    split at h2<;>cases h2
  have ha:vs[i]?=some v:=by
   unfold tF at h2
   rw [List.getElem?_append_left (by simpa using hi),List.getElem?_map] at h2
   cases e:vs[i]? with
   | none=>rw [e] at h2;cases h2
   | some a=>rw [e] at h2;cases h2;rfl
  obtain ⟨u,hu,rv⟩:=r.get ha
  have hp:ps[i]?=some y:=by
   rw [←S.pre,List.getElem?_take_of_lt (by omega)];exact h1
  have ndP:ps.Nodup:=by rw [←S.pre];exact S.nd.sublist (List.take_sublist _ _)
  refine ⟨u,rv,?_⟩
  rcases S.par y (List.mem_of_getElem? hp) with k | k
  ·exact .inl ⟨k,BI ndP hp hu k⟩
  ·obtain ⟨c,e⟩:=Ej (n:=s.heap.objs.size+1) k
   refine .inr ⟨.inl k,c,e,?_⟩
   have q:=x.cell y c e
   rw [BJ ndP hp hu (by show scope.names.lookup y≠_;rw [k];decide)] at q
   exact q
 ·exact e0.hok.fresh (Nat.le_of_lt (x.above y c (PySem.mem_of_lookup h)))
 ·unfold tF
  show _=N.length
  rw [List.length_append,List.length_map,List.length_replicate]
  omega
theorem Ni {CX:CXT}{P:Program}{w:World}{K:PySem.W.Frag}{mg:Str->Option Value}{base:Heap}{k:Nat}{f:Addr}{name qual:Str}{params:Arguments}{body:List Stmt}{scope:Scope}{dV kV doc pm cdv ct oc:Value}{an od:Option Addr}
  {osl:Array (Option Value)} {N ps:List Str} {sp:Sp} (lk:K.lookup f=some ⟨oc,od,.func (PySem.W.fnOf name qual params body scope dV kV doc pm an cdv ct),osl⟩) (hcd:PySem.W.codeIn K cdv qual=true) (S:aA N ps scope)
  (len:∀vs H Q E,sp vs H Q E->vs.length=ps.length)
  (hbody:∀(A:Around) (outer:List Env) (s:Shared) (H:Hp) (vs:List V) (Q:VK) (E:XK),iQ k (A.deeper (envOfC qual scope s.heap.objs.size f cdv))->sp vs H Q E->
   ∃t,PSs (vo CX P w K mg base N qual scope f cdv A outer s H E) body t/\t {nx:=fun _ H'=>Q .non H',rt:=Q} (tF N vs) H) :
  aH P w K mg base CX (k+1) f (PySem.W.fnOf name qual params body scope dV kV doc pm an cdv ct) ps sp:=by
 refine ⟨len,fun A outer s H args us vs Q E hr e0 hb r hsp=>?_⟩
 have hl:=len _ _ _ _ hsp
 have KX:K.In s.heap:=e0.mod.kin.keeps fun b o e=>(e0.bs b o e).1
 have lim:s.heap.NoLimit:=e0.mod.nolimit.keeps fun b o e=>(e0.bs b o e).1
 have hkind:∀y∈ps.zip us,scope.names.lookup y.1=some .local\/(scope.names.lookup y.1=some .cell/\((cellsFrom (s.heap.objs.size+1) scope.names []).lookup y.1).isSome=true):=fun ⟨n,v⟩ hy=>by
  rcases S.par n (List.of_mem_zip hy).1 with q | q
  ·exact .inl q
  ·exact .inr ⟨q,PySem.W.cellsFrom_some _ _ _ (.inl q)⟩
 refine codeAny_call_function hr.depth (KX _ _ lk) rfl S.co S.gen rfl (PySem.W.codeRec_of KX hcd) (hb _ _ _ _ ?_)
 refine wpAny_newFunctionEnv_cells S.kind hkind fun env he s1 x=>?_
 subst he
 refine ⟨lim.keeps x.toInCall.keep,codeAny_func ?_⟩
 obtain ⟨t,ht,hq⟩:=hbody A outer s H vs Q E (hr.deeper _) hsp
 have I:Inv (vo CX P w K mg base N qual scope f cdv A outer s H E) [] (tF N vs) H s1:=IL S hr.hd e0 hl r x
 refine wpAny_mono (ht [] s1 (tF N vs) H _ I hq) (fun fl s' hs=>?_) fun e s' hs=>hs
 have fin:∀{σ':St} {H':Hp} {v:V} {u:Value},Inv (vo CX P w K mg base N qual scope f cdv A outer s H E) [] σ' H' s'->cw v u->Q v H'->CE outer P w H s Q u s':=
  fun {σ' H' v u} J rv q=>⟨v,H',J.os,J.bare,J.base,J.hok,rv,q⟩
 cases fl with
 | ret u=>
  obtain ⟨v,σ',H',J,rv,q⟩:=hs
  exact fin J rv q
 | next=>
  obtain ⟨σ',H',J,q⟩:=hs
  exact fin (v:=V.non) (u:=Value.none) J rfl q
 | brk=>
  obtain ⟨_,_,_,q⟩:=hs
  exact False.elim q
 | cont=>
  obtain ⟨_,_,_,q⟩:=hs
  exact False.elim q
section
variable {X:Cx}{x:Str}{p pos:Pos}{e:Expr}{es:List Expr}{t:TA}{id T:String}{r:List V->Hp->VK->Prop}
noncomputable def tCB (r:List V->Hp->VK->Prop)(t:TA):TE:=fun σ H Q=>t σ H fun vs H1=>r vs H1 Q
theorem aN (hc:iG X (.builtin id) r)(hg:Gl X x)(hm:X.mg x=none)(hv:bootBuiltins x=some (.builtin id))(ha:PA X (e::es) t)(hn:x≠"__name__":=by decide)(hdb:(x == ("__debug__":Str))=false:=by decide)
  (he:starEach (e::es) X.env=(false,eval e X.env)::starEach es X.env:=by rfl) (hpl:(backTo pos (starEach es X.env)).any (·.1)=false:=by rfl):PE X (.Call (.Name x p) (e::es) [] pos) (tCB r t):=by
 intro pins s σ H Q I h
 refine wpAny_Call_Name_kw (uV I hg hm hv ?_ hn hdb)
 exact PyProof.Rows.callWith_builtin1 (thn (ha pos pins s σ H _ I h) fun us s1 ⟨vs,H1,I1,r1,q1⟩=>hc pins s1 σ H1 vs us Q I1 r1 q1) he hpl
theorem bC (hc:iG X (.type T) r)(hg:Gl X x)(hm:X.mg x=none)(hv:bootBuiltins x=some (.type T))(ha:PA X (e::es) t)(hn:x≠"__name__":=by decide)(hdb:(x == ("__debug__":Str))=false:=by decide)
  (he:starEach (e::es) X.env=(false,eval e X.env)::starEach es X.env:=by rfl) (hpl:(backTo pos (starEach es X.env)).any (·.1)=false:=by rfl):PE X (.Call (.Name x p) (e::es) [] pos) (tCB r t):=by
 intro pins s σ H Q I h
 refine wpAny_Call_Name_kw (uV I hg hm hv ?_ hn hdb)
 exact PyProof.Rows.callWith_type1 (thn (ha pos pins s σ H _ I h) fun us s1 ⟨vs,H1,I1,r1,q1⟩=>hc pins s1 σ H1 vs us Q I1 r1 q1) he hpl
end
end L2
namespace HT
open PySem PyProof.Rows
section
open PySem.SeqAt
open PySem.AutoSeq1 (wpAny_loadPart')
open PySem.MeetsSeq PySem.MeetsSeq2 PySem.MeetsSeq3
end
section
variable {prog:Program}{w:World}{A:Around}{E:Value->Shared->Prop}{s:Shared}
theorem LL {t b:Addr}{vs ws:List Value}{Q:Value->Shared->Prop}(ht:IsTup s.heap t vs.toArray)(hb:IsTup s.heap b ws.toArray)(hv:vs≠[])
  (h1:ws=[]->Q (.ref t) s) (h2:ws≠[]->Q (.ref s.heap.objs.size) {s with heap:=s.heap.push {cls:=.type "tuple",data:=.seq (vs++ws).toArray}})
  (hsz:vs.length+ws.length<=sizeLine):wpAny (model prog w) A (binaryOp .Add (.ref t) (.ref b)) Q E s:=by
 obtain ⟨⟨cls,dd,data,sl⟩,ho,hc,n,hd⟩:=id ht
 obtain ⟨⟨cls2,dd2,data2,sl2⟩,ho2,hc2,n2,hd2⟩:=id hb
 simp only at hc hd hc2 hd2
 subst hc hd hc2 hd2
 have e:vs.toArray++ws.toArray=(vs++ws).toArray:=by simp
 by_cases hw:ws=[]
 ·exact concat_meets ⟨_,ho,rfl⟩ ⟨_,ho2,rfl⟩ noFill_tuple_add seq_tuple_add PySem.F.slot_tuple_add PySem.F.entry_tuple_add (PySem.F.args_tuple_add_2 _ _)
   (tuple_addW1 t b vs.toArray ws.toArray n n2 dd dd2 sl sl2 (by simpa using hv) (by simp [hw])) ⟨ho,ho2,h1 hw⟩
 ·refine concat_meets ⟨_,ho,rfl⟩ ⟨_,ho2,rfl⟩ noFill_tuple_add seq_tuple_add PySem.F.slot_tuple_add PySem.F.entry_tuple_add (PySem.F.args_tuple_add_2 _ _)
   (tuple_addW2 t b vs.toArray ws.toArray n n2 dd dd2 sl sl2 (by simpa using hv) (by simpa using hw) (by rw [List.size_toArray,List.size_toArray];exact hsz)) ⟨ho,ho2,?_⟩
  rw [e]
  exact h2 hw
noncomputable def sIx (n d:Nat):Option Int->Nat
 | none=>d
 | some v=>if v < 0 then (v+(n:Int)).toNat else min v.toNat n
theorem LM (n d k:Nat):sIx n d (some (k:Int))=min k n:=by
 show (if (k:Int) < 0 then ((k:Int)+(n:Int)).toNat else min (k:Int).toNat n)=min k n
 rw [if_neg (by omega),Int.toNat_natCast]
theorem N9 (n d:Nat)(hd:d<=n)(o:Option Int):sIx n d o<=n:=by
 cases o with
 | none=>exact hd
 | some v=>
  show (if v < 0 then (v+(n:Int)).toNat else min v.toNat n)<=n
  by_cases hv:v < 0
  ·rw [if_pos hv];omega
  ·rw [if_neg hv];exact Nat.min_le_right _ _
theorem CU (v:Int)(n d:Nat):(if v < 0 then max (v+(n:Int)) 0 else min v (n:Int))=((sIx n d (some v):Nat):Int):=by
 show (if v < 0 then max (v+(n:Int)) 0 else min v (n:Int))=(((if v < 0 then (v+(n:Int)).toNat else min v.toNat n):Nat):Int)
 by_cases hv:v < 0
 ·simp only [if_pos hv];omega
 ·simp only [if_neg hv];omega
theorem Gv (lo hi:Option Int)(n:Nat):Builtin.Slice.sliceAdjust lo hi 1 (n:Int)=(((sIx n 0 lo:Nat):Int),((sIx n n hi:Nat):Int)):=by
 have h1:¬((1:Int) < 0):=by omega
 unfold Builtin.Slice.sliceAdjust
 simp only [h1,if_false]
 refine Prod.ext ?_ ?_
 ·cases lo with
  | none=>rfl
  | some v=>exact CU v n 0
 ·cases hi with
  | none=>rfl
  | some v=>exact CU v n n
theorem Gw (i j:Nat):Builtin.Slice.slicePlaces (i:Int) (j:Int) 1=j - i:=by
 unfold Builtin.Slice.slicePlaces
 have h1:(1:Int) > 0:=by omega
 simp only [h1,if_true,Int.ediv_one]
 split<;>omega
theorem zh {v:Value}{o:Option Int}{Q:Option Int->Shared->Prop}(p:IsPart v o)(h:Q o s):wpAny (model prog w) A (Builtin.Slice.slicePartIndex v) Q E s:=by
 cases p with
 | none=>exact slicePart_none h
 | int i t=>exact slicePart_int h
theorem xn {sl:Addr}{vl vu:Value}{lo hi:Option Int}{n:Nat}{Q:Int×Int×Nat->Shared->Prop}(hs:s.heap.IsSliceOf sl vl vu .none)(pl:IsPart vl lo)(pu:IsPart vu hi)
  (h:Q (((sIx n 0 lo:Nat):Int),1,sIx n n hi - sIx n 0 lo) s):wpAny (model prog w) A (Builtin.Slice.sliceApplied (.ref sl) (pure (n:Int))) Q E s:=by
 obtain ⟨os,hos,hcs,hds⟩:=id hs
 unfold Builtin.Slice.sliceApplied Builtin.Slice.sliceFields
 refine wpAny_bind (wpAny_bind (wpAny_field hos hds (x:=vl) rfl (wpAny_bind (wpAny_field hos hds (x:=vu) rfl (wpAny_bind (wpAny_field hos hds (x:=.none) rfl (wpAny_pure ?_)))))))
 refine wpAny_bind (slicePart_none ?_)
 show wpAny _ _ (if ((1:Int) == 0)=true then _ else _) _ _ s
 rw [if_neg (by decide)]
 refine wpAny_bind (zh pl (wpAny_bind (zh pu (wpAny_bind (wpAny_pure ?_)))))
 show wpAny _ _ (match Builtin.Slice.sliceAdjust lo hi 1 (n:Int) with | (lo,hi)=>pure (lo,(1:Int),Builtin.Slice.slicePlaces lo hi 1)) _ _ s
 rw [Gv lo hi n]
 show wpAny _ _ (pure (((sIx n 0 lo:Nat):Int),(1:Int),Builtin.Slice.slicePlaces ((sIx n 0 lo:Nat):Int) ((sIx n n hi:Nat):Int) 1)) _ _ s
 rw [Gw]
 exact wpAny_pure h
theorem JN (xs:Array Value)(i k:Nat):((List.range k).filterMap fun (m:Nat)=>xs[((i:Int)+(m:Int) * 1).toNat]?).toArray=((xs.toList.drop i).take k).toArray:=by
 have e:(fun (m:Nat)=>xs[((i:Int)+(m:Int) * 1).toNat]?)=fun m=>xs[i+m]?:=by
  funext m
  have:((i:Int)+(m:Int) * 1).toNat=i+m:=by omega
  rw [this]
 rw [e]
 have:=pick_run xs i k
 rw [List.filterMap_map] at this
 have e2:((fun x=>xs[x]?) ∘ fun x=>i+x)=fun m=>xs[i+m]?:=rfl
 rw [e2] at this
 rw [this]
theorem vp {t sl:Addr}{items:Array Value}{vl vu:Value}{lo hi:Option Int}{Q:Value->Shared->Prop}(ht:IsTup s.heap t items)(hs:s.heap.IsSliceOf sl vl vu .none)(pl:IsPart vl lo)(pu:IsPart vu hi)
  (hw:¬(sIx items.size 0 lo=0/\sIx items.size items.size hi=items.size))
  (h:Q (.ref s.heap.objs.size) {s with heap:=s.heap.push {cls:=.type "tuple",data:=.seq ((items.toList.drop (sIx items.size 0 lo)).take (sIx items.size items.size hi - sIx items.size 0 lo)).toArray}})
  (hsz:items.size<=sizeLine):wpAny (model prog w) A (getItem (.ref t) (.ref sl)) Q E s:=by
 have htake:sizeOk (.seq ((items.toList.drop (sIx items.size 0 lo)).take (sIx items.size items.size hi - sIx items.size 0 lo)).toArray):=by
  show ((items.toList.drop (sIx items.size 0 lo)).take (sIx items.size items.size hi - sIx items.size 0 lo)).toArray.size<=sizeLine
  rw [List.size_toArray,List.length_take,List.length_drop,Array.length_toList]
  omega
 have hj:sIx items.size items.size hi<=items.size:=N9 _ _ (Nat.le_refl _) hi
 obtain ⟨os,hos,hcs,hds⟩:=id hs
 have hTs:s.TypeIs (.ref sl) "slice":=⟨os,hos,hcs⟩
 unfold getItem
 try with_reducible refine wpAny_holding ?_
 first | refine wpAny_bind (wpAny_pure ?_) | skip
 refine wpAny_bind (wpAny_sequenceKey ht.typeIs (by decide) ?_)
 refine wpAny_bind (wpAny_callSpecial?_slot (name:=Str.ofString "__getitem__") ht.typeIs PyProof.Rows.slot_tuple_getitem
  (wpAny_call_entry PyProof.Rows.slot_tuple_getitem ht.typeIs entry_tuple_getitem ?_ (args_tuple_getitem _ _)))
 show wpAny _ _ (Builtin.Tuple.tupleItemsOf (.ref t) >>= _) _ _ s
 refine wpAny_bind (tupleItemsOf_ ht ?_)
 refine wpAny_bind (wpAny_typeOf hTs ?_)
 rw [if_pos (by decide)]
 refine wpAny_bind (xn hs pl pu ?_)
 have hno:¬((((sIx items.size 0 lo:Nat):Int) == 0 && (1:Int) == 1 && (sIx items.size items.size hi - sIx items.size 0 lo) == items.size)=true):=by
  intro q
  rw [Bool.and_eq_true,Bool.and_eq_true] at q
  have q1:((sIx items.size 0 lo:Nat):Int)=0:=eq_of_beq q.1.1
  have q2:sIx items.size items.size hi - sIx items.size 0 lo=items.size:=eq_of_beq q.2
  exact hw ⟨by omega,by omega⟩
 show wpAny _ _ (if (((sIx items.size 0 lo:Nat):Int) == 0 && (1:Int) == 1 && (sIx items.size items.size hi - sIx items.size 0 lo) == items.size)=true then _ else _) _ _ s
 rw [if_neg hno,JN]
 first
  | exact wpAny_bind (m:=Builtin.Tuple.tupleExact _) (wpAny_newObj_type (wpAny_pure ⟨_,rfl,wpAny_pure h⟩) htake)
  | exact wpAny_bind (m:=Builtin.Tuple.tupleExact _) (wpAny_newObj_type (wpAny_bind (wpAny_pure (wpAny_pure ⟨_,rfl,wpAny_pure h⟩))) htake)
  | exact wpAny_bind (wpAny_bind (m:=Builtin.Tuple.tupleExact _) (wpAny_newObj_type (wpAny_pure (wpAny_pure ⟨_,rfl,wpAny_pure h⟩)) htake))
  | exact wpAny_bind (wpAny_bind (m:=Builtin.Tuple.tupleExact _) (wpAny_newObj_type (wpAny_pure ⟨_,rfl,wpAny_pure h⟩) htake))
end
end HT
namespace L2
open PySem PySem.Spec PyProof.Rows
noncomputable abbrev TO:=St->Hp->(Option Int->Hp->Prop)->Prop
def PO (X:Cx)(e:Option Expr)(t:TO):Prop:=
 ∀(pins:List (Addr×Obj)) (s:Shared) (σ:St) (H:Hp) (Q:Option Int->Hp->Prop),Inv X pins σ H s->t σ H Q->
  wpAny (model X.prog X.w) X.A (evalPart e X.env) (fun u s'=>∃o H',Inv X pins σ H' s'/\IsPart u o/\Q o H') X.xe s
noncomputable def HL:TO:=fun _ H Q=>Q none H
noncomputable def Nj (t:TE):TO:=fun σ H Q=>t σ H fun x H1=>∃i,x=.int i/\Q (some i) H1
section
variable {X:Cx}{e:Expr}{te:TE}{lo hi:Option Expr}{tl th:TO}{pos p2:Pos}
theorem HM:PO X none HL:=by
 intro pins s σ H Q I h
 rw [evalPart_none]
 exact wpAny_pure ⟨none,H,I,.none,h⟩
theorem yZ (h:PE X e te):PO X (some e) (Nj te):=by
 intro pins s σ H Q I hw
 rw [evalPart_some]
 refine thn (h pins s σ H _ I hw) fun u s1 ⟨x,H1,I1,r1,q1⟩=>?_
 obtain ⟨i,rfl,q⟩:=q1
 obtain ⟨t,rfl⟩:=r1
 exact ⟨some i,H1,I1,.int i t,q⟩
def SlR (X:Cx)(r:V->Option Int->Option Int->Hp->VK->Prop):Prop:=
 ∀(pins:List (Addr×Obj)) (s:Shared) (σ:St) (H:Hp) (x:V) (v vl vu:Value) (lo hi:Option Int) (sl:Addr) (Q:VK),Inv X pins σ H s->cw x v->s.heap.IsSliceOf sl vl vu .none->IsPart vl lo->IsPart vu hi->r x lo hi H Q->
  ∃T id,typeLookup (.type T) "__getitem__"=pure (some (.builtin id))/\s.TypeIs v T/\wpAny (model X.prog X.w) X.A (getItem v (.ref sl)) (EP X pins σ Q) X.xe s
noncomputable def tSl (r:V->Option Int->Option Int->Hp->VK->Prop)(te:TE)(tl th:TO):TE:=fun σ H Q=>te σ H fun x H1=>tl σ H1 fun l H2=>th σ H2 fun u H3=>r x l u H3 Q
theorem zi {r:V->Option Int->Option Int->Hp->VK->Prop}(hr:SlR X r)(he:PE X e te)(hl:PO X lo tl)(hu:PO X hi th):PE X (.Subscript e (.Slice lo hi none p2) pos) (tSl r te tl th):=by
 intro pins s σ H Q I h
 refine Subscript_ (thn (he pins s σ H _ I h) fun v s1 ⟨x,H1,I1,r1,q1⟩=>?_)
 refine wpAny_Slice (thn (hl pins s1 σ H1 _ I1 q1) fun vl s2 ⟨l,H2,I2,pl,q2⟩=>thn (hu pins s2 σ H2 _ I2 q2) fun vu s3 ⟨u,H3,I3,pu,q3⟩=>?_)
 rw [evalPart_none]
 refine wpAny_pure ?_
 have I4:Inv X pins σ H3 {s3 with heap:=s3.heap.push {cls:=.type "slice",data:=.fields #[vl,vu,.none]}}:=I3.kept (t':=s3.toks) fun b ob q=>Heap.get?_push_of_some _ q
 obtain ⟨T,id,hT,ht,hg⟩:=hr pins {s3 with heap:=s3.heap.push {cls:=.type "slice",data:=.fields #[vl,vu,.none]}} σ H3 x v vl vu l u s3.heap.objs.size Q I4 r1 (Heap.IsSliceOf.new ..) pl pu q3
 show wpAny (model X.prog X.w) X.A (subscriptTail e (.Slice lo hi none p2) v (.ref s3.heap.objs.size)) (EP X pins σ Q) X.xe {s3 with heap:=s3.heap.push {cls:=.type "slice",data:=.fields #[vl,vu,.none]}}
 exact tail_any (ops:=[.ref s3.heap.objs.size,v]) ht hT hg (by with_unfolding_all rfl)
noncomputable def vq (xs:List V)(lo hi:Option Int):List V:=(xs.drop (HT.sIx xs.length 0 lo)).take (HT.sIx xs.length xs.length hi - HT.sIx xs.length 0 lo)
theorem mx (xs:List V)(lo hi:Option Int):(vq xs lo hi).length<=xs.length:=by
 unfold vq
 rw [List.length_take,List.length_drop]
 omega
noncomputable def Pz (K:PySem.W.Frag):V->Option Int->Option Int->Hp->VK->Prop:=fun x lo hi H Q=>∃a xs,x=.ref a/\SqT K H a xs/\
 ¬(HT.sIx xs.length 0 lo=0/\HT.sIx xs.length xs.length hi=xs.length)/\∀p,H p=none->Q (.ref p) (upd H p (.tup (vq xs lo hi)))
theorem JO:SlR X (Pz X.K):=by
 intro pins s σ H x v vl vu lo hi sl Q I rx hs pl pu h
 obtain ⟨a,xs,rfl,hx,hw,q⟩:=h
 cases rx
 obtain ⟨its,r,ht,hz⟩:=I.tuple hx
 have hlen:its.toArray.size=xs.length:=by rw [List.size_toArray];exact r.length.symm
 refine ⟨"tuple",_,PyProof.Rows.slot_tuple_getitem.lookup,ht.typeIs,?_⟩
 refine HT.vp ht hs pl pu (by rw [hlen];exact hw) ?_ (by rw [hlen];exact hz)
 rw [hlen]
 refine ⟨.ref s.heap.objs.size,_,I.laid (t':=s.toks) (o:=.tup (vq xs lo hi)) (fun b ob q=>Heap.get?_push_of_some _ q) (Nat.le_refl _) ?_,rfl,q _ (I.hok.fresh (Nat.le_refl _))⟩
 exact ⟨Nat.le_trans (mx xs lo hi) hz,_,(r.drop (HT.sIx xs.length 0 lo)).take (HT.sIx xs.length xs.length hi - HT.sIx xs.length 0 lo),lq.new _ _⟩
noncomputable def Nk (K:PySem.W.Frag):R2:=fun x y H Q=>∃a b xs ys,x=.ref a/\y=.ref b/\SqT K H a xs/\SqT K H b ys/\xs≠[]/\xs.length+ys.length<=sizeLine/\
 (ys=[]->Q (.ref a) H)/\(ys≠[]->∀p,H p=none->Q (.ref p) (upd H p (.tup (xs++ys))))
theorem bJ.nil_iff {xs:List V}{us:List Value}(r:bJ xs us):us=[]↔xs=[]:=by
 cases r with
 | nil=>simp
 | cons _ _=>simp
theorem HN:OpR X (binaryOp .Add) (Nk X.K):=by
 intro pins s σ H x y v u Q I rx ry h
 obtain ⟨a,b,xs,ys,rfl,rfl,ha,hb,hx,hz,q1,q2⟩:=h
 cases rx
 cases ry
 obtain ⟨its,r1,p1,_⟩:=I.tuple ha
 obtain ⟨its2,r2,p2,_⟩:=I.tuple hb
 refine HT.LL p1 p2 (fun z=>hx (r1.nil_iff.mp z)) (fun z=>⟨.ref a,H,I,rfl,q1 (r2.nil_iff.mp z)⟩) (fun z=>?_) (by rw [←r1.length,←r2.length];exact hz)
 refine ⟨.ref s.heap.objs.size,_,I.laid (t':=s.toks) (o:=.tup (xs++ys)) (fun b ob q=>Heap.get?_push_of_some _ q) (Nat.le_refl _) ?_,rfl,q2 (fun w=>z (r2.nil_iff.mpr w)) _ (I.hok.fresh (Nat.le_refl _))⟩
 exact ⟨by rw [List.length_append];exact hz,_,r1.append r2,lq.new _ _⟩
end
noncomputable def ixN (n:Nat)(i:Int):Option Nat:=if 0<=i then (if i < n then some i.toNat else none) else if -(n:Int)<=i then some (i+n).toNat else none
noncomputable def atI {α:Type}(xs:List α)(i:Int):Option α:=(ixN xs.length i).bind fun j=>xs[j]?
theorem HP {n:Nat}{i:Int}{j:Nat}(h:ixN n i=some j):seqIndex? i n=some j/\j < n/\-(n:Int)<=i/\i < n:=by
 unfold ixN at h
 by_cases h0:0<=i
 ·rw [if_pos h0] at h
  by_cases h1:i < n
  ·rw [if_pos h1] at h
   have e:i.toNat=j:=Option.some.inj h
   exact ⟨by rw [seqIndex_of h0 h1,e],by omega,by omega,h1⟩
  ·rw [if_neg h1] at h;cases h
 ·rw [if_neg h0] at h
  by_cases h1:-(n:Int)<=i
  ·rw [if_pos h1] at h
   have e:(i+n).toNat=j:=Option.some.inj h
   exact ⟨by rw [seqIndex_neg (by omega) h1,e],by omega,h1,by omega⟩
  ·rw [if_neg h1] at h;cases h
theorem CV {α:Type}{xs:List α}{i:Int}{v:α}(h:atI xs i=some v):∃j,seqIndex? i xs.length=some j/\xs[j]?=some v/\j < xs.length/\-(xs.length:Int)<=i/\i < xs.length:=by
 unfold atI at h
 cases e:ixN xs.length i with
 | none=>rw [e] at h;cases h
 | some j=>
  rw [e] at h
  obtain ⟨h1,h2,h3,h4⟩:=HP e
  exact ⟨j,h1,h,h2,h3,h4⟩
theorem HQ {α:Type}{xs:List α}{j:Nat}{v:α}(h:xs[j]?=some v):atI xs (j:Int)=some v:=by
 have hj:j < xs.length:=(List.getElem?_eq_some_iff.mp h).1
 have e:ixN xs.length (j:Int)=some j:=by
  unfold ixN
  rw [if_pos (by omega),if_pos (by omega)];simp
 unfold atI;rw [e];exact h
theorem JP {α:Type}(xs:List α)(v:α):atI (xs++[v]) (-1)=some v:=by
 have hl:(xs++[v]).length=xs.length+1:=by simp
 have e:ixN (xs++[v]).length (-1)=some xs.length:=by
  unfold ixN
  rw [hl,if_neg (by decide),if_pos (by omega)]
  congr 1
  omega
 unfold atI
 rw [e]
 show (xs++[v])[xs.length]?=some v
 simp
def HR (b:Expr):Prop:=∀o i,subscripted b false o i=operate [o,i] (getItem o i)
def IxR (X:Cx)(r:R2):Prop:=
 ∀(value slice:Expr) (pins:List (Addr×Obj)) (s:Shared) (σ:St) (H:Hp) (x y:V) (v u:Value) (Q:VK),Inv X pins σ H s->cw x v->cw y u->r x y H Q->
  subscripted slice false v u=operate [v,u] (getItem v u)->wpAny (model X.prog X.w) X.A (subscriptTail value slice v u) (EP X pins σ Q) X.xe s
def MtR (X:Cx)(id:String)(r:V->List V->Hp->VK->Prop):Prop:=
 ∀(pins:List (Addr×Obj)) (s:Shared) (σ:St) (H:Hp) (x:V) (xs:List V) (v:Value) (us:List Value) (Q:VK),Inv X pins σ H s->cw x v->bJ xs us->r x xs H Q->
  wpAny (model X.prog X.w) X.A (call (.builtin id) (v::us)) (EP X pins σ Q) X.xe s
section
variable {X:Cx}{a b:Expr}{ta tb:TE}{pos:Pos}
theorem IxR.or {r r':R2}(h:IxR X r)(h':IxR X r'):IxR X (fun x y H Q=>r x y H Q\/r' x y H Q):=by
 intro value slice pins s σ H x y v u Q I rx ry q hs
 rcases q with q | q
 ·exact h value slice pins s σ H x y v u Q I rx ry q hs
 ·exact h' value slice pins s σ H x y v u Q I rx ry q hs
theorem PB {r:R2}(hr:IxR X r)(ha:PE X a ta)(hb:PE X b tb)(hs:HR b):PE X (.Subscript a b pos) (tOp r ta tb):=by
 intro pins s σ H Q I h
 exact Subscript_ (N5 ha hb I h fun v u s2 x y H2 I2 rx ry q=>hr a b pins s2 σ H2 x y v u Q I2 rx ry q (hs _ _))
noncomputable def IM (K:PySem.W.Frag):R2:=fun x y H Q=>∃p xs i v,x=.ref p/\y=.int i/\SqL K H p xs/\atI xs i=some v/\Q v H
noncomputable def Ek (K:PySem.W.Frag):R2:=fun x y H Q=>∃p xs i v,x=.ref p/\y=.int i/\SqT K H p xs/\atI xs i=some v/\Q v H
noncomputable def PD:R2:=fun x y H Q=>∃z i c,x=.str z/\y=.int i/\z.length<=sizeLine/\atI z.cps.toList i=some c/\Q (.str ⟨#[c]⟩) H
theorem aI:IxR X (IM X.K):=by
 intro value slice pins s σ H x y v u Q I rx ry h hs
 obtain ⟨p,xs,i,z,rfl,rfl,hq,he,q⟩:=h
 cases rx
 obtain ⟨t,rfl⟩:=ry
 obtain ⟨its,r,pl,hz⟩:=I.list hq
 obtain ⟨j,h1,h2,h3,h4,h5⟩:=CV he
 obtain ⟨w,ew,rw'⟩:=r.get h2
 have hl:=r.length
 have hn:=xk
 have fin:EP X pins σ Q w s:=⟨z,H,I,rw',q⟩
 by_cases h0:0<=i
 ·have hj:i.toNat=j:=by
   rw [seqIndex_of h0 h5] at h1
   exact Option.some.inj h1
  exact item_listR pl.isList h0 (by omega) (by rw [hj];simpa using ew) fin hs
 ·have hj:(i+(its.toArray.size:Int)).toNat=j:=by
   rw [seqIndex_neg (by omega) h4] at h1
   rw [List.size_toArray,←hl]
   exact Option.some.inj h1
  exact subscriptTail_builtinR (x:=w) pl.isList.typeIs slot_list_getitem.lookup
   (wpAny_getItem_list_neg (Q:=fun r s'=>r=w/\EP X pins σ Q r s') pl.isList (by omega) (by rw [List.size_toArray]<;>omega) (by omega) (by rw [hj];simpa using ew) ⟨rfl,fin⟩) hs
theorem ay:IxR X (Ek X.K):=by
 intro value slice pins s σ H x y v u Q I rx ry h hs
 obtain ⟨p,xs,i,z,rfl,rfl,hq,he,q⟩:=h
 cases rx
 obtain ⟨t,rfl⟩:=ry
 obtain ⟨its,r,pl,hz⟩:=I.tuple hq
 obtain ⟨j,h1,h2,h3,h4,h5⟩:=CV he
 obtain ⟨w,ew,rw'⟩:=r.get h2
 have hl:=r.length
 have hn:=xk
 have fin:EP X pins σ Q w s:=⟨z,H,I,rw',q⟩
 exact subscriptTail_builtinR (x:=w) pl.typeIs slot_tuple_getitem.lookup
  (getItem_tuple (j:=j) (Q:=fun r s'=>r=w/\EP X pins σ Q r s') pl (by omega) (by omega) (by rw [List.size_toArray,←hl];exact h1) (by simpa using ew) ⟨rfl,fin⟩) hs
theorem Oa:IxR X PD:=by
 intro value slice pins s σ H x y v u Q I rx ry h hs
 obtain ⟨z,i,c,rfl,rfl,hz,he,q⟩:=h
 obtain ⟨t,rfl⟩:=rx
 obtain ⟨t',rfl⟩:=ry
 obtain ⟨j,h1,h2,h3,h4,h5⟩:=CV he
 have hl:z.cps.toList.length=z.length:=by simp [Str.length]
 rw [hl] at h1 h4 h5
 have hn:=xk
 exact tail_any (typeIs_str s z t) slot_str_getitem.lookup (getItem_str (c:=c) (by
  have e1:decide (i < -(2 ^ 63:Int))=false:=decide_eq_false (by omega)
  have e2:decide (i≥2 ^ 63)=false:=decide_eq_false (by omega)
  rw [e1,e2,Bool.or_false]) (by rw [h1];simpa using h2) ⟨.str ⟨#[c]⟩,H,I.tok _,⟨_,rfl⟩,q⟩) hs
noncomputable def rIx (K:PySem.W.Frag):R2:=fun x y H Q=>IM K x y H Q\/Ek K x y H Q\/PD x y H Q
theorem JQ:IxR X (rIx X.K):=aI.or (ay.or Oa)
theorem Gx (its:List Value)(n j:Nat)(u:Value):Obj.mapSeq (·.setIfInBounds j u) {cls:=.type "list",data:=.seq its.toArray n}={cls:=.type "list",data:=.seq (its.set j u).toArray n}:=by
 simp [Obj.mapSeq]
theorem Inv.lst {pins:List (Addr×Obj)}{σ:St}{H:Hp}{s:Shared}{p:Addr}{xs:List V}(I:Inv X pins σ H s)(h:H p=some (.lst xs)) :
  ∃(its:List Value) (n:Nat),bJ xs its/\s.heap.get? p=some {cls:=.type "list",data:=.seq its.toArray n}/\xs.length<=sizeLine:=by
 obtain ⟨z,its,n,r,e⟩:=I.hok p _ h
 exact ⟨its,n,r,e,z⟩
theorem Inv.lstUpd {pins:List (Addr×Obj)}{σ:St}{H:Hp}{s:Shared}{p:Addr}{xs ys:List V}{its its':List Value}{n n':Nat}{f:Obj->Obj}(I:Inv X pins σ H s)(h:H p=some (.lst xs))
  (ho:s.heap.get? p=some {cls:=.type "list",data:=.seq its.toArray n}) (hf:f {cls:=.type "list",data:=.seq its.toArray n}={cls:=.type "list",data:=.seq its'.toArray n'}) (r:bJ ys its') (hz:ys.length<=sizeLine) (t:Nat) :
  Inv X pins σ (upd H p (.lst ys)) {s with heap:=s.heap.update p f,toks:=t}:=by
 have e:(s.heap.update p f).get? p=some {cls:=.type "list",data:=.seq its'.toArray n'}:=by
  rw [Heap.get?_update_self f ho (by rw [hf]<;>rfl),hf]
 refine I.write (x:=p) (e:=p) (by rw [h];trivial) (.inl rfl) (fun b u hb q=>(Heap.get?_update_other _ _ (Ne.symm hb)).trans q) ⟨_,e⟩ ?_
 exact ⟨hz,its',n',r,e⟩
noncomputable def Nl:V->V->V->Hp->(Hp->Prop)->Prop:=fun o i v H Q=>∃p xs k j,o=.ref p/\i=.int k/\H p=some (.lst xs)/\ixN xs.length k=some j/\Q (upd H p (.lst (xs.set j v)))
theorem nD:Pm X Nl:=by
 intro pins s σ H o i v ov iv u Q I ro ri rv h
 obtain ⟨p,xs,k,j,rfl,rfl,hp,hj,q⟩:=h
 cases ro
 obtain ⟨t,rfl⟩:=ri
 obtain ⟨its,n,r,ho,hz⟩:=I.lst hp
 obtain ⟨h1,h2,h3,h4⟩:=HP hj
 have hl:=r.length
 have hn:=xk
 have I':Inv X pins σ (upd H p (.lst (xs.set j v))) {s with heap:=s.heap.update p (Obj.mapSeq (·.setIfInBounds j u))}:=
  I.lstUpd hp ho (Gx its n j u) (r.set rv j) (by rw [List.length_set];exact hz) s.toks
 by_cases h0:0<=k
 ·have hk:k.toNat=j:=by
   rw [seqIndex_of h0 h4] at h1
   exact Option.some.inj h1
  exact PySem.W.ki_setAt ho h0 (by omega) (by rw [List.size_toArray,←hl];exact h4) (by rw [hk];exact ⟨_,I',q⟩)
 ·have hk:(k+(its.toArray.size:Int)).toNat=j:=by
   rw [seqIndex_neg (by omega) h3] at h1
   rw [List.size_toArray,←hl]
   exact Option.some.inj h1
  exact PySem.W.ki_setBack ho (by omega) (by rw [List.size_toArray,←hl];exact h3) (by omega) (by rw [hk];exact ⟨_,I',q⟩)
theorem CW (lo hi:Option Int)(n:Nat):(sliceBounds lo hi none n).1=((HT.sIx n 0 lo:Nat):Int)/\(sliceBounds lo hi none n).2.1=((HT.sIx n n hi:Nat):Int)/\(sliceBounds lo hi none n).2.2=1:=by
 refine ⟨?_,?_,rfl⟩
 ·cases lo with
  | none=>simp [sliceBounds,HT.sIx]
  | some i=>
   simp only [sliceBounds,HT.sIx,Option.getD_none,show (1:Int) > 0 by decide,if_true]
   by_cases h:i < 0
   ·simp only [h,if_true]<;>omega
   ·simp only [h,if_false]<;>omega
 ·cases hi with
  | none=>simp [sliceBounds,HT.sIx]
  | some i=>
   simp only [sliceBounds,HT.sIx,Option.getD_none,show (1:Int) > 0 by decide,if_true]
   by_cases h:i < 0
   ·simp only [h,if_true]<;>omega
   ·simp only [h,if_false]<;>omega
theorem AV (its:List Value)(lo hi:Option Int):slicePick its.toArray lo hi none=((its.drop (HT.sIx its.length 0 lo)).take (HT.sIx its.length its.length hi - HT.sIx its.length 0 lo)).toArray:=by
 obtain ⟨h1,h2,h3⟩:=CW lo hi its.toArray.size
 unfold slicePick
 rw [h1,h2,h3]
 simp only [sliceRange_one,pick_run,List.size_toArray]<;>rfl
noncomputable def PF (K:PySem.W.Frag):V->Option Int->Option Int->Hp->VK->Prop:=fun x lo hi H Q=>∃a xs,x=.ref a/\SqL K H a xs/\∀p,H p=none->Q (.ref p) (upd H p (.lst (vq xs lo hi)))
theorem LN:SlR X (PF X.K):=by
 intro pins s σ H x v vl vu lo hi sl Q I rx hs pl pu h
 obtain ⟨a,xs,rfl,hx,q⟩:=h
 cases rx
 obtain ⟨its,r,ht,hz⟩:=I.list hx
 have hlen:=r.length
 refine ⟨"list",_,slot_list_getitem.lookup,ht.isList.typeIs,?_⟩
 refine wpAny_getItem_list_slice ht.isList hs pl pu .none (by simp) ?_ (by rw [List.size_toArray]<;>omega)
 rw [AV,←hlen]
 refine ⟨.ref s.heap.objs.size,_,I.laid (t':=s.toks) (o:=.lst (vq xs lo hi)) (fun b ob q=>Heap.get?_push_of_some _ q) (Nat.le_refl _) ?_,rfl,q _ (I.hok.fresh (Nat.le_refl _))⟩
 exact ⟨Nat.le_trans (mx xs lo hi) hz,_,0,(r.drop (HT.sIx xs.length 0 lo)).take (HT.sIx xs.length xs.length hi - HT.sIx xs.length 0 lo),Heap.get?_push_size _ rfl⟩
noncomputable def cx:V->Bool
 | .non=>true
 | .bl _=>true
 | .int _=>true
 | .str _=>true
 | _=>false
noncomputable def eqV:V->V->Bool
 | .non,.non=>true
 | .bl a,.bl b=>a == b
 | .bl a,.int b=>(if a then 1 else 0) == b
 | .int a,.bl b=>a == (if b then 1 else 0)
 | .int a,.int b=>a == b
 | .str a,.str b=>a == b
 | _,_=>false
theorem xo {A:Around}{s:Shared}{y x:V}{u v:Value}(ry:cw y u)(rx:cw x v)(fy:cx y=true)(fx:cx x=true):SeqAt.EqAt A s u v (eqV y x):=by
 cases y with
 | non=>
  cases ry
  cases x with
  | non=>cases rx;exact SeqAt.EqAt.same _
  | bl b=>cases rx;exact SeqAt.EqAt.none_bool b
  | int b=>obtain ⟨t,rfl⟩:=rx;exact SeqAt.EqAt.none_int b t
  | str b=>obtain ⟨t,rfl⟩:=rx;exact SeqAt.EqAt.none_str b t
  | _=>exact absurd (show false=true from fx) Bool.false_ne_true
 | bl a=>
  cases ry
  cases x with
  | non=>cases rx;exact SeqAt.EqAt.bool_none a
  | bl b=>cases rx;exact SeqAt.EqAt.bool_bool a b
  | int b=>obtain ⟨t,rfl⟩:=rx;exact SeqAt.EqAt.bool_int a b t
  | str b=>obtain ⟨t,rfl⟩:=rx;exact SeqAt.EqAt.bool_str a b t
  | _=>exact absurd (show false=true from fx) Bool.false_ne_true
 | int a=>
  obtain ⟨t',rfl⟩:=ry
  cases x with
  | non=>cases rx;exact SeqAt.EqAt.int_none a t'
  | bl b=>cases rx;exact SeqAt.EqAt.int_bool a t' b
  | int b=>obtain ⟨t,rfl⟩:=rx;exact SeqAt.EqAt.int_int a t' b t
  | str b=>obtain ⟨t,rfl⟩:=rx;exact SeqAt.EqAt.int_str a t' b t
  | _=>exact absurd (show false=true from fx) Bool.false_ne_true
 | str a=>
  obtain ⟨t',rfl⟩:=ry
  cases x with
  | non=>cases rx;exact SeqAt.EqAt.str_none a t'
  | bl b=>cases rx;exact SeqAt.EqAt.str_bool a t' b
  | int b=>obtain ⟨t,rfl⟩:=rx;exact SeqAt.EqAt.str_int a t' b t
  | str b=>obtain ⟨t,rfl⟩:=rx;exact SeqAt.EqAt.str_str a t' b t
  | _=>exact absurd (show false=true from fx) Bool.false_ne_true
 | _=>exact absurd (show false=true from fy) Bool.false_ne_true
noncomputable def eqU (x:V)(u:Value):Bool:=match u with
 | .none=>eqV .non x
 | .bool b=>eqV (.bl b) x
 | .int i _=>eqV (.int i) x
 | .str z _=>eqV (.str z) x
 | _=>false
theorem JR {x y:V}{u:Value}(r:cw y u)(f:cx y=true):eqU x u=eqV y x:=by
 cases y with
 | non=>cases r;rfl
 | bl b=>cases r;rfl
 | int i=>obtain ⟨t,rfl⟩:=r;rfl
 | str z=>obtain ⟨t,rfl⟩:=r;rfl
 | _=>exact absurd (show false=true from f) Bool.false_ne_true
theorem vt {x:V}:∀{xs:List V} {us:List Value},bJ xs us->xs.all cx=true->us.any (eqU x)=xs.any fun y=>eqV y x
 | _,_,.nil,_=>rfl
 | y::xs,u::us,.cons r t,f=>by
  rw [List.all_cons,Bool.and_eq_true] at f
  rw [List.any_cons,List.any_cons,JR r f.1,vt t f.2]
theorem qk {A:Around}{s:Shared}{x:V}{v:Value}(rx:cw x v)(fx:cx x=true):∀{xs:List V} {us:List Value},bJ xs us->xs.all cx=true->∀u∈us,SeqAt.EqAt A s u v (eqU x u)
 | _,_,.nil,_=>fun u hu=>by cases hu
 | y::xs,u::us,.cons r t,f=>fun u' hu=>by
  rw [List.all_cons,Bool.and_eq_true] at f
  rcases List.mem_cons.mp hu with rfl | hu
  ·rw [JR r f.1];exact xo r rx f.1 fx
  ·exact qk rx fx t f.2 u' hu
noncomputable def inV (x:V)(xs:List V):Bool:=xs.any fun y=>eqV y x
noncomputable def rIn (K:PySem.W.Frag)(neg:Bool):R2:=fun x y H Q=>∃p xs,y=.ref p/\(SqL K H p xs\/SqT K H p xs)/\cx x=true/\xs.all cx=true/\Q (.bl (if neg then !inV x xs else inV x xs)) H
theorem nE:OpR X (compareOp .In) (rIn X.K false):=by
 intro pins s σ H x y v u Q I rx ry h
 obtain ⟨p,xs,rfl,hq,fx,fs,q⟩:=h
 cases ry
 rcases hq with hq | hq
 ·obtain ⟨its,r,pl,hz⟩:=I.list hq
  refine SeqAt.in_listAt (eqU x) pl.isList (fun w hw=>qk rx fx r fs w (by simpa using hw)) ⟨.bl _,H,I,rfl,?_⟩
  rw [show its.toArray.any (eqU x)=its.any (eqU x) by simp,vt r fs]
  exact q
 ·obtain ⟨its,r,pl,hz⟩:=I.tuple hq
  refine SeqAt.in_tupleAt (eqU x) pl (fun w hw=>qk rx fx r fs w (by simpa using hw)) ⟨.bl _,H,I,rfl,?_⟩
  rw [show its.toArray.any (eqU x)=its.any (eqU x) by simp,vt r fs]
  exact q
theorem kO:OpR X (compareOp .NotIn) (rIn X.K true):=by
 intro pins s σ H x y v u Q I rx ry h
 obtain ⟨p,xs,rfl,hq,fx,fs,q⟩:=h
 cases ry
 rcases hq with hq | hq
 ·obtain ⟨its,r,pl,hz⟩:=I.list hq
  refine SeqAt.notIn_listAt (eqU x) pl.isList (fun w hw=>qk rx fx r fs w (by simpa using hw)) ⟨.bl _,H,I,rfl,?_⟩
  rw [show its.toArray.any (eqU x)=its.any (eqU x) by simp,vt r fs]
  exact q
 ·obtain ⟨its,r,pl,hz⟩:=I.tuple hq
  refine SeqAt.notIn_tupleAt (eqU x) pl (fun w hw=>qk rx fx r fs w (by simpa using hw)) ⟨.bl _,H,I,rfl,?_⟩
  rw [show its.toArray.any (eqU x)=its.any (eqU x) by simp,vt r fs]
  exact q
theorem aE:iG X (.builtin "len") (fun xs H Q=>∃p ys,xs=[.ref p]/\(SqL X.K H p ys\/SqT X.K H p ys)/\Q (.int ys.length) H):=by
 intro pins s σ H xs us Q I r h
 obtain ⟨p,ys,rfl,hq,q⟩:=h
 obtain ⟨u,rfl,rx⟩:=xU r
 cases rx
 have hn:=xk
 rcases hq with hq | hq
 ·obtain ⟨its,r',pl,hz⟩:=I.list hq
  have hlen:=r'.length
  exact Calls.call_len_list pl.isList (by simp only [List.size_toArray]<;>omega) ⟨.int ys.length,H,I.tok _,⟨s.toks+1,by rw [List.size_toArray,hlen]⟩,q⟩
 ·obtain ⟨its,r',pl,hz⟩:=I.tuple hq
  have hlen:=r'.length
  exact len_tuple pl (by simp only [List.size_toArray]<;>omega) ⟨.int ys.length,H,I.tok _,⟨s.toks+1,by rw [List.size_toArray,hlen]⟩,q⟩
theorem cf:iG X (.type "list") (fun xs H Q=>∃p ys,xs=[.ref p]/\(SqL X.K H p ys\/SqT X.K H p ys)/\∀l,H l=none->Q (.ref l) (upd H l (.lst ys))):=by
 intro pins s σ H xs us Q I r h
 obtain ⟨p,ys,rfl,hq,q⟩:=h
 obtain ⟨u,rfl,rx⟩:=xU r
 cases rx
 have fin:∀(its:List Value),bJ ys its->ys.length<=sizeLine->∀(h':Heap) (c':Nat),(∀b o',s.heap.get? b=some o'->h'.get? b=some o')->
   h'.get? s.heap.objs.size=some {cls:=.type "list",dict:=none,data:=.seq its.toArray c',slots:=#[]}->EP X pins σ Q (.ref s.heap.objs.size) {s with heap:=h'}:=fun its r' hz h' c' kp e=>
  ⟨.ref s.heap.objs.size,_,I.laid (t':=s.toks) kp (Nat.le_refl _) (show iP X.prog X.w _ h' _ (.lst ys) from ⟨hz,its,c',r',e⟩),rfl,q _ (I.hok.fresh (Nat.le_refl _))⟩
 rcases hq with hq | hq
 ·obtain ⟨its,r',pl,hz⟩:=I.list hq
  have hlen:=r'.length
  obtain ⟨o,ho,hc,n,hd⟩:=pl.isList
  exact call_list_seq p (.inl rfl) ho hc hd (fun h' c' kp e=>fin its r' hz h' c' kp e) (by simp only [List.size_toArray]<;>omega)
 ·obtain ⟨its,r',pl,hz⟩:=I.tuple hq
  have hlen:=r'.length
  obtain ⟨o,ho,hc,n,hd⟩:=pl
  exact call_list_seq p (.inr rfl) ho hc hd (fun h' c' kp e=>fin its r' hz h' c' kp e) (by simp only [List.size_toArray]<;>omega)
theorem tG:iG X (.type "tuple") (fun xs H Q=>∃p ys,xs=[.ref p]/\((SqL X.K H p ys/\∀l,H l=none->Q (.ref l) (upd H l (.tup ys)))\/(SqT X.K H p ys/\Q (.ref p) H))):=by
 intro pins s σ H xs us Q I r h
 obtain ⟨p,ys,rfl,h⟩:=h
 obtain ⟨u,rfl,rx⟩:=xU r
 cases rx
 rcases h with ⟨hq,q⟩ | ⟨hq,q⟩
 ·obtain ⟨its,r',pl,hz⟩:=I.list hq
  have hlen:=r'.length
  refine call_tuple_list pl.isList (fun h' kp=>?_) (by simp only [List.size_toArray]<;>omega)
  have I1:Inv X pins σ H {s with heap:=h'}:=I.kept (t':=s.toks) kp
  have I2:Inv X pins σ (upd H h'.objs.size (.tup ys)) {s with heap:=h'.push {cls:=.type "tuple",data:=.seq its.toArray}}:=
   I1.laid (t':=s.toks) (fun b o e=>Heap.get?_push_of_some _ e) (Nat.le_refl _) (show iP X.prog X.w _ _ _ (.tup ys) from ⟨hz,its,r',lq.new _ _⟩)
  exact ⟨.ref h'.objs.size,_,I2,rfl,q _ (I1.hok.fresh (Nat.le_refl _))⟩
 ·obtain ⟨its,r',pl,hz⟩:=I.tuple hq
  exact call_tuple_same pl ⟨.ref p,H,I,rfl,q⟩
def tyV (K:PySem.W.Frag)(T:String)(x:V)(H:Hp):Prop:=match x with
 | .str _=>T="str"
 | .int _=>T="int"
 | .ref p=>(T="list"/\∃xs,SqL K H p xs)\/(T="tuple"/\∃o,K.lookup p=some o/\o.cls=.type "tuple"/\o.dict=none)\/
   (T="dict"/\((∃kvs,H p=some (.dK kvs))\/∃kvs,H p=some (.dT kvs)))\/(T="set"/\∃S n,H p=some (.set S n))
 | _=>False
theorem JS {pins:List (Addr×Obj)}{σ:St}{H:Hp}{s:Shared}{T:String}{x:V}{v:Value}(I:Inv X pins σ H s)(r:cw x v)(ty:tyV X.K T x H) :
  s.TypeIs v T/\∀a,v=.ref a->∃ob,s.heap.get? a=some ob/\ob.dict=none:=by
 cases x with
 | str z=>
  obtain ⟨t,rfl⟩:=r
  cases (show T="str" from ty)
  exact ⟨typeIs_str s z t,fun _ e=>nomatch e⟩
 | int i=>
  obtain ⟨t,rfl⟩:=r
  cases (show T="int" from ty)
  exact ⟨typeIs_int s i t,fun _ e=>nomatch e⟩
 | ref p=>
  cases r
  rcases ty with ⟨rfl,xs,hq⟩ | ⟨rfl,o,hk,hc,hd⟩ | ⟨rfl,hk⟩ | ⟨rfl,S,n,hk⟩
  ·obtain ⟨its,_,pl,_⟩:=I.list hq
   refine ⟨pl.isList.typeIs,fun a e=>?_⟩
   cases e
   obtain ⟨o,n,e,c,hd,_⟩:=pl
   exact ⟨o,e,hd⟩
  ·refine ⟨⟨o,I.kIn p o hk,hc⟩,fun a e=>?_⟩
   cases e
   exact ⟨o,I.kIn _ o hk,hd⟩
  ·have z:∃o,s.heap.get? p=some o/\o.ExactDict:=by
    rcases hk with ⟨kvs,hk⟩ | ⟨kvs,hk⟩
    ·obtain ⟨_,_,_,_,o,_,_,e,ex,_⟩:=I.hok p _ hk
     exact ⟨o,e,ex⟩
    ·obtain ⟨_,_,_,_,o,_,_,e,ex,_⟩:=I.hok p _ hk
     exact ⟨o,e,ex⟩
   obtain ⟨o,e,ex⟩:=z
   refine ⟨⟨o,e,ex.1⟩,fun a e2=>?_⟩
   cases e2
   exact ⟨o,e,ex.2.1⟩
  ·obtain ⟨o,_,_,_,e,ex,_⟩:=I.hok p _ hk
   refine ⟨⟨o,e,ex.1⟩,fun a e2=>?_⟩
   cases e2
   exact ⟨o,e,ex.2.1⟩
 | _=>exact False.elim ty
noncomputable def PH (K:PySem.W.Frag)(T:String)(r:V->List V->Hp->VK->Prop)(to:TE):TE:=fun σ H Q=>to σ H fun x H1=>tyV K T x H1/\r x [] H1 Q
noncomputable def tBM (K:PySem.W.Frag)(T:String)(r:V->List V->Hp->VK->Prop)(to:TE)(t:TA):TE:=fun σ H Q=>to σ H fun x H1=>tyV K T x H1/\t σ H1 fun xs H2=>r x xs H2 Q
variable {o e:Expr}{es:List Expr}{to:TE}{t:TA}{name:Str}{apos cpos:Pos}{T id:String}{r:V->List V->Hp->VK->Prop}
theorem zj (pa:PlainAttrs T)(slot:Slot T name id)(hty:typeOf (.builtin id)=pure (.type "method_descriptor"))(hm:MtR X id r)(ho:PE X o to)
  (hbase:attributeBase o name X.env (eval o X.env)=eval o X.env:=by rfl) (hline:(apos.endLine == cpos.line)=true:=by rfl):PE X (.Call (.Attribute o name apos) [] [] cpos) (PH X.K T r to):=by
 intro pins s σ H Q I h
 refine wpAny_Call_method0_late hbase hline (thn (ho pins s σ H _ I h) fun v s1 ⟨x,H1,I1,r1,ty,q1⟩=>?_)
 obtain ⟨h1,h2⟩:=JS I1 r1 ty
 exact ⟨T,id,pa,slot,hty,h1,h2,Calls.callWith_builtin rfl (PySem.evalArgs_none (hm pins s1 σ H1 x [] v [] Q I1 r1 .nil q1))⟩
theorem vv (pa:PlainAttrs T)(slot:Slot T name id)(hty:typeOf (.builtin id)=pure (.type "method_descriptor"))(hm:MtR X id r)(ho:PE X o to)(ha:PA X (e::es) t)
  (hbase:attributeBase o name X.env (eval o X.env)=eval o X.env:=by rfl)
  (hfew:((backTo cpos (starEach (e::es) X.env)).all (fun x=>!x.1) && (backToKw cpos (keywordEach [] X.env)).all (fun x=>x.1.isSome)
   && decide ((e::es).length+([]:List Keyword).length+(if ([]:List Keyword).isEmpty then 0 else 1) < 30))=true:=by rfl)
  (hline:(apos.endLine == cpos.line)=true:=by rfl) (hs:starEach (e::es) X.env=(false,eval e X.env)::starEach es X.env:=by rfl) (hplain:(backTo cpos (starEach es X.env)).any (·.1)=false:=by rfl) :
  PE X (.Call (.Attribute o name apos) (e::es) [] cpos) (tBM X.K T r to t):=by
 intro pins s σ H Q I h
 refine wpAny_Call_method_late hbase hfew hline rfl (thn (ho pins s σ H _ I h) fun v s1 ⟨x,H1,I1,r1,ty,q1⟩=>?_)
 obtain ⟨h1,h2⟩:=JS I1 r1 ty
 refine ⟨T,id,pa,slot,hty,h1,h2,?_⟩
 have hA:=ha cpos pins s1 σ H1 _ I1 q1
 rw [hs] at hA ⊢
 refine Calls.callWith_builtin (by show (false || (backTo cpos (starEach es X.env)).any (·.1))=false;rw [hplain]<;>rfl) (Calls.evalArgs_plain ?_)
 exact thn hA fun us s2 ⟨vs,H2,I2,r2,q2⟩=>hm pins s2 σ H2 x vs v us Q I2 r1 r2 q2
end
def MtM (X:Cx)(id:String)(r:V->List V->Hp->VK->Prop):Prop:=
 ∀(pins:List (Addr×Obj)) (s:Shared) (σ:St) (H:Hp) (x:V) (xs:List V) (v:Value) (us:List Value) (Q:VK),Inv X pins σ H s->cw x v->bJ xs us->r x xs H Q->
  wpAny (model X.prog X.w) X.A (call (.builtin id) (v::us)) (EP X pins σ Q) X.xe s
theorem bJ.one:∀{x:V} {us:List Value},bJ [x] us->∃u,us=[u]/\cw x u
 | _,_,.cons r .nil=>⟨_,rfl,r⟩
theorem bJ.two:∀{x y:V} {us:List Value},bJ [x,y] us->∃u v,us=[u,v]/\cw x u/\cw y v
 | _,_,_,.cons r (.cons q .nil)=>⟨_,_,rfl,r,q⟩
theorem bJ.zero:∀{us:List Value},bJ [] us->us=[]
 | _,.nil=>rfl
theorem bJ.dropLast {xs:List V}{us:List Value}(h:bJ xs us):bJ xs.dropLast us.dropLast:=by
 induction h with
 | nil=>exact .nil
 | cons r t ih=>
  cases t with
  | nil=>exact .nil
  | cons q t'=>exact .cons r ih
theorem Gy {α:Type}(l:List α):l.eraseIdx (l.length - 1)=l.dropLast:=by
 induction l with
 | nil=>rfl
 | cons a r ih=>
  cases r with
  | nil=>rfl
  | cons b r=>
   have e:(a::b::r).length - 1=((b::r).length - 1)+1:=by
    have h1:(a::b::r).length=r.length+2:=rfl
    have h2:(b::r).length=r.length+1:=rfl
    omega
   rw [e,List.eraseIdx_cons_succ,ih]
   all_goals rfl
theorem BK (its:List Value):∀(k:Nat) (acc:List Value),
  List.foldl (fun x1 x2=>x1++x2) acc.toArray (List.replicate k its.toArray)=(acc++(List.replicate k its).flatten).toArray
 | 0,acc=>by simp
 | k+1,acc=>by
  have e:acc.toArray++its.toArray=(acc++its).toArray:=by simp
  have e2:(acc++its)++(List.replicate k its).flatten=acc++(List.replicate (k+1) its).flatten:=by
   rw [List.replicate_succ,List.flatten_cons,List.append_assoc]
  rw [←e2,←BK its k (acc++its),←e,List.replicate_succ,List.foldl_cons]
section
variable {X:Cx}{pins:List (Addr×Obj)}{σ:St}{H:Hp}{s:Shared}{l b:Addr}{xs ys zs:List V}
theorem Inv.lset {its its':List Value}{n:Nat}{f:Array Value->Array Value}{t':Nat}(I:Inv X pins σ H s)(hH:H l=some (.lst xs))
  (e:s.heap.get? l=some {cls:=.type "list",data:=.seq its.toArray n}) (hf:f its.toArray=its'.toArray) (hv:bJ ys its') (hz:ys.length<=sizeLine) :
  Inv X pins σ (upd H l (.lst ys)) {s with heap:=s.heap.update l (Obj.mapSeq f),toks:=t'}:=by
 have q:=PySem.IsL.update e f
 rw [hf] at q
 refine I.write (x:=l) (e:=l) (by rw [hH];exact trivial) (.inl rfl) (fun b' u hb hu=>(Heap.get?_update_other s.heap (Obj.mapSeq f) (Ne.symm hb)).trans hu) ⟨_,q⟩ ?_
 exact ⟨hz,its',_,hv,q⟩
theorem Inv.lnew {its:List Value}{t':Nat}(I:Inv X pins σ H s)(hv:bJ ys its)(hz:ys.length<=sizeLine) :
  Inv X pins σ (upd H s.heap.objs.size (.lst ys)) {s with heap:=s.heap.push {cls:=.type "list",data:=.seq its.toArray},toks:=t'}:=
 I.laid (fun _ _ q=>Heap.get?_push_of_some _ q) (Nat.le_refl _) ⟨hz,its,0,hv,Heap.get?_push_size _ rfl⟩
theorem Inv.fresh (I:Inv X pins σ H s):H s.heap.objs.size=none:=I.hok.fresh (Nat.le_refl _)
theorem Inv.lstM (I:Inv X pins σ H s)(hH:H l=some (.lst xs)):xs.length<=sizeLine/\∃(its:List Value) (n:Nat),bJ xs its/\xs.length=its.length/\s.heap.get? l=some {cls:=.type "list",data:=.seq its.toArray n}:=by
 obtain ⟨z,its,n,r,e⟩:=I.hok l _ hH
 exact ⟨z,its,n,r,r.length,e⟩
theorem JT {n:Nat}(h:n<=sizeLine):Builtin.List.listTooLong n=false:=by
 unfold Builtin.List.listTooLong
 exact decide_eq_false (by omega)
end
section
variable {X:Cx}
noncomputable def HS:V->List V->Hp->VK->Prop:=fun x vs H Q=>∃l xs y,x=.ref l/\vs=[y]/\H l=some (.lst xs)/\xs.length < sizeLine/\Q .non (upd H l (.lst (xs++[y])))
theorem iJ:MtM X "list.append" HS:=by
 intro pins s σ H x vs v us Q I rx rv h
 obtain ⟨l,xs,y,rfl,rfl,hH,hz,q⟩:=h
 cases rx
 obtain ⟨u,rfl,ru⟩:=rv.one
 obtain ⟨z,its,n,r,hl,e⟩:=I.lstM hH
 refine call_meets F.slot_list_append ⟨_,e,rfl⟩ F.entry_list_append (F.args_list_append_2 _ _) (PySem.list_append l its.toArray n u (by rw [List.size_toArray];omega)) ⟨e,?_⟩
 refine ⟨.non,_,I.lset (its':=its++[u]) hH e (by simp) (r.append (.cons ru .nil)) ?_,rfl,q⟩
 rw [List.length_append,List.length_singleton]
 omega
noncomputable def HU:V->List V->Hp->VK->Prop:=fun x vs H Q=>∃l b xs zs,x=.ref l/\vs=[.ref b]/\H l=some (.lst xs)/\H b=some (.lst zs)/\xs.length+zs.length<=sizeLine/\Q .non (upd H l (.lst (xs++zs)))
theorem Pd:MtM X "list.extend" HU:=by
 intro pins s σ H x vs v us Q I rx rv h
 obtain ⟨l,b,xs,zs,rfl,rfl,hH,hB,hz,q⟩:=h
 cases rx
 obtain ⟨u,rfl,ru⟩:=rv.one
 cases ru
 obtain ⟨z,its,n,r,hl,e⟩:=I.lstM hH
 obtain ⟨z2,its2,n2,r2,hl2,e2⟩:=I.lstM hB
 have hsz:its.toArray.size+its2.toArray.size<=sizeLine:=by rw [List.size_toArray,List.size_toArray];omega
 have hlong:¬(!its.toArray.isEmpty && Builtin.List.listTooLong (its.toArray.size+its2.toArray.size))=true:=by
  rw [JT hsz,Bool.and_false]
  exact Bool.false_ne_true
 refine call_meets F.slot_list_extend ⟨_,e,rfl⟩ F.entry_list_extend (F.args_list_extend_2 _ _)
  (AutoSeq1.list_extend_list_list_0 l its.toArray n b its2.toArray n2 hlong (by rw [List.size_toArray];omega) (by omega)) ⟨e,e2,?_⟩
 refine ⟨.non,_,I.lset (its':=its++its2) hH e (by simp) (r.append r2) ?_,rfl,q⟩
 rw [List.length_append]
 omega
noncomputable def Ob:V->List V->Hp->VK->Prop:=fun x vs H Q=>∃l xs y,x=.ref l/\vs=[]/\H l=some (.lst xs)/\xs[xs.length - 1]?=some y/\Q y (upd H l (.lst xs.dropLast))
theorem Gz:MtM X "list.pop" Ob:=by
 intro pins s σ H x vs v us Q I rx rv h
 obtain ⟨l,xs,y,rfl,rfl,hH,hy,q⟩:=h
 cases rx
 have hus:=rv.zero
 subst hus
 obtain ⟨z,its,n,r,hl,e⟩:=I.lstM hH
 obtain ⟨u,hu,ru⟩:=r.get hy
 have hy':its.toArray[its.toArray.size - 1]?=some u:=by
  show its.toArray[its.length - 1]?=some u
  rw [←Array.getElem?_toList,←hl]
  exact hu
 refine call_meets F.slot_list_pop ⟨_,e,rfl⟩ F.entry_list_pop (F.args_list_pop_1 _) (MeetsSeq.list_pop_last l its.toArray n u hy' (by rw [List.size_toArray];omega)) ⟨e,?_⟩
 refine ⟨y,_,I.lset (its':=its.dropLast) hH e ?_ r.dropLast ?_,ru,q⟩
 ·show its.toArray.eraseIdxIfInBounds (its.toArray.size - 1)=its.dropLast.toArray
  rw [List.size_toArray,List.eraseIdxIfInBounds_toArray,Gy]
 ·rw [List.length_dropLast]
  omega
noncomputable def GA:V->List V->Hp->VK->Prop:=fun x vs H Q=>∃l xs,x=.ref l/\vs=[]/\H l=some (.lst xs)/\Q .non (upd H l (.lst []))
theorem El:MtM X "list.clear" GA:=by
 intro pins s σ H x vs v us Q I rx rv h
 obtain ⟨l,xs,rfl,rfl,hH,q⟩:=h
 cases rx
 have hus:=rv.zero
 subst hus
 obtain ⟨z,its,n,r,hl,e⟩:=I.lstM hH
 refine call_meets F.slot_list_clear ⟨_,e,rfl⟩ F.entry_list_clear (F.args_list_clear_1 _) (AutoSeq1.list_clear_list_0 l its.toArray n (by rw [List.size_toArray];omega)) ⟨e,?_⟩
 exact ⟨.non,_,I.lset (its':=[]) (ys:=[]) hH e rfl .nil (Nat.zero_le _),rfl,q⟩
noncomputable def PJ:R2:=fun x y H Q=>∃l b xs zs,x=.ref l/\y=.ref b/\H l=some (.lst xs)/\H b=some (.lst zs)/\xs.length+zs.length<=sizeLine/\∀p,H p=none->Q (.ref p) (upd H p (.lst (xs++zs)))
theorem uY:OpR X (binaryOp .Add) PJ:=by
 intro pins s σ H x y v u Q I rx ry h
 obtain ⟨l,b,xs,zs,rfl,rfl,hH,hB,hz,q⟩:=h
 cases rx
 cases ry
 obtain ⟨z,its,n,r,hl,e⟩:=I.lstM hH
 obtain ⟨z2,its2,n2,r2,hl2,e2⟩:=I.lstM hB
 refine PySem.P.add_list e e2 ?_ (by rw [List.size_toArray,List.size_toArray];omega)
 have ea:its.toArray++its2.toArray=(its++its2).toArray:=by simp
 rw [ea]
 exact ⟨.ref _,_,I.lnew (t':=s.toks) (r.append r2) (by rw [List.length_append];omega),rfl,q _ I.fresh⟩
noncomputable def QC:R2:=fun x y H Q=>∃l k xs,x=.ref l/\y=.int k/\H l=some (.lst xs)/\-(2 ^ 63)<=k/\k < 2 ^ 63/\xs.length * k.toNat<=sizeLine/\
 ∀p,H p=none->Q (.ref p) (upd H p (.lst (List.replicate k.toNat xs).flatten))
end
section
variable {prog:Program}{w:World}{A:Around}{E:Value->Shared->Prop}{s:Shared}
set_option maxRecDepth 100000 in
end
end L2
namespace Att
open PySem PySem.W PySem.Calls PyProof.Rows
theorem yJ {P:Params}{h:Heap}:∀(ns:List Int) (vs:List Value),WellAll P h vs (ns.map WData.int)->IntsAre vs ns:=by
 intro ns
 induction ns with
 | nil=>
  intro vs w
  rw [List.map_nil] at w
  cases w
  exact .nil
 | cons n ns ih=>
  intro vs w
  rw [List.map_cons] at w
  cases w with
  | cons a b=>
   cases a
   exact .cons _ _ (ih _ b)
theorem IP {l:OpenLaw}{n:Nat}(hn:l.most=some n){P:Params}{h:Heap}{args:List WData}{vals:List Value}
  (hpre:l.row.toRowW.claim.pre args=true) (hwl:WellAll P h vals args) :
  ∃a vs ns,vals=[Value.ref a]/\args=[WData.list (ns.map WData.int)]/\h.get? a=some {cls:=.type "list",data:=.seq vs.toArray}/\IntsAre vs ns/\ns.length<=n:=by
 have hsh:WShape.hasAll [] args [.list .int]=true:=(pre_splitW hpre).1
 have hc:l.pre.holds [] {args:=args}=true:=(pre_splitW hpre).2
 obtain ⟨d,r,rfl,h1,h2⟩:=hasAllW_cons hsh
 obtain rfl:=hasAllW_nil h2
 obtain ⟨xs,rfl,h3⟩:=hasW_list h1
 obtain ⟨ns,rfl⟩:=items_int h3
 have hlen:ns.length<=n:=by
  unfold OpenLaw.pre at hc
  have h4:(WTm.not (.lt (.lit (.int (n:Int))) (.len (.arg 0)))).holds [] {args:=[.list (ns.map .int)]}=true:=by
   have h4:=(holds_andW hc).1
   rw [hn] at h4
   exact h4
  have h5:=condW_of h4 (w_not (w_lt w_lit (w_len_list (w_arg rfl))))
  rw [List.length_map] at h5
  refine Nat.le_of_not_lt fun q=>?_
  have q':(n:Int) < ((ns.length:Nat):Int):=by omega
  first
   | (rw [decide_eq_true q'] at h5;exact absurd h5 (by decide))
   | (simp at h5;omega)
 cases hwl with
 | cons w1 w2=>
  cases w2
  cases w1 with
  | list ho hall=>exact ⟨_,_,ns,rfl,rfl,ho,yJ ns _ hall,hlen⟩
theorem IQ (l:OpenLaw)(args:List WData):l.row.toRowW.claim.post args (.bool true) args=true:=
 postW_of (r:=l.row.toRowW) (X:=(true == true))
  (show WShape.has [] (.bool true) .bool=true by first | rfl | decide | simp [WShape.has,WShape.arms,WShape.armsAll])
  (show (WTm.eq .res (.lit (.bool true))).value [] {args:=args,res:=some (.bool true),after:=args}=some (.bool (true == true)) from w_eq_bool (w_res rfl) w_lit) rfl
theorem Em {l:OpenLaw}{n:Nat}{q:Program}{loose:List Str}{XP:(Str->Option Value)->Heap->Prop}{YP:World->Heap->Prop}{d:DefRec}
  (hn:l.most=some n) (hdf:d.params.defaults=[])
  (call:∀(w:World) (s₀ s₁:Shared) (mg mb:Str->Option Value) (fa:Addr) (o:Obj) (pm cd doc:Value) (a:Addr) (vs:List Value) (ns:List Int),
   Ground q loose [] XP w s₀ mg mb s₁.heap->YP w s₁.heap->
   s₁.heap.get? fa=some o->o.data=.func (docDef d.name d.params d.body d.scope pm cd doc)->s₁.heap.CodeRec cd d.name->mg d.name=some (.ref fa)->
   s₁.heap.get? a=some {cls:=.type "list",data:=.seq vs.toArray}->IntsAre vs ns->ns.length<=n->s₁.gens=#[]->
   codeAny (model l.prog w) callerA (.call (.ref fa) ⟨[.ref a],[]⟩) (fun r s'=>r=.ok (.ret (.bool true))/\OldK s₁.heap s'.heap/\s'.os=s₁.os/\AllBare s'.gens) s₁) :
  WalkO q loose XP YP l.row.toRowW d [] (fun f vs=>PySem.call f vs):=by
 intro w s₀ s₁ mg mb G Y fa o pm cd doc dV kV ho hd hcd hD hmg hg args vals as hpre hlay hrd hwl hlo
 obtain rfl:dV=.none:=Dflts.none hD hdf
 obtain rfl:kV=.none:=Dflts.noKw hD
 obtain ⟨a,vs,ns,rfl,rfl,hobj,hints,hlen⟩:=IP hn hpre hwl
 refine enter_call (codeAny_mono (call w s₀ s₁ mg mb fa o pm cd doc a vs ns G Y ho (fd_plain hd) hcd hmg hobj hints hlen hg) fun r s' hq=>?_)
 obtain ⟨rfl,h2,h3,h4⟩:=hq
 exact ⟨.inl ⟨.bool true,.bool true,[],rfl,fun _=>rfl,.bool true,IQ l _,fun _=>⟨List.Pairwise.nil,fun _ hm=>(nomatch hm)⟩⟩,h2,h3,h4⟩
end Att
namespace L2
open PySem PySem.Spec PyProof.Rows
theorem BL:∀{vs:List Value} {ns:List Int},IntsAre vs ns->bJ (ns.map V.int) vs
 | _,_,.nil=>.nil
 | _,_,.cons n t h=>.cons ⟨t,rfl⟩ (BL h)
def Oc (H:Hp):Prop:=∀b,H b=none\/∃o xs,H b=some (.frz o (.lst xs))
theorem JU {P:Program}{w:World}{K:PySem.W.Frag}{mg mb:Str->Option Value}{CX:CXT}{k:Nat}{fa a:Addr}{fd:FuncData}{x:Str}{sp:Sp}{s₁:Shared}{vs:List Value}{ns:List Int}
  (KX:K.In s₁.heap) (hns:s₁.heap.Ns mainGlobals mg) (hb:s₁.heap.Ns builtinsNs mb) (hbb:∀x:Str,x≠"__name__"->mb x=bootBuiltins x) (hlim:s₁.heap.NoLimit) (hg:s₁.gens=#[])
  (ha:s₁.heap.get? a=some {cls:=.type "list",data:=.seq vs.toArray}) (hi:IntsAre vs ns) (hl:ns.length<=sizeLine) (hr:iQ k callerA)
  (F:∀base:Heap,K.In base->base.Ns mainGlobals mg->aH P w K mg base CX k fa fd [x] sp) (hbind:∀(s:Shared) (u:Value),BindsTo s fd ⟨[u],[]⟩ [(x,u)])
  (hsp:∀H:Hp,Oc H->SqL K H a (ns.map V.int)->sp [.ref a] H (fun v _=>v=.bl true) fun _ _ _=>False)
  (hCX:∀H e s',CX [] H s₁ (fun _ _ _=>False) e s'->False) :
  codeAny (model P w) callerA (.call (.ref fa) ⟨[.ref a],[]⟩) (fun r s'=>r=.ok (.ret (.bool true))/\OldK s₁.heap s'.heap/\s'.os=s₁.os/\AllBare s'.gens) s₁:=by
 have rv:=BL hi
 have lenV:=hi.length
 have core:∀H:Hp,Oc H->SqL K H a (ns.map V.int)->HOk P w H s₁.heap->(∀b,H b≠none->b=a)->(H a≠none->K.lookup a=none)->
   codeAny (model P w) callerA (.call (.ref fa) ⟨[.ref a],[]⟩) (fun r s'=>r=.ok (.ret (.bool true))/\OldK s₁.heap s'.heap/\s'.os=s₁.os/\AllBare s'.gens) s₁:=by
  intro H hO hS hok hA hK
  have base_of:∀{b:Addr} {o:Obj},s₁.heap.get? b=some o->H b=none->(CO s₁.heap H).get? b=some o:=fun e n=>JB e n
  have noA:∀{b:Addr} {o:Obj} {es:Array DictEntry} {ep:Nat},s₁.heap.get? b=some o->o.data=.dict es ep->H b=none:=fun {b o es ep} e d=>by
   cases q:H b with
   | none=>rfl
   | some u=>
    have e':b=a:=hA b (by rw [q];simp)
    subst e'
    rw [ha] at e;cases e
    have d':Data.seq vs.toArray _=Data.dict es ep:=d
    cases d'
  have nsK:∀{b:Addr} {m:Str->Option Value},s₁.heap.Ns b m->(CO s₁.heap H).Ns b m:=fun {b m} ⟨o,es,ep,e,d,r⟩=>⟨o,es,ep,base_of e (noA e d),d,r⟩
  have hKb:K.In (CO s₁.heap H):=fun b o e=>base_of (KX b o e) (by
   cases q:H b with
   | none=>rfl
   | some u=>
    have e':b=a:=hA b (by rw [q];simp)
    subst e'
    rw [hK (by rw [q];simp)] at e;cases e)
  have hM:Mod K mg (CO s₁.heap H):=⟨hKb,nsK hns,⟨mb,nsK hb,hbb⟩,let ⟨mc,h1,h2⟩:=hlim;⟨mc,nsK h1,h2⟩⟩
  have e0:Gs P w K mg (CO s₁.heap H) callerA [] s₁ H:=⟨rfl,hM,fun b o e=>LD e,Nat.le_of_eq (ID _ _),trivial,fun b hb=>absurd (show b∈([]:List Addr) from hb) (by simp),hok,.of_eq hg⟩
  refine codeAny_mono ((F _ hKb (nsK hns)).run callerA [] s₁ H ⟨[.ref a],[]⟩ [.ref a] [.ref a] _ _ hr e0 (hbind s₁ (.ref a)) (.cons rfl .nil) (hsp H hO hS)) fun r s' h=>?_
  cases r with
  | error e=>exact (hCX H e s' h).elim
  | ok fl=>
   cases fl with
   | next=>exact False.elim h
   | brk=>exact False.elim h
   | cont=>exact False.elim h
   | ret u=>
    obtain ⟨v,H',os,bare,un,hok',r',q⟩:=h
    have q':v=.bl true:=q
    subst q'
    obtain rfl:u=Value.bool true:=r'
    refine ⟨rfl,OldK.of_keep fun b o e=>?_,os,bare⟩
    cases q:H b with
    | none=>exact un.keep b o e q (by intro z;exact absurd (show b∈([]:List Addr) from z) (by simp)) (by simp)
    | some u=>
     rcases hO b with z | ⟨ob,xs,z⟩
     ·rw [q] at z;cases z
     ·have z2:=un.frzs b ob _ z
      obtain ⟨e1,_⟩:=hok b _ z
      obtain ⟨e2,_⟩:=hok' b _ z2
      rw [e] at e1;cases e1
      exact e2
 cases hk:K.lookup a with
 | some o=>
  have e:=KX a o hk
  rw [ha] at e
  cases e
  refine core (fun _=>none) (fun _=>.inl rfl) (.inr ⟨_,vs.toArray,_,hk,rfl,rfl,rfl,by rw [List.size_toArray,lenV];exact hl,by simpa using rv⟩) (fun b u z=>by have z':(none:Option HO)=some u:=z;cases z') (fun b z=>absurd rfl z) fun z=>absurd rfl z
 | none=>
  refine core (fun b=>if b=a then some (.frz {cls:=.type "list",data:=.seq vs.toArray} (.lst (ns.map V.int))) else none) (fun b=>?_) (.inl (.inr ⟨{cls:=.type "list",data:=.seq vs.toArray},if_pos rfl⟩)) (fun b u z=>?_) (fun b z=>?_) fun _=>hk
  ·by_cases hb:b=a
   ·exact .inr ⟨_,_,if_pos hb⟩
   ·exact .inl (if_neg hb)
  ·by_cases hb:b=a
   ·have z':=(if_pos hb).symm.trans z
    cases z'
    subst hb
    exact ⟨ha,by rw [List.length_map];exact hl,vs,_,rv,ha⟩
   ·have z':=(if_neg hb).symm.trans z
    cases z'
  ·by_cases hb:b=a
   ·exact hb
   ·exact absurd (if_neg hb) z
theorem LO {l:PySem.W.OpenLaw}{n k:Nat}{q:Program}{loose:List Str}{XP:(Str->Option Value)->Heap->Prop}{YP:World->Heap->Prop}{d:DefRec}{K:Params->PySem.W.Frag}{CX:World->CXT}{sp:World->Sp}{x:Str}
  (hn:l.most=some n) (hn2:n<=sizeLine) (hdf:d.params.defaults=[]) (hr:iQ k callerA)
  (hY:∀(w:World) (h:Heap),YP w h->(K w.params).In h)
  (F:∀(w:World) (mg:Str->Option Value) (fa:Addr) (h:Heap),(K w.params).In h->h.Ns mainGlobals mg->mg d.name=some (.ref fa)->
   ∃fd:FuncData,(∀(s:Shared) (u:Value),BindsTo s fd ⟨[u],[]⟩ [(x,u)])/\
    ∀base:Heap,(K w.params).In base->base.Ns mainGlobals mg->aH l.prog w (K w.params) mg base (CX w) k fa fd [x] (sp w))
  (hsp:∀(w:World) (H:Hp) (a:Addr) (ns:List Int),ns.length<=n->Oc H->SqL (K w.params) H a (ns.map V.int)->sp w [.ref a] H (fun v _=>v=.bl true) fun _ _ _=>False)
  (hCX:∀(w:World) (H:Hp) (s:Shared) (e:Value) (s':Shared),CX w [] H s (fun _ _ _=>False) e s'->False) :
  PySem.W.WalkO q loose XP YP l.row.toRowW d [] (fun f vs=>PySem.call f vs):=by
 refine Att.Em hn hdf fun w s₀ s₁ mg mb fa o pm cd doc a vs ns G Y ho hd hcd hmg hobj hints hlen hg=>?_
 have KX:=hY w _ Y
 obtain ⟨fd,hb,hF⟩:=F w mg fa _ KX G.T.g hmg
 exact JU KX G.T.g G.T.b G.T.builtins G.T.nolimit hg hobj hints (Nat.le_trans hlen hn2) hr hF hb (fun H hO hS=>hsp w H a ns hlen hO hS) fun H e s'=>hCX w H s₁ e s'
noncomputable def bb (s:Stmt)(j:Nat):Stmt:=match s with
 | .ClassDef _ _ _ body _ _ _ _ _ _ _=>body.getD j (.Pass ⟨0,0,0,0⟩)
 | _=>.Pass ⟨0,0,0,0⟩
noncomputable def ff (s:Stmt):Arguments:=match s with
 | .FunctionDef _ a _ _ _ _ _ _ _ _=>a
 | _=>{posonlyargs:=[],args:=[],vararg:=none,kwonlyargs:=[],kw_defaults:=[],kwarg:=none,defaults:=[]}
noncomputable def cy (s:Stmt):List Stmt:=match s with
 | .FunctionDef _ _ b _ _ _ _ _ _ _=>b
 | _=>[]
noncomputable def ao (s:Stmt):Scope:=match s with
 | .FunctionDef _ _ _ _ _ _ sc _ _ _=>sc
 | _=>{kind:=.function,names:=[],isGenerator:=false,isCoroutine:=false}
noncomputable abbrev CX0:CXT:=fun _ _ _ _ _ _=>False
noncomputable abbrev E0:XK:=fun _ _ _=>False
theorem aO {X:Cx}:qj CX0 X E0:=fun _ _ _ _ _ _ _ h=>h.elim
structure Fun (K:PySem.W.Frag)(x qual:Str)(st:Stmt)(f:Addr)(fd:FuncData):Prop where
 ex:∃(oc:Value) (od:Option Addr) (kV doc pm:Value) (an:Option Addr) (cdv ct:Value) (osl:Array (Option Value)),
  fd=PySem.W.fnOf x qual (ff st) (cy st) (ao st) .none kV doc pm an cdv ct/\K.lookup f=some ⟨oc,od,.func fd,osl⟩/\PySem.W.codeIn K cdv qual=true
 kp:PySem.W.keepIn K (.ref f)=true
section
variable {P:Program}{w:World}{K:PySem.W.Frag}{mg:Str->Option Value}{base:Heap}
theorem Fun.ok {x qual:Str}{st:Stmt}{f:Addr}{fd:FuncData}{N ps:List Str}{k:Nat}{sp:Sp}(F:Fun K x qual st f fd)(S:aA N ps (ao st))(len:∀vs H Q E,sp vs H Q E->vs.length=ps.length)
  (hbody:∀(cdv:Value) (A:Around) (outer:List Env) (s:Shared) (H:Hp) (vs:List V) (Q:VK) (E:XK),iQ k (A.deeper (envOfC qual (ao st) s.heap.objs.size f cdv))->sp vs H Q E->
   ∃t,PSs (vo CX0 P w K mg base N qual (ao st) f cdv A outer s H E).nox (cy st) t/\t {nx:=fun _ H'=>Q .non H',rt:=Q} (tF N vs) H):aH P w K mg base CX0 (k+1) f fd ps sp:=by
 obtain ⟨oc,od,kV,doc,pm,an,cdv,ct,osl,rfl,lk,hcd⟩:=F.ex
 refine Ni lk hcd S len fun A outer s H vs Q E hr hsp=>?_
 obtain ⟨t,h,q⟩:=hbody cdv A outer s H vs Q E hr hsp
 exact ⟨t,h.nox,q⟩
theorem Fun.binds {x qual:Str}{st:Stmt}{f:Addr}{fd:FuncData}{ps:List Str}(F:Fun K x qual st f fd)
  (h:∀(kV doc pm:Value) (an:Option Addr) (cdv ct:Value) (us:List Value),us.length=ps.length->bindArgs (PySem.W.fnOf x qual (ff st) (cy st) (ao st) .none kV doc pm an cdv ct) ⟨us,[]⟩=pure (ps.zip us)):iI K fd ps []:=by
 obtain ⟨oc,od,kV,doc,pm,an,cdv,ct,osl,rfl,lk,hcd⟩:=F.ex
 exact .all (h kV doc pm an cdv ct)
theorem GB {x qual:Str}{st:Stmt}{f:Addr}{oc:Value}{od an:Option Addr}{osl:Array (Option Value)}{kV doc pm cdv ct:Value}(l:K.lookup f=some ⟨oc,od,.func (PySem.W.fnOf x qual (ff st) (cy st) (ao st) .none kV doc pm an cdv ct),osl⟩)
  (c:PySem.W.codeIn K cdv qual=true) (k:PySem.W.keepIn K (.ref f)=true):Fun K x qual st f (PySem.W.fnOf x qual (ff st) (cy st) (ao st) .none kV doc pm an cdv ct):=⟨⟨oc,od,kV,doc,pm,an,cdv,ct,osl,rfl,l,c⟩,k⟩
end
theorem dO {n:Nat}(h:n<=1000):n < sizeLine:=Nat.lt_of_le_of_lt h (by decide)
section
variable {X:Cx}
theorem pv (i:Nat){x:Str}{pos:Pos}(hN:X.N[i]?=some x:=by rfl)(hv:Vis X.env.scope x:=by first | exact Or.inl rfl | exact Or.inr (Or.inl rfl) | exact Or.inr (Or.inr rfl))(hd:(x == ("__debug__":Str))=false:=by decide)
  (hcd:(x == ("__classdict__":Str))=false:=by decide):PE X (.Name x pos) (NZ i):=N1 hN hv hd hcd
end
theorem PL {A B:Prop}(h:B):if false=true then A else B:=by
 rw [if_neg Bool.false_ne_true]
 exact h
theorem PM {A B:Prop}(h:A):if true=true then A else B:=by
 rw [if_pos rfl]
 exact h
def av (H H':Hp):Prop:=∀b o,H b=some o->H' b=some o
theorem av.refl (H:Hp):av H H:=fun _ _ h=>h
theorem av.trans {H H1 H2:Hp}(a:av H H1)(b:av H1 H2):av H H2:=fun c o h=>b c o (a c o h)
theorem av.free {H H':Hp}(e:av H H'){l:Addr}(h:H' l=Option.none):H l=Option.none:=by
 cases q:H l with
 | none=>rfl
 | some o=>
  rw [e l o q] at h
  cases h
theorem av.seq {K:PySem.W.Frag}{H H':Hp}{a:Addr}{xs:List V}(e:av H H')(h:SqL K H a xs):SqL K H' a xs:=by
 rcases h with (h | ⟨o,h⟩) | h
 ·exact .inl (.inl (e _ _ h))
 ·exact .inl (.inr ⟨o,e _ _ h⟩)
 ·exact .inr h
end L2
set_option maxHeartbeats 4000000
namespace L2
open PySem PySem.Spec PyProof.Rows
noncomputable def iR (cells:List (Str×Addr)):List (Str×NameKind)->List (Str×Addr)->List (Str×Addr)
 | [],acc=>acc
 | (n,k)::r,acc=>if (k == NameKind.free)=true then (match cells.lookup n with | some c=>iR cells r ((n,c)::acc) | none=>iR cells r acc) else iR cells r acc
theorem ly {scope:Scope}{env:Env}(h:∀y∈scope.names,y.2=.free->∃c,env.cells.lookup y.1=some c):closureFor scope env=pure (iR env.cells scope.names []):=by
 have key:∀(l:List (Str×NameKind)) (acc:List (Str×Addr)),(∀y∈l,y.2=.free->∃c,env.cells.lookup y.1=some c)->
   (forIn l acc fun x s=>if (x.snd == NameKind.free)=true then do
       let c ←cellOf env x.fst
       pure (ForInStep.yield ((x.fst,c)::s))
      else pure (ForInStep.yield s))=(pure (iR env.cells l acc):Sem _):=by
  intro l
  induction l with
  | nil=>intro acc _;rfl
  | cons y r ih=>
   intro acc hy
   obtain ⟨n,k⟩:=y
   have ih':=fun a=>ih a fun z hz=>hy z (List.mem_cons_of_mem _ hz)
   by_cases hk:(k == NameKind.free)=true
   ·obtain ⟨c,hc⟩:=hy (n,k) List.mem_cons_self (by simpa using hk)
    have hc':env.cells.lookup n=some c:=hc
    simp only [List.forIn_cons,hk,if_true,cellOf,hc',pure_bind,iR]
    exact ih' _
   ·simp only [List.forIn_cons,hk,if_false,pure_bind,iR]
    exact ih' _
 simp only [closureFor]
 rw [key _ _ h]
 rfl
theorem sJ {cells:List (Str×Addr)}:∀{l:List (Str×NameKind)} {acc:List (Str×Addr)} {x:Str} {c:Addr},(∀x c,acc.lookup x=some c->cells.lookup x=some c)->(iR cells l acc).lookup x=some c->cells.lookup x=some c
 | [],acc,x,c,h,e=>h x c e
 | (n,k)::r,acc,x,c,h,e=>by
  unfold iR at e
  split at e
  ·split at e
   ·rename_i d hd
    refine sJ (l:=r) (acc:=(n,d)::acc) (fun y b hy=>?_) e
    rw [List.lookup_cons] at hy
    split at hy
    ·rename_i z
     have zn:y=n:=by simpa using z
     cases hy
     rw [zn];exact hd
    ·exact h y b hy
   ·exact sJ h e
  ·exact sJ h e
theorem vw {cells:List (Str×Addr)}{x:Str}:∀{l:List (Str×NameKind)} {acc:List (Str×Addr)},(∃c,acc.lookup x=some c)->∃c,(iR cells l acc).lookup x=some c
 | [],acc,h=>h
 | (n,k)::r,acc,h=>by
  unfold iR
  split
  ·split
   ·rename_i d hd
    refine vw (l:=r) ?_
    rw [List.lookup_cons]
    split
    ·exact ⟨_,rfl⟩
    ·exact h
   ·exact vw h
  ·exact vw h
theorem iS {cells:List (Str×Addr)}{x:Str}:∀{l:List (Str×NameKind)} {acc:List (Str×Addr)},l.lookup x=some .free->(∃c,cells.lookup x=some c)->∃c,(iR cells l acc).lookup x=some c
 | [],acc,h,_=>by simp at h
 | (n,k)::r,acc,h,hc=>by
  rw [List.lookup_cons] at h
  unfold iR
  split at h
  ·rename_i z
   have zn:x=n:=by simpa using z
   cases h
   subst zn
   obtain ⟨c,hc⟩:=hc
   rw [if_pos (by decide),hc]
   refine vw ⟨c,?_⟩
   rw [List.lookup_cons]
   simp
  ·split
   ·split
    ·exact iS h hc
    ·exact iS h hc
   ·exact iS h hc
theorem eI {env:Env}:∀{names:List (Str×NameKind)} {x:Str},names.lookup x=some .free->
  (names.map fun (n,k)=>if (k == NameKind.free && env.scope.kind == .function && env.kindOf n == some .cell) then (n,NameKind.cell) else (n,k)).lookup x=some .cell\/
  (names.map fun (n,k)=>if (k == NameKind.free && env.scope.kind == .function && env.kindOf n == some .cell) then (n,NameKind.cell) else (n,k)).lookup x=some .free
 | [],_,h=>by simp at h
 | (n,k)::r,x,h=>by
  have ih:=@eI env r x
  show List.lookup x ((if (k == NameKind.free && env.scope.kind == .function && env.kindOf n == some .cell)=true then (n,NameKind.cell) else (n,k))::_)=_\/List.lookup x ((if (k == NameKind.free && env.scope.kind == .function && env.kindOf n == some .cell)=true then (n,NameKind.cell) else (n,k))::_)=_
  cases hx:x == n with
  | true=>
   simp only [List.lookup_cons,hx] at h
   cases h
   by_cases hc:(NameKind.free == NameKind.free && env.scope.kind == .function && env.kindOf n == some .cell)=true
   ·rw [if_pos hc];left;simp only [List.lookup_cons,hx]
   ·rw [if_neg hc];right;simp only [List.lookup_cons,hx]
  | false=>
   simp only [List.lookup_cons,hx] at h
   by_cases hc:(k == NameKind.free && env.scope.kind == .function && env.kindOf n == some .cell)=true
   ·rw [if_pos hc];simp only [List.lookup_cons,hx];exact ih h
   ·rw [if_neg hc];simp only [List.lookup_cons,hx];exact ih h
theorem gK {env:Env}:∀{names:List (Str×NameKind)} {x:Str},(∀y∈names,y.2≠NameKind.cell)->
  ((names.map fun (n,k)=>if (k == NameKind.free && env.scope.kind == .function && env.kindOf n == some .cell) then (n,NameKind.cell) else (n,k)).lookup x=some .cell\/
  (names.map fun (n,k)=>if (k == NameKind.free && env.scope.kind == .function && env.kindOf n == some .cell) then (n,NameKind.cell) else (n,k)).lookup x=some .free)->names.lookup x=some .free
 | [],_,_,h=>by simp at h
 | (n,k)::r,x,hn,h=>by
  have ih:=@gK env r x fun y hy=>hn y (List.mem_cons_of_mem _ hy)
  have h':List.lookup x ((if (k == NameKind.free && env.scope.kind == .function && env.kindOf n == some .cell)=true then (n,NameKind.cell) else (n,k))::(r.map fun (n,k)=>if (k == NameKind.free && env.scope.kind == .function && env.kindOf n == some .cell) then (n,NameKind.cell) else (n,k)))=some .cell\/List.lookup x ((if (k == NameKind.free && env.scope.kind == .function && env.kindOf n == some .cell)=true then (n,NameKind.cell) else (n,k))::(r.map fun (n,k)=>if (k == NameKind.free && env.scope.kind == .function && env.kindOf n == some .cell) then (n,NameKind.cell) else (n,k)))=some .free:=h
  cases hx:x == n with
  | true=>
   simp only [List.lookup_cons,hx]
   by_cases hc:(k == NameKind.free && env.scope.kind == .function && env.kindOf n == some .cell)=true
   ·have hk:k=NameKind.free:=by
     rw [Bool.and_eq_true,Bool.and_eq_true] at hc
     simpa using hc.1.1
    rw [hk]
   ·rw [if_neg hc] at h'
    simp only [List.lookup_cons,hx] at h'
    rcases h' with h' | h'
    ·exact absurd (Option.some.inj h') (hn (n,k) List.mem_cons_self)
    ·exact h'
  | false=>
   simp only [List.lookup_cons,hx]
   by_cases hc:(k == NameKind.free && env.scope.kind == .function && env.kindOf n == some .cell)=true
   ·rw [if_pos hc] at h';simp only [List.lookup_cons,hx] at h';exact ih h'
   ·rw [if_neg hc] at h';simp only [List.lookup_cons,hx] at h';exact ih h'
noncomputable def blk (X:Cx)(Nc:List Str)(scope:Scope)(C:Addr)(s₀:Shared)(H₀:Hp)(ex:List Addr):Cx:=
 {X with N:=Nc,s₀:=s₀,H₀:=H₀,env:=compEnvC scope (iR X.env.cells scope.names []) C X.env,outer:=X.stack,ex:=ex,fn:=fun _=>false,pn:=[],xe:=fun _ _=>False}
noncomputable def cK (cm:List (Option Nat))(σ:St):St:=cm.map fun o=>match o with
 | none=>none
 | some i=>(σ[i]?).getD none
def Wk (σ σ':St):Prop:=σ.length=σ'.length/\∀(i:Nat) (v:V),σ[i]?=some (some v)->σ'[i]?=some (some v)
noncomputable def zk (wi:TI)(g:TG)(tc:TT)(te:TE)(cm:List (Option Nat)):TE:=fun σ H Q=>wi σ H fun J H1=>∃W:Nat->Nat->List V->Hp->Prop,(∃m,W 0 m [] H1)/\∀i m acc H,W i m acc H->
 (J.stop i H/\∀p,H p=none->Q (.ref p) (upd H p (.lst acc)))\/
 (J.go i H/\acc.length < sizeLine/\∀x H',J.yld i H x H'->g x (cK cm σ) H' fun σ2 H2=>Wk (cK cm σ) σ2/\tc σ2 H2 fun b H3=>if b=true then te σ2 H3 fun v H4=>∃m',m' < m/\W (i+1) m' (acc++[v]) H4 else ∃m',m' < m/\W (i+1) m' acc H3)
def PIf (X:Cx)(ifs:List Expr)(t:TT):Prop:=
 ∀(pins:List (Addr×Obj)) (s:Shared) (σ:St) (H:Hp) (Q:Bool->Hp->Prop),Inv X pins σ H s->t σ H Q->
  wpAny (model X.prog X.w) X.A (forIn ifs true fun c r=>if r=true then do let ok ←isTrue c X.env (eval c X.env);pure (ForInStep.yield ok) else pure (ForInStep.yield r)) (TP X pins σ Q) X.xe s
noncomputable def yK:TT:=fun _ H Q=>Q true H
theorem jS {X:Cx}:PIf X [] yK:=fun _ _ σ H _ I h=>wpAny_pure ⟨H,I,h⟩
theorem oI {X:Cx}{c:Expr}{t:TT}(h:PT X c t):PIf X [c] t:=fun pins s σ H Q I q=>wpAny_tests_one (h pins s σ H Q I q)
theorem Inv.track {X:Cx}{pins:List (Addr×Obj)}{σ:St}{H:Hp}{s:Shared}{D:Addr}{o:HO}(I:Inv X pins σ H s)(hn:H D=none)(h0:X.s₀.heap.objs.size<=D)(hL:D≠X.env.locals)
  (hcl:∀x c,X.env.cells.lookup x=some c->c≠D) (hp:∀p∈X.pn++pins,p.1≠D) (new:iP X.prog X.w (upd H D o) s.heap D o):Inv X pins σ (upd H D o) s:=by
 have hb:∀b u,X.s₀.heap.get? b=some u->b≠D:=fun b u e=>Nat.ne_of_lt (Nat.lt_of_lt_of_le (Heap.lt_size e) h0)
 refine ⟨I.ok,I.os,I.bare,⟨I.base.keep,I.base.slot,fun b u e n hx=>?_,I.base.there,fun b xs e=>?_,fun b u xs e=>?_,fun b ps e=>?_⟩,I.loc,I.cell,?_,fun x c e=>?_,fun p hpp=>?_,fun b u e=>?_,I.len⟩
 ·rw [aS (hb b u e)];exact I.base.free b u e n hx
 ·have q:=I.base.tups b xs e;rw [aS (aq q hn)];exact q
 ·have q:=I.base.frzs b u xs e;rw [aS (aq q hn)];exact q
 ·obtain ⟨more,q⟩:=I.base.tbls b ps e;exact ⟨more,by rw [aS (aq q hn)];exact q⟩
 ·rw [aS (Ne.symm hL)];exact I.free
 ·rw [aS (hcl x c e)];exact I.freeC x c e
 ·obtain ⟨a,b,c⟩:=I.pin p hpp
  exact ⟨a,by rw [aS (hp p hpp)];exact b,c⟩
 ·by_cases hb:b=D
  ·subst hb;rw [ah] at e;cases e;exact new
  ·rw [aS hb] at e
   exact (I.hok b u e).stay (fun c v _ q=>q) (fun c q=>by rw [aS (aq q hn)];exact q) fun c xs q=>by rw [aS (aq q hn)];exact q
section
variable {X:Cx}
theorem LP {tg iter elt:Expr}{ifs:List Expr}{scope:Scope}{pos:Pos}{Nc:List Str}{cm:List (Option Nat)}{wi:TI}{g:TG}{tc:TT}{te:TE}
  (hc:X.calm=true) (hi:PI X tg iter wi) (hkind:scope.kind=.function) (hcell:∀y∈scope.names,y.2≠.cell) (hnames:∀y∈scope.names,y.2=.local->scope.names.lookup y.1=some .local)
  (hfree:∀y∈scope.names,y.2=.free->X.env.kindOf y.1=some .cell\/X.env.kindOf y.1=some .free) (hlen:cm.length=Nc.length)
  (hcm:∀(j:Nat) (x:Str) (i:Nat),Nc[j]?=some x->cm[j]?=some (some i)->X.N[i]?=some x/\scope.names.lookup x=some .free/\(X.env.kindOf x=some .cell\/X.env.kindOf x=some .free))
  (hg:∀C s₀ H₀ ex,PG (blk X Nc scope C s₀ H₀ ex) tg g) (ht:∀C s₀ H₀ ex,PIf (blk X Nc scope C s₀ H₀ ex) ifs tc) (he:∀C s₀ H₀ ex,PE (blk X Nc scope C s₀ H₀ ex) elt te)
  (hs:∀x,foldedSetIterable iter X.env x=pure x:=by intro _;rfl):PE X (.ListComp elt [⟨tg,iter,ifs,0⟩] scope pos) (zk wi g tc te cm):=by
 intro pins s σ H Q I h
 rw [eval_ListComp]
 have hfr:∀y∈scope.names,y.2=.free->∃c,X.env.cells.lookup y.1=some c:=fun y hy e=>I.ok.has y.1 (hfree y hy e)
 refine wpAny_comprehension_free (use:=none) rfl hs (ly hfr) hkind hnames (thn (hi pins s σ H _ I h) fun v s1 h1=>thn h1 fun itv s2 h2=>?_)
 obtain ⟨it,fp,tn,J,H2,e,I2,T,st2,f2,W,⟨m0,w0⟩,turn⟩:=h2
 subst e
 refine wpAny_newObj_type (wpAny_newFunctionEnv hcell (by intro y hy;simp at hy) (fun h₁ hns₁ hsb₁=>?_) hkind)
 dsimp only at hns₁ hsb₁ ⊢
 have hk3:∀b u,s2.heap.get? b=some u->(s2.heap.push {cls:=.type "list",dict:=none,data:=.seq ([]:List Value).toArray}).get? b=some u:=fun b u q=>Heap.get?_push_of_some _ q
 have I3:Inv X pins σ H2 {s2 with heap:=s2.heap.push {cls:=.type "list",dict:=none,data:=.seq ([]:List Value).toArray},toks:=s2.toks}:=I2.kept hk3
 have hD3:(s2.heap.push {cls:=.type "list",dict:=none,data:=.seq ([]:List Value).toArray}).get? s2.heap.objs.size=some {cls:=.type "list",data:=.seq ([]:List Value).toArray}:=Heap.get?_push_size _ rfl
 have hCs:(s2.heap.push {cls:=.type "list",dict:=none,data:=.seq ([]:List Value).toArray}).objs.size=s2.heap.objs.size+1:=Heap.size_push _ _
 have hDn:H2 s2.heap.objs.size=none:=I2.hok.fresh (Nat.le_refl _)
 have st3:tn 0 (s2.heap.push {cls:=.type "list",dict:=none,data:=.seq ([]:List Value).toArray}):=T.keep _ _ _ st2 fun b _ o q=>hk3 b o q
 have fpD:∀b∈fp,b < s2.heap.objs.size:=fun b hb=>by
  obtain ⟨o,e,_⟩:=T.obj _ _ st2 b hb
  exact Heap.lt_size e
 have DX:qg X pins H2 s2.heap.objs.size:=I2.fpOk (Nat.le_refl _) hDn
 generalize hs3:s2.heap.push {cls:=.type "list",dict:=none,data:=.seq ([]:List Value).toArray}=h3 at *
 generalize hDg:s2.heap.objs.size=D at *
 have exX:∀b∈D::fp,qg X pins H2 b:=fun b hb=>by
  rcases List.mem_cons.mp hb with z | z
  ·rw [z];exact DX
  ·exact f2 b z
 have exC:∀b∈D::fp,b < h3.objs.size:=fun b hb=>by
  rcases List.mem_cons.mp hb with z | z
  ·rw [z,hCs];exact Nat.lt_succ_self _
  ·rw [hCs];exact Nat.lt_succ_of_lt (fpD b z)
 have exS:∀b∈D::fp,b∉frs X.stack:=fun b hb z=>by
  obtain ⟨_,n1,n2,_⟩:=exX b hb
  rcases List.mem_cons.mp (I2.stkSub b z) with y | y
  ·exact n1 y
  ·exact n2 y
 have clo:∀x c,(iR X.env.cells scope.names []).lookup x=some c->X.env.cells.lookup x=some c:=fun x c e=>sJ (acc:=[]) (fun _ _ z=>by simp at z) e
 have keep1:∀b u,h3.get? b=some u->h₁.get? b=some u:=fun b u q=>
  (hsb₁.2 b (Nat.ne_of_lt (Heap.lt_size q))).trans (Heap.get?_push_of_some _ q)
 let s3:Shared:={s2 with heap:=h3}
 let X':Cx:=blk X Nc scope h3.objs.size s3 H2 (D::fp)
 have hX':X'=blk X Nc scope h3.objs.size s3 H2 (D::fp):=rfl
 have okX:X'.Ok:=by
  refine ⟨I3.ok.mod,hkind,I3.ok.glob,I3.ok.blt,Nat.le_refl _,fun x y c e1 e2=>I3.ok.inj x y c (clo x c e1) (clo y c e2),fun x hx=>?_,fun x c e=>(Bool.false_ne_true e).elim,I3.ok.hd,I3.ok.frames,.inl rfl,fun b hb=>⟨Nat.ne_of_lt (exC b hb),fun x c e=>(exX b hb).2.2.2.2.1 x c (clo x c e)⟩,
   I3.bs,?_,fun b o e hb=>?_,exS,I3.stack,I3.stkFree⟩
  ·have hx':scope.names.lookup x=some .free:=gK (env:=X.env) hcell hx
   have hmem:(x,NameKind.free)∈scope.names:=by
    have:∀(l:List (Str×NameKind)),l.lookup x=some .free->(x,NameKind.free)∈l:=by
     intro l
     induction l with
     | nil=>intro z;simp at z
     | cons a r ih=>
      obtain ⟨n,k⟩:=a
      intro z
      rw [List.lookup_cons] at z
      split at z
      ·rename_i y
       have yn:x=n:=by simpa using y
       cases z
       rw [yn];exact List.mem_cons_self
      ·exact List.mem_cons_of_mem _ (ih z)
    exact this _ hx'
   exact iS hx' (hfr (x,.free) hmem rfl)
  ·exact Nat.le_trans I3.ok.bsz I3.sz
  ·rcases (exX b hb).2.2.2.1 with z | z
   ·exact I3.ok.noex b o e z
   ·exact absurd (Nat.lt_of_lt_of_le (Heap.lt_size (I3.ok.bs b o e).1) z) (Nat.lt_irrefl _)
 have hσl:(cK cm σ).length=Nc.length:=by
  unfold cK
  rw [List.length_map];exact hlen
 have I4:Inv X' [] (cK cm σ) H2 {s2 with heap:=h₁,toks:=s2.toks+([]:List (Str×Value)).length}:=by
  refine ⟨okX,rfl,I3.bare,Un.kept keep1,⟨_,hns₁,fun j x v e1 e2 e3=>?_⟩,fun x c e=>?_,?_,fun x c e=>I3.freeC x c (clo x c e),(fun p hp=>absurd (show p∈([]:List (Addr×Obj)) from hp) (by simp)),I3.hok.kept keep1,hσl⟩
  ·have e2':∃i,cm[j]?=some (some i)/\σ[i]?=some (some v):=by
    unfold cK at e2
    rw [List.getElem?_map] at e2
    cases q:cm[j]? with
    | none=>rw [q] at e2;simp at e2
    | some o=>
     rw [q] at e2
     cases o with
     | none=>simp at e2
     | some i=>
      refine ⟨i,rfl,?_⟩
      simp only [Option.map_some,Option.some.injEq] at e2
      cases q2:σ[i]? with
      | none=>rw [q2] at e2;simp at e2
      | some o2=>rw [q2] at e2;simp at e2;rw [e2]
   obtain ⟨i,ej,ei⟩:=e2'
   obtain ⟨n1,n2,n3⟩:=hcm j x i e1 ej
   obtain ⟨m,hn,hl⟩:=I3.loc
   have n3':Vis X.env.scope x:=by
    rcases n3 with z | z
    ·exact .inr (.inl z)
    ·exact .inr (.inr z)
   obtain ⟨u,r,l⟩:=hl i x v n1 ei n3'
   refine ⟨u,r,?_⟩
   rcases l with ⟨l,_⟩ | ⟨_,c,ec,ic⟩
   ·rcases n3 with z | z
    ·rw [l] at z;cases z
    ·rw [l] at z;cases z
   ·obtain ⟨c',ec'⟩:=iS (cells:=X.env.cells) (acc:=[]) n2 ⟨c,ec⟩
    have hcc:=clo x c' ec'
    rw [ec] at hcc;cases hcc
    obtain ⟨oc,hoc,hdc⟩:=ic
    refine .inr ⟨?_,c,ec',oc,keep1 _ _ hoc,hdc⟩
    exact eI (env:=X.env) n2
  ·obtain ⟨v,oc,hoc,hdc⟩:=I3.cell x c (clo x c e)
   exact ⟨v,oc,keep1 _ _ hoc,hdc⟩
  ·exact I3.hok.fresh (Nat.le_refl _)
 have stat:∀{H':Hp} {pl:List (Addr×Obj)},(∀b∈fp,H' b=none)->(∀p∈pl,p.1=D)->∀b∈fp,qg X' pl H' b:=fun {H' pl} hn hpl b hb=>
  ⟨hn b hb,Nat.ne_of_lt (exC b (List.mem_cons_of_mem _ hb)),exS b (List.mem_cons_of_mem _ hb),.inl (List.mem_cons_of_mem _ hb),fun x c e=>(f2 b hb).2.2.2.2.1 x c (clo x c e),fun p hp z=>by
   have:p∈pl:=(List.mem_append.mp hp).elim (fun z=>absurd (show p∈([]:List (Addr×Obj)) from z) (by simp)) fun z=>z
   have e:=hpl p this
   rw [e] at z
   exact absurd (fpD b hb) (by rw [←z];exact Nat.lt_irrefl _)⟩
 have hDC:D≠h3.objs.size:=by rw [hCs];exact Nat.ne_of_lt (Nat.lt_succ_self _)
 have hDs:D∉frs X.stack:=exS D List.mem_cons_self
 have loop:∀s5:Shared,s5={s2 with heap:=h₁,toks:=s2.toks+([]:List (Str×Value)).length}->
   codeAny (model X.prog X.w) X.A (.compLoop (.ListComp elt [⟨tg,iter,ifs,0⟩] scope pos) 0 (.ref it) (.ref D) (compEnvC scope (iR X.env.cells scope.names []) h3.objs.size X.env))
    (compPost (model X.prog X.w) X.A X.xe none (EP X pins σ Q) (.ref D) h3.objs.size) s5:=by
  rintro s5 rfl
  refine codeAny_loop rfl (fun n s'=>∃i acc its k H',Inv X' [] (cK cm σ) H' s'/\tn i s'.heap/\(∀b∈fp,H' b=none)/\s'.heap.get? D=some {cls:=.type "list",data:=.seq (List.toArray its) k}/\H' D=none/\bJ acc its/\acc.length<=sizeLine/\W i n acc H') (fun n s' hI=>?_) m0
   ⟨0,[],[],0,H2,I4,T.keep _ _ _ st3 fun b _ o q=>keep1 b o q,fun b hb=>(f2 b hb).1,keep1 _ _ hD3,hDn,.nil,Nat.zero_le _,w0⟩
  obtain ⟨i,acc,its,k,H5,J5,t5,fr5,d5,dn5,va5,ac5,w5⟩:=hI
  show wpAny _ X.A ((compTurn (.ListComp elt [⟨tg,iter,ifs,0⟩] scope pos) 0 (.ref it) (.ref D) (compEnvC scope (iR X.env.cells scope.names []) h3.objs.size X.env)).onRaise (fun x=>do noteFrame x (compEnvC scope (iR X.env.cells scope.names []) h3.objs.size X.env);theTreesLotGoes x)) _ _ s'
  refine wpAny_noted ?_
  rw [compTurn_list]
  have nocell:∀v,({cls:=.type "list",data:=.seq (List.toArray its) k}:Obj).data≠.cell v:=fun v z=>nomatch z
  have P5:Inv X' [(D,{cls:=.type "list",data:=.seq (List.toArray its) k})] (cK cm σ) H5 s':=J5.pins_of fun p hp=>by
   have e:p=(D,{cls:=.type "list",data:=.seq (List.toArray its) k}):=by simpa using hp
   subst e
   exact ⟨d5,dn5,hDC,hDs,nocell⟩
  have pl1:∀p∈[((D,{cls:=.type "list",data:=.seq (List.toArray its) k}):Addr×Obj)],p.1=D:=fun p hp=>by
   have e:p=(D,{cls:=.type "list",data:=.seq (List.toArray its) k}):=by simpa using hp
   rw [e]
  rcases turn i n acc H5 w5 with ⟨stop,qn⟩ | ⟨go,hsz,step⟩
  ·refine wpAny_bind (wpAny_standAt (wpAny_bind (wpAny_mono (T.done X' rfl rfl rfl hc i _ s' _ H5 (fun _ _=>False) P5 (stat fr5 pl1) t5 stop) (fun r s6 ⟨hr,J6⟩=>?_) fun _ _ f=>f.elim)))
   subst hr
   refine wpAny_pure ?_
   obtain ⟨mC,hnC,_⟩:=J6.loc
   refine ⟨mC,hnC,fun h' hsb=>?_⟩
   have hCn:H5 h3.objs.size=none:=J6.free
   have toh:∀b u,b≠h3.objs.size->s6.heap.get? b=some u->h'.get? b=some u:=fun b u hb q=>(hsb.2 b hb).trans q
   have hok':HOk X.prog X.w H5 h':=fun a o e=>(J6.hok a o e).stay (fun b u hb q=>toh b u (by
    rintro rfl
    rcases hb with z | z
    ·rw [←z,hCn] at e;cases e
    ·rw [hCn] at z;cases z) q) (fun _ q=>q) fun _ _ q=>q
   have ltC:∀{b:Addr} {u:Obj},h3.get? b=some u->b≠h3.objs.size:=fun q=>Nat.ne_of_lt (Heap.lt_size q)
   have un':Un (frs X.stack) (D::fp) H2 H5 h3 h':=by
    have u:=J6.base
    refine ⟨fun b o e n hb hx=>toh b o (ltC e) (u.keep b o e n hb hx),fun b o e n hb hx=>?_,u.free,fun b o e hx=>?_,u.tups,u.frzs,u.tbls⟩
    ·obtain ⟨sl,q⟩:=u.slot b o e n hb hx
     exact ⟨sl,toh b _ (ltC e) q⟩
    ·obtain ⟨o',q⟩:=u.there b o e hx
     exact ⟨o',toh b _ (ltC e) q⟩
   have J7:Inv X pins σ H5 {s6 with heap:=h'}:=Inv.call' (s':={s6 with heap:=h'}) (ch:=D::fp) I3 J6.os un' hok' J6.bare fun b hb=>by
    obtain ⟨_,n1,n2,n3,n4,n5⟩:=exX b hb
    exact ⟨n3,n1,n4,n5⟩
   obtain ⟨dg,dg2,_⟩:=J6.pin (D,{cls:=.type "list",data:=.seq (List.toArray its) k}) (by simp)
   obtain ⟨_,n1,n2,n3,n4,n5⟩:=exX D List.mem_cons_self
   have n3':X.s₀.heap.objs.size<=D:=by
    have:=I2.sz
    rw [hDg] at this
    exact this
   refine ⟨.ref D,_,J7.track (o:=.lst acc) dg2 n3' n1 n4 n5 ⟨ac5,its,k,va5,toh _ _ hDC dg⟩,rfl,qn D dg2⟩
  ·refine wpAny_bind (wpAny_standAt (wpAny_bind (wpAny_mono (T.item X' rfl rfl rfl hc i _ s' _ H5 (fun _ _=>False) P5 (stat fr5 pl1) t5 go) (fun r s6 ⟨u,hr,h6⟩=>?_) fun _ _ f=>f.elim)))
   subst hr
   refine wpAny_bind (wpAny_mono h6 (fun _ s7 ⟨x,H7,J7,r7,y7,t7,fr7⟩=>?_) fun _ _ f=>f.elim)
   have P7:=J7.pinned (stat fr7 pl1) (T.obj _ _ t7)
   refine wpAny_bind (wpAny_mono (hg _ _ _ _ _ s7 _ H7 x u _ P7 r7 (step x H7 y7)) (fun _ s8 ⟨σ8,H8,J8,wk8,q8⟩=>?_) fun _ _ f=>f.elim)
   refine wpAny_bind (wpAny_mono (ht _ _ _ _ _ s8 σ8 H8 _ J8 q8) (fun b s9 ⟨H9,J9,q9⟩=>?_) fun _ _ f=>f.elim)
   have back:∀{Ha:Hp} {sa:Shared},Inv X' ([(D,{cls:=.type "list",data:=.seq (List.toArray its) k})]++uW fp s7.heap) σ8 Ha sa->
     Inv X' [] (cK cm σ) Ha sa/\tn (i+1) sa.heap/\(∀b∈fp,Ha b=none)/\sa.heap.get? D=some {cls:=.type "list",data:=.seq (List.toArray its) k}/\Ha D=none:=fun {Ha sa} Ja=>by
    refine ⟨(Ja.weak wk8.1 wk8.2).pins_of fun p hp=>absurd hp (by simp),T.keep _ _ _ t7 fun b hb o e=>(Ja.pin (b,o) (List.mem_append_right _ (List.mem_append_right _ (fP hb e)))).1,fun b hb=>?_,?_⟩
    ·obtain ⟨o,e,d⟩:=T.obj _ _ t7 b hb
     exact (Ja.pin (b,o) (List.mem_append_right _ (List.mem_append_right _ (fP hb e)))).2.1
    ·obtain ⟨z1,z2,_⟩:=Ja.pin (D,{cls:=.type "list",data:=.seq (List.toArray its) k}) (by simp)
     exact ⟨z1,z2⟩
   cases b with
   | false=>
    simp only [Bool.false_eq_true,if_false] at q9 ⊢
    obtain ⟨m',hm,w'⟩:=q9
    obtain ⟨z0,z1,z2,z3,z4⟩:=back J9
    exact wpAny_pure ⟨rfl,m',hm,i+1,acc,its,k,H9,z0,z1,z2,z3,z4,va5,ac5,w'⟩
   | true=>
    simp only [if_true] at q9 ⊢
    refine wpAny_bind (wpAny_bind (wpAny_mono (he _ _ _ _ _ s9 σ8 H9 _ J9 q9) (fun y s10 ⟨v,H10,J10,rv,q10⟩=>wpAny_bind ?_) fun _ _ f=>f.elim))
    obtain ⟨m',hm,w'⟩:=q10
    obtain ⟨z0,z1,z2,z3,z4⟩:=back J10
    have hli:=va5.length
    refine call_meets F.slot_list_append ⟨_,z3,rfl⟩ F.entry_list_append (F.args_list_append_2 _ _) (PySem.list_append D its.toArray k y (by rw [List.size_toArray];omega)) ⟨z3,?_⟩
    obtain ⟨k',q⟩:∃k',(s10.heap.update D (Obj.mapSeq (·.push y))).get? D=some {cls:=.type "list",data:=.seq (List.toArray (its++[y])) k'}:=by
     have q:=PySem.IsL.update z3 (·.push y)
     have e:its.toArray.push y=(its++[y]).toArray:=by simp
     rw [e] at q
     exact ⟨_,q⟩
    refine wpAny_pure (wpAny_pure ⟨rfl,m',hm,i+1,acc++[v],its++[y],k',H10,z0.turned (it:=D) (fun b o hb hu=>(Heap.get?_update_other s10.heap (Obj.mapSeq (·.push y)) (Ne.symm hb)).trans hu) z4 hDC (.inl List.mem_cons_self) (fun x c e=>(exX D List.mem_cons_self).2.2.2.2.1 x c (clo x c e)) (fun p hp=>absurd (show p∈([]:List (Addr×Obj)) from hp) (by simp)),
     T.keep _ _ _ z1 fun b hb o e=>(Heap.get?_update_other s10.heap (Obj.mapSeq (·.push y)) (Nat.ne_of_gt (fpD b hb))).trans e,z2,q,z4,va5.append (.cons rv .nil),by rw [List.length_append,List.length_singleton];omega,w'⟩)
 exact codeAny_compStart_list (loop _ rfl) (T.self X.A 0 _ _ _ (T.keep _ _ _ st3 fun b _ o q=>keep1 b o q) (loop _ rfl))
end
theorem Od {lo:Int}{n:Nat}{g:TG}{tc:TT}{te:TE}{cm:List (Option Nat)}{σ:St}{H:Hp}{Q:VK}(Pv:Nat->List V->Hp->Prop)(h0:Pv 0 [] H)
  (hs:∀i acc H,i < n->Pv i acc H->acc.length < sizeLine/\g (.int (lo+i)) (cK cm σ) H fun σ2 H2=>Wk (cK cm σ) σ2/\tc σ2 H2 fun b H3=>if b=true then te σ2 H3 fun v H4=>Pv (i+1) (acc++[v]) H4 else Pv (i+1) acc H3)
  (mono:∀x σ H N N',(∀σ2 H2,N σ2 H2->N' σ2 H2)->g x σ H N->g x σ H N':=by exact fun _ _ _ _ _ h q=>h _ _ q)
  (monoc:∀σ H N N',(∀b H2,N b H2->N' b H2)->tc σ H N->tc σ H N') (monoe:∀σ H N N',(∀v H2,N v H2->N' v H2)->te σ H N->te σ H N')
  (hd:∀acc H,Pv n acc H->∀p,H p=none->Q (.ref p) (upd H p (.lst acc))) :
  ∃W:Nat->Nat->List V->Hp->Prop,(∃m,W 0 m [] H)/\∀i m acc H,W i m acc H->
   ((Itr lo n).stop i H/\∀p,H p=none->Q (.ref p) (upd H p (.lst acc)))\/
   ((Itr lo n).go i H/\acc.length < sizeLine/\∀x H',(Itr lo n).yld i H x H'->g x (cK cm σ) H' fun σ2 H2=>Wk (cK cm σ) σ2/\tc σ2 H2 fun b H3=>if b=true then te σ2 H3 fun v H4=>∃m',m' < m/\W (i+1) m' (acc++[v]) H4 else ∃m',m' < m/\W (i+1) m' acc H3):=by
 refine ⟨fun i m acc H=>m=n - i/\i<=n/\Pv i acc H,⟨n,by simp,Nat.zero_le _,h0⟩,?_⟩
 rintro i m acc H ⟨rfl,hi,p⟩
 by_cases hlt:i < n
 ·obtain ⟨hz,q⟩:=hs i acc H hlt p
  refine .inr ⟨hlt,hz,fun x H' y=>?_⟩
  obtain ⟨e,y⟩:=y
  subst e y
  refine mono _ _ _ _ _ (fun σ2 H2 ⟨wk,q⟩=>⟨wk,monoc _ _ _ _ (fun b H3 q=>?_) q⟩) q
  cases b with
  | true=>exact monoe _ _ _ _ (fun v H4 q=>⟨n - (i+1),by omega,rfl,hlt,q⟩) q
  | false=>exact ⟨n - (i+1),by omega,rfl,hlt,q⟩
 ·have e:i=n:=by omega
  subst e
  exact .inl ⟨Nat.le_refl _,hd acc H p⟩
theorem zl {lo:Int}{n:Nat}{te:TE}{cm:List (Option Nat)}{σ:St}{H:Hp}{Q:VK}(f:Nat->V)(hn:n<=sizeLine){j:Nat}(hj:(cK cm σ)[j]?=some none)
  (hs:∀i,i < n->∀N:VK,N (f i) H->te ((cK cm σ).set j (some (.int (lo+i)))) H N)
  (hd:∀p,H p=none->Q (.ref p) (upd H p (.lst ((List.range n).map f)))) :
  ∃W:Nat->Nat->List V->Hp->Prop,(∃m,W 0 m [] H)/\∀i m acc H,W i m acc H->
   ((Itr lo n).stop i H/\∀p,H p=none->Q (.ref p) (upd H p (.lst acc)))\/
   ((Itr lo n).go i H/\acc.length < sizeLine/\∀x H',(Itr lo n).yld i H x H'->gN j x (cK cm σ) H' fun σ2 H2=>Wk (cK cm σ) σ2/\yK σ2 H2 fun b H3=>if b=true then te σ2 H3 fun v H4=>∃m',m' < m/\W (i+1) m' (acc++[v]) H4 else ∃m',m' < m/\W (i+1) m' acc H3):=by
 refine ⟨fun i m acc H'=>m=n - i/\i<=n/\H'=H/\acc=(List.range i).map f,⟨n,by simp,Nat.zero_le _,rfl,rfl⟩,?_⟩
 rintro i m acc H' ⟨rfl,hi,rfl,rfl⟩
 by_cases hlt:i < n
 ·refine .inr ⟨hlt,by rw [List.length_map,List.length_range];omega,fun x H' y=>?_⟩
  obtain ⟨e,y⟩:=y
  subst e y
  refine ⟨⟨by simp,fun k v e=>?_⟩,?_⟩
  ·by_cases hk:j=k
   ·subst hk;rw [hj] at e;cases e
   ·rw [List.getElem?_set_ne hk];exact e
  ·unfold yK;dsimp only
   split
   ·refine hs i hlt _ ⟨n - (i+1),by omega,rfl,hlt,rfl,?_⟩
    rw [List.range_succ,List.map_append];rfl
   ·rename_i z;exact absurd rfl z
 ·have e:i=n:=by omega
  subst e
  exact .inl ⟨Nat.le_refl _,hd⟩
theorem AW {K:PySem.W.Frag}{a:Addr}{xs:List V}{tc:TT}{te:TE}{cm:List (Option Nat)}{σ:St}{H:Hp}{Q:VK}(p:V->Bool)(f:V->V)(hl:SqL K H a xs)(hn:xs.length<=sizeLine){j:Nat}(hj:(cK cm σ)[j]?=some none)
  (hc:∀x,x∈xs->∀N:Bool->Hp->Prop,N (p x) H->tc ((cK cm σ).set j (some x)) H N)
  (hs:∀x,x∈xs->p x=true->∀N:VK,N (f x) H->te ((cK cm σ).set j (some x)) H N)
  (hd:∀b,H b=none->Q (.ref b) (upd H b (.lst ((xs.filter p).map f)))) :
  ∃W:Nat->Nat->List V->Hp->Prop,(∃m,W 0 m [] H)/\∀i m acc H,W i m acc H->
   ((Itl K a).stop i H/\∀p,H p=none->Q (.ref p) (upd H p (.lst acc)))\/
   ((Itl K a).go i H/\acc.length < sizeLine/\∀x H',(Itl K a).yld i H x H'->gN j x (cK cm σ) H' fun σ2 H2=>Wk (cK cm σ) σ2/\tc σ2 H2 fun b H3=>if b=true then te σ2 H3 fun v H4=>∃m',m' < m/\W (i+1) m' (acc++[v]) H4 else ∃m',m' < m/\W (i+1) m' acc H3):=by
 refine ⟨fun i m acc H'=>m=xs.length - i/\i<=xs.length/\H'=H/\acc=((xs.take i).filter p).map f,⟨xs.length,by simp,Nat.zero_le _,rfl,by simp⟩,?_⟩
 rintro i m acc H' ⟨rfl,hi,rfl,rfl⟩
 by_cases hlt:i < xs.length
 ·have hx:xs[i]?=some xs[i]:=by simp [hlt]
  have hle:(((xs.take i).filter p).map f).length < sizeLine:=by
   rw [List.length_map]
   have:=List.length_filter_le p (xs.take i)
   rw [List.length_take] at this
   omega
  refine .inr ⟨⟨xs,xs[i],hl,hx⟩,hle,fun x H' y=>?_⟩
  obtain ⟨e,y⟩:=y
  subst e
  have hy:=y xs hl
  rw [hx] at hy;cases hy
  have hmem:xs[i]∈xs:=List.getElem_mem hlt
  refine ⟨⟨by simp,fun k v e=>?_⟩,hc _ hmem _ ?_⟩
  ·by_cases hk:j=k
   ·subst hk;rw [hj] at e;cases e
   ·rw [List.getElem?_set_ne hk];exact e
  ·have hstep:((xs.take (i+1)).filter p).map f=((xs.take i).filter p).map f++(if p xs[i] then [f xs[i]] else []):=by
    rw [take_succ_filter p xs i _ hx,List.map_append]
    cases p xs[i]<;>rfl
   cases hp:p xs[i] with
   | true=>
    refine PM (hs _ hmem hp _ ⟨xs.length - (i+1),by omega,rfl,hlt,rfl,?_⟩)
    rw [hstep,hp];rfl
   | false=>
    refine PL ⟨xs.length - (i+1),by omega,rfl,hlt,rfl,?_⟩
    rw [hstep,hp];simp
 ·have e:i=xs.length:=by omega
  subst e
  refine .inl ⟨⟨xs,hl,Nat.le_refl _⟩,?_⟩
  rw [List.take_length]
  exact hd
theorem vx {lo:Int}{n:Nat}{tc:TT}{te:TE}{cm:List (Option Nat)}{σ:St}{H:Hp}{Q:VK}(p:Nat->Bool)(f:Nat->V)(hn:n<=sizeLine){j:Nat}(hj:(cK cm σ)[j]?=some none)
  (hc:∀i,i < n->∀N:Bool->Hp->Prop,N (p i) H->tc ((cK cm σ).set j (some (.int (lo+i)))) H N)
  (hs:∀i,i < n->p i=true->∀N:VK,N (f i) H->te ((cK cm σ).set j (some (.int (lo+i)))) H N)
  (hd:∀b,H b=none->Q (.ref b) (upd H b (.lst (((List.range n).filter p).map f)))) :
  ∃W:Nat->Nat->List V->Hp->Prop,(∃m,W 0 m [] H)/\∀i m acc H,W i m acc H->
   ((Itr lo n).stop i H/\∀p,H p=none->Q (.ref p) (upd H p (.lst acc)))\/
   ((Itr lo n).go i H/\acc.length < sizeLine/\∀x H',(Itr lo n).yld i H x H'->gN j x (cK cm σ) H' fun σ2 H2=>Wk (cK cm σ) σ2/\tc σ2 H2 fun b H3=>if b=true then te σ2 H3 fun v H4=>∃m',m' < m/\W (i+1) m' (acc++[v]) H4 else ∃m',m' < m/\W (i+1) m' acc H3):=by
 refine ⟨fun i m acc H'=>m=n - i/\i<=n/\H'=H/\acc=((List.range i).filter p).map f,⟨n,by simp,Nat.zero_le _,rfl,by simp⟩,?_⟩
 rintro i m acc H' ⟨rfl,hi,rfl,rfl⟩
 by_cases hlt:i < n
 ·have hle:(((List.range i).filter p).map f).length < sizeLine:=by
   rw [List.length_map]
   have:=List.length_filter_le p (List.range i)
   rw [List.length_range] at this
   omega
  refine .inr ⟨hlt,hle,fun x H' y=>?_⟩
  obtain ⟨e,y⟩:=y
  subst e y
  refine ⟨⟨by simp,fun k v e=>?_⟩,hc _ hlt _ ?_⟩
  ·by_cases hk:j=k
   ·subst hk;rw [hj] at e;cases e
   ·rw [List.getElem?_set_ne hk];exact e
  ·have hstep:((List.range (i+1)).filter p).map f=((List.range i).filter p).map f++(if p i then [f i] else []):=by
    rw [List.range_succ,List.filter_append,List.map_append]
    cases hp:p i<;>simp [hp]
   cases hp:p i with
   | true=>
    refine PM (hs _ hlt hp _ ⟨n - (i+1),by omega,rfl,hlt,rfl,?_⟩)
    rw [hstep,hp];rfl
   | false=>
    refine PL ⟨n - (i+1),by omega,rfl,hlt,rfl,?_⟩
    rw [hstep,hp];simp
 ·have e:i=n:=by omega
  subst e
  exact .inl ⟨Nat.le_refl _,hd⟩
section
variable {X:Cx}
def PN (i j:Int):Prop:=0 < j/\j < 2 ^ 200
theorem JV:OpR X (binaryOp .FloorDiv) (rI PN fun i j=>.int (i / j)):=opI fun i j _ _ _ _ _ hc q=>by
 have hj:j.natAbs.log2 < 9000:=by
  have h1:j.natAbs < 2 ^ 200:=by have:=hc.2;have:=hc.1;omega
  have h0:j.natAbs≠0:=by have:=hc.1;omega
  exact Nat.lt_of_lt_of_le ((Nat.log2_lt h0).mpr h1) (by decide)
 have e:i.fdiv j=i / j:=Int.fdiv_eq_ediv_of_nonneg _ (Int.le_of_lt hc.1)
 exact floordiv_int (by have:=hc.1;omega) (by rw [e];exact q) (.inl (PyProof.noPylong_of_log2 hj))
end
theorem bF:bootBuiltins "len"=some (.builtin "len"):=by decide +kernel
theorem bN:bootBuiltins "isinstance"=some (.builtin "isinstance"):=by decide +kernel
theorem GC:bootBuiltins "min"=some (.builtin "min"):=by decide +kernel
theorem JW:bootBuiltins "abs"=some (.builtin "abs"):=by decide +kernel
theorem IS:bootBuiltins "sorted"=some (.builtin "sorted"):=by decide +kernel
theorem ng:bootBuiltins "int"=some (.type "int"):=by decide +kernel
theorem HW:bootBuiltins "bool"=some (.type "bool"):=by decide +kernel
theorem JX:bootBuiltins "str"=some (.type "str"):=by decide +kernel
theorem dJ:bootBuiltins "list"=some (.type "list"):=by decide +kernel
theorem ql:bootBuiltins "tuple"=some (.type "tuple"):=by decide +kernel
theorem JY:bootBuiltins "range"=some (.type "range"):=by decide +kernel
theorem Of:bootBuiltins "zip"=some (.type "zip"):=by decide +kernel
theorem oJ:bootBuiltins "enumerate"=some (.type "enumerate"):=by decide +kernel
structure Def (K:PySem.W.Frag)(mg:Str->Option Value)(x:Str)(st:Stmt)(ps:List Str)(f:Addr)(fd:FuncData):Prop where
 m:mg x=some (.ref f)
 F:Fun K x x st f fd
 b:iI K fd ps []
noncomputable def GD (X:Cx)(scope:Scope):Bool:=scope.names.all fun y=>y.2 != .free || (X.env.kindOf y.1 == some .cell || X.env.kindOf y.1 == some .free)
noncomputable def Og (X:Cx)(scope:Scope)(Nc:List Str)(cm:List (Option Nat)):Bool:=(Nc.zip cm).all fun p=>match p.2 with
 | none=>true
 | some i=>X.N[i]? == some p.1 && (scope.names.lookup p.1 == some .free && (X.env.kindOf p.1 == some .cell || X.env.kindOf p.1 == some .free))
theorem nF {X:Cx}{tg iter elt:Expr}{ifs:List Expr}{scope:Scope}{pos:Pos}(Nc:List Str)(cm:List (Option Nat)){wi:TI}{g:TG}{tc:TT}{te:TE}
  (hi:PI X tg iter wi) (hg:∀C s₀ H₀ ex,PG (blk X Nc scope C s₀ H₀ ex) tg g) (ht:∀C s₀ H₀ ex,PIf (blk X Nc scope C s₀ H₀ ex) ifs tc) (he:∀C s₀ H₀ ex,PE (blk X Nc scope C s₀ H₀ ex) elt te)
  (hc:X.calm=true:=by rfl) (hkind:scope.kind=.function:=by rfl) (hcell:∀y∈scope.names,y.2≠.cell:=by decide +kernel) (hnames:∀y∈scope.names,y.2=.local->scope.names.lookup y.1=some .local:=by decide +kernel)
  (hfree:GD X scope=true:=by rfl) (hlen:cm.length=Nc.length:=by rfl) (hcm:Og X scope Nc cm=true:=by rfl)
  (hs:∀x,foldedSetIterable iter X.env x=pure x:=by intro _;rfl):PE X (.ListComp elt [⟨tg,iter,ifs,0⟩] scope pos) (zk wi g tc te cm):=by
 refine LP hc hi hkind hcell hnames (fun y hy e=>?_) hlen (fun j x i e1 e2=>?_) hg ht he hs
 ·have h:=List.all_eq_true.mp hfree y hy
  rw [e] at h
  simpa using h
 ·have hj:(Nc.zip cm)[j]?=some (x,some i):=by
   rw [List.getElem?_zip_eq_some];exact ⟨e1,e2⟩
  have h:=List.all_eq_true.mp hcm _ (List.mem_of_getElem? hj)
  simpa using h
theorem Oh {CX:CXT}{P:Program}{w:World}{K:PySem.W.Frag}{mg:Str->Option Value}{base:Heap}{N:List Str}{qual:Str}{scope:Scope}{f:Addr}{cd:Value}{A:Around}{outer:List Env}{s:Shared}{H:Hp}{E:XK} :
  (vo CX P w K mg base N qual scope f cd A outer s H E).K=K:=rfl
theorem dS {ns:List Int}{k:Int}(h0:0<=k)(h1:k < ns.length):atI (ns.map V.int) k=some (.int (ns.getD k.toNat 0)):=by
 have hl:k.toNat < ns.length:=by omega
 have q:(ns.map V.int)[k.toNat]?=some (.int (ns.getD k.toNat 0)):=by
  rw [List.getElem?_map,List.getD_eq_getElem?_getD,List.getElem?_eq_getElem hl]
  rfl
 have q2:=HQ q
 rw [show ((k.toNat:Nat):Int)=k by omega] at q2
 exact q2
theorem j0 {ns:List Int}{k:Nat}(h1:k < ns.length):atI (ns.map V.int) (k:Int)=some (.int (ns.getD k 0)):=by
 have:=dS (ns:=ns) (k:=(k:Int)) (by omega) (by omega)
 simpa using this
theorem JZ {ns:List Int}{k:Nat}(h:ns.length<=k):ns.getD k 0=0:=by
 rw [List.getD_eq_getElem?_getD,List.getElem?_eq_none_iff.mpr h];rfl
structure cM (ds:List Int):Prop where
 l2:2<=ds.length
 l6:ds.length<=6
 lo:∀d∈ds,0<=d
 hi:∀d∈ds,d<=500
 up:ds.Pairwise (· < ·)
theorem cM.get {ds:List Int}(h:cM ds){i:Nat}(hi:i < ds.length):0<=ds.getD i 0/\ds.getD i 0<=500:=by
 rw [List.getD_eq_getElem?_getD,List.getElem?_eq_getElem hi,Option.getD_some]
 exact ⟨h.lo _ (List.getElem_mem hi),h.hi _ (List.getElem_mem hi)⟩
theorem cM.lt {ds:List Int}(h:cM ds){i j:Nat}(hij:i < j)(hj:j < ds.length):ds.getD i 0 < ds.getD j 0:=by
 have hi:i < ds.length:=Nat.lt_trans hij hj
 rw [List.getD_eq_getElem?_getD,List.getElem?_eq_getElem hi,List.getD_eq_getElem?_getD,List.getElem?_eq_getElem hj,Option.getD_some,Option.getD_some]
 exact List.pairwise_iff_getElem.mp h.up i j hi hj hij
noncomputable def cQ (ds:List Int):Int:=ds.getD (ds.length - 1) 0
theorem cM.le_whole {ds:List Int}(h:cM ds){d:Int}(hd:d∈ds):d<=cQ ds:=by
 obtain ⟨i,hi,rfl⟩:=List.getElem_of_mem hd
 have e:ds[i]=ds.getD i 0:=by rw [List.getD_eq_getElem?_getD,List.getElem?_eq_getElem hi];rfl
 rw [e]
 unfold cQ
 by_cases hl:i=ds.length - 1
 ·rw [hl];exact Int.le_refl _
 ·exact Int.le_of_lt (h.lt (by omega) (by have:=h.l2;omega))
theorem cM.whole_mem {ds:List Int}(h:cM ds):cQ ds∈ds:=by
 have hl:=h.l2
 unfold cQ
 rw [List.getD_eq_getElem?_getD,List.getElem?_eq_getElem (by omega:ds.length - 1 < ds.length),Option.getD_some]
 exact List.getElem_mem _
theorem cM.even {n:Nat}{g:Int}(h2:2<=n)(h6:n<=6)(g1:1<=g)(g2:g<=100):cM ((List.range n).map fun (i:Nat)=>g * (i:Int)):=by
 refine ⟨by simpa using h2,by simpa using h6,fun d hd=>?_,fun d hd=>?_,?_⟩
 ·obtain ⟨i,hi,rfl⟩:=List.mem_map.mp hd
  exact Int.mul_nonneg (by omega) (by omega)
 ·obtain ⟨i,hi,rfl⟩:=List.mem_map.mp hd
  have hi':=List.mem_range.mp hi
  have a:g * (i:Int)<=g * 5:=Int.mul_le_mul_of_nonneg_left (by omega) (by omega)
  omega
 ·rw [List.pairwise_map]
  refine List.Pairwise.imp_of_mem (fun {a b} ha hb hab=>?_) List.pairwise_lt_range
  exact Int.mul_lt_mul_of_pos_left (by omega) (by omega)
structure oK (ds:List Int)(l:Int):Prop where
 lo:∀d∈ds,0<=d
 hi:∀d∈ds,d<=l
 up:ds.Pairwise (· < ·)
 l0:-1<=l
theorem oK.nil:oK [] (-1):=⟨by simp,by simp,List.Pairwise.nil,by omega⟩
theorem oK.snoc {ds:List Int}{l r:Int}(h:oK ds l)(h0:0<=r):oK (ds++[l+1+r]) (l+1+r):=by
 have l0:=h.l0
 refine ⟨fun d hd=>?_,fun d hd=>?_,?_,by omega⟩
 ·rcases List.mem_append.mp hd with z | z
  ·exact h.lo d z
  ·have:d=l+1+r:=by simpa using z
   omega
 ·rcases List.mem_append.mp hd with z | z
  ·have:=h.hi d z;omega
  ·have:d=l+1+r:=by simpa using z
   omega
 ·rw [List.pairwise_append]
  refine ⟨h.up,by simp,fun a ha b hb=>?_⟩
  have hb':b=l+1+r:=by simpa using hb
  have:=h.hi a ha;omega
theorem oK.shaft {ds:List Int}{l:Int}(h:oK ds l)(hl:l<=500)(h2:2<=ds.length)(h6:ds.length<=6):cM ds:=
 ⟨h2,h6,h.lo,fun d hd=>Int.le_trans (h.hi d hd) hl,h.up⟩
theorem cM.ends {ds:List Int}(h:cM ds):cM ([0]++(ds.drop 1).take (ds.length - 1 - 1)++[500]):=by
 have l2:=h.l2
 have l6:=h.l6
 have hlen:((ds.drop 1).take (ds.length - 1 - 1)).length=ds.length - 2:=by
  rw [List.length_take,List.length_drop];omega
 have hmem:∀d,d∈(ds.drop 1).take (ds.length - 1 - 1)->0 < d/\d < 500:=fun d hd=>by
  obtain ⟨i,hi,rfl⟩:=List.getElem_of_mem hd
  rw [hlen] at hi
  have e:((ds.drop 1).take (ds.length - 1 - 1))[i]'(by rw [hlen];exact hi)=ds.getD (1+i) 0:=by
   rw [List.getElem_take,List.getElem_drop,List.getD_eq_getElem?_getD,List.getElem?_eq_getElem (by omega)]
   rfl
  rw [e]
  have a:=h.lt (i:=0) (j:=1+i) (by omega) (by omega)
  have b:=h.lt (i:=1+i) (j:=ds.length - 1) (by omega) (by omega)
  have c:=(h.get (i:=0) (by omega)).1
  have d:=(h.get (i:=ds.length - 1) (by omega)).2
  omega
 refine ⟨by simp [hlen]<;>omega,by simp [hlen]<;>omega,fun d hd=>?_,fun d hd=>?_,?_⟩
 ·rcases List.mem_append.mp hd with z | z
  ·rcases List.mem_append.mp z with z | z
   ·have:d=0:=by simpa using z
    omega
   ·have:=hmem d z;omega
  ·have:d=500:=by simpa using z
   omega
 ·rcases List.mem_append.mp hd with z | z
  ·rcases List.mem_append.mp z with z | z
   ·have:d=0:=by simpa using z
    omega
   ·have:=hmem d z;omega
  ·have:d=500:=by simpa using z
   omega
 ·rw [List.pairwise_append,List.pairwise_append]
  refine ⟨⟨by simp,(h.up.drop).take,fun a ha b hb=>?_⟩,by simp,fun a ha b hb=>?_⟩
  ·have ha':a=0:=by simpa using ha
   have:=hmem b hb;omega
  ·have hb':b=500:=by simpa using hb
   rcases List.mem_append.mp ha with z | z
   ·have:a=0:=by simpa using z
    omega
   ·have:=hmem a z;omega
def HX (J:It)(g:TG)(tb:TS)(D:lr)(σ:St)(H1:Hp):Prop:=∃W:Nat->Nat->St->Hp->Prop,(∃m,W 0 m σ H1)/\∀i m σ H,W i m σ H->
 (J.stop i H/\D.nx σ H)\/(J.go i H/\∃N:St->Hp->Prop,(∀σ' H',N σ' H'->∃m',m' < m/\W (i+1) m' σ' H')/\∀x H',J.yld i H x H'->g x σ H' fun σ2 H2=>tb {D with nx:=N,ct:=N,bk:=D.nx} σ2 H2)
theorem LQ (wi:TI)(g:TG)(tb:TS)(D:lr)(σ:St)(H:Hp):Pp wi g tb D σ H=wi σ H fun J H1=>HX J g tb D σ H1:=rfl
def vy (J:It)(g:TG)(tc:TT)(te:TE)(cm:List (Option Nat))(σ:St)(Q:VK)(H1:Hp):Prop:=∃W:Nat->Nat->List V->Hp->Prop,(∃m,W 0 m [] H1)/\∀i m acc H,W i m acc H->
 (J.stop i H/\∀p,H p=none->Q (.ref p) (upd H p (.lst acc)))\/
 (J.go i H/\acc.length < sizeLine/\∀x H',J.yld i H x H'->g x (cK cm σ) H' fun σ2 H2=>Wk (cK cm σ) σ2/\tc σ2 H2 fun b H3=>if b=true then te σ2 H3 fun v H4=>∃m',m' < m/\W (i+1) m' (acc++[v]) H4 else ∃m',m' < m/\W (i+1) m' acc H3)
theorem J0 (wi:TI)(g:TG)(tc:TT)(te:TE)(cm:List (Option Nat))(σ:St)(H:Hp)(Q:VK):zk wi g tc te cm σ H Q=wi σ H fun J H1=>vy J g tc te cm σ Q H1:=rfl
theorem cR {lo:Int}{n:Nat}{g:TG}{tb:TS}{D:lr}{σ:St}{H:Hp}(Pv:Nat->St->Hp->Prop)(h0:Pv 0 σ H)
  (hs:∀i σ H,i < n->Pv i σ H->g (.int (lo+i)) σ H fun σ2 H2=>tb {D with nx:=Pv (i+1),ct:=Pv (i+1),bk:=D.nx} σ2 H2) (hd:∀σ H,Pv n σ H->D.nx σ H):HX (Itr lo n) g tb D σ H:=IG Pv h0 hs hd
theorem lg {K:PySem.W.Frag}{a:Addr}(xs:List V){g:TG}{tb:TS}{D:lr}{σ:St}{H:Hp}(Pv:Nat->St->Hp->Prop)(h0:Pv 0 σ H)(hl:∀i σ H,i<=xs.length->Pv i σ H->SqL K H a xs)
  (hs:∀i x σ H,xs[i]?=some x->Pv i σ H->g x σ H fun σ2 H2=>tb {D with nx:=Pv (i+1),ct:=Pv (i+1),bk:=D.nx} σ2 H2) (hd:∀σ H,Pv xs.length σ H->D.nx σ H):HX (Itl K a) g tb D σ H:=JG Pv h0 hl hs hd
theorem CY {lo:Int}{n:Nat}{te:TE}{cm:List (Option Nat)}{σ:St}{H:Hp}{Q:VK}(f:Nat->V)(hn:n<=sizeLine){j:Nat}(hj:(cK cm σ)[j]?=some none)
  (hs:∀i,i < n->∀N:VK,N (f i) H->te ((cK cm σ).set j (some (.int (lo+i)))) H N)
  (hd:∀p,H p=none->Q (.ref p) (upd H p (.lst ((List.range n).map f)))):vy (Itr lo n) (gN j) yK te cm σ Q H:=zl f hn hj hs hd
theorem fm {lo:Int}{n:Nat}{tc:TT}{te:TE}{cm:List (Option Nat)}{σ:St}{H:Hp}{Q:VK}(p:Nat->Bool)(f:Nat->V)(hn:n<=sizeLine){j:Nat}(hj:(cK cm σ)[j]?=some none)
  (hc:∀i,i < n->∀N:Bool->Hp->Prop,N (p i) H->tc ((cK cm σ).set j (some (.int (lo+i)))) H N)
  (hs:∀i,i < n->p i=true->∀N:VK,N (f i) H->te ((cK cm σ).set j (some (.int (lo+i)))) H N)
  (hd:∀b,H b=none->Q (.ref b) (upd H b (.lst (((List.range n).filter p).map f)))):vy (Itr lo n) (gN j) tc te cm σ Q H:=vx p f hn hj hc hs hd
theorem xW {K:PySem.W.Frag}{a:Addr}{xs:List V}{tc:TT}{te:TE}{cm:List (Option Nat)}{σ:St}{H:Hp}{Q:VK}(p:V->Bool)(f:V->V)(hl:SqL K H a xs)(hn:xs.length<=sizeLine){j:Nat}(hj:(cK cm σ)[j]?=some none)
  (hc:∀x,x∈xs->∀N:Bool->Hp->Prop,N (p x) H->tc ((cK cm σ).set j (some x)) H N)
  (hs:∀x,x∈xs->p x=true->∀N:VK,N (f x) H->te ((cK cm σ).set j (some x)) H N)
  (hd:∀b,H b=none->Q (.ref b) (upd H b (.lst ((xs.filter p).map f)))):vy (Itl K a) (gN j) tc te cm σ Q H:=AW p f hl hn hj hc hs hd
theorem upo {H:Hp}{a b:Addr}{o u:HO}(h:H b=some u)(hn:H a=none):upd H a o b=some u:=by rw [aS (aq h hn)];exact h
theorem upn {H:Hp}{a b:Addr}{o:HO}(h:upd H a o b=none):H b=none:=by
 by_cases e:b=a
 ·subst e;rw [ah] at h;cases h
 ·rw [aS e] at h;exact h
theorem av.lay {H H':Hp}{a:Addr}{o:HO}(s:av H H')(hn:H' a=none):av H (upd H' a o):=fun b u e=>upo (s b u e) hn
theorem av.rewr {H H':Hp}{a:Addr}{o:HO}(s:av H H')(hn:H a=none):av H (upd H' a o):=fun b u e=>by rw [aS (aq e hn)];exact s b u e
theorem LR {n d:Nat}(h:1<=n):HT.sIx n d (some 1)=1:=by
 have:=HT.LM n d 1
 rw [show ((1:Nat):Int)=1 from rfl] at this
 omega
theorem Oi {n d:Nat}(h:1<=n):HT.sIx n d (some (-1))=n - 1:=by
 have:=HT.CU (-1) n d
 rw [if_pos (by decide)] at this
 omega
theorem J1 (ds:List Int)(h:2<=ds.length):vq (ds.map V.int) (some 1) (some (-1))=((ds.drop 1).take (ds.length - 1 - 1)).map V.int:=by
 unfold vq
 rw [List.length_map,LR (by omega),Oi (by omega),List.map_take,List.map_drop]
theorem GF {ds:List Int}(h:0 < ds.length):atI (ds.map V.int) (-1)=some (.int (cQ ds)):=by
 unfold atI ixN
 rw [if_neg (by decide),List.length_map,if_pos (by omega),Option.bind_some,List.getElem?_map,show (-1+(ds.length:Int)).toNat=ds.length - 1 by omega,List.getElem?_eq_getElem (by omega)]
 unfold cQ
 rw [List.getD_eq_getElem?_getD,List.getElem?_eq_getElem (by omega)]
 rfl
theorem CZ (a b:Int):eqV (.int a) (.int b)=decide (a=b):=by
 simp [eqV,Bool.beq_eq_decide_eq]
theorem oM (d:Int)(ds:List Int):inV (.int d) (ds.map V.int)=decide (d∈ds):=by
 unfold inV
 rw [List.any_map]
 by_cases h:d∈ds
 ·rw [decide_eq_true h,List.any_eq_true]
  exact ⟨d,h,by simp [CZ]⟩
 ·rw [decide_eq_false h,List.any_eq_false]
  intro x hx
  simp [CZ]
  rintro rfl
  exact h hx
theorem oN {xs:List Int}{i:Nat}{x:V}(h:(xs.map V.int)[i]?=some x):∃z,x=V.int z/\xs[i]?=some z/\z∈xs:=by
 rw [List.getElem?_map] at h
 cases e:xs[i]? with
 | none=>rw [e] at h;cases h
 | some z=>rw [e] at h;exact ⟨z,(Option.some.inj h).symm,rfl,List.mem_of_getElem? e⟩
theorem HY (d x y:Int):inV (.int d) [.int x,.int y]=decide (d=x\/d=y):=by
 have:=oM d [x,y]
 simpa [eq_comm] using this
theorem GG {w s:Int}(hw:0<=w)(hs:0 < s):0<=(w+s - 1) / s/\w<=(w+s - 1) / s * s/\((w+s - 1) / s - 1) * s < w/\(w+s - 1) / s<=w:=by
 have e:=Int.emod_add_mul_ediv (w+s - 1) s
 have r0:=Int.emod_nonneg (w+s - 1) (by omega:s≠0)
 have r1:=Int.emod_lt_of_pos (w+s - 1) hs
 have e2:s * ((w+s - 1) / s)=(w+s - 1) / s * s:=Int.mul_comm _ _
 have e3:((w+s - 1) / s - 1) * s=(w+s - 1) / s * s - s:=by rw [Int.sub_mul,Int.one_mul]
 have q0:0<=(w+s - 1) / s:=Int.ediv_nonneg (by omega) (by omega)
 refine ⟨q0,by omega,by omega,?_⟩
 by_cases h:(w+s - 1) / s<=w
 ·exact h
 ·exfalso
  have h1:((w+s - 1) / s - 1) * 1<=((w+s - 1) / s - 1) * s:=Int.mul_le_mul_of_nonneg_left (by omega) (by omega)
  omega
end L2
namespace L2
theorem LS {x y i:Int}(h:i=0\/i=1):∃m,(m=x\/m=y)/\atI [V.int x,V.int y] i=some (.int m):=by
 rcases h with rfl | rfl
 ·exact ⟨x,.inl rfl,rfl⟩
 ·exact ⟨y,.inr rfl,rfl⟩
end L2
namespace L2
open PySem PySem.Spec PyProof.Rows
noncomputable def CXf (P:Program)(w:World):CXT:=fun outer H s E e s'=>
 ∃(x:Addr) (cls a0:Value) (H':Hp) (B:Heap),e=.ref x/\s'.os=s.os/\AllBare s'.gens/\Un (frs outer) [] H H' s.heap s'.heap/\HOk P w H' s'.heap/\Heap.FlyingW B outer x cls a0 s'.heap/\
  (∀b o,s'.heap.get? b=some o->(H' b≠none\/∃o0,s.heap.get? b=some o0)->b∉frs outer->B.get? b=some o)/\(∀o,s.heap.get? x≠some o)/\H' x=none/\E cls none H'
theorem iP.there {P:Program}{w:World}{H:Hp}{h:Heap}{a:Addr}{o:HO}(l:iP P w H h a o):∃ob,h.get? a=some ob:=by
 cases o with
 | lst xs=>obtain ⟨_,its,n,_,e⟩:=l;exact ⟨_,e⟩
 | tup xs=>obtain ⟨_,its,_,ob,e,_⟩:=l;exact ⟨_,e⟩
 | dK kvs=>obtain ⟨_,_,_,_,ob,_,_,e,_⟩:=l;exact ⟨_,e⟩
 | dT kvs=>obtain ⟨_,_,_,_,ob,_,_,e,_⟩:=l;exact ⟨_,e⟩
 | set S n=>obtain ⟨ob,_,_,_,e,_⟩:=l;exact ⟨_,e⟩
 | ins C dx fs=>obtain ⟨_,_,_,e,_⟩:=l;exact ⟨_,e⟩
 | own y=>exact l
 | xd fs=>obtain ⟨mA,⟨od,_,_,e,_⟩,_⟩:=l;exact ⟨_,e⟩
 | rng lo hi=>obtain ⟨_,_,_,e⟩:=l;exact ⟨_,e⟩
 | frz ob u=>obtain ⟨e,_⟩:=l;exact ⟨_,e⟩
 | tbl ps=>exact ⟨_,l⟩
 | met f y=>exact ⟨_,l⟩
 | ext φ=>obtain ⟨_,h,_⟩:=l;exact h
section
variable {P:Program}{w:World}{K:PySem.W.Frag}{mg:Str->Option Value}{base:Heap}{N:List Str}{qual:Str}{scope:Scope}{f:Addr}{cd:Value}{A:Around}{outer:List Env}{s:Shared}{H:Hp}{E:XK}
noncomputable abbrev cxF (P:Program)(w:World)(K:PySem.W.Frag)(mg:Str->Option Value)(base:Heap)(N:List Str)(qual:Str)(scope:Scope)(f:Addr)(cd:Value)(A:Around)(outer:List Env)(s:Shared)(H:Hp)(E:XK):Cx:=
 vo (CXf P w) P w K mg base N qual scope f cd A outer s H E
theorem HZ {pins:List (Addr×Obj)}{σ:St}{H1:Hp}{s1:Shared}{h2:Heap}{x:Addr}{cls a0:Value}{B:Heap}(I:Inv (cxF P w K mg base N qual scope f cd A outer s H E) pins σ H1 s1)
  (hB:∀b o,s1.heap.get? b=some o->(H1 b≠none\/∃o0,s.heap.get? b=some o0)->b∉frs (cxF P w K mg base N qual scope f cd A outer s H E).stack->B.get? b=some o)
  (hfl:Heap.FlyingW B outer x cls a0 h2) (hsl:∀b o,s1.heap.get? b=some o->(∀vs,o.data≠.fields vs)->∃sl,h2.get? b=some {o with slots:=sl}) (hx:∀o,s.heap.get? x≠some o) (hx1:H1 x=none) (q:E cls none H1) :
  CXf P w outer H s E (.ref x) {s1 with heap:=h2}:=by
 have neL:∀b o,s.heap.get? b=some o->b≠s.heap.objs.size:=fun b o e=>Nat.ne_of_lt (Heap.lt_size e)
 have stk:∀b,b∈frs (cxF P w K mg base N qual scope f cd A outer s H E).stack->b=s.heap.objs.size\/b∈frs outer:=fun b hb=>by
  rcases List.mem_cons.mp (I.stkSub b hb) with z | z
  ·exact .inl z
  ·exact .inr z
 have hfree:H1 s.heap.objs.size=none:=I.free
 have st:B.StaysIn h2:=hfl.1
 have frD:∀b∈frs outer,∃o,s.heap.get? b=some o/\∀vs,o.data≠.fields vs:=fun b hb=>(I.ok.funs.mem hb).2
 have u:=I.base
 have nf:∀b o,s.heap.get? b=some o->b∉frs outer->b∉frs (cxF P w K mg base N qual scope f cd A outer s H E).stack:=fun b o e hb z=>(stk b z).elim (neL b o e) hb
 have up:∀b∈frs outer,∀o,s.heap.get? b=some o->∃sl,h2.get? b=some {o with slots:=sl}:=fun b hb o e=>by
  obtain ⟨o',e',d⟩:=frD b hb
  rw [e] at e';cases e'
  obtain ⟨sl,q1⟩:=u.any (b:=b) e (I.ok.frf b hb) (by intro z;exact nomatch z)
  obtain ⟨sl',q2⟩:=hsl b _ q1 d
  exact ⟨sl',q2⟩
 refine ⟨x,cls,a0,H1,B,rfl,I.os,I.bare,⟨fun b o e n hb _=>?_,fun b o e n hb _=>up b hb o e,u.free,fun b o e _=>?_,u.tups,u.frzs,u.tbls⟩,fun b o e=>?_,hfl,fun b o e hh hb=>?_,hx,hx1,q⟩
 ·exact st b o (hB b o (u.keep b o e n hb (by intro z;exact nomatch z)) (.inr ⟨o,e⟩) (nf b o e hb))
 ·by_cases hb:b∈frs outer
  ·obtain ⟨sl,q⟩:=up b hb o e
   exact ⟨_,q⟩
  ·obtain ⟨o',e'⟩:=u.there b o e (by intro z;exact nomatch z)
   exact ⟨o',st b o' (hB b o' e' (.inr ⟨o,e⟩) (nf b o e hb))⟩
 ·have ne:b≠s.heap.objs.size:=fun z=>by rw [z,hfree] at e;cases e
  have inB:∀c v,H1 c≠none->s1.heap.get? c=some v->h2.get? c=some v:=fun c v hc q=>st c v (hB c v q (.inl hc) fun z=>by
   rcases stk c z with y | y
   ·rw [y] at hc;exact hc hfree
   ·obtain ⟨o',e',_⟩:=frD c y
    exact hc (u.free c o' e' (I.ok.frf c y) (by intro z;exact nomatch z)))
  refine (I.hok b o e).stay (fun c v hc q=>inB c v ?_ q) (fun _ q=>q) fun _ _ q=>q
  rcases hc with z | z
  ·rw [z,e];simp
  ·rw [z];simp
 ·
  have there1:∃o1,s1.heap.get? b=some o1:=by
   rcases hh with z | ⟨o0,z⟩
   ·cases q:H1 b with
    | none=>exact absurd q z
    | some v=>exact (I.hok b v q).there
   ·exact u.there b o0 z (by intro z;exact nomatch z)
  obtain ⟨o1,e1⟩:=there1
  have nfb:b∉frs (cxF P w K mg base N qual scope f cd A outer s H E).stack:=fun z=>by
   rcases stk b z with y | y
   ·rcases hh with t | ⟨o0,t⟩
    ·rw [y] at t;exact t hfree
    ·exact neL b o0 t y
   ·exact hb y
  have e2:=hB b o1 e1 hh nfb
  have e3:=st b o1 e2
  have e':h2.get? b=some o:=e
  rw [e3] at e';cases e'
  exact e2
theorem IT {pins:List (Addr×Obj)}{σ:St}{H1:Hp}{s1:Shared}{h':Heap}{x:Addr}{cls:Value}{args:List Value}(I:Inv (cxF P w K mg base N qual scope f cd A outer s H E) pins σ H1 s1)
  (hx:Heap.MadeExcOf s1.heap h' x cls args) (q:E cls none H1):(cxF P w K mg base N qual scope f cd A outer s H E).xe (.ref x) {s1 with heap:=h'}:=by
 have hn:=hx.new
 have hin:∀env∈(cxF P w K mg base N qual scope f cd A outer s H E).stack,∀b,env.frame=some b->b∈frs (cxF P w K mg base N qual scope f cd A outer s H E).stack:=fun env he b hb=>List.mem_filterMap.mpr ⟨env,he,hb⟩
 have hx1:H1 x=none:=by
  cases q:H1 x with
  | none=>rfl
  | some v=>
   obtain ⟨ob,e⟩:=(I.hok x v q).there
   rw [hn] at e;cases e
 refine wpAny_leaves_madeW (base:=PySem.W.hideAll s1.heap (frs (cxF P w K mg base N qual scope f cd A outer s H E).stack)) (h:=s1.heap) (s:={s1 with heap:=h'}) I.ok.frames rfl (fun b o q=>PySem.W.of_hideAll _ q) (PySem.W.funFrames_hide I.stack hin) hx fun h2 t f1 f2 f3 f4=>?_
 refine HZ (s1:=s1) I (fun b o e _ hb=>PySem.W.hideAll_get _ e hb) f1 (fun b o e d=>f4 b o (hx.keeps b o e) d) (fun o e=>?_) hx1 q
 obtain ⟨o',e'⟩:=I.base.there x o e (by intro z;exact nomatch z)
 rw [hn] at e';cases e'
theorem bS:qj (CXf P w) (cxF P w K mg base N qual scope f cd A outer s H E) E:=by
 rintro pins σ H1 s1 e s2 I ⟨x,cls,a0,H2,B,rfl,os,bare,un,hok,hfl,hB,hx,hx2,q⟩
 have I2:Inv (cxF P w K mg base N qual scope f cd A outer s H E) pins σ H2 s2:=I.call' os un hok bare fun b hb=>absurd hb (by simp)
 refine wpAny_leaves_onW (s:=s2) I.ok.frames rfl hfl fun h2 f1 f2=>?_
 refine HZ I2 (fun b o e hh hb=>hB b o e ?_ hb) f1 (fun b o e d=>f2 b o e d) (fun o e=>?_) hx2 q
 ·rcases hh with z | ⟨o0,z⟩
  ·exact .inl z
  ·obtain ⟨o1,e1⟩:=I.base.there b o0 z (by intro z;exact nomatch z)
   exact .inr ⟨o1,e1⟩
 ·obtain ⟨o1,e1⟩:=I.base.there x o e (by intro z;exact nomatch z)
  exact hx o1 e1
theorem Dc:PassesOwn (model P w) (cxF P w K mg base N qual scope f cd A outer s H E).A (cxF P w K mg base N qual scope f cd A outer s H E).env (cxF P w K mg base N qual scope f cd A outer s H E).xe:=PassesOwn.leaving
structure ExC (K:PySem.W.Frag)(C:Addr):Prop where
 ex:∃(nm q:Str) (N:Addr) (bs bm:List Value) (hdct:Bool) (sn:List Str) (sub:List Value) (ab:Bool) (col:Option Bool) (dd:Option Addr) (k0 k1 k2 k3 k5:Option Value) (mN:Str->Option Value),
  ∀h,K.In h->h.get? C=some (excClassObj nm q C N bs bm hdct sn sub ab col dd k0 k1 k2 k3 k5 "ValueError.__new__")/\h.Ns N mN/\(∀n∈quietNames,mN n=none)/\OwnTailQ h [.type "ValueError",.type "Exception",.type "BaseException",.type "object"] bm
noncomputable def sL (es:Array DictEntry):Bool:=es.toList.all fun e=>match e.key with | .str _ _=>true | _=>false
theorem Nm {K:PySem.W.Frag}{h:Heap}{N:Addr}{c:Value}{d:Option Addr}{es:Array DictEntry}{ep:Nat}{sl:Array (Option Value)}(X:K.In h)(l:K.lookup N=some ⟨c,d,.dict es ep,sl⟩)(k:sL es=true):h.Ns N (nsFind es):=by
 refine ⟨_,es,ep,X _ _ l,rfl,fun e he=>?_,fun _=>rfl⟩
 have z:=List.all_eq_true.mp k e (by simpa using he)
 split at z
 ·rename_i n t q;exact ⟨n,t,q⟩
 ·cases z
theorem Oj {K:PySem.W.Frag}{C N C0 N0:Addr}{nm q:Str}{bs:List Value}{hdct:Bool}{sn:List Str}{sub:List Value}{ab:Bool}{col:Option Bool}{dd:Option Addr}{k0 k1 k2 k3 k5:Option Value}
  {c1 c2 c0:Value} {d1 d2 dd0:Option Addr} {es es0:Array DictEntry} {ep ep0:Nat} {sl1 sl2 sl0:Array (Option Value)} {cd0:ClassData}
  (lC:K.lookup C=some (excClassObj nm q C N bs [.ref C0,.type "ValueError",.type "Exception",.type "BaseException",.type "object"] hdct sn sub ab col dd k0 k1 k2 k3 k5 "ValueError.__new__"))
  (lN:K.lookup N=some ⟨c1,d1,.dict es ep,sl1⟩) (kN:sL es=true) (iN:(quietNames.all fun n=>(nsFind es n).isNone)=true)
  (l0:K.lookup C0=some ⟨c0,dd0,.cls cd0,sl0⟩) (e0:cd0.ns=N0) (lN0:K.lookup N0=some ⟨c2,d2,.dict es0 ep0,sl2⟩) (kN0:sL es0=true) (iN0:(quietNames.all fun n=>(nsFind es0 n).isNone)=true):ExC K C:=
 ⟨nm,q,N,bs,_,hdct,sn,sub,ab,col,dd,k0,k1,k2,k3,k5,nsFind es,fun h X=>⟨X _ _ lC,Nm X lN kN,fun n hn=>Option.isNone_iff_eq_none.mp (List.all_eq_true.mp iN n hn),.own (X _ _ l0) (e0▸Nm X lN0 kN0) (fun n hn=>Option.isNone_iff_eq_none.mp (List.all_eq_true.mp iN0 n hn)) .base⟩⟩
noncomputable def J2 (E:XK)(C:Addr)(t:TA):TS:=fun _ σ H=>t σ H fun vs H1=>vs.length<=sizeLine/\E (.ref C) none H1
theorem bH {x:Str}{C:Addr}{e:Expr}{es:List Expr}{t:TA}{np cpos pos:Pos}(O:ExC K C)(hg:Gl (cxF P w K mg base N qual scope f cd A outer s H E) x)(hm:mg x=some (.ref C))
  (ha:PA (cxF P w K mg base N qual scope f cd A outer s H E) (e::es) t) (hdb:(x == ("__debug__":Str))=false:=by decide)
  (he:starEach (e::es) (cxF P w K mg base N qual scope f cd A outer s H E).env=(false,eval e (cxF P w K mg base N qual scope f cd A outer s H E).env)::starEach es (cxF P w K mg base N qual scope f cd A outer s H E).env:=by rfl)
  (hpl:(backTo cpos (starEach es (cxF P w K mg base N qual scope f cd A outer s H E).env)).any (·.1)=false:=by rfl) :
  PS (cxF P w K mg base N qual scope f cd A outer s H E) (.Raise (some (.Call (.Name x np) (e::es) [] cpos)) none pos) (J2 E C t):=by
 intro pins s1 σ H1 D I h
 obtain ⟨nm,q,N,bs,bm,hdct,sn,sub,ab,col,dd,k0,k1,k2,k3,k5,mN,O⟩:=O.ex
 obtain ⟨_,_,hni,T0⟩:=O _ I.kIn
 refine wpAny_Raise_call_subU (C:=C) (nm:=nm) (q:=q) (N:=N) (bs:=bs) (bm:=bm) (hdct:=hdct) (sn:=sn) (sub:=sub) (ab:=ab) (col:=col) (dd:=dd) (k0:=k0) (k1:=k1) (k2:=k2) (k3:=k3) (k5:=k5)
  PySem.F.excBase_ValueError (by decide +kernel) PySem.F.excBase_ValueError (mN:=mN) (T0.tail.hasType PySem.F.excBase_ValueError.hasBase) (I.ok.hd rfl) (by rw [he];show (false || (backTo cpos (starEach es _)).any (·.1))=false;rw [hpl];rfl) (hni _ (.head _)) (sA I hg hm ⟨rfl,?_⟩ hdb)
 have ha':=ha cpos pins s1 σ H1 _ I h
 rw [he] at ha' ⊢
 refine Calls.evalArgs_plain (wpAny_mono ha' (fun us s2 h2=>?_) fun _ _ y=>y)
 obtain ⟨vs,H2,I2,rv,hlen,qE⟩:=h2
 obtain ⟨a1,a2,_,a4⟩:=O _ I2.kIn
 exact ⟨rfl,by rw [←rv.length];exact hlen,a1,a2,a4.tail,fun h' e hx=>IT I2 hx qE⟩
theorem Fun.okF {x qual:Str}{st:Stmt}{f:Addr}{fd:FuncData}{N ps:List Str}{k:Nat}{sp:Sp}(F:Fun K x qual st f fd)(S:aA N ps (ao st))(len:∀vs H Q E,sp vs H Q E->vs.length=ps.length)
  (hbody:∀(cdv:Value) (A:Around) (outer:List Env) (s:Shared) (H:Hp) (vs:List V) (Q:VK) (E:XK),iQ k (A.deeper (envOfC qual (ao st) s.heap.objs.size f cdv))->sp vs H Q E->
   ∃t,PSs (cxF P w K mg base N qual (ao st) f cdv A outer s H E) (cy st) t/\t {nx:=fun _ H'=>Q .non H',rt:=Q} (tF N vs) H):aH P w K mg base (CXf P w) (k+1) f fd ps sp:=by
 obtain ⟨oc,od,kV,doc,pm,an,cdv,ct,osl,rfl,lk,hcd⟩:=F.ex
 refine Ni lk hcd S len fun A outer s H vs Q E hr hsp=>?_
 exact hbody cdv A outer s H vs Q E hr hsp
end
noncomputable abbrev XT:=Value->St->Hp->Prop
noncomputable def Xt (X:Cx)(pins:List (Addr×Obj))(E':XT):Cx:=
 {X with pn:=X.pn++pins,xe:=fun e s'=>∃σ H s,Inv X pins σ H s/\CXf X.prog X.w X.stack H s (fun cls _ H'=>E' cls σ H') e s'}
noncomputable def Xh (X:Cx)(e:Value):Cx:={X with A:=X.A.mark (some e),calm:=false,xe:=fun _ _=>False}
section
variable {X:Cx}{pins pins':List (Addr×Obj)}{σ:St}{H:Hp}{s:Shared}{E':XT}{e:Value}
theorem Cx.Ok.toT (ok:X.Ok):(Xt X pins E').Ok:=⟨ok.mod,ok.kind,ok.glob,ok.blt,ok.above,ok.inj,ok.has,ok.cab,ok.hd,ok.frames,ok.stk,ok.exf,ok.bs,ok.bsz,ok.noex,ok.exfs,ok.funs,ok.frf⟩
theorem Cx.Ok.ofT (ok:(Xt X pins E').Ok):X.Ok:=⟨ok.mod,ok.kind,ok.glob,ok.blt,ok.above,ok.inj,ok.has,ok.cab,ok.hd,ok.frames,ok.stk,ok.exf,ok.bs,ok.bsz,ok.noex,ok.exfs,ok.funs,ok.frf⟩
theorem Inv.toT (I:Inv X pins σ H s):Inv (Xt X pins E') [] σ H s:=⟨I.ok.toT,I.os,I.bare,I.base,I.loc,I.cell,I.free,I.freeC,fun p hp=>I.pin p (by simpa [Xt] using hp),I.hok,I.len⟩
theorem Inv.ofT (I:Inv (Xt X pins E') pins' σ H s):Inv X pins σ H s:=⟨I.ok.ofT,I.os,I.bare,I.base,I.loc,I.cell,I.free,I.freeC,fun p hp=>I.pin p (List.mem_append_left _ hp),I.hok,I.len⟩
theorem Inv.toH (I:Inv X pins σ H s):Inv (Xh X e) pins σ H s:=
 ⟨⟨I.ok.mod,I.ok.kind,I.ok.glob,I.ok.blt,I.ok.above,I.ok.inj,I.ok.has,I.ok.cab,fun z=>(Bool.false_ne_true z).elim,I.ok.frames,I.ok.stk,I.ok.exf,I.ok.bs,I.ok.bsz,I.ok.noex,I.ok.exfs,I.ok.funs,I.ok.frf⟩,I.os,I.bare,I.base,I.loc,I.cell,I.free,I.freeC,I.pin,I.hok,I.len⟩
theorem Inv.ofH (ok:X.Ok)(I:Inv (Xh X e) pins σ H s):Inv X pins σ H s:=⟨ok,I.os,I.bare,I.base,I.loc,I.cell,I.free,I.freeC,I.pin,I.hok,I.len⟩
theorem Inv.flown {H1:Hp}{s1:Shared}{h2:Heap}{B:Heap}(I:Inv X pins σ H s)(os:s1.os=s.os)(bare:AllBare s1.gens)(un:Un (frs X.stack) [] H H1 s.heap s1.heap)(hok:HOk X.prog X.w H1 s1.heap)
  (hB:∀b o,s1.heap.get? b=some o->(H1 b≠none\/∃o0,s.heap.get? b=some o0)->b∉frs X.stack->B.get? b=some o) (st:B.StaysIn h2) (hsl:s1.heap.UpToSlots h2):Inv X pins σ H1 {s1 with heap:=h2}:=by
 have frD:∀b∈frs X.stack,∃o,s.heap.get? b=some o/\∀vs,o.data≠.fields vs:=fun b hb=>(I.stack.mem hb).2
 have up:∀b∈frs X.stack,∀o,s.heap.get? b=some o->∃sl,h2.get? b=some {o with slots:=sl}:=fun b hb o e=>by
  obtain ⟨o',e',d⟩:=frD b hb
  rw [e] at e';cases e'
  obtain ⟨sl,q1⟩:=un.any (b:=b) e (I.stkFree b hb) (by intro z;exact nomatch z)
  obtain ⟨sl',q2⟩:=hsl b _ q1 d
  exact ⟨sl',q2⟩
 refine I.call' (s':={s1 with heap:=h2}) (ch:=[]) os ⟨fun b o e n hb _=>?_,fun b o e n hb _=>up b hb o e,un.free,fun b o e _=>?_,un.tups,un.frzs,un.tbls⟩ (fun b o e=>?_) bare fun b hb=>absurd hb (by simp)
 ·exact st b o (hB b o (un.keep b o e n hb (by intro z;exact nomatch z)) (.inr ⟨o,e⟩) hb)
 ·by_cases hb:b∈frs X.stack
  ·obtain ⟨sl,q⟩:=up b hb o e
   exact ⟨_,q⟩
  ·obtain ⟨o',e'⟩:=un.there b o e (by intro z;exact nomatch z)
   exact ⟨o',st b o' (hB b o' e' (.inr ⟨o,e⟩) hb)⟩
 ·have inB:∀c v,H1 c≠none->s1.heap.get? c=some v->h2.get? c=some v:=fun c v hc q=>st c v (hB c v q (.inl hc) fun z=>by
   obtain ⟨o',e',_⟩:=frD c z
   exact hc (un.free c o' e' (I.stkFree c z) (by intro z;exact nomatch z)))
  refine (hok b o e).stay (fun c v hc q=>inB c v ?_ q) (fun _ q=>q) fun _ _ q=>q
  rcases hc with z | z
  ·rw [z,e];simp
  ·rw [z];simp
noncomputable def De (y:Addr)(cls:Value):HO:=.ext fun h=>∃o vs,h.get? y=some o/\o.cls=cls/\o.data=.fields vs
theorem IU {H1:Hp}{s1:Shared}{x:Addr}{cls:Value}{oe:Obj}{vs:Array Value}(I0:Inv X pins σ H s)(I:Inv X pins σ H1 s1)(hx:∀o,s.heap.get? x≠some o)(hx1:H1 x=none)(he:s1.heap.get? x=some oe)(hc:oe.cls=cls)(hd:oe.data=.fields vs)
  (hxl:x≠X.env.locals) (hxc:∀y c,X.env.cells.lookup y=some c->c≠x):Inv X pins σ (upd H1 x (De x cls)) s1:=by
 have hb:∀b u,X.s₀.heap.get? b=some u->b∉X.ex->b≠x:=fun b u e hbx z=>by
  obtain ⟨o',e'⟩:=I0.base.there b u e hbx
  rw [z] at e'
  exact hx o' e'
 refine ⟨I.ok,I.os,I.bare,⟨I.base.keep,I.base.slot,fun b u e n hbx=>?_,I.base.there,fun b xs e=>?_,fun b u xs e=>?_,fun b ps e=>?_⟩,I.loc,I.cell,?_,fun y c e=>?_,fun p hpp=>?_,fun b u e=>?_,I.len⟩
 ·rw [aS (hb b u e hbx)];exact I.base.free b u e n hbx
 ·have q:=I.base.tups b xs e;rw [aS (aq q hx1)];exact q
 ·have q:=I.base.frzs b u xs e;rw [aS (aq q hx1)];exact q
 ·obtain ⟨more,q⟩:=I.base.tbls b ps e;exact ⟨more,by rw [aS (aq q hx1)];exact q⟩
 ·rw [aS (Ne.symm hxl)];exact I.free
 ·rw [aS (hxc y c e)];exact I.freeC y c e
 ·obtain ⟨a,b,c⟩:=I.pin p hpp
  refine ⟨a,?_,c⟩
  rw [aS (fun z=>?_)];exact b
  have:=(I0.pin p hpp).1
  rw [z] at this
  exact hx _ this
 ·by_cases hbb:b=x
  ·subst hbb;rw [ah] at e;cases e
   exact ⟨⟨oe,vs,he,hc,hd⟩,⟨oe,he⟩,fun h1 h2 ⟨o,v,a,b,c⟩ k=>⟨o,v,k _ a,b,c⟩⟩
  ·rw [aS hbb] at e
   exact (I.hok b u e).stay (fun c v _ q=>q) (fun c q=>by rw [aS (aq q hx1)];exact q) fun c xs q=>by rw [aS (aq q hx1)];exact q
theorem sM {i:Nat}{n:Str}{pos:Pos}{A:Around}{M:Model}{Er:Value->Shared->Prop}{Q:Unit->Shared->Prop}(I:Inv X pins σ H s)(hN:X.N.Nodup)(hi:X.N[i]?=some n)(hk:X.env.scope.names.lookup n=some .local)
  (h:∀s',Inv X pins (σ.set i none) H s'->Q () s'):wpAny M A (do bindName X.env n .none;unbindBehindTheSuite X.env n pos) Q Er s:=by
 refine wpAny_bind (wpAny_bindName (nB (v:=V.non) I hN hi (.inl hk) rfl (fun s1 I1=>?_) (.inr hk)))
 unfold unbindBehindTheSuite
 refine wpAny_onRaise ?_
 obtain ⟨m,hn,hl⟩:=id I1.loc
 have hiσ:i < σ.length:=by rw [I.len];exact (List.getElem?_eq_some_iff.mp hi).1
 obtain ⟨u,ru,lk⟩:=hl i n .non hi (List.getElem?_set_self hiσ) (.inl hk)
 have hv:m n=some u:=by
  rcases lk with ⟨_,z⟩ | ⟨z,_⟩
  ·exact z
  ·have hk':X.env.kindOf n=some .local:=hk
   rcases z with z | z
   ·rw [hk'] at z;cases z
   ·rw [hk'] at z;cases z
 have hcls:(X.env.scope.kind == .class || (X.env.scope.kind == .module && X.env.locals != X.env.globals))=false:=by rw [I.ok.kind];rfl
 refine wpAny_unbindName_local hk hn hv hcls fun h' u' hn' hs=>?_
 have ne:∀b o,X.s₀.heap.get? b=some o->b≠X.env.locals:=fun b o e=>Nat.ne_of_lt (Nat.lt_of_lt_of_le (Heap.lt_size e) I.ok.above)
 refine h _ ⟨I1.ok,I1.os,I1.bare,⟨fun b o e n hb hx=>(hs.2 b (ne b o e)).trans (I1.base.keep b o e n hb hx),fun b o e n hb hx=>?_,I1.base.free,fun b o e hx=>?_,I1.base.tups,I1.base.frzs,I1.base.tbls⟩,⟨_,hn',fun j y v' e1 e2 e3=>?_⟩,fun y c e=>?_,I1.free,I1.freeC,fun p hp=>?_,fun b ob e=>?_,?_⟩
 ·obtain ⟨sl,e1⟩:=I1.base.slot b o e n hb hx
  exact ⟨sl,(hs.2 b (ne b o e)).trans e1⟩
 ·obtain ⟨o',e1⟩:=I1.base.there b o e hx
  exact ⟨o',(hs.2 b (ne b o e)).trans e1⟩
 ·by_cases hj:j=i
  ·subst hj
   rw [List.getElem?_set_self hiσ] at e2
   cases e2
  ·rw [List.getElem?_set_ne (Ne.symm hj)] at e2
   obtain ⟨u2,r2,q⟩:=hl j y v' e1 (by rw [List.getElem?_set_ne (Ne.symm hj)];exact e2) e3
   refine ⟨u2,r2,?_⟩
   rcases q with ⟨k,e⟩ | ⟨k,c,e,z⟩
   ·refine .inl ⟨k,?_⟩
    have:y≠n:=fun e=>hj (zd hN e1 (e▸hi))
    simp [this,e]
   ·exact .inr ⟨k,c,e,z.sameBut hs (I1.cne y c e)⟩
 ·obtain ⟨w',z⟩:=I1.cell y c e
  exact ⟨w',z.sameBut hs (I1.cne y c e)⟩
 ·obtain ⟨e,n,ne',nf,d⟩:=I1.pin p hp
  exact ⟨(hs.2 p.1 ne').trans e,n,ne',nf,d⟩
 ·refine (I1.hok b ob e).stay (fun c w' hc q=>(hs.2 c ?_).trans q) (fun _ q=>q) fun _ _ q=>q
  rintro rfl
  rcases hc with z | z
  ·rw [←z,I1.free] at e;cases e
  ·rw [I1.free] at z;cases z
 ·rw [List.length_set];exact I.len
end
section
variable {X:Cx}
noncomputable def PQ (K:PySem.W.Frag)(C:Addr)(i:Nat)(tb:XT->TS)(th:TS):TS:=fun D σ H=>
 tb (fun cls σ' H'=>PySem.W.exmOne K cls (.ref C)=some true/\∀y,H' y=none->
  th {nx:=fun σ H=>D.nx (σ.set i none) H,rt:=D.rt,bk:=fun σ H=>D.bk (σ.set i none) H,ct:=fun σ H=>D.ct (σ.set i none) H} (σ'.set i (some (.ref y))) (upd H' y (De y cls))) D σ H
theorem Ol {body suite:List Stmt}{b₀:Stmt}{x n:Str}{C:Addr}{i:Nat}{tb:XT->TS}{th:TS}{np hpos pos:Pos}(hst:X.stack=X.env::X.outer)(hfr:X.env.frame=some X.env.locals)
  (hb:∀pins E',PSs (Xt X pins E') body (tb E')) (hh:∀e,PSs (Xh X e) (b₀::suite) th) (hN:X.N.Nodup) (hi:X.N[i]?=some n) (hk:X.env.scope.names.lookup n=some .local) (hg:Gl X x) (hm:X.mg x=some (.ref C))
  (hdb:(x == ("__debug__":Str))=false:=by decide):PS X (.Try body [.ExceptHandler (some (.Name x np)) (some n) (b₀::suite) hpos] [] [] pos) (PQ X.K C i tb th):=by
 intro pins s σ H D I h
 refine wpAny_Try_except (wpAny_mono (hb pins _ [] s σ H D I.toT h) (fun f s1 h1=>?_) fun e s1 h1=>?_)
 ·cases f with
  | next=>obtain ⟨σ',H',J,q⟩:=h1;exact wpAny_execs_nil ⟨σ',H',J.ofT,q⟩
  | brk=>obtain ⟨σ',H',J,q⟩:=h1;exact ⟨σ',H',J.ofT,q⟩
  | cont=>obtain ⟨σ',H',J,q⟩:=h1;exact ⟨σ',H',J.ofT,q⟩
  | ret u=>obtain ⟨v,σ',H',J,r,q⟩:=h1;exact ⟨v,σ',H',J.ofT,r,q⟩
 ·obtain ⟨σ0,H0,s0,I0,y,cls,a0,H1,B,rfl,os,bare,un,hok,hfl,hB,hx,hx1,em,q⟩:=h1
  have frames:X.A.frames=some (X.env::X.outer):=by rw [←hst];exact I0.ok.frames
  rw [hst] at hfl
  refine wpAny_looks_onW frames hfr hfl fun h4 held4 sm4=>wpAny_landsW held4 fun h5 fl5 sm5=>?_
  have I5:Inv X pins σ0 H1 {s1 with heap:=h5}:=I0.flown os bare un hok hB fl5.1 (sm4.trans sm5)
  refine wpAny_handleBy_cons (codeAny_handlers_test (sA (X:=Xh X (.ref y)) (I5.toH) hg hm ?_ hdb)) (by intro q;cases q)
  obtain ⟨ob,hob,hobc⟩:=fl5.there
  have LT:PySem.W.Looks (model X.prog X.w) h5 (typeOf (.ref y)) cls:=hobc▸(PySem.W.Looks.ld hob).andThen .now
  refine (PySem.W.exm_one (M:=model X.prog X.w) I5.kIn LT em) _ _ _ _ (fun _ _ e=>e) ?_
  refine codeAny_handlers_suite_as ?_
  refine lands_againW fl5 fun h6 fl6 sm6=>?_
  have I6:Inv X pins σ0 H1 {s1 with heap:=h6}:=I0.flown os bare un hok hB fl6.1 ((sm4.trans sm5).trans sm6)
  obtain ⟨_,_,_,oe,vs,T,oT,ts,he,hc,hd,_⟩:=id fl6
  have hyl:y≠X.env.locals:=fun z=>by
   obtain ⟨m,⟨o,es,ep,ho,hod,_⟩,_⟩:=I0.loc
   rw [←z] at ho
   exact hx o ho
  have hyc:∀z c,X.env.cells.lookup z=some c->c≠y:=fun z c e t=>by
   obtain ⟨v,o,ho,_⟩:=I0.cell z c e
   rw [t] at ho
   exact hx o ho
  have I6t:=IU (s1:={s1 with heap:=h6}) I0 I6 hx hx1 he hc.1 hd hyl hyc
  refine nB (X:=Xh X (.ref y)) (v:=V.ref y) (I6t.toH) hN hi (.inl hk) rfl (fun s7 I7=>?_) (.inr hk)
  refine wpAny_mono (hh (.ref y) pins s7 _ _ _ I7 (q y hx1)) (fun f s8 h8=>?_) fun _ _ z=>z.elim
  cases f with
  | next=>obtain ⟨σ8,H8,J,q8⟩:=h8;exact sM (J.ofH I.ok) hN hi hk fun s9 J9=>⟨_,_,J9,q8⟩
  | brk=>obtain ⟨σ8,H8,J,q8⟩:=h8;exact sM (J.ofH I.ok) hN hi hk fun s9 J9=>⟨_,_,J9,q8⟩
  | cont=>obtain ⟨σ8,H8,J,q8⟩:=h8;exact sM (J.ofH I.ok) hN hi hk fun s9 J9=>⟨_,_,J9,q8⟩
  | ret u=>obtain ⟨v,σ8,H8,J,r,q8⟩:=h8;exact sM (J.ofH I.ok) hN hi hk fun s9 J9=>⟨v,_,_,J9,r,q8⟩
noncomputable def J3 (sp:Sp)(dvs:List V)(E':XT)(t:TA):TE:=fun σ H Q=>t σ H fun vs H1=>sp (vs++dvs) H1 Q fun cls _ H'=>E' cls σ H'
theorem J4 {pins:List (Addr×Obj)}{E':XT}{k:Nat}{f:Addr}{fd:FuncData}{ps:List Str}{sp:Sp}{dvs:List V}{ds:List Value}{x:Str}{p pos:Pos}{e:Expr}{es:List Expr}{t:TA}
  (F:aH X.prog X.w X.K X.mg X.base (CXf X.prog X.w) k f fd ps sp) (hr:iQ k X.A) (hg:Gl X x) (hm:X.mg x=some (.ref f)) (hk:PySem.W.keepIn X.K (.ref f)=true) (hb:iI X.K fd ps ds) (hd:bJ dvs ds)
  (ha:PA (Xt X pins E') (e::es) t) (hdb:(x == ("__debug__":Str))=false:=by decide) (he:starEach (e::es) X.env=(false,eval e X.env)::starEach es X.env:=by rfl) (hpl:(backTo pos (starEach es X.env)).any (·.1)=false:=by rfl) :
  PE (Xt X pins E') (.Call (.Name x p) (e::es) [] pos) (J3 sp dvs E' t):=by
 intro pins' s σ H Q I h
 refine wpAny_Call_Name_kw (sA (X:=Xt X pins E') I hg hm ?_ hdb)
 refine PySem.W.callWith_K (h₀:=X.base) I.ok.mod.kin hk (thn (ha pos pins' s σ H _ I h) fun us s1 ⟨vs,H1,I1,r,q⟩=>⟨I1.kIn,?_⟩) he hpl
 have r2:bJ (vs++dvs) (us++ds):=r.append hd
 have hl:(us++ds).length=ps.length:=by rw [←r2.length];exact F.len _ _ _ _ q
 refine wpAny_call (codeAny_mono (F.run X.A X.stack s1 H1 ⟨us,[]⟩ (us++ds) (vs++dvs) Q _ hr I1.env0 (hb s1 us I1.kIn hl) r2 q) fun r s' hq=>?_)
 cases r with
 | error e=>exact ⟨σ,H1,s1,I1.ofT,hq⟩
 | ok fl=>
  cases fl with
  | ret u=>exact I1.after hq
  | next=>exact False.elim hq
  | brk=>exact False.elim hq
  | cont=>exact False.elim hq
end
end L2
namespace L2
open PySem PySem.W PySem.Spec PyProof.Rows
structure ExI (K:Frag)(C:Addr):Prop where
 ex:ExC K C
 ca:findIn K (.ref C) "__class__"=some (some (.builtin "object.__class__"))
 mo:mroIn K C (.type "object")=some true
section
variable {prog:Program}{w:World}{A:Around}{E:Value->Shared->Prop}{h:Heap}{g:Array GenState}{d:Drawn}{t:Nat}{os:OsState}{a:Addr}{o:Obj}{vs:Array Value}{K:Frag}{C:Addr}
theorem LV {R:Result->Shared->Prop}{tp:Value}(X:K.In h)(O:ExI K C)(hx:h.get? a=some o)(hc:o.cls=.ref C)(hq:R (.ok (.ret (.ref C))) ⟨h,g,d,t,os⟩) :
  codeAny (model prog w) A (.call (.builtin "getset_descriptor.__get__") ⟨[.builtin "object.__class__",.ref a,tp],[]⟩) R ⟨h,g,d,t,os⟩:=by
 have L0:Looks (model prog w) h (typeOf (.ref a)) (.ref C):=hc▸(Looks.ld hx).andThen .now
 have L1:=looks_mroIn (M:=model prog w) X O.mo
 refine codeAny_call_builtin KF.slot_gs.plain KF.entry_gs (KF.slot_gs.check _ _ _ _ _ _ _ _ KF.type_class (KF.args_gs _ _ _) ?_)
 unfold Builtin.«getset_descriptor.__get__» Builtin.Getset_descriptor.descrGet
 rw [dga_obj]
 refine wpAny_bind (wpAny_pure ?_)
 unfold Builtin.Getset_descriptor.descrGetter Builtin.Getset_descriptor.descrCheckInstance Builtin.Getset_descriptor.descrNameAndClass isInstance
 simp only [KF.owner_class]
 repeat lk
 refine ⟨Code.quiet_builtin _ (by decide +kernel),codeAny_builtin KF.entry_class ?_⟩
 unfold Builtin.«object.__class__» shownTypeOf
 repeat lk
 exact hq
theorem IV {tk:Tok}{Q:PySem.Fin->Shared->Prop}(X:K.In h)(O:ExI K C)(hx:h.get? a=some o)(hc:o.cls=.ref C)(hq:Q (.done (.ret (.ref C))) ⟨h,g,d,t,os⟩) :
  wpAny (model prog w) A (Builtin.«object.__getattribute__» ⟨[.ref a,.str "__class__" tk],[]⟩) Q E ⟨h,g,d,t,os⟩:=by
 have L2:=looks_findIn (M:=model prog w) X O.ca
 have f5:=KF.type_class
 have f6:=KF.slot_gs.lookup
 have f7:=PySem.F.slot_gs_set.lookup
 repeat (any_goals (first | assumption | (with_reducible refine wpAny_loadPart_at hx ?_;rw [hc]) | with_reducible refine L2.at ?_ | wp_step))
 refine LV X O hx hc ?_
 repeat (any_goals (first | assumption | wp_step))
theorem Ka {tk:Tok}{R:Result->Shared->Prop}(X:K.In h)(O:ExI K C)(hx:h.get? a=some o)(hc:o.cls=.ref C)(hq:R (.ok (.ret (.ref C))) ⟨h,g,d,t,os⟩) :
  codeAny (model prog w) A (.call (.builtin "BaseException.__getattribute__") ⟨[.ref a,.str "__class__" tk],[]⟩) R ⟨h,g,d,t,os⟩:=by
 obtain ⟨nm,q,N,bs,bm,hdct,sn,sub,ab,col,dd,k0,k1,k2,k3,k5,mN,Oe⟩:=O.ex.ex
 obtain ⟨hC,hN,hmN,T⟩:=Oe h X
 exact codeAny_call_builtin PySem.F.attrBase_ValueError.ga.plain PySem.F.entry_bexc_ga (wpAny_check_ga_own PySem.F.attrBase_ValueError hC T hx hc (IV X O hx hc hq))
theorem Om {tk:Tok}{fill expr:Bool}{Q:Value->Shared->Prop}(X:K.In h)(O:ExI K C)(hx:h.get? a=some o)(hc:o.cls=.ref C)(hq:Q (.ref C) ⟨h,g,d,t,os⟩) :
  wpAny (model prog w) A (getAttrBy (.ref a) (.str "__class__" tk) fill expr) Q E ⟨h,g,d,t,os⟩:=by
 obtain ⟨nm,q,N,bs,bm,hdct,sn,sub,ab,col,dd,k0,k1,k2,k3,k5,mN,Oe⟩:=O.ex.ex
 obtain ⟨hC,hN,hmN,T⟩:=Oe h X
 have FB:=PySem.F.attrBase_ValueError
 have f3:=FB.ga.bind (.ref a)
 have hx0:(expr && onTheHeap (Value.builtin "BaseException.__getattribute__"))=false:=by cases expr<;>rfl
 have hx2:(Value.builtin "BaseException.__getattribute__" == Value.builtin "object.__getattribute__")=false:=by decide +kernel
 have hx1:(onTheHeap (Value.ref C) && Value.builtin "BaseException.__getattribute__" == Value.builtin "object.__getattribute__")=false:=by rw [hx2];rfl
 have hm1:("__getattribute__":Str)∈quietNames:=.tail _ (.head _)
 have hm2:("__getattr__":Str)∈quietNames:=.tail _ (.tail _ (.head _))
 repeat (any_goals (first | assumption | (with_reducible refine wpAny_loadPart_at hx ?_;rw [hc]) | with_reducible refine wpAny_typeLookup_tailQ hm1 hC hN hmN T FB.mro FB.ga.lookup ?_ | with_reducible refine wpAny_typeLookup_tailQ hm2 hC hN hmN T FB.mro FB.noGetattr ?_ | wp_step))
 refine Ka X O hx hc ?_
 repeat (any_goals (first | assumption | wp_step))
theorem Kb {Q:Option Value->Shared->Prop}(X:K.In h)(O:ExI K C)(hx:h.get? a=some o)(hc:o.cls=.ref C)(hq:Q (some (.ref C)) ⟨h,g,d,t+1,os⟩) :
  wpAny (model prog w) A (getAttr? (.ref a) "__class__") Q E ⟨h,g,d,t,os⟩:=by
 unfold getAttr? getAttrBy?
 repeat (any_goals (first | assumption | with_reducible apply Om X O hx hc | wp_step))
theorem Kc (O:ExI K C):KitX K (.ref a) (.ref C) (fun h=>∃o vs,h.get? a=some o/\o.cls=.ref C/\o.data=.fields vs) where
 ty:=fun _ _ _ ⟨o,vs,h1,h2,_⟩=>h2▸(Looks.ld h1).andThen .now
 it:=fun M h X _=>by
  obtain ⟨nm,q,N,bs,bm,hdct,sn,sub,ab,col,dd,k0,k1,k2,k3,k5,mN,Oe⟩:=O.ex.ex
  obtain ⟨hC,_⟩:=Oe h X
  intro A' Q' E' s' k q
  unfold isType loadHead
  exact wpAny_bind (wpAny_loadPart (k _ _ hC) (wpAny_pure q))
 ne:=fun h tp dd its n sl X htp=>by
  obtain ⟨nm,q,N,bs,bm,hdct,sn,sub,ab,col,dd',k0,k1,k2,k3,k5,mN,Oe⟩:=O.ex.ex
  obtain ⟨hC,_⟩:=Oe h X
  refine Bool.eq_false_iff.mpr fun q=>?_
  have e:C=tp:=Value.ref.inj (beq_iff_eq.mp q)
  subst e
  have z:=congrArg Obj.data (Option.some.inj (hC.symm.trans htp))
  exact nomatch z
 ca:=fun {_ _ _ _ _ s} X ⟨o,vs,h1,h2,_⟩ k=>by
  obtain ⟨h,g,d,t,os⟩:=s
  exact Kb X O h1 h2 k
end
noncomputable def IW:V->Value
 | .ref a=>.ref a
 | .ty n=>.type n
 | _=>.none
noncomputable def GH (K:Frag):List V->Hp->VK->Prop:=fun xs H Q=>∃y c C b,xs=[.ref y,c]/\IW c≠.none/\H y=some (De y (.ref C))/\ExI K C/\kitOne K (.ref C) (IW c)=some b/\Q (.bl b) H
theorem qm {X:Cx}:iG X (.builtin "isinstance") (GH X.K):=by
 intro pins s σ H xs us Q I r h
 obtain ⟨y,c,C,b,rfl,hc,hy,O,e,q⟩:=h
 obtain ⟨u,v,rfl,ru,rv⟩:=HJ r
 cases ru
 have hv:v=IW c:=by
  cases c with
  | ref a=>exact rv
  | ty n=>exact rv
  | _=>exact absurd rfl hc
 rw [hv]
 obtain ⟨φ,_,_⟩:=I.hok y _ hy
 exact kia_one (Kc O) I.kIn φ e (fun z=>nomatch z) fun tk=>⟨.bl b,H,I.tok tk,rfl,q⟩
end L2
namespace L2
open PySem PySem.Spec PyProof.Rows
theorem eK {X:Cx}{x:Str}{v:V}{pos:Pos}(hg:Gl X x)(h:∃u,X.mg x=some u/\cw v u)(hd:(x == ("__debug__":Str))=false:=by decide):PE X (.Name x pos) (tC v):=
 let ⟨_,hm,r⟩:=h
 sC hg hm r hd
theorem Kd {K:PySem.W.Frag}{H:Hp}{Q:VK}{y C:Addr}{c:V}{b:Bool}(hy:H y=some (De y (.ref C)))(O:ExI K C)(e:PySem.W.kitOne K (.ref C) (IW c)=some b)(hc:IW c≠.none)(q:Q (.bl b) H):GH K [.ref y,c] H Q:=
 ⟨y,c,C,b,rfl,hc,hy,O,e,q⟩
theorem qo {a:Addr}:IW (.ref a)≠.none:=by intro h;cases h
noncomputable def eqL:List V->List V->Bool
 | [],[]=>true
 | x::xs,y::ys=>eqV x y && eqL xs ys
 | _,_=>false
theorem y0:∀{xs ys:List V},eqL xs ys=true->xs.length=ys.length
 | [],[],_=>rfl
 | _::_,_::_,h=>by
  unfold eqL at h
  rw [Bool.and_eq_true] at h
  simp [y0 h.2]
 | [],_::_,h=>by cases h
 | _::_,[],h=>by cases h
noncomputable def Oo (K:PySem.W.Frag):R2:=fun x y H Q=>∃a b xs ys,x=.ref a/\y=.ref b/\SqL K H a xs/\SqL K H b ys/\xs.all cx=true/\ys.all cx=true/\Q (.bl (eqL xs ys)) H
theorem y3:∀{xs ys:List V},xs.length=ys.length->(List.range xs.length).all (fun j=>eqV (xs.getD j .non) (ys.getD j .non))=eqL xs ys
 | [],[],_=>rfl
 | x::xs,y::ys,h=>by
  have ih:=y3 (xs:=xs) (ys:=ys) (by simpa using h)
  rw [List.length_cons,List.range_succ_eq_map,List.all_cons,List.all_map]
  show (eqV x y && (List.range xs.length).all (fun j=>eqV (xs.getD j .non) (ys.getD j .non)))=(eqV x y && eqL xs ys)
  rw [ih]
 | [],_::_,h=>by simp at h
 | _::_,[],h=>by simp at h
theorem Oq {X:Cx}(hu:X.A.units < cLine):OpR X (compareOp .Eq) (Oo X.K):=by
 intro pins s σ H x y u v Q I rx ry h
 obtain ⟨a,b,xs,ys,rfl,rfl,ha,hb,fa,fb,q⟩:=h
 cases rx;cases ry
 obtain ⟨ia,ra,pa,za⟩:=I.list ha
 obtain ⟨ib,rb,pb,zb⟩:=I.list hb
 have la:=ra.length
 have lb:=rb.length
 by_cases hl:xs.length=ys.length
 ·refine PySem.SeqAt.eq_listAt (e:=fun j=>eqV (xs.getD j .non) (ys.getD j .non)) pa.isList pb.isList (by simp only [List.size_toArray];omega) hu (fun j h1 h2=>?_) ?_
  ·simp only [List.size_toArray] at h1 h2
   have hx:xs[j]?=some (xs.getD j .non):=by
    rw [List.getD_eq_getElem?_getD,List.getElem?_eq_getElem (by omega)];rfl
   have hy:ys[j]?=some (ys.getD j .non):=by
    rw [List.getD_eq_getElem?_getD,List.getElem?_eq_getElem (by omega)];rfl
   obtain ⟨u,eu,ru⟩:=ra.get hx
   obtain ⟨v,ev,rv⟩:=rb.get hy
   have e1:ia.toArray[j]=u:=by
    have:=List.getElem?_eq_some_iff.mp eu
    simpa using this.2
   have e2:ib.toArray[j]=v:=by
    have:=List.getElem?_eq_some_iff.mp ev
    simpa using this.2
   rw [e1,e2]
   exact xo ru rv (List.all_eq_true.mp fa _ (List.mem_of_getElem? hx)) (List.all_eq_true.mp fb _ (List.mem_of_getElem? hy))
  ·have e:(List.range ia.toArray.size).all (fun j=>eqV (xs.getD j .non) (ys.getD j .non))=eqL xs ys:=by
    rw [List.size_toArray,←la]
    exact y3 hl
   rw [e]
   exact ⟨.bl (eqL xs ys),H,I,rfl,q⟩
 ·refine PySem.SeqAt.eq_list_lengthsAt pa.isList pb.isList (by simp only [List.size_toArray,bne_iff_ne,ne_eq];omega) hu ?_
  have e:eqL xs ys=false:=by
   cases z:eqL xs ys with
   | false=>rfl
   | true=>exact absurd (y0 z) hl
  rw [e] at q
  exact ⟨.bl false,H,I,rfl,q⟩
noncomputable def QD (K:PySem.W.Frag)(te:TE)(ts:TO):TE:=fun σ H Q=>te σ H fun x H1=>ts σ H1 fun k H2=>k=some (-1)/\∃a xs,x=.ref a/\SqL K H2 a xs/\∀p,H2 p=none->Q (.ref p) (upd H2 p (.lst xs.reverse))
end L2
namespace L2
theorem cM.of {ds:List Int}(l2:2<=ds.length)(l6:ds.length<=6)(b:∀i,i < ds.length->0<=ds.getD i 0/\ds.getD i 0<=500)(u:∀i,i+1 < ds.length->ds.getD i 0 < ds.getD (i+1) 0):cM ds:=by
 have get:∀i (h:i < ds.length),ds[i]=ds.getD i 0:=fun i h=>by rw [List.getD_eq_getElem?_getD,List.getElem?_eq_getElem h];rfl
 have up:∀k i,i+k+1 < ds.length->ds.getD i 0 < ds.getD (i+k+1) 0:=by
  intro k
  induction k with
  | zero=>intro i h;exact u i h
  | succ k ih=>
   intro i h
   have h1:=ih i (by omega)
   have h2:=u (i+k+1) (by omega)
   rw [show i+(k+1)+1=i+k+1+1 by omega]
   omega
 refine ⟨l2,l6,fun d hd=>?_,fun d hd=>?_,List.pairwise_iff_getElem.mpr fun i j hi hj hij=>?_⟩
 ·obtain ⟨i,hi,rfl⟩:=List.getElem_of_mem hd
  rw [get i hi];exact (b i hi).1
 ·obtain ⟨i,hi,rfl⟩:=List.getElem_of_mem hd
  rw [get i hi];exact (b i hi).2
 ·rw [get i hi,get j hj]
  have:=up (j - i - 1) i (by omega)
  rw [show i+(j - i - 1)+1=j by omega] at this
  exact this
end L2
namespace L2
end L2
namespace L2
open PySem PySem.W PySem.Spec PyProof.Rows
noncomputable def zm:V->Option String
 | .non=>some "NoneType"
 | .bl _=>some "bool"
 | .int _=>some "int"
 | .str _=>some "str"
 | _=>none
def TyX (K:Frag)(H:Hp)(x:V)(T:String):Prop:=zm x=some T\/(∃a xs,x=.ref a/\SqL K H a xs/\T="list")\/∃a xs,x=.ref a/\SqT K H a xs/\T="tuple"
noncomputable def my:List String:=["NoneType","bool","int","str","list","tuple"]
noncomputable def En (T n:String):Bool:=T == n || (T == "bool" && n == "int")
theorem Ia {K:Frag}{T n:String}(hT:T∈my)(hn:n∈my):kitOne K (.type T) (.type n)=some (En T n):=by
 simp only [my,List.mem_cons,List.not_mem_nil,or_false] at hT hn
 rcases hT with rfl | rfl | rfl | rfl | rfl | rfl<;>rcases hn with rfl | rfl | rfl | rfl | rfl | rfl<;>with_unfolding_all rfl
theorem Ib {K:Frag}{T:String}(hT:T∈my):∀{ns:List String},(∀n∈ns,n∈my)->kitAny K (.type T) (ns.map Value.type)=some (ns.any (En T))
 | [],_=>rfl
 | n::r,h=>by
  have ih:=Ib (K:=K) hT (ns:=r) fun m hm=>h m (List.mem_cons_of_mem _ hm)
  rw [List.map_cons,List.any_cons]
  unfold kitAny
  rw [Ia hT (h n List.mem_cons_self)]
  cases e:En T n with
  | true=>rfl
  | false=>rw [Bool.false_or];exact ih
section
variable {X:Cx}{pins:List (Addr×Obj)}{σ:St}{H:Hp}{s:Shared}
theorem BM {K:Frag}{x:V}{T:String}(h:TyX K H x T):T∈my:=by
 rcases h with h | ⟨_,_,_,_,rfl⟩ | ⟨_,_,_,_,rfl⟩
 ·cases x<;>simp only [zm,Option.some.injEq,reduceCtorEq] at h<;>subst h<;>decide
 ·decide
 ·decide
theorem Eo (I:Inv X pins σ H s){x:V}{u:Value}{T:String}(rx:cw x u)(ty:TyX X.K H x T):∃φ:Heap->Prop,KitX X.K u (.type T) φ/\φ s.heap/\u≠.builtin "__main__.__loader__#opaque":=by
 rcases ty with h | ⟨a,xs,rfl,h,rfl⟩ | ⟨a,xs,rfl,h,rfl⟩
 ·cases x with
  | non=>cases rx;cases h;exact ⟨_,kitx_none,trivial,fun z=>nomatch z⟩
  | bl b=>cases rx;cases h;exact ⟨_,kitx_bool,trivial,fun z=>nomatch z⟩
  | int i=>obtain ⟨t,rfl⟩:=rx;cases h;exact ⟨_,kitx_int,trivial,fun z=>nomatch z⟩
  | str i=>obtain ⟨t,rfl⟩:=rx;cases h;exact ⟨_,kitx_str,trivial,fun z=>nomatch z⟩
  | _=>cases h
 ·cases rx
  obtain ⟨its,r,pl,hz⟩:=I.list h
  obtain ⟨o,ho,hc,_⟩:=pl.isList
  exact ⟨_,kitx_list,⟨o,ho,hc⟩,fun z=>nomatch z⟩
 ·cases rx
  obtain ⟨its,r,⟨o,ho,hc,_⟩,hz⟩:=I.tuple h
  exact ⟨_,kitx_tuple,⟨o,ho,hc⟩,fun z=>nomatch z⟩
noncomputable def PR (K:Frag):List V->Hp->VK->Prop:=fun xs H Q=>∃x n T,xs=[x,.ty n]/\TyX K H x T/\n∈my/\Q (.bl (En T n)) H
theorem lh:iG X (.builtin "isinstance") (PR X.K):=by
 intro pins s σ H xs us Q I r h
 obtain ⟨x,n,T,rfl,ty,hn,q⟩:=h
 obtain ⟨u,v,rfl,ru,rv⟩:=HJ r
 cases rv
 obtain ⟨φ,Z,p,ne⟩:=Eo I ru ty
 exact kia_one Z I.kIn p (Ia (BM ty) hn) ne fun tk=>⟨.bl _,H,I.tok tk,rfl,q⟩
noncomputable def PU (K:Frag):List V->Hp->VK->Prop:=fun xs H Q=>∃(x:V) (tp:Addr) (ns:List String) (T:String),xs=[x,.ref tp]/\SqT K H tp (ns.map V.ty)/\TyX K H x T/\(∀n∈ns,n∈my)/\Q (.bl (ns.any (En T))) H
theorem Ic:∀{ns:List String} {its:List Value},bJ (ns.map V.ty) its->its=ns.map Value.type
 | [],_,h=>by cases h;rfl
 | n::r,_,h=>by
  cases h with
  | cons a b=>rw [Ic b];cases a;rfl
theorem xp:iG X (.builtin "isinstance") (PU X.K):=by
 intro pins s σ H xs us Q I r h
 obtain ⟨x,tp,ns,T,rfl,ht,ty,hn,q⟩:=h
 obtain ⟨u,v,rfl,ru,rv⟩:=HJ r
 cases rv
 obtain ⟨φ,Z,p,ne⟩:=Eo I ru ty
 obtain ⟨its,rt,⟨o,ho,hc,n,hd⟩,hz⟩:=I.tuple ht
 obtain rfl:=Ic rt
 obtain ⟨c,d,dt,sl⟩:=o
 dsimp only at hc hd
 subst hc hd
 exact kia_tup Z I.kIn p ho (Ib (BM ty) hn) ne fun tk=>⟨.bl _,H,I.tok tk,rfl,q⟩
end
inductive Dt where
 | flat (v:V)
 | lst (ds:List Dt)
 | tup (ds:List Dt)
inductive Rep (K:Frag)(H:Hp):Nat->V->Dt->Prop
 | flat {n:Nat} {v:V} (h:cx v=true):Rep K H n v (.flat v)
 | lst {n:Nat} {a:Addr} {xs:List V} {ds:List Dt} (hs:SqL K H a xs) (hb:xs.length<=100000) (hl:xs.length=ds.length) (hr:∀(i:Nat) x d,xs[i]?=some x->ds[i]?=some d->Rep K H n x d):Rep K H (n+1) (.ref a) (.lst ds)
 | tup {n:Nat} {a:Addr} {xs:List V} {ds:List Dt} (hs:SqT K H a xs) (hb:xs.length<=100000) (hl:xs.length=ds.length) (hr:∀(i:Nat) x d,xs[i]?=some x->ds[i]?=some d->Rep K H n x d):Rep K H (n+1) (.ref a) (.tup ds)
theorem av.tup {K:Frag}{H H':Hp}{a:Addr}{xs:List V}(e:av H H')(h:SqT K H a xs):SqT K H' a xs:=by
 rcases h with (h | ⟨o,h⟩) | h
 ·exact .inl (.inl (e _ _ h))
 ·exact .inl (.inr ⟨o,e _ _ h⟩)
 ·exact .inr h
theorem Rep.same {K:Frag}{H H':Hp}(s:av H H'){n:Nat}{x:V}{d:Dt}(h:Rep K H n x d):Rep K H' n x d:=by
 induction h with
 | flat h=>exact .flat h
 | lst hs hb hl _ ih=>exact .lst (s.seq hs) hb hl ih
 | tup hs hb hl _ ih=>exact .tup (s.tup hs) hb hl ih
theorem Ke {P:Program}{w:World}{K:Frag}{mg:Str->Option Value}{base:Heap}{CX:CXT}{k:Nat}{f:Addr}{fd:FuncData}{ps:List Str}:aH P w K mg base CX k f fd ps (fun _ _ _ _=>False):=
 ⟨fun _ _ _ _ h=>h.elim,fun _ _ _ _ _ _ _ _ _ _ _ _ _ h=>h.elim⟩
theorem qp {α:Type}{xs:List α}{k:Nat}{v:α}(h:xs[k]?=some v):atI xs (k:Int)=some v:=HQ h
end L2
namespace L2
open PySem PySem.Spec PyProof.Rows
noncomputable abbrev Ld:=Str×Int×Int
noncomputable def ldV (x:Ld):List V:=[.str x.1,.int x.2.1,.int x.2.2]
def nh (K:PySem.W.Frag)(H:Hp)(as:List Addr)(ls:List Ld):Prop:=as.length=ls.length/\∀(i:Nat) a x,as[i]?=some a->ls[i]?=some x->SqT K H a (ldV x)
def iz (K:PySem.W.Frag)(H:Hp)(l:Addr)(ls:List Ld):Prop:=∃as:List Addr,SqL K H l (as.map V.ref)/\nh K H as ls
def lz (m:Int)(x:Ld):Prop:=(0<=x.2.1/\x.2.1 < m)/\(0<=x.2.2/\x.2.2 < m)
def GI (x:Ld):Prop:=x.1="men"\/x.1="coal"
theorem nh.same {K:PySem.W.Frag}{H H':Hp}{as:List Addr}{ls:List Ld}(s:av H H')(h:nh K H as ls):nh K H' as ls:=⟨h.1,fun i a x e1 e2=>s.tup (h.2 i a x e1 e2)⟩
theorem iz.same {K:PySem.W.Frag}{H H':Hp}{l:Addr}{ls:List Ld}(s:av H H')(h:iz K H l ls):iz K H' l ls:=by
 obtain ⟨as,a,b⟩:=h
 exact ⟨as,s.seq a,b.same s⟩
theorem nh.nil {K:PySem.W.Frag}{H:Hp}:nh K H [] []:=⟨rfl,fun i a x e _=>by simp at e⟩
theorem nh.app {K:PySem.W.Frag}{H:Hp}{as bs:List Addr}{ls ks:List Ld}(h:nh K H as ls)(g:nh K H bs ks):nh K H (as++bs) (ls++ks):=by
 refine ⟨by rw [List.length_append,List.length_append,h.1,g.1],fun i a x e1 e2=>?_⟩
 by_cases hi:i < as.length
 ·rw [List.getElem?_append_left hi] at e1
  rw [List.getElem?_append_left (by rw [←h.1];exact hi)] at e2
  exact h.2 i a x e1 e2
 ·rw [List.getElem?_append_right (by omega)] at e1
  rw [List.getElem?_append_right (by rw [←h.1];omega),←h.1] at e2
  exact g.2 _ a x e1 e2
theorem nh.one {K:PySem.W.Frag}{H:Hp}{a:Addr}{x:Ld}(h:SqT K H a (ldV x)):nh K H [a] [x]:=by
 refine ⟨rfl,fun i b y e1 e2=>?_⟩
 cases i with
 | zero=>cases e1;cases e2;exact h
 | succ i=>simp at e1
theorem SqT.rew {K:PySem.W.Frag}{H:Hp}{a l:Addr}{xs ys:List V}{o:HO}(h:SqT K H a xs)(hl:H l=some (.lst ys)):SqT K (upd H l o) a xs:=by
 rcases h with (h | ⟨o',h⟩) | h
 ·refine .inl (.inl ?_)
  rw [aS (fun e=>by rw [e,hl] at h;cases h)];exact h
 ·refine .inl (.inr ⟨o',?_⟩)
  rw [aS (fun e=>by rw [e,hl] at h;cases h)];exact h
 ·exact .inr h
theorem nh.rew {K:PySem.W.Frag}{H:Hp}{as:List Addr}{ls:List Ld}{l:Addr}{ys:List V}{o:HO}(h:nh K H as ls)(hl:H l=some (.lst ys)):nh K (upd H l o) as ls:=⟨h.1,fun i a x e1 e2=>(h.2 i a x e1 e2).rew hl⟩
theorem Kf {r:Int}(h0:0<=r)(h1:r < 2):∃k:Str,(k="men"\/k="coal")/\atI [V.str "men",V.str "coal"] r=some (.str k):=by
 rcases (by omega:r=0\/r=1) with rfl | rfl
 ·exact ⟨"men",.inl rfl,rfl⟩
 ·exact ⟨"coal",.inr rfl,rfl⟩
theorem xq {J:It}{g:TG}{tc:TT}{te:TE}{cm:List (Option Nat)}{σ:St}{Q:VK}{H:Hp}(n:Nat)(Pv:Nat->List V->Hp->Prop)(h0:Pv 0 [] H)
  (hgo:∀i acc H,i < n->Pv i acc H->J.go i H) (hst:∀acc H,Pv n acc H->J.stop n H)
  (hs:∀i acc H,i < n->Pv i acc H->acc.length < sizeLine/\∀x H',J.yld i H x H'->∀M:List V->Hp->Prop,(∀acc' H',Pv (i+1) acc' H'->M acc' H')->g x (cK cm σ) H' fun σ2 H2=>Wk (cK cm σ) σ2/\tc σ2 H2 fun b H3=>if b=true then te σ2 H3 fun v H4=>M (acc++[v]) H4 else M acc H3)
  (hd:∀acc H,Pv n acc H->∀p,H p=none->Q (.ref p) (upd H p (.lst acc))):vy J g tc te cm σ Q H:=by
 refine ⟨fun i m acc H=>m=n - i/\i<=n/\Pv i acc H,⟨n,by simp,Nat.zero_le _,h0⟩,?_⟩
 rintro i m acc H ⟨rfl,hi,p⟩
 by_cases hlt:i < n
 ·obtain ⟨hz,q⟩:=hs i acc H hlt p
  refine .inr ⟨hgo i acc H hlt p,hz,fun x H' y=>q x H' y (fun acc' H4=>∃m',m' < n - i/\m'=n - (i+1)/\i+1<=n/\Pv (i+1) acc' H4) fun acc' H4 q=>⟨n - (i+1),by omega,rfl,hlt,q⟩⟩
 ·have e:i=n:=by omega
  subst e
  exact .inl ⟨hst acc H p,hd acc H p⟩
theorem Kg {σ:St}{j:Nat}{x:V}(hj:σ[j]?=some none):Wk σ (σ.set j (some x)):=by
 refine ⟨by simp,fun k v e=>?_⟩
 by_cases hk:j=k
 ·subst hk;rw [hj] at e;cases e
 ·rw [List.getElem?_set_ne hk];exact e
theorem vz {lo:Int}{n:Nat}{te:TE}{cm:List (Option Nat)}{σ:St}{H:Hp}{Q:VK}(Pv:Nat->List V->Hp->Prop)(h0:Pv 0 [] H){j:Nat}(hj:(cK cm σ)[j]?=some none)
  (hs:∀i acc H,i < n->Pv i acc H->acc.length < sizeLine/\∀N:VK,(∀v H',Pv (i+1) (acc++[v]) H'->N v H')->te ((cK cm σ).set j (some (.int (lo+i)))) H N)
  (hd:∀acc H,Pv n acc H->∀p,H p=none->Q (.ref p) (upd H p (.lst acc))):vy (Itr lo n) (gN j) yK te cm σ Q H:=by
 refine xq n Pv h0 (fun i _ _ hi _=>hi) (fun _ _ _=>Nat.le_refl _) (fun i acc H hi p=>⟨(hs i acc H hi p).1,fun x H' y M hM=>?_⟩) hd
 obtain ⟨e,y⟩:=y
 subst e y
 refine ⟨Kg hj,?_⟩
 unfold yK;dsimp only
 split
 ·exact (hs i acc H' hi p).2 _ fun v H4 q=>hM _ _ q
 ·rename_i z;exact absurd rfl z
theorem gy {K:PySem.W.Frag}{H:Hp}{a:Addr}{xs:List V}{n:Nat}(h:SqT K H a xs)(hb:xs.length<=100000)(hf:∀x∈xs,cx x=true):Rep K H (n+1) (.ref a) (.tup (xs.map Dt.flat)):=by
 refine .tup h hb (by rw [List.length_map]) fun i y d e1 e2=>?_
 rw [List.getElem?_map,e1] at e2
 cases e2
 exact .flat (hf y (List.mem_of_getElem? e1))
section
variable {X:Cx}{e:Expr}{te:TE}{p1 p2 pos1 pos2:Pos}
noncomputable def Kh (K:PySem.W.Frag)(te:TE):TE:=fun σ H Q=>te σ H fun x H1=>∃(a:Addr) (ns:List Int),x=.ref a/\SqL K H1 a (ns.map V.int)/\ns.length < 64/\
 ∀(l:Addr) (ms:List Int),H1 l=none->ms.Pairwise (· < ·)->(∀k,k∈ms↔k∈ns)->Q (.ref l) (upd H1 l (.lst (ms.map V.int)))
theorem BN:∀{vs:List Value} {ms:List Int},IntsAre vs ms->bJ (ms.map V.int) vs
 | _,_,.nil=>.nil
 | _,_,.cons n t h=>.cons ⟨t,rfl⟩ (BN h)
theorem xr:∀{ms:List Int} {vs:List Value},bJ (ms.map V.int) vs->IntsAre vs ms
 | [],_,h=>by cases h;exact .nil
 | m::ms,_,h=>by
  cases h with
  | cons a b=>
   obtain ⟨t,rfl⟩:=a
   exact .cons m t (xr b)
end
section
variable {X:Cx}
theorem Inv.turnedL {pins:List (Addr×Obj)}{σ:St}{H:Hp}{s:Shared}{h':Heap}{t':Nat}{fp:List Addr}(I:Inv X pins σ H s)(k:∀b o,b∉fp->s.heap.get? b=some o->h'.get? b=some o)(hf:∀b∈fp,qg X pins H b) :
  Inv X pins σ H {s with heap:=h',toks:=t'}:=by
 have nit:∀b u,H b=some u->b∉fp:=fun b u e z=>by rw [(hf b z).1] at e;cases e
 refine I.step (g':=s.gens) (d':=s.drawn) (ch:=fp) (fun b hb=>⟨(hf b hb).2.2.2.1,(hf b hb).2.1,(hf b hb).2.2.2.2.1,(hf b hb).2.2.2.2.2⟩) (fun b o _ _ hc e _=>k b o hc e) (fun b o _ _ hc e _=>⟨o.slots,k b o hc e⟩) (fun _ _ _ _ n=>n)
  (fun b o hc e=>⟨o,k b o hc e⟩) (fun _ _ e=>e) (fun _ _ _ e=>e) (fun b ps e=>⟨#[],by rw [e];simp⟩) (fun m hm=>?_) (fun b u e=>?_) I.bare
 ·obtain ⟨o,es,ep,ho,r⟩:=hm
  exact ⟨o,es,ep,k _ o (fun z=>(hf _ z).2.1 rfl) ho,r⟩
 ·refine (I.hok b u e).stay (fun c v hc q=>k c v ?_ q) (fun _ q=>q) fun _ _ q=>q
  rcases hc with z | z
  ·exact z▸nit b u e
  ·exact nit c _ z
theorem Inv.handed {pins:List (Addr×Obj)}{σ:St}{H:Hp}{s:Shared}{h':Heap}{t':Nat}{fp:List Addr}{xs:List V}{us:List Value}{T:Addr}{n:Nat}(I:Inv X pins σ H s)(k:∀b o,b∉fp->s.heap.get? b=some o->h'.get? b=some o)(hf:∀b∈fp,qg X pins H b)
  (hT:s.heap.objs.size<=T) (hz:xs.length<=sizeLine) (r:bJ xs us) (e:h'.get? T=some {cls:=.type "tuple",data:=.seq us.toArray n}):Inv X pins σ (upd H T (.tup xs)) {s with heap:=h',toks:=t'}:=by
 have I1:Inv X pins σ H {s with heap:=h',toks:=t'}:=I.turnedL k hf
 have hn:H T=none:=I.hok.fresh hT
 obtain ⟨f0,f1,f2,f3,f4,f5⟩:=I.fpOk hT hn
 have h0:X.s₀.heap.objs.size<=T:=Nat.le_trans I.sz hT
 exact I1.track hn h0 f1 f4 f5 ⟨hz,us,r,⟨_,e,⟨rfl,_,rfl⟩,rfl⟩⟩
noncomputable def Ite (K:PySem.W.Frag)(a:Addr):It:=
 ⟨fun i H=>∃xs x,SqL K H a xs/\xs[i]?=some x,fun i H y H'=>∃t x,y=.ref t/\H t=none/\H'=upd H t (.tup [.int (i:Nat),x])/\∀xs,SqL K H a xs->xs[i]?=some x,fun i H=>∃xs,SqL K H a xs/\xs.length<=i⟩
theorem IX {P:Program}{w:World}{K:PySem.W.Frag}{elts:List Expr}{x1:Nat}{tpos:Pos}(a e it:Addr)(hne:e≠it):JF P w K (.Tuple elts x1 tpos) (Ite K a) [e,it] e (fun i h=>(∃old,IsEnum h e it (i:Nat) old)/\h.IsListIter it a i) where
 mem:=by simp
 obj:=fun i h st b hb=>by
  obtain ⟨⟨old,h1⟩,o,h2,_,h3⟩:=st
  rcases List.mem_cons.mp hb with rfl | hb
  ·exact ⟨_,h1,fun v z=>by
    have z':Data.fields _=Data.cell v:=z
    cases z'⟩
  ·rw [List.mem_singleton] at hb
   subst hb
   exact ⟨o,h2,fun v z=>by rw [h3] at z;cases z⟩
 keep:=fun i h h' st k=>by
  obtain ⟨⟨old,h1⟩,h2⟩:=st
  exact ⟨⟨old,k e (by simp) _ h1⟩,h2.at fun o q=>k it (by simp) o q⟩
 item:=by
  intro X hP hw hK hc i pins s σ H E I hf st hg
  subst hP hw hK
  obtain ⟨xs,x,hq,hx⟩:=hg
  obtain ⟨its,rv,p,hz⟩:=I.list hq
  obtain ⟨u,hu,ru⟩:=rv.get hx
  obtain ⟨⟨old,h1⟩,h2⟩:=st
  have hel:e < s.heap.objs.size:=Heap.lt_size h1
  have hil:it < s.heap.objs.size:=by
   obtain ⟨o,q,_⟩:=h2
   exact Heap.lt_size q
  refine wpAny_pyNext_enum_item h1 h2 p.isList (x:=u) (by simpa using hu) hne fun h' g1 g2 g3 g4 g5=>?_
  have kf:∀b o,b∉[e,it]->s.heap.get? b=some o->h'.get? b=some o:=fun b o hb q=>g5 b o (fun z=>hb (by simp [z])) (fun z=>hb (by simp [z])) q
  have I1:Inv X pins σ (upd H s.heap.objs.size (.tup [.int (i:Nat),x])) {s with heap:=h',toks:=s.toks+1}:=I.handed (us:=[Value.int (i:Nat) s.toks,u]) kf hf (Nat.le_refl _) (by show 2<=sizeLine;decide) (.cons ⟨_,rfl⟩ (.cons ru .nil)) g3
  have hn:H s.heap.objs.size=none:=I.hok.fresh (Nat.le_refl _)
  have hf1:∀b∈[e,it],upd H s.heap.objs.size (.tup [.int (i:Nat),x]) b=none:=fun b hb=>by
   have hlt:b < s.heap.objs.size:=by
    rcases List.mem_cons.mp hb with rfl | hb
    ·exact hel
    ·rw [List.mem_singleton] at hb
     subst hb
     exact hil
   rw [aS (Nat.ne_of_lt hlt)]
   exact (hf b hb).1
  refine ⟨_,rfl,wpAny_letOwnedTupleGo_enum (s:={s with heap:=h',toks:=s.toks+1}) g1 fun h2' q1 q2=>?_⟩
  have I2:Inv X pins σ (upd H s.heap.objs.size (.tup [.int (i:Nat),x])) {s with heap:=h2',toks:=s.toks+1}:=I1.turnedL (s:={s with heap:=h',toks:=s.toks+1}) (t':=s.toks+1) (fp:=[e,it]) (fun b o hb q=>(q2.2 b (fun z=>hb (by simp [z]))).trans q) fun b hb=>⟨hf1 b hb,(hf b hb).2⟩
  refine ⟨.ref s.heap.objs.size,_,I2,rfl,⟨_,x,rfl,hn,rfl,fun ys hy=>by rw [I.list_inj hy hq];exact hx⟩,⟨⟨u,?_⟩,?_⟩,hf1⟩
  ·have:((i+1:Nat):Int)=(i:Int)+1:=by omega
   rw [this]
   exact q1
  ·exact g2.at fun o q=>(q2.2 it (Ne.symm hne)).trans q
 done:=by
  intro X hP hw hK hc i pins s σ H E I hf st hg
  subst hP hw hK
  obtain ⟨xs,hq,hx⟩:=hg
  obtain ⟨its,rv,p,hz⟩:=I.list hq
  have hl:=rv.length
  obtain ⟨⟨old,h1⟩,h2⟩:=st
  exact wpAny_pyNext_enum_end (I.ok.hd hc) h1 h2 p.isList (by simp;omega) fun h' eb=>⟨rfl,I.turnedL (t':=s.toks) (fun b o hb q=>eb b o (fun z=>hb (by simp [z])) q) hf⟩
 self:=fun _ _ _ _ _ st h=>by
  obtain ⟨⟨old,h1⟩,h2⟩:=st
  exact wpAny_pyIter_enum h1 h
noncomputable def Nn (K:PySem.W.Frag)(te:TE):TI:=fun σ H R=>te σ H fun x H1=>∃a,x=.ref a/\(∃xs,SqL K H1 a xs)/\R (Ite K a) H1
theorem Df {a:Expr}{te:TE}{p pos tpos:Pos}{elts:List Expr}{x1:Nat}(hg:Gl X "enumerate")(hm:X.mg "enumerate"=none)(hb:bootBuiltins "enumerate"=some (.type "enumerate"))(he:PE X a te)(hs:starEach [a] X.env=[(false,eval a X.env)]:=by rfl) :
  PI X (.Tuple elts x1 tpos) (.Call (.Name "enumerate" p) [a] [] pos) (Nn X.K te):=by
 intro pins s σ H R I h
 refine Call_ (uV I hg hm hb (PyProof.Rows.callWith_type1 ?_ hs rfl))
 rw [hs]
 refine Calls.spliced_cons (thn (he pins s σ H _ I h) fun u s1 ⟨x,H1,I1,r1,l,ex,⟨xs,hq⟩,q⟩=>?_)
 subst ex
 cases r1
 refine Calls.spliced_nil ?_
 obtain ⟨its,rv,pl,hz⟩:=I1.list hq
 refine call_enumerate_list pl.isList fun h' h1 h2 h3 h4=>?_
 refine wpAny_pyIter_enum h1 ?_
 have hne:s1.heap.objs.size+1≠s1.heap.objs.size:=Nat.ne_of_gt (Nat.lt_succ_self _)
 refine ⟨s1.heap.objs.size+1,[s1.heap.objs.size+1,s1.heap.objs.size],_,_,H1,rfl,I1.kept (t':=s1.toks) h4,IX l _ _ hne,⟨⟨_,h1⟩,h2⟩,fun b hb=>?_,q⟩
 rcases List.mem_cons.mp hb with rfl | hb
 ·exact I1.fpOk (Nat.le_succ _) (I1.hok.fresh (Nat.le_succ _))
 ·rw [List.mem_singleton] at hb
  subst hb
  exact I1.fpOk (Nat.le_refl _) (I1.hok.fresh (Nat.le_refl _))
noncomputable def Itz (K:PySem.W.Frag)(a b:Addr):It:=
 ⟨fun i H=>∃xs ys x y,SqL K H a xs/\SqL K H b ys/\xs[i]?=some x/\ys[i]?=some y,fun i H v H'=>∃t x y,v=.ref t/\H t=none/\H'=upd H t (.tup [x,y])/\(∀xs,SqL K H a xs->xs[i]?=some x)/\∀ys,SqL K H b ys->ys[i]?=some y,
  fun i H=>∃xs ys,SqL K H a xs/\SqL K H b ys/\(xs.length<=i\/ys.length<=i)⟩
theorem Ki {P:Program}{w:World}{K:PySem.W.Frag}{elts:List Expr}{x1:Nat}{tpos:Pos}(l1 l2 z TI TO i1 i2:Addr)(D:ZipApart z TI TO i1 i2 l1 l2) :
  JF P w K (.Tuple elts x1 tpos) (Itz K l1 l2) [z,TI,TO,i1,i2] z (fun i h=>IsZip h z TI TO .none/\IsPair h TI (.ref i1) (.ref i2)/\(∃u v,IsPair h TO u v)/\h.IsListIter i1 l1 i/\h.IsListIter i2 l2 i) where
 mem:=by simp
 obj:=fun i h st b hb=>by
  obtain ⟨h1,h2,⟨u,v,h3⟩,⟨o4,h4,_,d4⟩,⟨o5,h5,_,d5⟩⟩:=st
  simp only [List.mem_cons,List.not_mem_nil,or_false] at hb
  rcases hb with rfl | rfl | rfl | rfl | rfl
  ·exact ⟨_,h1,fun v z=>by
    have z':Data.fields _=Data.cell v:=z
    cases z'⟩
  ·exact ⟨_,h2,fun v z=>by
    have z':Data.seq _ _=Data.cell v:=z
    cases z'⟩
  ·exact ⟨_,h3,fun v z=>by
    have z':Data.seq _ _=Data.cell v:=z
    cases z'⟩
  ·exact ⟨o4,h4,fun v z=>by rw [d4] at z;cases z⟩
  ·exact ⟨o5,h5,fun v z=>by rw [d5] at z;cases z⟩
 keep:=fun i h h' st k=>by
  obtain ⟨h1,h2,⟨u,v,h3⟩,h4,h5⟩:=st
  exact ⟨k z (by simp) _ h1,k TI (by simp) _ h2,⟨u,v,k TO (by simp) _ h3⟩,h4.at fun o q=>k i1 (by simp) o q,h5.at fun o q=>k i2 (by simp) o q⟩
 item:=by
  intro X hP hw hK hc i pins s σ H E I hf st hg
  subst hP hw hK
  obtain ⟨xs,ys,x,y,hq1,hq2,hx,hy⟩:=hg
  obtain ⟨its1,rv1,p1,hz1⟩:=I.list hq1
  obtain ⟨its2,rv2,p2,hz2⟩:=I.list hq2
  obtain ⟨u,hu,ru⟩:=rv1.get hx
  obtain ⟨v,hv,rv⟩:=rv2.get hy
  obtain ⟨h1,h2,⟨c1,c2,h3⟩,h4,h5⟩:=st
  have lt:∀b∈[z,TI,TO,i1,i2],b < s.heap.objs.size:=fun b hb=>by
   simp only [List.mem_cons,List.not_mem_nil,or_false] at hb
   rcases hb with rfl | rfl | rfl | rfl | rfl
   ·exact Heap.lt_size h1
   ·exact Heap.lt_size h2
   ·exact Heap.lt_size h3
   ·obtain ⟨o,q,_⟩:=h4;exact Heap.lt_size q
   ·obtain ⟨o,q,_⟩:=h5;exact Heap.lt_size q
  refine wpAny_pyNext_zip_item D h1 h2 h3 h4 h5 p1.isList p2.isList (x:=u) (y:=v) (by simpa using hu) (by simpa using hv) fun h' g1 g2 g3 g4 g5 g6 g7=>?_
  have kf:∀b o,b∉[z,TI,TO,i1,i2]->s.heap.get? b=some o->h'.get? b=some o:=fun b o hb q=>g7 b o (fun e=>hb (by simp [e])) (fun e=>hb (by simp [e])) (fun e=>hb (by simp [e])) (fun e=>hb (by simp [e])) q
  have I1:Inv X pins σ (upd H s.heap.objs.size (.tup [x,y])) {s with heap:=h',toks:=s.toks}:=I.handed (us:=[u,v]) kf hf (Nat.le_refl _) (by show 2<=sizeLine;decide) (.cons ru (.cons rv .nil)) g5
  have hn:H s.heap.objs.size=none:=I.hok.fresh (Nat.le_refl _)
  have hf1:∀b∈[z,TI,TO,i1,i2],upd H s.heap.objs.size (.tup [x,y]) b=none:=fun b hb=>by
   rw [aS (Nat.ne_of_lt (lt b hb))]
   exact (hf b hb).1
  refine ⟨_,rfl,wpAny_letOwnedTupleGo_zip (s:={s with heap:=h'}) g1 fun h2' q1 q2=>?_⟩
  have I2:Inv X pins σ (upd H s.heap.objs.size (.tup [x,y])) {s with heap:=h2',toks:=s.toks}:=I1.turnedL (s:={s with heap:=h',toks:=s.toks}) (t':=s.toks) (fp:=[z,TI,TO,i1,i2]) (fun b o hb q=>(q2.2 b (fun e=>hb (by simp [e]))).trans q) fun b hb=>⟨hf1 b hb,(hf b hb).2⟩
  have k2:∀b o,b≠z->h'.get? b=some o->h2'.get? b=some o:=fun b o hb q=>(q2.2 b hb).trans q
  have gTI:IsPair h' TI (.ref i1) (.ref i2):=g7 TI _ D.TIz D.TITO D.TIi1 D.TIi2 h2
  refine ⟨.ref s.heap.objs.size,_,I2,rfl,⟨_,x,y,rfl,hn,rfl,fun zs hz=>by rw [I.list_inj hz hq1];exact hx,fun zs hz=>by rw [I.list_inj hz hq2];exact hy⟩,⟨q1,k2 _ _ D.TIz gTI,⟨u,v,k2 _ _ D.TOz g2⟩,g3.at fun o q=>k2 _ _ D.i1z q,g4.at fun o q=>k2 _ _ D.i2z q⟩,hf1⟩
 done:=by
  intro X hP hw hK hc i pins s σ H E I hf st hg
  subst hP hw hK
  obtain ⟨xs,ys,hq1,hq2,hend⟩:=hg
  obtain ⟨its1,rv1,p1,hz1⟩:=I.list hq1
  obtain ⟨its2,rv2,p2,hz2⟩:=I.list hq2
  have hl1:=rv1.length
  have hl2:=rv2.length
  obtain ⟨h1,h2,⟨c1,c2,h3⟩,h4,h5⟩:=st
  refine wpAny_pyNext_zip_end (I.ok.hd hc) D h1 h2 h3 h4 h5 p1.isList p2.isList ?_ fun h' eb=>⟨rfl,I.turnedL (t':=s.toks) (fun b o hb q=>eb b o (fun e=>hb (by simp [e])) (fun e=>hb (by simp [e])) (fun e=>hb (by simp [e])) (fun e=>hb (by simp [e])) q) hf⟩
  rcases hend with e | e
  ·left;simp;omega
  ·right;simp;omega
 self:=fun _ _ _ _ _ st h=>wpAny_pyIter_zip st.1 h
noncomputable def PV (K:PySem.W.Frag)(ta tb:TE):TI:=fun σ H R=>ta σ H fun x H1=>tb σ H1 fun y H2=>∃a b,x=.ref a/\y=.ref b/\(∃xs,SqL K H2 a xs)/\(∃ys,SqL K H2 b ys)/\R (Itz K a b) H2
theorem Ot {a b:Expr}{ta tb:TE}{p pos tpos:Pos}{elts:List Expr}{x1:Nat}(hg:Gl X "zip")(hm:X.mg "zip"=none)(hb:bootBuiltins "zip"=some (.type "zip"))(ha:PE X a ta)(hb2:PE X b tb)(hs:starEach [a,b] X.env=[(false,eval a X.env),(false,eval b X.env)]:=by rfl)(hs2:starEach [b] X.env=[(false,eval b X.env)]:=by rfl) :
  PI X (.Tuple elts x1 tpos) (.Call (.Name "zip" p) [a,b] [] pos) (PV X.K ta tb):=by
 intro pins s σ H R I h
 refine Call_ (uV I hg hm hb (PyProof.Rows.callWith_type1 ?_ (by rw [hs,hs2]) (by rw [hs2];rfl)))
 rw [hs]
 refine Calls.spliced_cons (thn (ha pins s σ H _ I h) fun u s1 ⟨x,H1,I1,r1,q1⟩=>?_)
 refine Calls.spliced_cons (thn (hb2 pins s1 σ H1 _ I1 q1) fun v s2 ⟨y,H2,I2,r2,l1,l2,ex,ey,⟨xs,hq1⟩,⟨ys,hq2⟩,q⟩=>?_)
 subst ex ey
 cases r1
 cases r2
 refine Calls.spliced_nil ?_
 obtain ⟨its1,rv1,p1,hz1⟩:=I2.list hq1
 obtain ⟨its2,rv2,p2,hz2⟩:=I2.list hq2
 have a1:l1 < s2.heap.objs.size:=by obtain ⟨o,q,_⟩:=p1.isList;exact Heap.lt_size q
 have a2:l2 < s2.heap.objs.size:=by obtain ⟨o,q,_⟩:=p2.isList;exact Heap.lt_size q
 refine call_zip_2 p1.isList p2.isList fun h' h1 h2 h3 h4 h5 h6 h7=>?_
 refine wpAny_pyIter_zip h1 ?_
 have n0:∀l:Nat,l < s2.heap.objs.size->∀k:Nat,l≠s2.heap.objs.size+k:=fun l hl k=>by omega
 have n1:∀j k:Nat,j≠k->s2.heap.objs.size+j≠s2.heap.objs.size+k:=fun j k hjk=>by omega
 refine ⟨s2.heap.objs.size+4,[s2.heap.objs.size+4,s2.heap.objs.size+2,s2.heap.objs.size+3,s2.heap.objs.size+0,s2.heap.objs.size+1],_,_,H2,rfl,I2.kept (t':=s2.toks) h7,
  Ki l1 l2 _ _ _ _ _ ⟨n1 2 4 (by decide),n1 3 4 (by decide),n1 0 4 (by decide),n1 1 4 (by decide),n1 2 3 (by decide),n1 2 0 (by decide),n1 2 1 (by decide),n1 3 0 (by decide),n1 3 1 (by decide),n1 0 1 (by decide),n0 _ a1 4,n0 _ a1 3,n0 _ a1 0,n0 _ a1 1,n0 _ a2 4,n0 _ a2 3,n0 _ a2 0,n0 _ a2 1⟩,⟨h1,h2,⟨_,_,h3⟩,h4,h5⟩,fun b hb=>?_,q⟩
 have hle:s2.heap.objs.size<=b:=by
  simp only [List.mem_cons,List.not_mem_nil,or_false] at hb
  rcases hb with rfl | rfl | rfl | rfl | rfl<;>exact Nat.le_add_right _ _
 exact I2.fpOk hle (I2.hok.fresh hle)
end
structure bG (K:PySem.W.Frag)(C:Addr)(m qual:Str)(st:Stmt)(ps:List Str)(f:Addr)(fd:FuncData):Prop where
 M:IK K C m f
 F:Fun K m qual st f fd
 b:iI K fd ps []
structure AX (K:PySem.W.Frag)(C:Addr)(qual:Str)(st:Stmt)(ps:List Str)(f:Addr)(fd:FuncData):Prop where
 M:Mk K C f
 F:Fun K "__init__" qual st f fd
 b:iI K fd ps []
theorem Ep {J:It}{g:TG}{tb:TS}{D:lr}{σ:St}{H:Hp}(n:Nat)(Pv:Nat->St->Hp->Prop)(h0:Pv 0 σ H)(hgo:∀i σ H,i < n->Pv i σ H->J.go i H)(hst:∀σ H,Pv n σ H->J.stop n H)
  (hs:∀i σ H,i < n->Pv i σ H->∀x H',J.yld i H x H'->g x σ H' fun σ2 H2=>tb {D with nx:=Pv (i+1),ct:=Pv (i+1),bk:=D.nx} σ2 H2) (hd:∀σ H,Pv n σ H->D.nx σ H):HX J g tb D σ H:=by
 refine ⟨fun i m σ H=>m=n - i/\i<=n/\Pv i σ H,⟨n,by simp,Nat.zero_le _,h0⟩,?_⟩
 rintro i m σ H ⟨rfl,hi,p⟩
 by_cases hlt:i < n
 ·exact .inr ⟨hgo i σ H hlt p,Pv (i+1),fun σ' H' q=>⟨n - (i+1),by omega,rfl,hlt,q⟩,fun x H' y=>hs i σ H hlt p x H' y⟩
 ·have e:i=n:=by omega
  subst e
  exact .inl ⟨hst σ H p,hd σ H p⟩
section
variable {X:Cx}
noncomputable def Ou (K:PySem.W.Frag):V->List V->Hp->VK->Prop:=fun x vs H Q=>∃(l:Addr) (ns:List Int) (k:Int),x=.ref l/\vs=[.int k]/\SqL K H l (ns.map V.int)/\k∈ns/\Q (.int (ns.idxOf k:Nat)) H
end
def aB (p:Addr)(H H':Hp):Prop:=∀b o,b≠p->H b=some o->H' b=some o
theorem aB.of {p:Addr}{H H':Hp}(s:av H H'):aB p H H':=fun b o _ e=>s b o e
theorem aB.trans {p:Addr}{H H1 H2:Hp}(a:aB p H H1)(b:aB p H1 H2):aB p H H2:=fun c o n e=>b c o n (a c o n e)
theorem aB.put {p:Addr}{H H':Hp}{o:HO}(s:aB p H H'):aB p H (upd H' p o):=fun b u n e=>by rw [aS n];exact s b u n e
theorem Rd.keep {p a:Addr}{H H':Hp}{u:HO}(s:aB p H H')(n:a≠p)(h:Rd H a u):Rd H' a u:=by
 rcases h with h | ⟨o,h⟩
 ·exact .inl (s _ _ n h)
 ·exact .inr ⟨o,s _ _ n h⟩
theorem SqT.keep {K:PySem.W.Frag}{p a:Addr}{H H':Hp}{xs ys:List V}(s:aB p H H')(hp:H p=some (.lst ys))(h:SqT K H a xs):SqT K H' a xs:=by
 rcases h with h | h
 ·refine .inl (h.keep s fun z=>?_)
  subst z
  rcases h with h | ⟨o,h⟩
  ·rw [hp] at h;cases h
  ·rw [hp] at h;cases h
 ·exact .inr h
theorem Rd.keepI {p a C dx:Addr}{H H':Hp}{fs:List (Str×V)}{u:HO}(s:aB p H H')(hp:H p=some (.ins C dx fs))(hu:∀C dx fs,u≠.ins C dx fs)(h:Rd H a u):Rd H' a u:=by
 refine h.keep s fun z=>?_
 subst z
 rcases h with h | ⟨o,h⟩
 ·rw [hp] at h;cases h;exact hu _ _ _ rfl
 ·rw [hp] at h;cases h
theorem SqL.keepI {K:PySem.W.Frag}{p a C dx:Addr}{H H':Hp}{xs:List V}{fs:List (Str×V)}(s:aB p H H')(hp:H p=some (.ins C dx fs))(h:SqL K H a xs):SqL K H' a xs:=by
 rcases h with h | h
 ·exact .inl (h.keepI s hp fun _ _ _ z=>HO.noConfusion z)
 ·exact .inr h
theorem SqT.keepI {K:PySem.W.Frag}{p a C dx:Addr}{H H':Hp}{xs:List V}{fs:List (Str×V)}(s:aB p H H')(hp:H p=some (.ins C dx fs))(h:SqT K H a xs):SqT K H' a xs:=by
 rcases h with h | h
 ·exact .inl (h.keepI s hp fun _ _ _ z=>HO.noConfusion z)
 ·exact .inr h
theorem iz.keepI {K:PySem.W.Frag}{p l C dx:Addr}{H H':Hp}{ls:List Ld}{fs:List (Str×V)}(s:aB p H H')(hp:H p=some (.ins C dx fs))(h:iz K H l ls):iz K H' l ls:=by
 obtain ⟨as,a,b⟩:=h
 exact ⟨as,a.keepI s hp,b.1,fun i a x e1 e2=>(b.2 i a x e1 e2).keepI s hp⟩
structure dM (C:Addr)(H:Hp)(y kn wh:Addr)(ks:List Str)(ws:List Int)(m:Int):Prop where
 ob:∃dx,H y=some (.ins C dx [("kinds",.ref kn),("where",.ref wh),("many",.int m)])
 okn:H kn=some (.lst (ks.map V.str))
 owh:H wh=some (.lst (ws.map V.int))
theorem dM.same {C:Addr}{H H':Hp}{y kn wh:Addr}{ks:List Str}{ws:List Int}{m:Int}(h:dM C H y kn wh ks ws m)(s:av H H'):dM C H' y kn wh ks ws m:=by
 obtain ⟨⟨dx,a⟩,b,c⟩:=h
 exact ⟨⟨dx,s _ _ a⟩,s _ _ b,s _ _ c⟩
theorem dM.off {C:Addr}{H H':Hp}{p y kn wh:Addr}{ks:List Str}{ws:List Int}{m:Int}{ys:List V}(h:dM C H y kn wh ks ws m)(s:aB p H H')(hp:H p=some (.lst ys))(n1:kn≠p)(n2:wh≠p):dM C H' y kn wh ks ws m:=by
 obtain ⟨⟨dx,a⟩,b,c⟩:=h
 exact ⟨⟨dx,s _ _ (fun z=>by rw [z,hp] at a;cases a) a⟩,s _ _ n1 b,s _ _ n2 c⟩
theorem dM.put {C:Addr}{H H':Hp}{y kn wh:Addr}{ks:List Str}{ws ws':List Int}{m:Int}(h:dM C H y kn wh ks ws m)(s:aB wh H H')(n1:kn≠wh)(e:H' wh=some (.lst (ws'.map V.int))):dM C H' y kn wh ks ws' m:=by
 obtain ⟨⟨dx,a⟩,b,c⟩:=h
 exact ⟨⟨dx,s _ _ (fun z=>by rw [z,c] at a;cases a) a⟩,s _ _ n1 b,e⟩
theorem Kj {K:PySem.W.Frag}{l:Addr}{ls:List Ld}{te:TE}{cm:List (Option Nat)}{σ:St}{H:Hp}{Q:VK}(f:Ld->V)(hL:iz K H l ls)(hn:ls.length<=sizeLine)(hcm:cK cm σ=[none,none,none])
  (he:∀x∈ls,∀N:VK,N (f x) H->te [some (.str x.1),some (.int x.2.1),some (.int x.2.2)] H N)
  (hd:∀p,H p=none->Q (.ref p) (upd H p (.lst (ls.map f)))):vy (Itl K l) (CQ K 3 (Ef (gN 0) (Ef (gN 1) (Ef (gN 2) N3)))) yK te cm σ Q H:=by
 obtain ⟨as,hS,hlen,hT⟩:=hL
 refine xq ls.length (fun i acc H'=>H'=H/\acc=(ls.take i).map f) ⟨rfl,by simp⟩ ?_ ?_ ?_ ?_
 ·rintro i acc H' hi ⟨rfl,_⟩
  have ha:as[i]?=some as[i]:=List.getElem?_eq_getElem (by omega)
  exact ⟨_,.ref as[i],hS,by rw [List.getElem?_map,ha];rfl⟩
 ·rintro acc H' ⟨rfl,_⟩
  exact ⟨_,hS,by rw [List.length_map];omega⟩
 ·rintro i acc H' hi ⟨rfl,rfl⟩
  have ha:as[i]?=some as[i]:=List.getElem?_eq_getElem (by omega)
  have hx:ls[i]?=some ls[i]:=List.getElem?_eq_getElem hi
  refine ⟨by rw [List.length_map,List.length_take];omega,fun x H2 y M hM=>?_⟩
  obtain ⟨e,y⟩:=y
  subst e
  have hy:=y _ hS
  rw [List.getElem?_map,ha] at hy
  cases hy
  rw [hcm]
  refine ⟨_,_,rfl,hT i _ _ ha hx,rfl,_,_,rfl,_,_,rfl,_,_,rfl,rfl,⟨rfl,fun k v e=>?_⟩,?_⟩
  ·match k,e with
   | 0,e=>cases e
   | 1,e=>cases e
   | 2,e=>cases e
  ·unfold yK;dsimp only
   split
   ·refine he ls[i] (List.getElem_mem _) _ (hM _ _ ⟨rfl,?_⟩)
    rw [List.take_succ_eq_append_getElem hi,List.map_append];rfl
   ·rename_i z;exact absurd rfl z
 ·rintro acc H' ⟨rfl,rfl⟩ p hp
  rw [List.take_length]
  exact hd p hp
theorem Dg {n:Nat}{i:Int}(h0:0<=i)(h1:i < n):ixN n i=some i.toNat:=by
 unfold ixN
 rw [if_pos h0,if_pos h1]
theorem dw {ds:List Int}{i:Nat}(h:i < ds.length):ds.getD i 0∈ds:=by
 rw [List.getD_eq_getElem?_getD,List.getElem?_eq_getElem h]
 exact List.getElem_mem h
theorem nG {ds:List Int}{i:Nat}(h:i < ds.length):ds[i]?=some (ds.getD i 0):=by
 rw [List.getD_eq_getElem?_getD,List.getElem?_eq_getElem h];rfl
theorem BO {c:Int}(h0:0<=c)(h1:c < 2):atI [V.int 10,V.int 11] c=some (.int (10+c)):=by
 rcases (by omega:c=0\/c=1) with rfl | rfl<;>rfl
theorem IY {ws:List Int}{k:Int}{i:Nat}(hi:i < ws.length)(he:ws.getD i 0=k)(hn:∀j,j < i->ws.getD j 0≠k):ws.idxOf k=i:=by
 have hm:k∈ws:=he▸dw hi
 have hlt:ws.idxOf k < ws.length:=List.idxOf_lt_length_iff.mpr hm
 have e1:ws.getD (ws.idxOf k) 0=k:=by
  rw [List.getD_eq_getElem?_getD,List.getElem?_eq_getElem hlt]
  exact List.getElem_idxOf hlt
 rcases Nat.lt_trichotomy (ws.idxOf k) i with h | h | h
 ·exact absurd e1 (hn _ h)
 ·exact h
 ·have:=ne_of_lt_idxOf (ns:=ws) (k:=k) h (by omega)
  rw [List.getD_eq_getElem?_getD,List.getElem?_eq_getElem hi] at he
  exact absurd he (by simpa using this)
section
variable {X:Cx}
theorem GJ {tg iter elt:Expr}{ifs:List Expr}{scope:Scope}{pos spos py:Pos}{Nc:List Str}{cm:List (Option Nat)}{wi:TI}{g:TG}{tc:TT}{te:TE}{iy:Nat}{y:Str}(hN:X.N.Nodup)(hiy:X.N[iy]?=some y)(hly:X.env.scope.names.lookup y=some .local)
  (hsw:swapsWith (.ListComp elt [⟨tg,iter,ifs,0⟩] scope pos) (some (.Name y py)) spos.line X.env=pure true)
  (hc:X.calm=true) (hi:PI X tg iter wi) (hkind:scope.kind=.function) (hcell:∀y∈scope.names,y.2≠.cell) (hnames:∀y∈scope.names,y.2=.local->scope.names.lookup y.1=some .local)
  (hfree:∀y∈scope.names,y.2=.free->X.env.kindOf y.1=some .cell\/X.env.kindOf y.1=some .free) (hlen:cm.length=Nc.length)
  (hcm:∀(j:Nat) (x:Str) (i:Nat),Nc[j]?=some x->cm[j]?=some (some i)->X.N[i]?=some x/\scope.names.lookup x=some .free/\(X.env.kindOf x=some .cell\/X.env.kindOf x=some .free))
  (hg:∀C s₀ H₀ ex,PG (blk X Nc scope C s₀ H₀ ex) tg g) (ht:∀C s₀ H₀ ex,PIf (blk X Nc scope C s₀ H₀ ex) ifs tc) (he:∀C s₀ H₀ ex,PE (blk X Nc scope C s₀ H₀ ex) elt te)
  (hs:∀x,foldedSetIterable iter X.env x=pure x:=by intro _;rfl):PS X (.Assign [.Name y py] (.ListComp elt [⟨tg,iter,ifs,0⟩] scope pos) spos) (Gi (zk wi g tc te cm) (gN iy)):=by
 intro pins s σ H D0 I h
 rw [exec_Assign_Name_used _ _ _ _ hsw]
 refine wpAny_bind (wpAny_standAt (wpAny_bind ?_))
 show wpAny _ X.A (do let _ ←comprehension (.ListComp elt [⟨tg,iter,ifs,0⟩] scope pos) scope X.env _ (newList []) false (eval iter X.env) (some (assign (.Name y py) X.env))) _ _ s
 refine wpAny_bind (wpAny_mono (Q:=fun _ s'=>SP X pins D0 .next s') ?_ (fun _ s' hq=>wpAny_pure (wpAny_pure hq)) fun _ _ e=>e)
 have hfr:∀y∈scope.names,y.2=.free->∃c,X.env.cells.lookup y.1=some c:=fun y hy e=>I.ok.has y.1 (hfree y hy e)
 refine wpAny_comprehension_free (use:=some (assign (.Name y py) X.env)) (Q:=fun _ s'=>SP X pins D0 .next s') rfl hs (ly hfr) hkind hnames (thn (hi pins s σ H _ I h) fun v s1 h1=>thn h1 fun itv s2 h2=>?_)
 obtain ⟨it,fp,tn,J,H2,e,I2,T,st2,f2,W,⟨m0,w0⟩,turn⟩:=h2
 subst e
 refine wpAny_newObj_type (wpAny_newFunctionEnv hcell (by intro y hy;simp at hy) (fun h₁ hns₁ hsb₁=>?_) hkind)
 dsimp only at hns₁ hsb₁ ⊢
 have hk3:∀b u,s2.heap.get? b=some u->(s2.heap.push {cls:=.type "list",dict:=none,data:=.seq ([]:List Value).toArray}).get? b=some u:=fun b u q=>Heap.get?_push_of_some _ q
 have I3:Inv X pins σ H2 {s2 with heap:=s2.heap.push {cls:=.type "list",dict:=none,data:=.seq ([]:List Value).toArray},toks:=s2.toks}:=I2.kept hk3
 have hD3:(s2.heap.push {cls:=.type "list",dict:=none,data:=.seq ([]:List Value).toArray}).get? s2.heap.objs.size=some {cls:=.type "list",data:=.seq ([]:List Value).toArray}:=Heap.get?_push_size _ rfl
 have hCs:(s2.heap.push {cls:=.type "list",dict:=none,data:=.seq ([]:List Value).toArray}).objs.size=s2.heap.objs.size+1:=Heap.size_push _ _
 have hDn:H2 s2.heap.objs.size=none:=I2.hok.fresh (Nat.le_refl _)
 have st3:tn 0 (s2.heap.push {cls:=.type "list",dict:=none,data:=.seq ([]:List Value).toArray}):=T.keep _ _ _ st2 fun b _ o q=>hk3 b o q
 have fpD:∀b∈fp,b < s2.heap.objs.size:=fun b hb=>by
  obtain ⟨o,e,_⟩:=T.obj _ _ st2 b hb
  exact Heap.lt_size e
 have DX:qg X pins H2 s2.heap.objs.size:=I2.fpOk (Nat.le_refl _) hDn
 generalize hs3:s2.heap.push {cls:=.type "list",dict:=none,data:=.seq ([]:List Value).toArray}=h3 at *
 generalize hDg:s2.heap.objs.size=D at *
 have exX:∀b∈D::fp,qg X pins H2 b:=fun b hb=>by
  rcases List.mem_cons.mp hb with z | z
  ·rw [z];exact DX
  ·exact f2 b z
 have exC:∀b∈D::fp,b < h3.objs.size:=fun b hb=>by
  rcases List.mem_cons.mp hb with z | z
  ·rw [z,hCs];exact Nat.lt_succ_self _
  ·rw [hCs];exact Nat.lt_succ_of_lt (fpD b z)
 have exS:∀b∈D::fp,b∉frs X.stack:=fun b hb z=>by
  obtain ⟨_,n1,n2,_⟩:=exX b hb
  rcases List.mem_cons.mp (I2.stkSub b z) with y | y
  ·exact n1 y
  ·exact n2 y
 have clo:∀x c,(iR X.env.cells scope.names []).lookup x=some c->X.env.cells.lookup x=some c:=fun x c e=>sJ (acc:=[]) (fun _ _ z=>by simp at z) e
 have keep1:∀b u,h3.get? b=some u->h₁.get? b=some u:=fun b u q=>
  (hsb₁.2 b (Nat.ne_of_lt (Heap.lt_size q))).trans (Heap.get?_push_of_some _ q)
 let s3:Shared:={s2 with heap:=h3}
 let X':Cx:=blk X Nc scope h3.objs.size s3 H2 (D::fp)
 have hX':X'=blk X Nc scope h3.objs.size s3 H2 (D::fp):=rfl
 have okX:X'.Ok:=by
  refine ⟨I3.ok.mod,hkind,I3.ok.glob,I3.ok.blt,Nat.le_refl _,fun x y c e1 e2=>I3.ok.inj x y c (clo x c e1) (clo y c e2),fun x hx=>?_,fun x c e=>(Bool.false_ne_true e).elim,I3.ok.hd,I3.ok.frames,.inl rfl,fun b hb=>⟨Nat.ne_of_lt (exC b hb),fun x c e=>(exX b hb).2.2.2.2.1 x c (clo x c e)⟩,
   I3.bs,?_,fun b o e hb=>?_,exS,I3.stack,I3.stkFree⟩
  ·have hx':scope.names.lookup x=some .free:=gK (env:=X.env) hcell hx
   have hmem:(x,NameKind.free)∈scope.names:=by
    have:∀(l:List (Str×NameKind)),l.lookup x=some .free->(x,NameKind.free)∈l:=by
     intro l
     induction l with
     | nil=>intro z;simp at z
     | cons a r ih=>
      obtain ⟨n,k⟩:=a
      intro z
      rw [List.lookup_cons] at z
      split at z
      ·rename_i y
       have yn:x=n:=by simpa using y
       cases z
       rw [yn];exact List.mem_cons_self
      ·exact List.mem_cons_of_mem _ (ih z)
    exact this _ hx'
   exact iS hx' (hfr (x,.free) hmem rfl)
  ·exact Nat.le_trans I3.ok.bsz I3.sz
  ·rcases (exX b hb).2.2.2.1 with z | z
   ·exact I3.ok.noex b o e z
   ·exact absurd (Nat.lt_of_lt_of_le (Heap.lt_size (I3.ok.bs b o e).1) z) (Nat.lt_irrefl _)
 have hσl:(cK cm σ).length=Nc.length:=by
  unfold cK
  rw [List.length_map];exact hlen
 have I4:Inv X' [] (cK cm σ) H2 {s2 with heap:=h₁,toks:=s2.toks+([]:List (Str×Value)).length}:=by
  refine ⟨okX,rfl,I3.bare,Un.kept keep1,⟨_,hns₁,fun j x v e1 e2 e3=>?_⟩,fun x c e=>?_,?_,fun x c e=>I3.freeC x c (clo x c e),(fun p hp=>absurd (show p∈([]:List (Addr×Obj)) from hp) (by simp)),I3.hok.kept keep1,hσl⟩
  ·have e2':∃i,cm[j]?=some (some i)/\σ[i]?=some (some v):=by
    unfold cK at e2
    rw [List.getElem?_map] at e2
    cases q:cm[j]? with
    | none=>rw [q] at e2;simp at e2
    | some o=>
     rw [q] at e2
     cases o with
     | none=>simp at e2
     | some i=>
      refine ⟨i,rfl,?_⟩
      simp only [Option.map_some,Option.some.injEq] at e2
      cases q2:σ[i]? with
      | none=>rw [q2] at e2;simp at e2
      | some o2=>rw [q2] at e2;simp at e2;rw [e2]
   obtain ⟨i,ej,ei⟩:=e2'
   obtain ⟨n1,n2,n3⟩:=hcm j x i e1 ej
   obtain ⟨m,hn,hl⟩:=I3.loc
   have n3':Vis X.env.scope x:=by
    rcases n3 with z | z
    ·exact .inr (.inl z)
    ·exact .inr (.inr z)
   obtain ⟨u,r,l⟩:=hl i x v n1 ei n3'
   refine ⟨u,r,?_⟩
   rcases l with ⟨l,_⟩ | ⟨_,c,ec,ic⟩
   ·rcases n3 with z | z
    ·rw [l] at z;cases z
    ·rw [l] at z;cases z
   ·obtain ⟨c',ec'⟩:=iS (cells:=X.env.cells) (acc:=[]) n2 ⟨c,ec⟩
    have hcc:=clo x c' ec'
    rw [ec] at hcc;cases hcc
    obtain ⟨oc,hoc,hdc⟩:=ic
    refine .inr ⟨?_,c,ec',oc,keep1 _ _ hoc,hdc⟩
    exact eI (env:=X.env) n2
  ·obtain ⟨v,oc,hoc,hdc⟩:=I3.cell x c (clo x c e)
   exact ⟨v,oc,keep1 _ _ hoc,hdc⟩
  ·exact I3.hok.fresh (Nat.le_refl _)
 have stat:∀{H':Hp} {pl:List (Addr×Obj)},(∀b∈fp,H' b=none)->(∀p∈pl,p.1=D)->∀b∈fp,qg X' pl H' b:=fun {H' pl} hn hpl b hb=>
  ⟨hn b hb,Nat.ne_of_lt (exC b (List.mem_cons_of_mem _ hb)),exS b (List.mem_cons_of_mem _ hb),.inl (List.mem_cons_of_mem _ hb),fun x c e=>(f2 b hb).2.2.2.2.1 x c (clo x c e),fun p hp z=>by
   have:p∈pl:=(List.mem_append.mp hp).elim (fun z=>absurd (show p∈([]:List (Addr×Obj)) from z) (by simp)) fun z=>z
   have e:=hpl p this
   rw [e] at z
   exact absurd (fpD b hb) (by rw [←z];exact Nat.lt_irrefl _)⟩
 have hDC:D≠h3.objs.size:=by rw [hCs];exact Nat.ne_of_lt (Nat.lt_succ_self _)
 have hDs:D∉frs X.stack:=exS D List.mem_cons_self
 have loop:∀s5:Shared,s5={s2 with heap:=h₁,toks:=s2.toks+([]:List (Str×Value)).length}->
   codeAny (model X.prog X.w) X.A (.compLoop (.ListComp elt [⟨tg,iter,ifs,0⟩] scope pos) 0 (.ref it) (.ref D) (compEnvC scope (iR X.env.cells scope.names []) h3.objs.size X.env))
    (compPost (model X.prog X.w) X.A X.xe (some (assign (.Name y py) X.env)) (fun _ s'=>SP X pins D0 .next s') (.ref D) h3.objs.size) s5:=by
  rintro s5 rfl
  refine codeAny_loop rfl (fun n s'=>∃i acc its k H',Inv X' [] (cK cm σ) H' s'/\tn i s'.heap/\(∀b∈fp,H' b=none)/\s'.heap.get? D=some {cls:=.type "list",data:=.seq (List.toArray its) k}/\H' D=none/\bJ acc its/\acc.length<=sizeLine/\W i n acc H') (fun n s' hI=>?_) m0
   ⟨0,[],[],0,H2,I4,T.keep _ _ _ st3 fun b _ o q=>keep1 b o q,fun b hb=>(f2 b hb).1,keep1 _ _ hD3,hDn,.nil,Nat.zero_le _,w0⟩
  obtain ⟨i,acc,its,k,H5,J5,t5,fr5,d5,dn5,va5,ac5,w5⟩:=hI
  show wpAny _ X.A ((compTurn (.ListComp elt [⟨tg,iter,ifs,0⟩] scope pos) 0 (.ref it) (.ref D) (compEnvC scope (iR X.env.cells scope.names []) h3.objs.size X.env)).onRaise (fun x=>do noteFrame x (compEnvC scope (iR X.env.cells scope.names []) h3.objs.size X.env);theTreesLotGoes x)) _ _ s'
  refine wpAny_noted ?_
  rw [compTurn_list]
  have nocell:∀v,({cls:=.type "list",data:=.seq (List.toArray its) k}:Obj).data≠.cell v:=fun v z=>nomatch z
  have P5:Inv X' [(D,{cls:=.type "list",data:=.seq (List.toArray its) k})] (cK cm σ) H5 s':=J5.pins_of fun p hp=>by
   have e:p=(D,{cls:=.type "list",data:=.seq (List.toArray its) k}):=by simpa using hp
   subst e
   exact ⟨d5,dn5,hDC,hDs,nocell⟩
  have pl1:∀p∈[((D,{cls:=.type "list",data:=.seq (List.toArray its) k}):Addr×Obj)],p.1=D:=fun p hp=>by
   have e:p=(D,{cls:=.type "list",data:=.seq (List.toArray its) k}):=by simpa using hp
   rw [e]
  rcases turn i n acc H5 w5 with ⟨stop,qn⟩ | ⟨go,hsz,step⟩
  ·refine wpAny_bind (wpAny_standAt (wpAny_bind (wpAny_mono (T.done X' rfl rfl rfl hc i _ s' _ H5 (fun _ _=>False) P5 (stat fr5 pl1) t5 stop) (fun r s6 ⟨hr,J6⟩=>?_) fun _ _ f=>f.elim)))
   subst hr
   refine wpAny_pure ?_
   obtain ⟨mC,hnC,_⟩:=J6.loc
   have hsb:Heap.SameBut h3.objs.size s6.heap s6.heap:=⟨rfl,fun _ _=>rfl⟩
   let h':Heap:=s6.heap
   have hCn:H5 h3.objs.size=none:=J6.free
   have toh:∀b u,b≠h3.objs.size->s6.heap.get? b=some u->h'.get? b=some u:=fun b u hb q=>(hsb.2 b hb).trans q
   have hok':HOk X.prog X.w H5 h':=fun a o e=>(J6.hok a o e).stay (fun b u hb q=>toh b u (by
    rintro rfl
    rcases hb with z | z
    ·rw [←z,hCn] at e;cases e
    ·rw [hCn] at z;cases z) q) (fun _ q=>q) fun _ _ q=>q
   have ltC:∀{b:Addr} {u:Obj},h3.get? b=some u->b≠h3.objs.size:=fun q=>Nat.ne_of_lt (Heap.lt_size q)
   have un':Un (frs X.stack) (D::fp) H2 H5 h3 h':=by
    have u:=J6.base
    refine ⟨fun b o e n hb hx=>toh b o (ltC e) (u.keep b o e n hb hx),fun b o e n hb hx=>?_,u.free,fun b o e hx=>?_,u.tups,u.frzs,u.tbls⟩
    ·obtain ⟨sl,q⟩:=u.slot b o e n hb hx
     exact ⟨sl,toh b _ (ltC e) q⟩
    ·obtain ⟨o',q⟩:=u.there b o e hx
     exact ⟨o',toh b _ (ltC e) q⟩
   have J7:Inv X pins σ H5 {s6 with heap:=h'}:=Inv.call' (s':={s6 with heap:=h'}) (ch:=D::fp) I3 J6.os un' hok' J6.bare fun b hb=>by
    obtain ⟨_,n1,n2,n3,n4,n5⟩:=exX b hb
    exact ⟨n3,n1,n4,n5⟩
   obtain ⟨dg,dg2,_⟩:=J6.pin (D,{cls:=.type "list",data:=.seq (List.toArray its) k}) (by simp)
   obtain ⟨_,n1,n2,n3,n4,n5⟩:=exX D List.mem_cons_self
   have n3':X.s₀.heap.objs.size<=D:=by
    have:=I2.sz
    rw [hDg] at this
    exact this
   have J8:=J7.track (o:=.lst acc) dg2 n3' n1 n4 n5 ⟨ac5,its,k,va5,toh _ _ hDC dg⟩
   obtain ⟨fc0,fc1,fc2,fc3,fc4,fc5⟩:=I3.fpOk (b:=h3.objs.size) (H':=upd H5 D (.lst acc)) (Nat.le_refl _) (by rw [aS (Ne.symm hDC)];exact hCn)
   refine wpAny_assign_Name (xi (s:=s6) (v:=.ref D) J8 hN hiy (.inl hly) rfl (fun s7 J9 hsa=>?_) (.inr hly))
   obtain ⟨aa,hsa,hwh⟩:=hsa
   have hca:h3.objs.size≠aa:=by
    rcases hwh with z | z
    ·rw [z];exact fc1
    ·exact (fc4 _ _ z).symm
   refine ⟨mC,hnC.sameBut hsa hca,fun h7 hs7=>?_⟩
   exact ⟨_,_,J9.turned (it:=h3.objs.size) (t':=s7.toks) (fun b o hb hu=>(hs7.2 b hb).trans hu) fc0 fc1 fc3 fc4 fc5,qn D dg2⟩
  ·refine wpAny_bind (wpAny_standAt (wpAny_bind (wpAny_mono (T.item X' rfl rfl rfl hc i _ s' _ H5 (fun _ _=>False) P5 (stat fr5 pl1) t5 go) (fun r s6 ⟨u,hr,h6⟩=>?_) fun _ _ f=>f.elim)))
   subst hr
   refine wpAny_bind (wpAny_mono h6 (fun _ s7 ⟨x,H7,J7,r7,y7,t7,fr7⟩=>?_) fun _ _ f=>f.elim)
   have P7:=J7.pinned (stat fr7 pl1) (T.obj _ _ t7)
   refine wpAny_bind (wpAny_mono (hg _ _ _ _ _ s7 _ H7 x u _ P7 r7 (step x H7 y7)) (fun _ s8 ⟨σ8,H8,J8,wk8,q8⟩=>?_) fun _ _ f=>f.elim)
   refine wpAny_bind (wpAny_mono (ht _ _ _ _ _ s8 σ8 H8 _ J8 q8) (fun b s9 ⟨H9,J9,q9⟩=>?_) fun _ _ f=>f.elim)
   have back:∀{Ha:Hp} {sa:Shared},Inv X' ([(D,{cls:=.type "list",data:=.seq (List.toArray its) k})]++uW fp s7.heap) σ8 Ha sa->
     Inv X' [] (cK cm σ) Ha sa/\tn (i+1) sa.heap/\(∀b∈fp,Ha b=none)/\sa.heap.get? D=some {cls:=.type "list",data:=.seq (List.toArray its) k}/\Ha D=none:=fun {Ha sa} Ja=>by
    refine ⟨(Ja.weak wk8.1 wk8.2).pins_of fun p hp=>absurd hp (by simp),T.keep _ _ _ t7 fun b hb o e=>(Ja.pin (b,o) (List.mem_append_right _ (List.mem_append_right _ (fP hb e)))).1,fun b hb=>?_,?_⟩
    ·obtain ⟨o,e,d⟩:=T.obj _ _ t7 b hb
     exact (Ja.pin (b,o) (List.mem_append_right _ (List.mem_append_right _ (fP hb e)))).2.1
    ·obtain ⟨z1,z2,_⟩:=Ja.pin (D,{cls:=.type "list",data:=.seq (List.toArray its) k}) (by simp)
     exact ⟨z1,z2⟩
   cases b with
   | false=>
    simp only [Bool.false_eq_true,if_false] at q9 ⊢
    obtain ⟨m',hm,w'⟩:=q9
    obtain ⟨z0,z1,z2,z3,z4⟩:=back J9
    exact wpAny_pure ⟨rfl,m',hm,i+1,acc,its,k,H9,z0,z1,z2,z3,z4,va5,ac5,w'⟩
   | true=>
    simp only [if_true] at q9 ⊢
    refine wpAny_bind (wpAny_bind (wpAny_mono (he _ _ _ _ _ s9 σ8 H9 _ J9 q9) (fun y s10 ⟨v,H10,J10,rv,q10⟩=>wpAny_bind ?_) fun _ _ f=>f.elim))
    obtain ⟨m',hm,w'⟩:=q10
    obtain ⟨z0,z1,z2,z3,z4⟩:=back J10
    have hli:=va5.length
    refine call_meets F.slot_list_append ⟨_,z3,rfl⟩ F.entry_list_append (F.args_list_append_2 _ _) (PySem.list_append D its.toArray k y (by rw [List.size_toArray];omega)) ⟨z3,?_⟩
    obtain ⟨k',q⟩:∃k',(s10.heap.update D (Obj.mapSeq (·.push y))).get? D=some {cls:=.type "list",data:=.seq (List.toArray (its++[y])) k'}:=by
     have q:=PySem.IsL.update z3 (·.push y)
     have e:its.toArray.push y=(its++[y]).toArray:=by simp
     rw [e] at q
     exact ⟨_,q⟩
    refine wpAny_pure (wpAny_pure ⟨rfl,m',hm,i+1,acc++[v],its++[y],k',H10,z0.turned (it:=D) (fun b o hb hu=>(Heap.get?_update_other s10.heap (Obj.mapSeq (·.push y)) (Ne.symm hb)).trans hu) z4 hDC (.inl List.mem_cons_self) (fun x c e=>(exX D List.mem_cons_self).2.2.2.2.1 x c (clo x c e)) (fun p hp=>absurd (show p∈([]:List (Addr×Obj)) from hp) (by simp)),
     T.keep _ _ _ z1 fun b hb o e=>(Heap.get?_update_other s10.heap (Obj.mapSeq (·.push y)) (Nat.ne_of_gt (fpD b hb))).trans e,z2,q,z4,va5.append (.cons rv .nil),by rw [List.length_append,List.length_singleton];omega,w'⟩)
 exact codeAny_compStart_list (loop _ rfl) (T.self X.A 0 _ _ _ (T.keep _ _ _ st3 fun b _ o q=>keep1 b o q) (loop _ rfl))
end
theorem Kk {X:Cx}{tg iter elt:Expr}{ifs:List Expr}{scope:Scope}{pos spos py:Pos}(Nc:List Str)(cm:List (Option Nat)){wi:TI}{g:TG}{tc:TT}{te:TE}{iy:Nat}{y:Str}(hN:X.N.Nodup)(hiy:X.N[iy]?=some y)(hly:X.env.scope.names.lookup y=some .local)
  (hi:PI X tg iter wi) (hg:∀C s₀ H₀ ex,PG (blk X Nc scope C s₀ H₀ ex) tg g) (ht:∀C s₀ H₀ ex,PIf (blk X Nc scope C s₀ H₀ ex) ifs tc) (he:∀C s₀ H₀ ex,PE (blk X Nc scope C s₀ H₀ ex) elt te)
  (hsw:swapsWith (.ListComp elt [⟨tg,iter,ifs,0⟩] scope pos) (some (.Name y py)) spos.line X.env=pure true:=by rfl)
  (hc:X.calm=true:=by rfl) (hkind:scope.kind=.function:=by rfl) (hcell:∀y∈scope.names,y.2≠.cell:=by decide +kernel) (hnames:∀y∈scope.names,y.2=.local->scope.names.lookup y.1=some .local:=by decide +kernel)
  (hfree:GD X scope=true:=by rfl) (hlen:cm.length=Nc.length:=by rfl) (hcm:Og X scope Nc cm=true:=by rfl)
  (hs:∀x,foldedSetIterable iter X.env x=pure x:=by intro _;rfl):PS X (.Assign [.Name y py] (.ListComp elt [⟨tg,iter,ifs,0⟩] scope pos) spos) (Gi (zk wi g tc te cm) (gN iy)):=by
 refine GJ hN hiy hly hsw hc hi hkind hcell hnames (fun y hy e=>?_) hlen (fun j x i e1 e2=>?_) hg ht he hs
 ·have h:=List.all_eq_true.mp hfree y hy
  rw [e] at h
  simpa using h
 ·have hj:(Nc.zip cm)[j]?=some (x,some i):=by
   rw [List.getElem?_zip_eq_some];exact ⟨e1,e2⟩
  have h:=List.all_eq_true.mp hcm _ (List.mem_of_getElem? hj)
  simpa using h
theorem aH.calm {P:Program}{w:World}{K:PySem.W.Frag}{mg:Str->Option Value}{base:Heap}{k:Nat}{f:Addr}{fd:FuncData}{ps:List Str}{sp:Sp}(F:aH P w K mg base (CXf P w) k f fd ps sp)
  (h:∀vs H Q E,sp vs H Q E->sp vs H Q E0):aH P w K mg base CX0 k f fd ps sp:=by
 refine ⟨F.len,fun A outer s H args us vs Q E hr he hb hv hs=>?_⟩
 refine codeAny_mono (F.run A outer s H args us vs Q E0 hr he hb hv (h _ _ _ _ hs)) fun r s' q=>?_
 cases r with
 | ok fl=>cases fl<;>exact q
 | error e=>
  obtain ⟨x,cls,a0,H',B,_,_,_,_,_,_,_,_,_,z⟩:=q
  exact z.elim
def dC {α:Type}(f:α->List V)(K:PySem.W.Frag)(H:Hp)(as:List Addr)(ls:List α):Prop:=as.length=ls.length/\∀(i:Nat) a x,as[i]?=some a->ls[i]?=some x->SqT K H a (f x)
def ni {α:Type}(f:α->List V)(K:PySem.W.Frag)(H:Hp)(l:Addr)(ls:List α):Prop:=∃as:List Addr,SqL K H l (as.map V.ref)/\dC f K H as ls
section
variable {α:Type}{f:α->List V}{K:PySem.W.Frag}{H H':Hp}{as bs:List Addr}{ls ks:List α}{l p:Addr}
theorem dC.same (s:av H H')(h:dC f K H as ls):dC f K H' as ls:=⟨h.1,fun i a x e1 e2=>s.tup (h.2 i a x e1 e2)⟩
theorem ni.same (s:av H H')(h:ni f K H l ls):ni f K H' l ls:=by
 obtain ⟨as,a,b⟩:=h
 exact ⟨as,s.seq a,b.same s⟩
theorem dC.nil:dC f K H [] []:=⟨rfl,fun i a x e _=>by simp at e⟩
theorem dC.app (h:dC f K H as ls)(g:dC f K H bs ks):dC f K H (as++bs) (ls++ks):=by
 refine ⟨by rw [List.length_append,List.length_append,h.1,g.1],fun i a x e1 e2=>?_⟩
 by_cases hi:i < as.length
 ·rw [List.getElem?_append_left hi] at e1
  rw [List.getElem?_append_left (by rw [←h.1];exact hi)] at e2
  exact h.2 i a x e1 e2
 ·rw [List.getElem?_append_right (by omega)] at e1
  rw [List.getElem?_append_right (by rw [←h.1];omega),←h.1] at e2
  exact g.2 _ a x e1 e2
theorem dC.one {a:Addr}{x:α}(h:SqT K H a (f x)):dC f K H [a] [x]:=by
 refine ⟨rfl,fun i b y e1 e2=>?_⟩
 cases i with
 | zero=>cases e1;cases e2;exact h
 | succ i=>simp at e1
theorem dC.rew {ys:List V}{o:HO}(h:dC f K H as ls)(hl:H l=some (.lst ys)):dC f K (upd H l o) as ls:=⟨h.1,fun i a x e1 e2=>(h.2 i a x e1 e2).rew hl⟩
theorem dC.keep {ys:List V}(s:aB p H H')(hp:H p=some (.lst ys))(h:dC f K H as ls):dC f K H' as ls:=⟨h.1,fun i a x e1 e2=>(h.2 i a x e1 e2).keep s hp⟩
theorem dC.keepI {C dx:Addr}{fs:List (Str×V)}(s:aB p H H')(hp:H p=some (.ins C dx fs))(h:dC f K H as ls):dC f K H' as ls:=⟨h.1,fun i a x e1 e2=>(h.2 i a x e1 e2).keepI s hp⟩
theorem ni.keepI {C dx:Addr}{fs:List (Str×V)}(s:aB p H H')(hp:H p=some (.ins C dx fs))(h:ni f K H l ls):ni f K H' l ls:=by
 obtain ⟨as,a,b⟩:=h
 exact ⟨as,a.keepI s hp,b.keepI s hp⟩
end
noncomputable abbrev Cd:=Int×Int
noncomputable def cdV (x:Cd):List V:=[.int x.1,.int x.2]
def fR (x:Cd):Prop:=(1<=x.1/\x.1<=9)/\(1<=x.2/\x.2<=9)/\x.1≠x.2
end L2
namespace L2
open PySem PySem.Spec PyProof.Rows PySem.SeqAt
theorem yL {M:Model}{A:Around}{E:Value->Shared->Prop}{s:Shared}{β:Type}{c:β}{f:Nat->β->Sem (ForInStep β)}{Q:β->Shared->Prop}{n:Nat}(hn:n=2)
  (h:wpAny M A (f 0 c) (fun r s1=>match r with | .done b=>Q b s1 | .yield b=>wpAny M A (f 1 b) (fun r s2=>match r with | .done b=>Q b s2 | .yield b=>Q b s2) E s1) E s) :
  wpAny M A (forIn ([:n]:Std.Legacy.Range) c f) Q E s:=by
 subst hn
 rw [Std.Legacy.Range.forIn_eq_forIn_range']
 show wpAny M A (forIn [0,1] c f) Q E s
 rw [List.forIn_cons]
 refine wpAny_bind (wpAny_mono h ?_ (fun _ _ z=>z))
 intro r s1 h1
 cases r with
 | done b=>exact wpAny_pure h1
 | yield b=>
  show wpAny M A (forIn [1] b f) Q E s1
  rw [List.forIn_cons]
  refine wpAny_bind (wpAny_mono h1 ?_ (fun _ _ z=>z))
  intro r s2 h2
  cases r with
  | done b=>exact wpAny_pure h2
  | yield b=>
   show wpAny M A (forIn [] b f) Q E s2
   rw [List.forIn_nil]
   exact wpAny_pure h2
theorem Dh (l:Addr)(items:Array Value)(a b:Value)(n:Nat)(dd:Option Addr)(sl:Array (Option Value))(x:Value)(e0 e1:Bool)(he:(e0 || e1)=true)(hsz:items.size=2)(i0:items[0]?=some a)(i1:items[1]?=some b) :
  Meets (Builtin.«tuple.index» ⟨[.ref l,x],[]⟩)
   (fun A R s=>s.heap.get? l=some {cls:=.type "tuple",dict:=dd,data:=.seq items n,slots:=sl}/\EqAt A.in1 s a x e0/\EqAt A.in1 s b x e1/\R (.ok (.ret (.int (if e0=true then 0 else 1) s.toks))) {s with toks:=s.toks+1}):=
 .of_wp fun prog w A R s h=>by
  obtain ⟨hp,g,d,tk,os⟩:=s;obtain ⟨hl,h0,h1,h⟩:=h
  wp_walk using wpAny_loadPart' hl,yL (show min items.size items.size=2 by omega)
  rw [i0]
  refine wpAny_bind (h0 prog w _ _ ?_)
  cases e0 with
  | true=>
   wp_walk
   exact ⟨_,rfl,h⟩
  | false=>
   wp_walk
   rw [i1]
   refine wpAny_bind (h1 prog w _ _ ?_)
   have e1t:e1=true:=by simpa using he
   subst e1t
   wp_walk
   exact ⟨_,rfl,h⟩
section
variable {X:Cx}
noncomputable def Ie (K:PySem.W.Frag):V->List V->Hp->VK->Prop:=fun x vs H Q=>∃(l:Addr) (a b k:V),x=.ref l/\vs=[k]/\SqT K H l [a,b]/\cx a=true/\cx b=true/\cx k=true/\(eqV a k || eqV b k)=true/\Q (.int (if eqV a k=true then 0 else 1)) H
theorem IZ:MtR X "tuple.index" (Ie X.K):=by
 intro pins s σ H x vs v us Q I rx rv h
 obtain ⟨l,a,b,k,rfl,rfl,hq,fa,fb,fk,hk,q⟩:=h
 cases rx
 obtain ⟨u,rfl,ru⟩:=rv.one
 obtain ⟨its,r,pl,hz⟩:=I.tuple hq
 obtain ⟨u1,u2,rfl,r1,r2⟩:=r.two
 obtain ⟨⟨cls,dd,data,sl⟩,ho,hc,n,hd⟩:=id pl
 simp only at hc hd
 subst hc hd
 refine call_meets PySem.F.slot_tuple_index ⟨_,ho,rfl⟩ PySem.F.entry_tuple_index (PySem.F.args_tuple_index_2 _ _)
  (Dh l _ u1 u2 n dd sl u (eqV a k) (eqV b k) hk rfl rfl rfl) ⟨ho,xo r1 ru fa fk,xo r2 ru fb fk,?_⟩
 exact ⟨.int _,H,I.tok _,⟨_,rfl⟩,q⟩
noncomputable def PX (K:PySem.W.Frag):R2:=fun x y H Q=>∃a b xs ys,x=.ref a/\y=.ref b/\SqT K H a xs/\SqT K H b ys/\xs.all cx=true/\ys.all cx=true/\Q (.bl (!eqL xs ys)) H
theorem LW {xs ys:List V}:((List.range (min xs.length ys.length)).all (fun j=>eqV (xs.getD j .non) (ys.getD j .non)) && xs.length == ys.length)=eqL xs ys:=by
 by_cases hl:xs.length=ys.length
 ·rw [show min xs.length ys.length=xs.length by omega,y3 hl,hl]
  simp
 ·have e:eqL xs ys=false:=by
   cases z:eqL xs ys with
   | false=>rfl
   | true=>exact absurd (y0 z) hl
  rw [e]
  simp [hl]
theorem Ov (hu:X.A.units < cLine):OpR X (compareOp .NotEq) (PX X.K):=by
 intro pins s σ H x y u v Q I rx ry h
 obtain ⟨a,b,xs,ys,rfl,rfl,ha,hb,fa,fb,q⟩:=h
 cases rx;cases ry
 obtain ⟨ia,ra,pa,za⟩:=I.tuple ha
 obtain ⟨ib,rb,pb,zb⟩:=I.tuple hb
 have la:=ra.length
 have lb:=rb.length
 refine RcNeAt.tuples (e:=fun j=>eqV (xs.getD j .non) (ys.getD j .non)) pa pb hu (fun j h1 h2=>?_) X.prog X.w _ _ ?_
 ·simp only [List.size_toArray] at h1 h2
  have hx:xs[j]?=some (xs.getD j .non):=by
   rw [List.getD_eq_getElem?_getD,List.getElem?_eq_getElem (by omega)];rfl
  have hy:ys[j]?=some (ys.getD j .non):=by
   rw [List.getD_eq_getElem?_getD,List.getElem?_eq_getElem (by omega)];rfl
  obtain ⟨u,eu,ru⟩:=ra.get hx
  obtain ⟨v,ev,rv⟩:=rb.get hy
  have e1:ia.toArray[j]=u:=by
   have:=List.getElem?_eq_some_iff.mp eu
   simpa using this.2
  have e2:ib.toArray[j]=v:=by
   have:=List.getElem?_eq_some_iff.mp ev
   simpa using this.2
  rw [e1,e2]
  exact xo ru rv (List.all_eq_true.mp fa _ (List.mem_of_getElem? hx)) (List.all_eq_true.mp fb _ (List.mem_of_getElem? hy))
 ·have e:=LW (xs:=xs) (ys:=ys)
  simp only [List.size_toArray]
  rw [←la,←lb,e]
  exact ⟨.bl (!eqL xs ys),H,I,rfl,q⟩
end
end L2
namespace L2
open PySem PySem.Spec PyProof.Rows
inductive Eng where
 | no | wait (l r:Int) | armed (l r:Int) | other (l r s:Int) | used (l r:Int)
 deriving DecidableEq
noncomputable def oO:Eng->List V
 | .no=>[.str "not rung",.non,.non,.non]
 | .wait l r=>[.str "not repeated",.int l,.int r,.non]
 | .armed l r=>[.str "armed",.int l,.int r,.int r]
 | .other l r s=>[.str "repeated otherwise",.int l,.int r,.int s]
 | .used l r=>[.str "used up",.int l,.int r,.int r]
theorem xt (e:Eng):∀x∈oO e,cx x=true:=by cases e<;>simp [oO,cx]
theorem Es (e:Eng):(oO e).length=4:=by cases e<;>rfl
theorem aB.free {p x:Addr}{H H':Hp}(k:aB p H H')(n:x≠p)(h:H' x=none):H x=none:=by
 cases e:H x with
 | none=>rfl
 | some o=>have:=k x o n e;rw [h] at this;cases this
theorem Ow {ls:List Cd}{n:Nat}:(ls.map fun _=>false).getD n false=false:=by
 rw [List.getD_eq_getElem?_getD,List.getElem?_map]
 cases ls[n]?<;>rfl
structure bR (C:Addr)(K:PySem.W.Frag)(H:Hp)(b cs fl st:Addr)(ls:List Cd)(fs:List Bool)(e:Eng):Prop where
 ob:∃dx,H b=some (.ins C dx [("codes",.ref cs),("failed",.ref fl),("state",.ref st)])
 oc:∃as:List Addr,H cs=some (.lst (as.map V.ref))/\dC cdV K H as ls
 of:H fl=some (.lst (fs.map V.bl))
 os:SqT K H st (oO e)
 nn:cs≠fl
 ln:fs.length=ls.length
theorem bR.rows {C:Addr}{K:PySem.W.Frag}{H:Hp}{b cs fl st:Addr}{ls:List Cd}{fs:List Bool}{e:Eng}(h:bR C K H b cs fl st ls fs e):ni cdV K H cs ls:=by
 obtain ⟨as,a,t⟩:=h.oc
 exact ⟨as,SqL.of a,t⟩
theorem bR.same {C:Addr}{K:PySem.W.Frag}{H H':Hp}{b cs fl st:Addr}{ls:List Cd}{fs:List Bool}{e:Eng}(h:bR C K H b cs fl st ls fs e)(s:av H H'):bR C K H' b cs fl st ls fs e:=by
 obtain ⟨⟨dx,a⟩,⟨as,c,t⟩,f,g,n,l⟩:=h
 exact ⟨⟨dx,s _ _ a⟩,⟨as,s _ _ c,t.same s⟩,s _ _ f,s.tup g,n,l⟩
theorem bR.state {C:Addr}{K:PySem.W.Frag}{H H':Hp}{b cs fl st st' dx:Addr}{ls:List Cd}{fs:List Bool}{e e':Eng}(h:bR C K H b cs fl st ls fs e)(k:aB b H H')
  (a:H' b=some (.ins C dx [("codes",.ref cs),("failed",.ref fl),("state",.ref st')])) (g:SqT K H' st' (oO e')):bR C K H' b cs fl st' ls fs e':=by
 obtain ⟨⟨dx0,a0⟩,⟨as,c,t⟩,f,_,n,l⟩:=h
 exact ⟨⟨dx,a⟩,⟨as,k _ _ (fun z=>by rw [z,a0] at c;cases c) c,t.keepI k a0⟩,k _ _ (fun z=>by rw [z,a0] at f;cases f) f,g,n,l⟩
theorem bR.fail {C:Addr}{K:PySem.W.Frag}{H H':Hp}{b cs fl st:Addr}{ls:List Cd}{fs fs':List Bool}{e:Eng}(h:bR C K H b cs fl st ls fs e)(k:aB fl H H')(g:H' fl=some (.lst (fs'.map V.bl)))(hl:fs'.length=fs.length):bR C K H' b cs fl st ls fs' e:=by
 obtain ⟨⟨dx0,a0⟩,⟨as,c,t⟩,f,o,n,l⟩:=h
 exact ⟨⟨dx0,k _ _ (fun z=>by rw [z,f] at a0;cases a0) a0⟩,⟨as,k _ _ n c,t.keep k f⟩,g,o.keep k f,n,hl.trans l⟩
noncomputable def iT (ls:List Cd)(l:Int):Cd:=ls.getD l.toNat (0,0)
noncomputable def dk (ls:List Cd)(l:Int)(k:Str):Int:=if k="men" then (iT ls l).1 else (iT ls l).2
theorem vA {K:PySem.W.Frag}{H:Hp}{as:List Addr}{ls:List Cd}{l:Int}(t:dC cdV K H as ls)(h0:0<=l)(h1:l < ls.length):∃a,atI (as.map V.ref) l=some (.ref a)/\SqT K H a (cdV (iT ls l)):=by
 obtain ⟨n,rfl⟩:=Int.eq_ofNat_of_zero_le h0
 have hn:n < ls.length:=by omega
 have ha:as[n]?=some (as[n]'(by rw [t.1];exact hn)):=List.getElem?_eq_getElem _
 refine ⟨as[n]'(by rw [t.1];exact hn),qp (by rw [List.getElem?_map,ha];rfl),t.2 n _ _ ha ?_⟩
 rw [iT,Int.toNat_natCast,List.getD_eq_getElem?_getD,List.getElem?_eq_getElem hn];rfl
theorem kB {fs:List Bool}{l:Int}(h0:0<=l)(h1:l < fs.length):atI (fs.map V.bl) l=some (.bl (fs.getD l.toNat false)):=by
 obtain ⟨n,rfl⟩:=Int.eq_ofNat_of_zero_le h0
 have hn:n < fs.length:=by omega
 refine qp ?_
 rw [List.getElem?_map,List.getElem?_eq_getElem hn,Int.toNat_natCast,List.getD_eq_getElem?_getD,List.getElem?_eq_getElem hn];rfl
section
variable {X:Cx}
theorem Di:iG X (.type "range") (fun xs H Q=>∃i j:Int,xs=[.int i,.int j]/\∀p,H p=none->Q (.ref p) (upd H p (.rng i j))):=by
 intro pins s σ H xs us Q I r h
 obtain ⟨i,j,rfl,q⟩:=h
 obtain ⟨u,v,rfl,⟨t,rfl⟩,⟨t',rfl⟩⟩:=bJ.two r
 refine call_range_2 ?_
 exact ⟨.ref s.heap.objs.size,_,I.laid (o:=.rng i j) (fun b o e=>Heap.get?_push_of_some _ e) (Nat.le_refl _) ⟨_,_,_,Heap.get?_push_size _ rfl⟩,rfl,q _ I.fresh⟩
theorem zo (hc:X.calm=true):iG X (.type "list") (fun xs H Q=>∃(r:Addr) (lo:Int) (n:Nat),xs=[.ref r]/\H r=some (.rng lo (lo+n))/\n<=100000/\-100000<=lo/\lo<=100000/\∀p,H p=none->Q (.ref p) (upd H p (.lst (((List.range n).map fun (i:Nat)=>lo+(i:Int)).map V.int)))):=by
 intro pins s σ H xs us Q I rr h
 obtain ⟨r,lo,n,rfl,hr,hn,hl0,hl1,q⟩:=h
 obtain ⟨u,rfl,ru⟩:=xU rr
 cases ru
 obtain ⟨t,u,v,e⟩:=I.hok r _ hr
 have hsz:Builtin.Range.rangeSize lo (lo+n) 1=((n:Nat):Int):=by rw [rangeSize_one];split<;>omega
 refine call_list_range (I.ok.hd hc) (show IsRange s.heap r lo (lo+n) 1 t u v from e) (small_one (by omega) (by omega) (by omega) (by omega)) hsz (by omega) fun h' tk acc c' hk hS hacc=>?_
 have hv:bJ (((List.range n).map fun (i:Nat)=>lo+(i:Int)).map V.int) acc.toList:=by
  have:∀(m:Nat) (us:List Value) (k:Nat),us.length=m->(∀(j:Nat) v,us[j]?=some v->∃t,v=Value.int (lo+((k:Int)+j)) t)->bJ (((List.range' k m).map fun (i:Nat)=>lo+(i:Int)).map V.int) us:=by
   intro m
   induction m with
   | zero=>intro us k hl _;cases us with
    | nil=>exact .nil
    | cons=>simp at hl
   | succ m ih=>intro us k hl ha;cases us with
    | nil=>simp at hl
    | cons x r=>
     obtain ⟨t,e⟩:=ha 0 x rfl
     refine .cons ⟨t,by simpa using e⟩ (ih r (k+1) (by simpa using hl) fun j v hv=>?_)
     obtain ⟨t,e⟩:=ha (j+1) v (by simpa using hv)
     exact ⟨t,by rw [e];congr 1;push_cast;omega⟩
  rw [List.range_eq_range']
  refine this n acc.toList 0 (by simpa using hacc.1) fun j v hv=>?_
  obtain ⟨t,e⟩:=hacc.2 j v (by simpa using hv)
  exact ⟨t,by rw [e];congr 1;try omega⟩
 refine ⟨.ref s.heap.objs.size,_,I.laid (o:=.lst (((List.range n).map fun (i:Nat)=>lo+(i:Int)).map V.int)) hk (Nat.le_refl _) ⟨by rw [List.length_map,List.length_map,List.length_range];exact Nat.le_of_lt (Nat.lt_of_le_of_lt hn (by decide)),acc.toList,c',hv,by simpa using hS⟩,rfl,q _ I.fresh⟩
end
noncomputable def lvl (ds:List Int)(d:Int):Option Int:=if d∈ds then some (ds.idxOf d:Nat) else none
noncomputable def lvV:Option Int->V
 | none=>.non
 | some i=>.int i
theorem lA {ds:List Int}(h:cM ds){i:Nat}{d:Int}(hi:i < ds.length)(e:ds.getD i 0=d):lvl ds d=some (i:Int):=by
 have hm:d∈ds:=e▸dw hi
 rw [lvl,if_pos hm]
 have hlt:=List.idxOf_lt_length_iff.mpr hm
 have e2:ds.getD (ds.idxOf d) 0=d:=by
  rw [List.getD_eq_getElem?_getD,List.getElem?_eq_getElem hlt]
  exact List.getElem_idxOf hlt
 have:ds.idxOf d=i:=by
  rcases Nat.lt_trichotomy (ds.idxOf d) i with z | z | z
  ·have:=h.lt z hi;omega
  ·exact z
  ·have:=h.lt z hlt;omega
 rw [this]
theorem Et {ds:List Int}{d:Int}(h:∀i,i < ds.length->ds.getD i 0≠d):lvl ds d=none:=by
 rw [lvl,if_neg fun hm=>?_]
 have hlt:=List.idxOf_lt_length_iff.mpr hm
 refine h _ hlt ?_
 rw [List.getD_eq_getElem?_getD,List.getElem?_eq_getElem hlt]
 exact List.getElem_idxOf hlt
noncomputable def ck (ds:List Int)(p c:Int):Option Int:=if c=0 then lvl ds p else lvl ds (cQ ds - p)
inductive Stp where
 | wind (c l:Int) | load (k c:Int) | unload (k c:Int)
noncomputable def PY (lv:Option Int)(x:List Int):Stp->Option (List Int)
 | .wind _ _=>none
 | .load k c=>match lv with | none=>none | some l=>if x.getD (k.toNat+1) 0=l/\¬10+c∈x.tail then some (x.set (k.toNat+1) (10+c)) else none
 | .unload k c=>match lv with | none=>none | some l=>if x.getD (k.toNat+1) 0=10+c then some (x.set (k.toNat+1) l) else none
noncomputable def Ox:Stp->Int
 | .wind c _=>c
 | .load _ c=>c
 | .unload _ c=>c
noncomputable def stK:Stp->Int
 | .wind _ _=>0
 | .load k _=>k
 | .unload k _=>k
noncomputable def after (ds dead:List Int)(x:List Int):Stp->Option (List Int)
 | .wind c l=>if l < 0\/(ds.length:Int)<=l\/l∈dead then none else some ((if c=0 then ds.getD l.toNat 0 else cQ ds - ds.getD l.toNat 0)::x.tail)
 | s=>if stK s < 0\/(x.length:Int)<=stK s+1 then none else PY (ck ds (x.getD 0 0) (Ox s)) x s
theorem PZ {K:PySem.W.Frag}{H:Hp}{Q:VK}{a b:Addr}{xs ys:List V}(ha:SqT K H a xs)(hb:SqT K H b ys)(n0:xs≠[])(hn:xs.length+ys.length<=1000)(q:∀p H',av H H'->SqT K H' p (xs++ys)->Q (.ref p) H'):Nk K (.ref a) (.ref b) H Q:=by
 refine ⟨a,b,xs,ys,rfl,rfl,ha,hb,n0,Nat.le_of_lt (dO hn),fun e=>?_,fun _ p hp=>q p _ ((av.refl H).lay hp) (SqT.of ah)⟩
 subst e
 exact q a H (av.refl H) (by rw [List.append_nil];exact ha)
theorem qr {K:PySem.W.Frag}{H:Hp}{a:Addr}{xs:List Int}{n:Nat}(h:SqL K H a (xs.map V.int))(hb:xs.length<=100000):Rep K H (n+1) (.ref a) (.lst ((xs.map V.int).map Dt.flat)):=by
 refine .lst h (by rw [List.length_map];exact hb) (by simp) fun i y d e1 e2=>?_
 rw [List.getElem?_map,e1] at e2
 cases e2
 obtain ⟨z,rfl,_⟩:=oN e1
 exact .flat rfl
theorem Eu {K:PySem.W.Frag}{H:Hp}{a:Addr}{x y:V}{d e:Dt}{n:Nat}(h:SqL K H a [x,y])(h1:Rep K H n x d)(h2:Rep K H n y e):Rep K H (n+1) (.ref a) (.lst [d,e]):=by
 refine .lst h (by show 2<=100000;decide) rfl fun i v w e1 e2=>?_
 match i,e1,e2 with
 | 0,e1,e2=>cases e1;cases e2;exact h1
 | 1,e1,e2=>cases e1;cases e2;exact h2
 | i+2,e1,e2=>simp at e1
section
variable {X:Cx}
noncomputable def QE (neg:Bool):R2:=fun x y H Q=>∃(r:Addr) (lo hi i:Int),x=.int i/\y=.ref r/\H r=some (.rng lo hi)/\Q (.bl (if neg=true then !decide (lo<=i/\i < hi) else decide (lo<=i/\i < hi))) H
noncomputable def Np (K:PySem.W.Frag):R2:=fun x y H Q=>∃a b xs ys,x=.ref a/\y=.ref b/\SqT K H a xs/\SqT K H b ys/\xs.length+ys.length<=1000/\∀p H',av H H'->SqT K H' p (xs++ys)->Q (.ref p) H'
theorem LX:OpR X (binaryOp .Add) (Np X.K):=by
 intro pins s σ H x y v u Q I rx ry h
 obtain ⟨a,b,xs,ys,rfl,rfl,ha,hb,hz,q⟩:=h
 by_cases hx:xs=[]
 ·subst hx
  cases rx
  cases ry
  obtain ⟨its,r1,p1,_⟩:=I.tuple ha
  obtain ⟨its2,r2,p2,_⟩:=I.tuple hb
  have e1:=r1.zero
  subst e1
  obtain ⟨⟨cls,dd,data,sl⟩,ho,hc,n,hd⟩:=id p1
  obtain ⟨⟨cls2,dd2,data2,sl2⟩,ho2,hc2,n2,hd2⟩:=id p2
  simp only at hc hd hc2 hd2
  subst hc hd hc2 hd2
  exact concat_meets ⟨_,ho,rfl⟩ ⟨_,ho2,rfl⟩ noFill_tuple_add seq_tuple_add PySem.F.slot_tuple_add PySem.F.entry_tuple_add (PySem.F.args_tuple_add_2 _ _)
   (tuple_addW0 a b _ its2.toArray n n2 dd dd2 sl sl2 rfl) ⟨ho,ho2,⟨.ref b,H,I,rfl,q b H (av.refl H) hb⟩⟩
 ·exact HN pins s σ H _ _ v u Q I rx ry (PZ ha hb hx hz q)
end
theorem Kl:∀{xs ys:List Int},xs.Pairwise (· < ·)->ys.Pairwise (· < ·)->(∀k,k∈xs↔k∈ys)->xs=ys
 | [],[],_,_,_=>rfl
 | [],y::ys,_,_,h=>absurd ((h y).mpr List.mem_cons_self) (by simp)
 | x::xs,[],_,_,h=>absurd ((h x).mp List.mem_cons_self) (by simp)
 | x::xs,y::ys,hx,hy,h=>by
  obtain ⟨x1,x2⟩:=List.pairwise_cons.mp hx
  obtain ⟨y1,y2⟩:=List.pairwise_cons.mp hy
  have e:x=y:=by
   rcases List.mem_cons.mp ((h x).mp List.mem_cons_self) with e | e
   ·exact e
   ·rcases List.mem_cons.mp ((h y).mpr List.mem_cons_self) with e' | e'
    ·exact e'.symm
    ·have:=y1 x e
     have:=x1 y e'
     omega
  subst e
  rw [Kl x2 y2 fun k=>?_]
  constructor
  ·intro hk
   rcases List.mem_cons.mp ((h k).mp (List.mem_cons_of_mem _ hk)) with e | e
   ·have:=x1 k hk
    omega
   ·exact e
  ·intro hk
   rcases List.mem_cons.mp ((h k).mpr (List.mem_cons_of_mem _ hk)) with e | e
   ·have:=y1 k hk
    omega
   ·exact e
structure Cl where
 (B Y S K W:Addr)
structure bg where
 place:Int
 gates:List Bool
 fs:List Bool
 e:Eng
 ws:List Int
structure Cfg where
 ds:List Int
 ls:List Cd
 slow:Int
 fast:Int
 goals:List Int
 ks:List Str
 N:Addr->Prop:=fun _=>False
structure SA where
 (dx ol b cs fl st y kn wh:Addr)
structure P0 (rl:Addr)(A:SA):Prop where
 r1:A.ol≠rl
 r2:A.cs≠rl
 r3:A.fl≠rl
 r4:A.kn≠rl
 r5:A.wh≠rl
 o1:A.cs≠A.ol
 o2:A.fl≠A.ol
 o3:A.kn≠A.ol
 o4:A.wh≠A.ol
 f1:A.ol≠A.fl
 f2:A.kn≠A.fl
 f3:A.wh≠A.fl
 w1:A.ol≠A.wh
 w2:A.cs≠A.wh
 w3:A.fl≠A.wh
 w4:A.kn≠A.wh
structure Off (H:Hp)(rl:Addr)(N:Addr->Prop)(A:SA):Prop where
 al:∀p,N p->∃ys,H p=some (.lst ys)
 nr:∀p,N p->rl≠p
 no:∀p,N p->A.ol≠p
 nc:∀p,N p->A.cs≠p
 nf:∀p,N p->A.fl≠p
 nk:∀p,N p->A.kn≠p
 nw:∀p,N p->A.wh≠p
theorem Off.keep {H H':Hp}{rl q:Addr}{N:Addr->Prop}{A:SA}(h:Off H rl N A)(k:aB q H H')(hq:∀p,N p->q≠p):Off H' rl N A:=⟨fun p hp=>by
 obtain ⟨ys,e⟩:=h.al p hp
 exact ⟨ys,k _ _ (hq p hp).symm e⟩,h.nr,h.no,h.nc,h.nf,h.nk,h.nw⟩
theorem Off.same {H H':Hp}{rl:Addr}{N:Addr->Prop}{A:SA}(h:Off H rl N A)(k:av H H'):Off H' rl N A:=⟨fun p hp=>by
 obtain ⟨ys,e⟩:=h.al p hp
 exact ⟨ys,k _ _ e⟩,h.nr,h.no,h.nc,h.nf,h.nk,h.nw⟩
theorem Off.keepI {H H':Hp}{rl q C dx:Addr}{fs:List (Str×V)}{N:Addr->Prop}{A:SA}(h:Off H rl N A)(k:aB q H H')(hq:H q=some (.ins C dx fs)):Off H' rl N A:=h.keep k fun p hp z=>by
 obtain ⟨ys,e⟩:=h.al p hp
 rw [←z,hq] at e
 cases e
structure bt (C:Cl)(K:PySem.W.Frag)(H:Hp)(rl:Addr)(g:Cfg)(s:Addr)(A:SA)(n:bg):Prop where
 ob:H s=some (.ins C.S A.dx [("place",.int n.place),("opened",.ref A.ol),("bells",.ref A.b),("yard",.ref A.y)])
 go:H A.ol=some (.lst (n.gates.map V.bl))
 be:bR C.B K H A.b A.cs A.fl A.st g.ls n.fs n.e
 ya:dM C.Y H A.y A.kn A.wh g.ks n.ws g.ds.length
 ap:P0 rl A
 nn:Off H rl g.N A
def fL (C:Cl)(K:PySem.W.Frag)(H:Hp)(rl:Addr)(g:Cfg)(s:Addr)(n:bg):Prop:=∃A,bt C K H rl g s A n
theorem bR.off {C:Addr}{K:PySem.W.Frag}{H H':Hp}{p b cs fl st:Addr}{ls:List Cd}{fs:List Bool}{e:Eng}{ys:List V}(h:bR C K H b cs fl st ls fs e)(s:aB p H H')(hp:H p=some (.lst ys))(n1:cs≠p)(n2:fl≠p):bR C K H' b cs fl st ls fs e:=by
 obtain ⟨⟨dx,a⟩,⟨as,c,t⟩,f,g,n,l⟩:=h
 exact ⟨⟨dx,s _ _ (fun z=>by rw [z,hp] at a;cases a) a⟩,⟨as,s _ _ n1 c,t.keep s hp⟩,s _ _ n2 f,g.keep s hp,n,l⟩
theorem bR.offI {C D dp:Addr}{K:PySem.W.Frag}{H H':Hp}{p b cs fl st:Addr}{ls:List Cd}{fs:List Bool}{e:Eng}{us:List (Str×V)}(h:bR C K H b cs fl st ls fs e)(s:aB p H H')(hp:H p=some (.ins D dp us))(n1:b≠p):bR C K H' b cs fl st ls fs e:=by
 obtain ⟨⟨dx,a⟩,⟨as,c,t⟩,f,g,n,l⟩:=h
 exact ⟨⟨dx,s _ _ n1 a⟩,⟨as,s _ _ (fun z=>by rw [z,hp] at c;cases c) c,t.keepI s hp⟩,s _ _ (fun z=>by rw [z,hp] at f;cases f) f,g.keepI s hp,n,l⟩
theorem dM.offI {C D dp:Addr}{H H':Hp}{p y kn wh:Addr}{ks:List Str}{ws:List Int}{m:Int}{us:List (Str×V)}(h:dM C H y kn wh ks ws m)(s:aB p H H')(hp:H p=some (.ins D dp us))(n1:y≠p):dM C H' y kn wh ks ws m:=by
 obtain ⟨⟨dx,a⟩,b,c⟩:=h
 exact ⟨⟨dx,s _ _ n1 a⟩,s _ _ (fun z=>by rw [z,hp] at b;cases b) b,s _ _ (fun z=>by rw [z,hp] at c;cases c) c⟩
section
variable {C:Cl}{K:PySem.W.Frag}{H H':Hp}{rl s a w bk:Addr}{g:Cfg}{A:SA}{n n0:bg}
theorem bt.same (h:bt C K H rl g s A n)(e:av H H'):bt C K H' rl g s A n:=⟨e _ _ h.ob,e _ _ h.go,h.be.same e,h.ya.same e,h.ap,h.nn.same e⟩
theorem bt.keep {ys:List V}(h:bt C K H rl g s A n)(e:aB rl H H')(hr:H rl=some (.lst ys)):bt C K H' rl g s A n:=
 ⟨e _ _ (fun z=>by have:=h.ob;rw [z,hr] at this;cases this) h.ob,e _ _ h.ap.r1 h.go,h.be.off e hr h.ap.r2 h.ap.r3,h.ya.off e hr h.ap.r4 h.ap.r5,h.ap,h.nn.keep e h.nn.nr⟩
theorem bt.at (h:bt C K H rl g s A n):fL C K H rl g s n:=⟨A,h⟩
theorem fL.same (h:fL C K H rl g s n)(e:av H H'):fL C K H' rl g s n:=by
 obtain ⟨A,h⟩:=h
 exact ⟨A,h.same e⟩
theorem fL.keep {ys:List V}(h:fL C K H rl g s n)(e:aB rl H H')(hr:H rl=some (.lst ys)):fL C K H' rl g s n:=by
 obtain ⟨A,h⟩:=h
 exact ⟨A,h.keep e hr⟩
theorem bt.gates (h:bt C K H rl g s A n)(e:aB A.ol H H'){gs:List Bool}(hg:H' A.ol=some (.lst (gs.map V.bl))):bt C K H' rl g s A {n with gates:=gs}:=
 ⟨e _ _ (fun z=>by have:=h.ob;rw [z,h.go] at this;cases this) h.ob,hg,h.be.off e h.go h.ap.o1 h.ap.o2,h.ya.off e h.go h.ap.o3 h.ap.o4,h.ap,h.nn.keep e h.nn.no⟩
structure Row where
 began:Int
 ended:Int
 deed:List V
 speed:Int
 sn:bg
def vB (C:Cl)(K:PySem.W.Frag)(H:Hp)(rl:Addr)(g:Cfg)(a:Addr)(r:Row):Prop:=∃dd s,SqT K H a [.int r.began,.int r.ended,.ref dd,.int r.speed,.ref s]/\SqT K H dd r.deed/\fL C K H rl g s r.sn
theorem vB.same {r:Row}(h:vB C K H rl g a r)(e:av H H'):vB C K H' rl g a r:=by
 obtain ⟨dd,s,h1,h2,h3⟩:=h
 exact ⟨dd,s,e.tup h1,e.tup h2,h3.same e⟩
theorem vB.keep {r:Row}{ys:List V}(h:vB C K H rl g a r)(e:aB rl H H')(hr:H rl=some (.lst ys)):vB C K H' rl g a r:=by
 obtain ⟨dd,s,h1,h2,h3⟩:=h
 exact ⟨dd,s,h1.keep e hr,h2.keep e hr,h3.keep e hr⟩
def xu (C:Cl)(K:PySem.W.Frag)(H:Hp)(rl:Addr)(g:Cfg)(as:List Addr)(rs:List Row):Prop:=as.length=rs.length/\∀(i:Nat) a r,as[i]?=some a->rs[i]?=some r->vB C K H rl g a r
theorem xu.same {as:List Addr}{rs:List Row}(h:xu C K H rl g as rs)(e:av H H'):xu C K H' rl g as rs:=⟨h.1,fun i a r e1 e2=>(h.2 i a r e1 e2).same e⟩
theorem xu.keep {as:List Addr}{rs:List Row}{ys:List V}(h:xu C K H rl g as rs)(e:aB rl H H')(hr:H rl=some (.lst ys)):xu C K H' rl g as rs:=⟨h.1,fun i a r e1 e2=>(h.2 i a r e1 e2).keep e hr⟩
theorem xu.push {as:List Addr}{rs:List Row}{r:Row}(h:xu C K H rl g as rs)(hr:vB C K H rl g a r):xu C K H rl g (as++[a]) (rs++[r]):=by
 refine ⟨by rw [List.length_append,List.length_append,h.1];rfl,fun i b x e1 e2=>?_⟩
 by_cases hi:i < as.length
 ·rw [List.getElem?_append_left hi] at e1
  rw [List.getElem?_append_left (by rw [←h.1];exact hi)] at e2
  exact h.2 i b x e1 e2
 ·rw [List.getElem?_append_right (by omega)] at e1
  rw [List.getElem?_append_right (by rw [←h.1];omega),←h.1] at e2
  have hz:i - as.length=0:=by
   have:=(List.getElem?_eq_some_iff.mp e1).1
   simp at this
   omega
  rw [hz] at e1 e2
  cases e1
  cases e2
  exact hr
noncomputable def ak (n0:bg)(rs:List Row):bg:=match rs.getLast? with | none=>n0 | some r=>r.sn
noncomputable def dz (rs:List Row):Int:=match rs.getLast? with | none=>0 | some r=>r.ended
structure BAt (C:Cl)(K:PySem.W.Frag)(H:Hp)(bk rl:Addr)(g:Cfg)(n0:bg)(rs:List Row):Prop where
 ob:∃dx f,H bk=some (.ins C.K dx [("first",.ref f),("most",.int 300),("rows",.ref rl)])/\fL C K H rl g f n0
 ro:∃as,H rl=some (.lst (as.map V.ref))/\xu C K H rl g as rs
theorem BAt.same {rs:List Row}(h:BAt C K H bk rl g n0 rs)(e:av H H'):BAt C K H' bk rl g n0 rs:=by
 obtain ⟨⟨dx,f,h1,h2⟩,as,h3,h4⟩:=h
 exact ⟨⟨dx,f,e _ _ h1,h2.same e⟩,as,e _ _ h3,h4.same e⟩
structure WAt (C:Cl)(K:PySem.W.Frag)(H:Hp)(w bk rl:Addr)(g:Cfg)(n0:bg)(rs:List Row):Prop where
 ob:∃dx dl gl,H w=some (.ins C.W dx [("depths",.ref dl),("slow",.int g.slow),("fast",.int g.fast),("goals",.ref gl),("log",.ref bk)])/\H dl=some (.lst (g.ds.map V.int))/\H gl=some (.lst (g.goals.map V.int))/\dl≠rl/\gl≠rl/\(∀p,g.N p->dl≠p)/\∀p,g.N p->gl≠p
 bo:BAt C K H bk rl g n0 rs
theorem WAt.same {rs:List Row}(h:WAt C K H w bk rl g n0 rs)(e:av H H'):WAt C K H' w bk rl g n0 rs:=by
 obtain ⟨⟨dx,dl,gl,h1,h2,h3,h4⟩,h5⟩:=h
 exact ⟨⟨dx,dl,gl,e _ _ h1,e _ _ h2,e _ _ h3,h4⟩,h5.same e⟩
theorem WAt.keep {rs rs':List Row}{ys:List V}(h:WAt C K H w bk rl g n0 rs)(e:aB rl H H')(hr:H rl=some (.lst ys))(hb:BAt C K H' bk rl g n0 rs'):WAt C K H' w bk rl g n0 rs':=by
 obtain ⟨⟨dx,dl,gl,h1,h2,h3,h4,h6⟩,h5⟩:=h
 exact ⟨⟨dx,dl,gl,e _ _ (fun z=>by rw [z,hr] at h1;cases h1) h1,e _ _ h4 h2,e _ _ h6.1 h3,h4,h6⟩,hb⟩
end
theorem dU {α:Type}(l:List α):l=[]\/∃l' a,l=l'++[a]:=by
 rcases List.eq_nil_or_concat l with h | ⟨l',a,h⟩
 ·exact .inl h
 ·exact .inr ⟨l',a,by rw [h,List.concat_eq_append]⟩
theorem xu.last {C:Cl}{K:PySem.W.Frag}{H:Hp}{rl:Addr}{g:Cfg}{as:List Addr}{rs:List Row}{r:Row}(h:xu C K H rl g as (rs++[r])):∃as' a,as=as'++[a]/\xu C K H rl g as' rs/\vB C K H rl g a r:=by
 have hl:=h.1
 rw [List.length_append,List.length_singleton] at hl
 rcases dU as with rfl | ⟨as',a,rfl⟩
 ·cases hl
 ·have hl':as'.length=rs.length:=by rw [List.length_append,List.length_singleton] at hl;omega
  refine ⟨as',a,rfl,⟨hl',fun i b x e1 e2=>?_⟩,?_⟩
  ·have hi:=(List.getElem?_eq_some_iff.mp e1).1
   exact h.2 i b x (by rw [List.getElem?_append_left hi];exact e1) (by rw [List.getElem?_append_left (by omega)];exact e2)
  ·refine h.2 as'.length a r ?_ ?_
   ·rw [List.getElem?_append_right (Nat.le_refl _)];simp
   ·rw [List.getElem?_append_right (by omega),hl'];simp
theorem BP {as:List Addr}{a:Addr}:atI ((as++[a]).map V.ref) (((as++[a]).map V.ref).length - 1:Int)=some (.ref a):=by
 rw [show ((((as++[a]).map V.ref).length:Int) - 1)=((as.length:Nat):Int) by rw [List.length_map,List.length_append];simp]
 exact qp (by rw [List.map_append,List.getElem?_append_right (by rw [List.length_map];exact Nat.le_refl _),List.length_map];simp)
theorem xv (rs:List Row)(r:Row):dz (rs++[r])=r.ended:=by simp [dz]
theorem qs (n0:bg)(rs:List Row)(r:Row):ak n0 (rs++[r])=r.sn:=by simp [ak]
theorem j1 {H H':Hp}{x dx:Addr}{o1 o2:HO}(hx:H x=none)(hdx:H dx=none)(kp:aB x (upd (upd H dx o1) x o2) H'):av H H':=fun b o e=>kp b o (aq e hx) (by rw [aS (aq e hx),aS (aq e hdx)];exact e)
theorem iU {H:Hp}{x dx z:Addr}{o1 o2:HO}(h:upd (upd H dx o1) x o2 z=none):H z=none:=upn (upn h)
noncomputable def Ew (ks:List Str)(ws:List Int):Bool:=(ks.zip ws).any fun p=>decide (p.1="men") && decide (p.2=10\/p.2=11)
theorem BQ {ks:List Str}{ws:List Int}{i:Nat}(h:∀j k x,j < i->ks[j]?=some k->ws[j]?=some x->(decide (k="men") && decide (x=10\/x=11))=false)(hi:ks.length<=i\/ws.length<=i):Ew ks ws=false:=by
 unfold Ew
 rw [List.any_eq_false]
 intro p hp
 obtain ⟨j,hj⟩:=List.getElem?_of_mem hp
 rw [List.getElem?_zip_eq_some] at hj
 have h1:=(List.getElem?_eq_some_iff.mp hj.1).1
 have h2:=(List.getElem?_eq_some_iff.mp hj.2).1
 rw [h j p.1 p.2 (by omega) hj.1 hj.2]
 exact Bool.false_ne_true
theorem Ex {ks:List Str}{ws:List Int}{i:Nat}{k:Str}{x:Int}(h1:ks[i]?=some k)(h2:ws[i]?=some x)(hk:k="men")(hx:x=10\/x=11):Ew ks ws=true:=by
 unfold Ew
 rw [List.any_eq_true]
 refine ⟨(k,x),List.mem_of_getElem? (i:=i) (by rw [List.getElem?_zip_eq_some];exact ⟨h1,h2⟩),?_⟩
 simp [hk,hx]
theorem BR (x:Int):inV (.int x) [.int 10,.int 11]=decide (x=10\/x=11):=by
 have:=oM x [10,11]
 rw [show ([10,11]:List Int).map V.int=[V.int 10,V.int 11] from rfl] at this
 rw [this]
 simp
noncomputable def inC (ws:List Int)(c:Int):V:=if 10+c∈ws then .int (ws.idxOf (10+c):Nat) else .non
noncomputable def AY (ws:List Int)(lv:Int)(i:Nat):List Int:=((List.range i).filter fun j=>decide (ws.getD j 0=lv)).map fun (j:Nat)=>(j:Int)
noncomputable def lB (ws:List Int)(lv:Int):List Int:=AY ws lv ws.length
theorem I8 (ws:List Int)(lv:Int)(i:Nat):AY ws lv (i+1)=AY ws lv i++(if ws.getD i 0=lv then [(i:Int)] else []):=by
 unfold AY
 rw [List.range_succ,List.filter_append,List.map_append]
 by_cases h:ws.getD i 0=lv
 ·rw [if_pos h,List.filter_cons,if_pos (by simpa using h)];rfl
 ·rw [if_neg h,List.filter_cons,if_neg (by simpa using h)];rfl
theorem Ey (ws:List Int)(lv:Int)(i:Nat):(AY ws lv i).length<=i:=by
 unfold AY
 rw [List.length_map]
 exact Nat.le_trans (List.length_filter_le _ _) (by rw [List.length_range];exact Nat.le_refl _)
noncomputable def mz (ds:List Int)(pl:Int):List Int:=((List.range ds.length).filter fun i=>decide (ds.getD i 0=pl\/ds.getD i 0=cQ ds - pl)).map fun (i:Nat)=>(i:Int)
structure jL (g:Cfg):Prop where
 sh:cM g.ds
 lc:g.ls.length=g.ds.length
 gc:∀x∈g.ls,fR x
 s1:1<=g.slow
 sf:g.slow<=g.fast
 f5:g.fast<=500
 gk:g.goals.length=g.ks.length
 k30:g.ks.length<=30
noncomputable def iV (g:Cfg)(n:bg):Int:=if Ew g.ks n.ws=true then g.slow else g.fast
theorem jL.speed {g:Cfg}(h:jL g)(n:bg):1<=iV g n/\iV g n<=500:=by
 have:=h.s1;have:=h.sf;have:=h.f5
 unfold iV;split<;>omega
inductive Dd where
 | ring (l s:Int) | rept (s:Int) | opn (l:Int) | sht (l:Int) | load (k c:Int) | unload (c:Int) | wind (c l:Int) (k:Str) | fail (l:Int)
noncomputable def ddV:Dd->List V
 | .ring l s=>[.str "ring",.int l,.int s]
 | .rept s=>[.str "repeat",.int s]
 | .opn l=>[.str "open",.int l]
 | .sht l=>[.str "shut",.int l]
 | .load k c=>[.str "load",.int k,.int c]
 | .unload c=>[.str "unload",.int c]
 | .wind c l k=>[.str "wind",.int c,.int l,.str k]
 | .fail l=>[.str "fail",.int l]
theorem zp (d:Dd):∀x∈ddV d,cx x=true:=by
 cases d<;>intro x hx<;>simp only [ddV,List.mem_cons,List.not_mem_nil,or_false] at hx<;>rcases hx with h | h | h | h<;>(try subst h)<;>(try rfl)<;>simp_all [cx]
theorem Ig (d:Dd):(ddV d).length<=4:=by cases d<;>simp [ddV]
noncomputable def yM:Dd->Prop
 | .load _ c=>0<=c/\c < 2
 | .unload c=>0<=c/\c < 2
 | .wind c _ k=>(0<=c/\c < 2)/\(k="men"\/k="coal")
 | _=>True
inductive Rw where
 | lv | db | nc | nr | ch | na | ul | nt | ct | gs | ce | go
 deriving DecidableEq
def unk (l:Int)(m:Nat):Prop:=¬(0<=l/\l < m)
instance (l:Int) (m:Nat):Decidable (unk l m):=inferInstanceAs (Decidable (¬_))
noncomputable def lD (g:Cfg)(n:bg):Bool:=(mz g.ds n.place).any fun x=>n.gates.getD x.toNat false
noncomputable def dD (g:Cfg)(n:bg):Dd->Option Rw
 | .ring l s=>if unk l g.ds.length then some .lv else if n.fs.getD l.toNat false=true then some .db else if s=(iT g.ls l).1\/s=(iT g.ls l).2 then none else some .nc
 | .rept s=>match n.e with | .wait _ _=>if 1<=s/\s<=9 then none else some .nc | _=>some .nr
 | .opn l=>if unk l g.ds.length then some .lv else if n.gates.getD l.toNat false=true then some .ch else none
 | .sht l=>if unk l g.ds.length then some .lv else if n.gates.getD l.toNat false=false then some .ch else none
 | .load k c=>if unk k n.ws.length then some .ul else match ck g.ds n.place c with
  | none=>some .nt
  | some l=>if n.ws.getD k.toNat 0≠l then some .nt else if 10+c∈n.ws then some .ct else if n.gates.getD l.toNat false=true then none else some .gs
 | .unload c=>if ¬10+c∈n.ws then some .ce else match ck g.ds n.place c with
  | none=>some .nt
  | some l=>if n.gates.getD l.toNat false=true then none else some .gs
 | .wind _ l k=>if unk l g.ds.length then some .lv else if lD g n=true then some .go else if n.e=.armed l (dk g.ls l k) then none else some .na
 | .fail l=>if unk l g.ds.length then some .lv else if n.fs.getD l.toNat false=true then some .ch else none
noncomputable def kC (ds:List Int)(c l:Int):Int:=if c=0 then ds.getD l.toNat 0 else cQ ds - ds.getD l.toNat 0
noncomputable def zq (g:Cfg)(n:bg):Dd->Eng
 | .ring l s=>.wait l s
 | .rept s=>match n.e with | .wait l r=>if s=r then .armed l r else .other l r s | e=>e
 | .wind _ l k=>.used l (dk g.ls l k)
 | _=>n.e
noncomputable def dm (g:Cfg)(n:bg)(d:Dd):bg:=
 {place:=match d with | .wind c l _=>kC g.ds c l | _=>n.place
  gates:=match d with | .opn l=>n.gates.set l.toNat true | .sht l=>n.gates.set l.toNat false | _=>n.gates
  fs:=match d with | .fail l=>n.fs.set l.toNat true | _=>n.fs
  e:=zq g n d
  ws:=match d with | .load k c=>n.ws.set k.toNat (10+c) | .unload c=>n.ws.set (n.ws.idxOf (10+c)) ((ck g.ds n.place c).getD (-1)) | _=>n.ws}
noncomputable def QF (x:Int):Int:=if x < 0 then -x else x
noncomputable def Dj (way sp:Int):Int:=(way+sp - 1) / sp
noncomputable def xw (g:Cfg)(n:bg):Dd->Int
 | .wind c l _=>Dj (QF (kC g.ds c l - n.place)) (iV g n)
 | _=>1
noncomputable def zr (g:Cfg)(n0:bg)(rs:List Row)(d:Dd):Row:=⟨dz rs,dz rs+xw g (ak n0 rs) d,ddV d,iV g (dm g (ak n0 rs) d),dm g (ak n0 rs) d⟩
structure eD (g:Cfg)(n:bg):Prop where
 gl:n.gates.length=g.ds.length
 fl:n.fs.length=g.ds.length
 wl:n.ws.length=g.ks.length
 wr:∀x∈n.ws,(0<=x/\x < g.ds.length)\/x=10\/x=11
 un:∀i j,i < n.ws.length->j < n.ws.length->10<=n.ws.getD i 0->n.ws.getD i 0=n.ws.getD j 0->i=j
 st:∃c,(c=0\/c=1)/\∃l,ck g.ds n.place c=some l
 ew:∀l r,n.e=.wait l r\/n.e=.armed l r->0<=l/\l < g.ds.length/\(r=(iT g.ls l).1\/r=(iT g.ls l).2)
theorem sN (ws:List Int)(n i:Nat)(v:Int)(hi:i < ws.length):(ws.set n v).getD i 0=if n=i then v else ws.getD i 0:=by
 rw [List.getD_eq_getElem?_getD,List.getD_eq_getElem?_getD,List.getElem?_set]
 split
 ·rename_i e
  subst e
  rw [if_pos hi];rfl
 ·rfl
theorem Ez {ds:List Int}{d l:Int}(h:lvl ds d=some l):0<=l/\l < ds.length/\ds.getD l.toNat 0=d:=by
 unfold lvl at h
 split at h
 ·rename_i hm
  cases h
  have hlt:=List.idxOf_lt_length_iff.mpr hm
  refine ⟨Int.natCast_nonneg _,by omega,?_⟩
  rw [Int.toNat_natCast,List.getD_eq_getElem?_getD,List.getElem?_eq_getElem hlt]
  exact List.getElem_idxOf hlt
 ·cases h
theorem fg {ds:List Int}{p c l:Int}(h:ck ds p c=some l):0<=l/\l < ds.length/\ds.getD l.toNat 0=(if c=0 then p else cQ ds - p):=by
 unfold ck at h
 split at h
 ·rename_i e;rw [if_pos e];exact Ez h
 ·rename_i e;rw [if_neg e];exact Ez h
theorem xx {ws:List Int}{k:Int}(h:k∈ws):ws.idxOf k < ws.length/\ws.getD (ws.idxOf k) 0=k:=by
 have hlt:=List.idxOf_lt_length_iff.mpr h
 refine ⟨hlt,?_⟩
 rw [List.getD_eq_getElem?_getD,List.getElem?_eq_getElem hlt]
 exact List.getElem_idxOf hlt
theorem EA {ws:List Int}{n:Nat}{v x:Int}(h:x∈ws.set n v):x∈ws\/x=v:=List.mem_or_eq_of_mem_set h
theorem GK {ds:List Int}(hs:cM ds){c l:Int}(hc:0<=c/\c < 2)(hl:0<=l/\l < ds.length):ck ds (kC ds c l) c=some l:=by
 obtain ⟨k,rfl⟩:=Int.eq_ofNat_of_zero_le hl.1
 unfold ck kC
 split
 ·exact lA hs (by omega) (by rw [Int.toNat_natCast])
 ·exact lA hs (by omega) (by rw [Int.toNat_natCast];omega)
theorem ifn {c:Prop}[Decidable c]{a:Rw}{x:Option Rw}(h:(if c then some a else x)=none):¬c/\x=none:=by
 split at h
 ·cases h
 ·rename_i n;exact ⟨n,h⟩
theorem ify {c:Prop}[Decidable c]{a:Rw}(h:(if c then none else some a)=none):c:=by
 split at h
 ·assumption
 ·cases h
theorem sO {l:Int}{m:Nat}(h:¬unk l m):0<=l/\l < m:=Decidable.not_not.mp h
theorem Km {g:Cfg}{n:bg}{l s:Int}(h:dD g n (.ring l s)=none):(0<=l/\l < g.ds.length)/\n.fs.getD l.toNat false=false/\(s=(iT g.ls l).1\/s=(iT g.ls l).2):=by
 obtain ⟨h1,h⟩:=ifn h
 obtain ⟨h2,h⟩:=ifn h
 exact ⟨sO h1,by simpa using h2,ify h⟩
theorem EB {g:Cfg}{n:bg}{s:Int}(h:dD g n (.rept s)=none):∃l r,n.e=.wait l r/\1<=s/\s<=9:=by
 simp only [dD] at h
 split at h
 ·rename_i l r e;exact ⟨l,r,e,ify h⟩
 ·cases h
theorem LY {g:Cfg}{n:bg}{l:Int}(h:dD g n (.opn l)=none):(0<=l/\l < g.ds.length)/\n.gates.getD l.toNat false=false:=by
 obtain ⟨h1,h⟩:=ifn h
 obtain ⟨h2,h⟩:=ifn h
 exact ⟨sO h1,by simpa using h2⟩
theorem LZ {g:Cfg}{n:bg}{l:Int}(h:dD g n (.sht l)=none):(0<=l/\l < g.ds.length)/\n.gates.getD l.toNat false=true:=by
 obtain ⟨h1,h⟩:=ifn h
 obtain ⟨h2,h⟩:=ifn h
 exact ⟨sO h1,by simpa using h2⟩
theorem Kn {g:Cfg}{n:bg}{l:Int}(h:dD g n (.fail l)=none):(0<=l/\l < g.ds.length)/\n.fs.getD l.toNat false=false:=by
 obtain ⟨h1,h⟩:=ifn h
 obtain ⟨h2,h⟩:=ifn h
 exact ⟨sO h1,by simpa using h2⟩
theorem EC {g:Cfg}{n:bg}{k c:Int}(h:dD g n (.load k c)=none):(0<=k/\k < n.ws.length)/\∃l,ck g.ds n.place c=some l/\n.ws.getD k.toNat 0=l/\¬10+c∈n.ws/\n.gates.getD l.toNat false=true:=by
 obtain ⟨h1,h⟩:=ifn h
 refine ⟨sO h1,?_⟩
 cases e:ck g.ds n.place c with
 | none=>rw [e] at h;cases h
 | some l=>
  rw [e] at h
  obtain ⟨h2,h⟩:=ifn h
  obtain ⟨h3,h⟩:=ifn h
  exact ⟨l,rfl,Decidable.not_not.mp h2,h3,ify h⟩
theorem zt {g:Cfg}{n:bg}{c:Int}(h:dD g n (.unload c)=none):10+c∈n.ws/\∃l,ck g.ds n.place c=some l/\n.gates.getD l.toNat false=true:=by
 obtain ⟨h1,h⟩:=ifn h
 refine ⟨Decidable.not_not.mp h1,?_⟩
 cases e:ck g.ds n.place c with
 | none=>rw [e] at h;cases h
 | some l=>rw [e] at h;exact ⟨l,rfl,ify h⟩
theorem zu {g:Cfg}{n:bg}{c l:Int}{k:Str}(h:dD g n (.wind c l k)=none):(0<=l/\l < g.ds.length)/\lD g n=false/\n.e=.armed l (dk g.ls l k):=by
 obtain ⟨h1,h⟩:=ifn h
 obtain ⟨h2,h⟩:=ifn h
 exact ⟨sO h1,by simpa using h2,ify h⟩
theorem eD.next {g:Cfg}{n:bg}{d:Dd}(hg:jL g)(h:eD g n)(ok:yM d)(hr:dD g n d=none):eD g (dm g n d):=by
 have hds:=hg.sh.l6
 cases d with
 | ring l s=>
  obtain ⟨h1,_,h3⟩:=Km hr
  exact ⟨h.gl,h.fl,h.wl,h.wr,h.un,h.st,fun l' r e=>by
   simp only [dm,zq] at e
   rcases e with e | e
   ·cases e;exact ⟨h1.1,h1.2,h3⟩
   ·cases e⟩
 | rept s=>
  refine ⟨h.gl,h.fl,h.wl,h.wr,h.un,h.st,fun l' r e=>?_⟩
  simp only [dm,zq] at e
  obtain ⟨l0,r0,e0,_⟩:=EB hr
  rw [e0] at e
  simp only at e
  have:=h.ew l0 r0 (.inl e0)
  split at e
  ·rcases e with e | e
   ·cases e
   ·cases e;exact this
  ·rcases e with e | e<;>cases e
 | opn l=>exact ⟨by simp only [dm];rw [List.length_set];exact h.gl,h.fl,h.wl,h.wr,h.un,h.st,h.ew⟩
 | sht l=>exact ⟨by simp only [dm];rw [List.length_set];exact h.gl,h.fl,h.wl,h.wr,h.un,h.st,h.ew⟩
 | fail l=>exact ⟨h.gl,by simp only [dm];rw [List.length_set];exact h.fl,h.wl,h.wr,h.un,h.st,h.ew⟩
 | load k c=>
  obtain ⟨h1,l,hl,h3,h4,_⟩:=EC hr
  have hc:0<=c/\c < 2:=ok
  refine ⟨h.gl,h.fl,by simp only [dm];rw [List.length_set];exact h.wl,fun x hx=>?_,fun i j hi hj h10 e=>?_,h.st,h.ew⟩
  ·rcases EA hx with hx | rfl
   ·exact h.wr x hx
   ·omega
  ·simp only [dm,List.length_set] at hi hj h10 e
   rw [sN _ _ _ _ hi] at h10 e
   rw [sN _ _ _ _ hj] at e
   split at e<;>split at e
   ·omega
   ·exact absurd (e▸dw hj) h4
   ·exact absurd (e▸dw hi) h4
   ·rename_i n1 n2;rw [if_neg n1] at h10;exact h.un i j hi hj h10 e
 | unload c=>
  obtain ⟨h1,l,hl,_⟩:=zt hr
  obtain ⟨l0,l1,l2⟩:=fg hl
  refine ⟨h.gl,h.fl,by simp only [dm];rw [List.length_set];exact h.wl,fun x hx=>?_,fun i j hi hj h10 e=>?_,h.st,h.ew⟩
  ·simp only [dm,hl,Option.getD_some] at hx
   rcases EA hx with hx | rfl
   ·exact h.wr x hx
   ·exact .inl ⟨l0,l1⟩
  ·simp only [dm,List.length_set,hl,Option.getD_some] at hi hj h10 e
   rw [sN _ _ _ _ hi] at h10 e
   rw [sN _ _ _ _ hj] at e
   split at e
   ·rename_i n1;rw [if_pos n1] at h10;omega
   ·rename_i n1
    rw [if_neg n1] at h10
    split at e
    ·omega
    ·exact h.un i j hi hj h10 e
 | wind c l k=>
  obtain ⟨h1,_⟩:=zu hr
  refine ⟨h.gl,h.fl,h.wl,h.wr,h.un,⟨c,by have:=ok.1;omega,l,GK hg.sh ok.1 h1⟩,fun l' r e=>?_⟩
  simp only [dm,zq] at e
  rcases e with e | e<;>cases e
theorem eD.place {g:Cfg}{n:bg}(hg:jL g)(h:eD g n):0<=n.place/\n.place<=cQ g.ds:=by
 obtain ⟨c,hc,l,hl⟩:=h.st
 obtain ⟨l0,l1,l2⟩:=fg hl
 have hm:g.ds.getD l.toNat 0∈g.ds:=dw (by omega)
 have:=hg.sh.lo _ hm
 have:=hg.sh.le_whole hm
 split at l2<;>omega
noncomputable def nj (fs:List Bool)(i:Nat):List Int:=((List.range i).filter fun j=>fs.getD j false).map fun (j:Nat)=>(j:Int)
noncomputable def dE (fs:List Bool):List Int:=nj fs fs.length
theorem ED (fs:List Bool)(i:Nat):nj fs (i+1)=nj fs i++(if fs.getD i false=true then [(i:Int)] else []):=by
 unfold nj
 rw [List.range_succ,List.filter_append,List.map_append]
 by_cases h:fs.getD i false=true
 ·rw [if_pos h,List.filter_cons,if_pos h];rfl
 ·rw [if_neg h,List.filter_cons,if_neg h];rfl
theorem zv (fs:List Bool)(i:Nat):(nj fs i).length<=i:=by
 unfold nj
 rw [List.length_map]
 exact Nat.le_trans (List.length_filter_le _ _) (by rw [List.length_range];exact Nat.le_refl _)
theorem nH {fs:List Bool}{x:Int}:x∈dE fs↔0<=x/\x < fs.length/\fs.getD x.toNat false=true:=by
 unfold dE nj
 rw [List.mem_map]
 constructor
 ·rintro ⟨j,hj,rfl⟩
  rw [List.mem_filter,List.mem_range] at hj
  exact ⟨Int.natCast_nonneg _,by omega,by rw [Int.toNat_natCast];exact hj.2⟩
 ·rintro ⟨h0,h1,h2⟩
  refine ⟨x.toNat,?_,by omega⟩
  rw [List.mem_filter,List.mem_range]
  exact ⟨by omega,h2⟩
theorem EE (fs:List Bool):(dE fs).Pairwise (· < ·):=by
 unfold dE nj
 rw [List.pairwise_map]
 exact (List.pairwise_lt_range.sublist List.filter_sublist).imp fun h=>by omega
theorem av.keeps {H H1 H2:Hp}{p:Addr}(s:av H H1)(k:aB p H1 H2)(hp:H p=none):av H H2:=fun b o e=>k b o (aq e hp) (s b o e)
section
variable {C:Cl}{K:PySem.W.Frag}{H H':Hp}{rl s:Addr}{g:Cfg}{A:SA}{n:bg}
theorem bt.ne_b (h:bt C K H rl g s A n):s≠A.b:=fun z=>by
 obtain ⟨dx,hb⟩:=h.be.ob
 have:=h.ob
 rw [z,hb] at this
 injection this with this
 injection this with _ _ this
 injection this with this _
 injection this with this _
 exact absurd this (by decide)
theorem bt.ne_y (h:bt C K H rl g s A n):s≠A.y:=fun z=>by
 obtain ⟨dx,hb⟩:=h.ya.ob
 have:=h.ob
 rw [z,hb] at this
 injection this with this
 injection this with _ _ this
 injection this with this _
 injection this with this _
 exact absurd this (by decide)
theorem bt.ne_by (h:bt C K H rl g s A n):A.y≠A.b:=fun z=>by
 obtain ⟨dx,hb⟩:=h.ya.ob
 obtain ⟨dx2,hb2⟩:=h.be.ob
 rw [z,hb2] at hb
 injection hb with this
 injection this with _ _ this
 injection this with this _
 injection this with this _
 exact absurd this (by decide)
theorem bt.bells {st':Addr}{e':Eng}(h:bt C K H rl g s A n)(k:aB A.b H H')(hb:bR C.B K H' A.b A.cs A.fl st' g.ls n.fs e'):bt C K H' rl g s {A with st:=st'} {n with e:=e'}:=by
 obtain ⟨dx,hb0⟩:=h.be.ob
 refine ⟨k _ _ h.ne_b h.ob,k _ _ (fun z=>?_) h.go,hb,h.ya.offI k hb0 h.ne_by,⟨h.ap.r1,h.ap.r2,h.ap.r3,h.ap.r4,h.ap.r5,h.ap.o1,h.ap.o2,h.ap.o3,h.ap.o4,h.ap.f1,h.ap.f2,h.ap.f3,h.ap.w1,h.ap.w2,h.ap.w3,h.ap.w4⟩,⟨(h.nn.keepI k hb0).al,h.nn.nr,h.nn.no,h.nn.nc,h.nn.nf,h.nn.nk,h.nn.nw⟩⟩
 have:=h.go
 rw [z,hb0] at this
 cases this
theorem bt.fail {fs':List Bool}(h:bt C K H rl g s A n)(k:aB A.fl H H')(hf:H' A.fl=some (.lst (fs'.map V.bl)))(hl:fs'.length=n.fs.length):bt C K H' rl g s A {n with fs:=fs'}:=by
 refine ⟨k _ _ (fun z=>?_) h.ob,k _ _ h.ap.f1 h.go,h.be.fail k hf hl,h.ya.off k h.be.of h.ap.f2 h.ap.f3,h.ap,h.nn.keep k h.nn.nf⟩
 have:=h.be.of
 rw [←z,h.ob] at this
 cases this
theorem bt.spots {ws':List Int}(h:bt C K H rl g s A n)(k:aB A.wh H H')(hw:H' A.wh=some (.lst (ws'.map V.int))):bt C K H' rl g s A {n with ws:=ws'}:=by
 refine ⟨k _ _ (fun z=>?_) h.ob,k _ _ h.ap.w1 h.go,h.be.off k h.ya.owh h.ap.w2 h.ap.w3,h.ya.put k h.ap.w4 hw,h.ap,h.nn.keep k h.nn.nw⟩
 have:=h.ya.owh
 rw [←z,h.ob] at this
 cases this
theorem bt.placed {pl:Int}(h:bt C K H rl g s A n)(k:aB s H H')(hp:H' s=some (.ins C.S A.dx [("place",.int pl),("opened",.ref A.ol),("bells",.ref A.b),("yard",.ref A.y)])):bt C K H' rl g s A {n with place:=pl}:=by
 refine ⟨hp,k _ _ (fun z=>?_) h.go,h.be.offI k h.ob h.ne_b.symm,h.ya.offI k h.ob h.ne_y.symm,h.ap,h.nn.keepI k h.ob⟩
 have:=h.go
 rw [z,h.ob] at this
 cases this
theorem bt.own {p:Addr}{ys:List V}(h:bt C K H rl g s A n)(hp:g.N p)(k:aB p H H')(e:H' p=some (.lst ys)):bt C K H' rl g s A n:=by
 obtain ⟨zs,hz⟩:=h.nn.al p hp
 refine ⟨k _ _ (fun z=>by have:=h.ob;rw [z,hz] at this;cases this) h.ob,k _ _ (h.nn.no p hp) h.go,h.be.off k hz (h.nn.nc p hp) (h.nn.nf p hp),h.ya.off k hz (h.nn.nk p hp) (h.nn.nw p hp),h.ap,⟨fun q hq=>?_,h.nn.nr,h.nn.no,h.nn.nc,h.nn.nf,h.nn.nk,h.nn.nw⟩⟩
 by_cases e1:q=p
 ·subst e1;exact ⟨ys,e⟩
 ·obtain ⟨us,hu⟩:=h.nn.al q hq
  exact ⟨us,k _ _ e1 hu⟩
noncomputable def Cfg.plus (g:Cfg)(p:Addr):Cfg:={g with N:=fun q=>g.N q\/q=p}
theorem bt.grow {p:Addr}{ys:List V}(h:bt C K H rl g s A n)(hr:rl≠p)(hn:H p=none)(k:av H H')(e:H' p=some (.lst ys)):bt C K H' rl (g.plus p) s A n:=by
 have h':=h.same k
 obtain ⟨_,⟨as,oc,_⟩,of,_⟩:=id h.be
 obtain ⟨_,okn,owh⟩:=id h.ya
 refine ⟨h'.ob,h'.go,h'.be,h'.ya,h'.ap,⟨fun q hq=>?_,fun q hq=>?_,fun q hq=>?_,fun q hq=>?_,fun q hq=>?_,fun q hq=>?_,fun q hq=>?_⟩⟩
 ·rcases hq with hq | rfl
  ·exact h'.nn.al q hq
  ·exact ⟨ys,e⟩
 ·rcases hq with hq | rfl
  ·exact h.nn.nr q hq
  ·exact hr
 ·rcases hq with hq | rfl
  ·exact h.nn.no q hq
  ·exact aq h.go hn
 ·rcases hq with hq | rfl
  ·exact h.nn.nc q hq
  ·exact aq oc hn
 ·rcases hq with hq | rfl
  ·exact h.nn.nf q hq
  ·exact aq of hn
 ·rcases hq with hq | rfl
  ·exact h.nn.nk q hq
  ·exact aq okn hn
 ·rcases hq with hq | rfl
  ·exact h.nn.nw q hq
  ·exact aq owh hn
end
section
variable {C:Cl}{K:PySem.W.Frag}{H H':Hp}{rl s w bk:Addr}{g:Cfg}{n n0:bg}{rs:List Row}
theorem WAt.rows (h:WAt C K H w bk rl g n0 rs):∃as:List Addr,H rl=some (.lst (as.map V.ref)):=by
 obtain ⟨as,hr,_⟩:=h.bo.ro
 exact ⟨as,hr⟩
theorem WAt.own {p:Addr}{ys:List V}(h:WAt C K H w bk rl g n0 rs)(hp:g.N p)(k:aB p H H')(e:H' p=some (.lst ys)):WAt C K H' w bk rl g n0 rs:=by
 obtain ⟨⟨dx,dl,gl,h1,h2,h3,h4,h5,h6,h7⟩,⟨dy,f,h8,A,h9⟩,as,h10,h11⟩:=h
 obtain ⟨zs,hz⟩:=h9.nn.al p hp
 refine ⟨⟨dx,dl,gl,k _ _ (fun z=>by rw [z,hz] at h1;cases h1) h1,k _ _ (h6 p hp) h2,k _ _ (h7 p hp) h3,h4,h5,h6,h7⟩,⟨dy,f,k _ _ (fun z=>by rw [z,hz] at h8;cases h8) h8,A,h9.own hp k e⟩,as,k _ _ (h9.nn.nr p hp) h10,h11.1,fun i a r e1 e2=>?_⟩
 obtain ⟨dd,s,u1,u2,A',u3⟩:=h11.2 i a r e1 e2
 exact ⟨dd,s,u1.keep k hz,u2.keep k hz,A',u3.own hp k e⟩
theorem WAt.grow {p:Addr}{ys:List V}(h:WAt C K H w bk rl g n0 rs)(hn:H p=none)(k:av H H')(e:H' p=some (.lst ys)):WAt C K H' w bk rl (g.plus p) n0 rs:=by
 obtain ⟨⟨dx,dl,gl,h1,h2,h3,h4,h5,h6,h7⟩,⟨dy,f,h8,A,h9⟩,as,h10,h11⟩:=h
 have hr:rl≠p:=aq h10 hn
 refine ⟨⟨dx,dl,gl,k _ _ h1,k _ _ h2,k _ _ h3,h4,h5,fun q hq=>?_,fun q hq=>?_⟩,⟨dy,f,k _ _ h8,A,h9.grow hr hn k e⟩,as,k _ _ h10,h11.1,fun i a r e1 e2=>?_⟩
 ·rcases hq with hq | rfl
  ·exact h6 q hq
  ·exact aq h2 hn
 ·rcases hq with hq | rfl
  ·exact h7 q hq
  ·exact aq h3 hn
 ·obtain ⟨dd,s,u1,u2,A',u3⟩:=h11.2 i a r e1 e2
  exact ⟨dd,s,k.tup u1,k.tup u2,A',u3.grow hr hn k e⟩
end
noncomputable def iK (ds:List Int)(ls:List Cd)(slow fast:Int)(lds:List Ld)(N:Addr->Prop):Cfg:=⟨ds,ls,slow,fast,lds.map (·.2.2),lds.map (·.1),N⟩
noncomputable def jM (ds:List Int)(ls:List Cd)(lds:List Ld):bg:=⟨ds.getD 0 0,ds.map fun _=>false,ls.map fun _=>false,.no,lds.map (·.2.1)⟩
theorem bt.keepI {C:Cl}{K:PySem.W.Frag}{H H':Hp}{rl s x D dp:Addr}{g:Cfg}{A:SA}{n:bg}{us:List (Str×V)}(h:bt C K H rl g s A n)(k:aB x H H')(hx:H x=some (.ins D dp us))(n1:s≠x)(n2:A.b≠x)(n3:A.y≠x):bt C K H' rl g s A n:=by
 refine ⟨k _ _ n1 h.ob,k _ _ (fun z=>?_) h.go,h.be.offI k hx n2,h.ya.offI k hx n3,h.ap,h.nn.keepI k hx⟩
 have:=h.go
 rw [z,hx] at this
 cases this
theorem Oy {ds:List Int}{ls:List Cd}{slow fast:Int}{lds:List Ld}{N:Addr->Prop}(h1:cM ds)(h2:ls.length=ds.length)(h3:∀x∈ls,fR x)(h4:1<=slow/\slow<=fast/\fast<=500)(h5:lds.length<=30):jL (iK ds ls slow fast lds N):=
 ⟨h1,h2,h3,h4.1,h4.2.1,h4.2.2,by simp [iK],by simpa [iK] using h5⟩
theorem L3 {ds:List Int}{ls:List Cd}{slow fast:Int}{lds:List Ld}{N:Addr->Prop}(h1:cM ds)(h2:ls.length=ds.length)(h6:∀x∈lds,lz ds.length x):eD (iK ds ls slow fast lds N) (jM ds ls lds):=by
 have l2:=h1.l2
 have l6:=h1.l6
 refine ⟨by simp [iK,jM],by simp [iK,jM,h2],by simp [iK,jM],fun x hx=>?_,fun i j hi hj h10 e=>?_,⟨0,.inl rfl,0,?_⟩,fun l r e=>?_⟩
 ·simp only [jM,List.mem_map] at hx
  obtain ⟨y,hy,rfl⟩:=hx
  exact .inl (h6 y hy).1
 ·exfalso
  have hm:(jM ds ls lds).ws.getD i 0∈(jM ds ls lds).ws:=dw hi
  simp only [jM,List.mem_map] at hm
  obtain ⟨y,hy,e1⟩:=hm
  have:=(h6 y hy).1
  simp only [jM] at h10
  omega
 ·exact lA h1 (i:=0) (by omega) rfl
 ·rcases e with e | e<;>cases e
end L2
namespace PySem
open PySem.Spec PyProof.Rows
section
variable {prog:Program}{w:World}{A:Around}{E:Value->Shared->Prop}{s:Shared}
theorem BS {it t:Addr}{items:Array Value}(hne:t≠it):∀(n i:Nat) (s:Shared) (Q:List Value->Shared->Prop),s.heap.IsListIter it t i->s.heap.IsList t items->i+n<=items.size->
  (∀h',Heap.IsListIter h' it t (i+n)->Heap.SameBut it s.heap h'->Q ((items.toList.drop i).take n) {s with heap:=h'})->wpAny (model prog w) A (draw (.ref it) n) Q E s
 | 0,i,s,Q,hit,_,_,hQ=>by
  show wpAny _ _ (pure []) Q E s
  exact wpAny_pure (by simpa using hQ s.heap hit (Heap.SameBut.refl ..))
 | n+1,i,s,Q,hit,ht,hle,hQ=>by
  have hlt:i < items.size:=by omega
  show wpAny _ _ (pyNext (.ref it) >>= _) Q E s
  refine wpAny_bind (wpAny_pyNext_list_item hit ht (x:=items[i]) (by simp [hlt]) fun h₁ hit₁ hs₁=>?_)
  refine wpAny_bind (wpAny_holding (BS hne n (i+1) _ _ hit₁ (ht.extBut hs₁.extBut hne) (by omega) fun h₂ hit₂ hs₂=>wpAny_pure ?_))
  have hd:items.toList.drop i=items[i]::items.toList.drop (i+1):=by simp [List.drop_eq_getElem_cons,hlt]
  have:=hQ h₂ (by rw [show i+(n+1)=i+1+n by omega];exact hit₂) (hs₁.trans hs₂)
  rw [hd,List.take_succ_cons] at this
  exact this
theorem xy {t:Addr}{items:Array Value}{Q:List Value->Shared->Prop}(hh:A.handled=none)(ht:s.heap.IsList t items)
  (hQ:∀h',Heap.ExtBut s.heap.objs.size s.heap h'->Q items.toList {s with heap:=h'}):wpAny (model prog w) A (unpackItems (.ref t) items.size none) Q E s:=by
 have hlt:t≠s.heap.objs.size:=by obtain ⟨o,ho,_⟩:=ht;exact Nat.ne_of_lt (Heap.lt_size ho)
 unfold unpackItems
 refine wpAny_bind ?_
 ·unfold notIterableAtAll
  refine wpAny_bind (wpAny_specialOf ht.typeIs slot_list_iter.lookup ?_)
  refine wpAny_pure ?_
  simp only [Bool.false_eq_true,if_false]
  refine wpAny_bind (wpAny_holding (wpAny_pyIter_list ht ?_))
  refine wpAny_bind (wpAny_holding (BS hlt items.size 0 _ _ ⟨_,Heap.get?_push_size _ rfl,rfl,rfl⟩ (ht.push _) (by omega) fun h₁ hit₁ hs₁=>?_))
  have hall:List.take items.size (List.drop 0 items.toList)=items.toList:=by
   rw [List.drop_zero];exact List.take_of_length_le (by simp)
  rw [hall]
  rw [if_neg (by simp)]
  have ht₁:Heap.IsList h₁ t items:=(ht.push _).extBut hs₁.extBut hlt
  refine wpAny_bind (wpAny_holding (wpAny_pyNext_list_end hh hit₁ ht₁ (by simp) fun h₂ he₂=>?_))
  simp only [Option.isSome_none,Bool.false_eq_true,if_false]
  refine wpAny_pure (hQ h₂ fun b o hb e=>he₂ b o hb (hs₁.extBut b o hb (Heap.get?_push_of_some _ e)))
theorem EF {t:Addr}{items:Array Value}{targets:List (Bool×(Value->Sem Unit))}{Q:Unit->Shared->Prop}(hh:A.handled=none)(ht:s.heap.IsList t items)
  (hn:targets.length=items.size) (hstar:targets.findIdx? (·.1)=none)
  (h:∀h',Heap.ExtBut s.heap.objs.size s.heap h'->wpAny (model prog w) A (assignInOrder (targets.map (·.2)) items.toList) Q E {s with heap:=h'}) :
  wpAny (model prog w) A (unpack (.ref t) targets) Q E s:=by
 unfold unpack
 rw [hn,hstar]
 exact wpAny_bind (wpAny_holding (xy hh ht h))
theorem vC {env:Env}{elts:List Expr}{x1}{pos:Pos}{t:Addr}{items:Array Value}{Q:Unit->Shared->Prop}(hh:A.handled=none)(ht:s.heap.IsList t items)
  (hn:(assignEach elts env).length=items.size) (hstar:(assignEach elts env).findIdx? (·.1)=none)
  (h:∀h',Heap.ExtBut s.heap.objs.size s.heap h'->wpAny (model prog w) A (assignInOrder ((assignEach elts env).map (·.2)) items.toList) Q E {s with heap:=h'}) :
  wpAny (model prog w) A (assign (.Tuple elts x1 pos) env (.ref t)) Q E s:=by
 rw [assign_Tuple]
 exact wpAny_bind (wpAny_standAt (EF hh ht hn hstar h))
end
end PySem
namespace L2
open PySem PySem.Spec PyProof.Rows PySem.SeqAt
section
variable {X:Cx}{pos:Pos}
noncomputable def Nq (K:PySem.W.Frag)(n:Nat)(t:TGs):TG:=fun v σ H Q=>∃a xs,v=.ref a/\SqL K H a xs/\xs.length=n/\t xs σ H Q
theorem GL {es:List Expr}{k:Nat}{t:TGs}{n:Nat}(hc:X.calm=true)(h:PGs X es t)
  (hn:(assignEach es X.env).length=n:=by rfl) (hst:(assignEach es X.env).findIdx? (·.1)=none:=by rfl):PG X (.Tuple es k pos) (Nq X.K n t):=by
 intro pins s σ H v u Q I r hw
 obtain ⟨a,xs,e1,hq,hl,hw⟩:=hw
 subst e1
 cases r
 obtain ⟨its,rv,ht,hz⟩:=I.list hq
 refine vC (I.ok.hd hc) ht.isList (by simp [hn,←hl,rv.length]) hst fun h' hx=>?_
 have I1:Inv X pins σ H {s with heap:=h'}:=I.kept (t':=s.toks) fun b o e=>hx b o (Nat.ne_of_lt (Heap.lt_size e)) e
 exact h pins _ σ H xs _ Q I1 (by simpa using rv) hw
noncomputable def Oz (K:PySem.W.Frag):R2:=fun x y H Q=>∃a b xs ys,x=.ref a/\y=.ref b/\SqL K H a xs/\SqL K H b ys/\xs.all cx=true/\ys.all cx=true/\Q (.bl (!eqL xs ys)) H
theorem OA (hu:X.A.units < cLine):OpR X (compareOp .NotEq) (Oz X.K):=by
 intro pins s σ H x y u v Q I rx ry h
 obtain ⟨a,b,xs,ys,rfl,rfl,ha,hb,fa,fb,q⟩:=h
 cases rx;cases ry
 obtain ⟨ia,ra,pa,za⟩:=I.list ha
 obtain ⟨ib,rb,pb,zb⟩:=I.list hb
 have la:=ra.length
 have lb:=rb.length
 by_cases hl:xs.length=ys.length
 ·refine RcNeAt.lists (e:=fun j=>eqV (xs.getD j .non) (ys.getD j .non)) pa.isList pb.isList (by simp only [List.size_toArray];omega) hu (fun j h1 h2=>?_) X.prog X.w _ _ ?_
  ·simp only [List.size_toArray] at h1 h2
   have hx:xs[j]?=some (xs.getD j .non):=by
    rw [List.getD_eq_getElem?_getD,List.getElem?_eq_getElem (by omega)];rfl
   have hy:ys[j]?=some (ys.getD j .non):=by
    rw [List.getD_eq_getElem?_getD,List.getElem?_eq_getElem (by omega)];rfl
   obtain ⟨u,eu,ru⟩:=ra.get hx
   obtain ⟨v,ev,rv⟩:=rb.get hy
   have e1:ia.toArray[j]=u:=by
    have:=List.getElem?_eq_some_iff.mp eu
    simpa using this.2
   have e2:ib.toArray[j]=v:=by
    have:=List.getElem?_eq_some_iff.mp ev
    simpa using this.2
   rw [e1,e2]
   exact xo ru rv (List.all_eq_true.mp fa _ (List.mem_of_getElem? hx)) (List.all_eq_true.mp fb _ (List.mem_of_getElem? hy))
  ·have e:(List.range ia.toArray.size).all (fun j=>eqV (xs.getD j .non) (ys.getD j .non))=eqL xs ys:=by
    rw [List.size_toArray,←la]
    exact y3 hl
   rw [e]
   exact ⟨.bl (!eqL xs ys),H,I,rfl,q⟩
 ·refine RcNeAt.lists_lengths pa.isList pb.isList (by simp only [List.size_toArray,bne_iff_ne,ne_eq];omega) hu X.prog X.w _ _ ?_
  have e:eqL xs ys=false:=by
   cases he:eqL xs ys with
   | false=>rfl
   | true=>exact absurd (y0 he) hl
  rw [e] at q
  exact ⟨.bl true,H,I,rfl,q⟩
end
end L2
namespace L2
open PySem PySem.Spec PyProof.Rows
inductive Run (g:Cfg)(n0:bg):List Row->Prop
 | nil:Run g n0 []
 | snoc {rs:List Row} {d:Dd} (h:Run g n0 rs) (ok:yM d) (hr:dD g (ak n0 rs) d=none):Run g n0 (rs++[zr g n0 rs d])
theorem EG {α:Type}{xs ys:List α}{a b:α}(h:xs++[a]=ys++[b]):xs=ys/\a=b:=by
 have:=List.append_inj' h rfl
 exact ⟨this.1,by simpa using this.2⟩
theorem Run.inv {g:Cfg}{n0:bg}{rs:List Row}{r:Row}(h:Run g n0 (rs++[r])):Run g n0 rs/\∃d,yM d/\dD g (ak n0 rs) d=none/\r=zr g n0 rs d:=by
 generalize e:rs++[r]=rs' at h
 cases h with
 | nil=>simp at e
 | @snoc rs2 d h ok hr=>
  obtain ⟨rfl,rfl⟩:=EG e
  exact ⟨h,d,ok,hr,rfl⟩
theorem Run.snap {g:Cfg}{n0:bg}{rs:List Row}(hg:jL g)(h0:eD g n0)(h:Run g n0 rs):eD g (ak n0 rs):=by
 induction h with
 | nil=>exact h0
 | snoc h ok hr ih=>
  rw [qs]
  exact ih.next hg ok hr
theorem Run.deeds {g:Cfg}{n0:bg}{rs:List Row}(h:Run g n0 rs):∀r∈rs,∃d,r.deed=ddV d:=by
 induction h with
 | nil=>intro r hr;cases hr
 | @snoc rs d h ok hr ih=>
  intro r hr
  rcases List.mem_append.mp hr with hr | hr
  ·exact ih r hr
  ·rw [List.mem_singleton] at hr
   subst hr
   exact ⟨d,rfl⟩
def y4 (K:PySem.W.Frag)(H:Hp)(a:Addr)(r:Row):Prop:=∃dd,SqT K H a [.int r.began,.int r.ended,.ref dd]/\SqT K H dd r.deed
def dN (K:PySem.W.Frag)(H:Hp)(as:List Addr)(rs:List Row):Prop:=as.length=rs.length/\∀(i:Nat) a r,as[i]?=some a->rs[i]?=some r->y4 K H a r
theorem dN.same {K:PySem.W.Frag}{H H':Hp}{as:List Addr}{rs:List Row}(h:dN K H as rs)(e:av H H'):dN K H' as rs:=⟨h.1,fun i a r e1 e2=>by
 obtain ⟨dd,h1,h2⟩:=h.2 i a r e1 e2
 exact ⟨dd,e.tup h1,e.tup h2⟩⟩
theorem dN.keep {K:PySem.W.Frag}{H H':Hp}{p:Addr}{ys:List V}{as:List Addr}{rs:List Row}(h:dN K H as rs)(e:aB p H H')(hp:H p=some (.lst ys)):dN K H' as rs:=⟨h.1,fun i a r e1 e2=>by
 obtain ⟨dd,h1,h2⟩:=h.2 i a r e1 e2
 exact ⟨dd,h1.keep e hp,h2.keep e hp⟩⟩
theorem dN.nil {K:PySem.W.Frag}{H:Hp}:dN K H [] []:=⟨rfl,fun i a r e _=>by simp at e⟩
theorem dN.push {K:PySem.W.Frag}{H:Hp}{as:List Addr}{rs:List Row}{a:Addr}{r:Row}(h:dN K H as rs)(hr:y4 K H a r):dN K H (as++[a]) (rs++[r]):=by
 refine ⟨by rw [List.length_append,List.length_append,h.1];rfl,fun i b x e1 e2=>?_⟩
 by_cases hi:i < as.length
 ·rw [List.getElem?_append_left hi] at e1
  rw [List.getElem?_append_left (by rw [←h.1];exact hi)] at e2
  exact h.2 i b x e1 e2
 ·rw [List.getElem?_append_right (by omega)] at e1
  rw [List.getElem?_append_right (by rw [←h.1];omega),←h.1] at e2
  have hz:i - as.length=0:=by
   have:=(List.getElem?_eq_some_iff.mp e1).1
   simp at this
   omega
  rw [hz] at e1 e2
  cases e1
  cases e2
  exact hr
theorem dN.last {K:PySem.W.Frag}{H:Hp}{as:List Addr}{rs:List Row}{r:Row}(h:dN K H as (rs++[r])):∃as' a,as=as'++[a]/\dN K H as' rs/\y4 K H a r:=by
 have hl:=h.1
 rw [List.length_append,List.length_singleton] at hl
 rcases dU as with rfl | ⟨as',a,rfl⟩
 ·cases hl
 ·have hl':as'.length=rs.length:=by rw [List.length_append,List.length_singleton] at hl;omega
  refine ⟨as',a,rfl,⟨hl',fun i b x e1 e2=>?_⟩,?_⟩
  ·have hi:=(List.getElem?_eq_some_iff.mp e1).1
   exact h.2 i b x (by rw [List.getElem?_append_left hi];exact e1) (by rw [List.getElem?_append_left (by omega)];exact e2)
  ·refine h.2 as'.length a r ?_ ?_
   ·rw [List.getElem?_append_right (Nat.le_refl _)];simp
   ·rw [List.getElem?_append_right (by omega),hl'];simp
noncomputable def Nr (r:Row):Dt:=.tup [.flat (.int r.began),.flat (.int r.ended),.tup (r.deed.map Dt.flat)]
noncomputable def Nt (rs:List Row):Dt:=.lst (rs.map Nr)
theorem I9 {K:PySem.W.Frag}{H:Hp}{a:Addr}{r:Row}{n:Nat}(h:y4 K H a r)(hd:∃d,r.deed=ddV d):Rep K H (n+2) (.ref a) (Nr r):=by
 obtain ⟨dd,h1,h2⟩:=h
 obtain ⟨d,hd⟩:=hd
 refine .tup h1 (by show 3<=100000;decide) rfl fun i x y e1 e2=>?_
 match i,e1,e2 with
 | 0,e1,e2=>cases e1;cases e2;exact .flat rfl
 | 1,e1,e2=>cases e1;cases e2;exact .flat rfl
 | 2,e1,e2=>
  cases e1;cases e2
  have:=Ig d
  exact gy h2 (by rw [hd];omega) (by rw [hd];exact zp d)
 | i+3,e1,e2=>simp at e1
theorem EH {K:PySem.W.Frag}{H:Hp}{p:Addr}{as:List Addr}{rs:List Row}{n:Nat}(hp:SqL K H p (as.map V.ref))(h:dN K H as rs)(hd:∀r∈rs,∃d,r.deed=ddV d)(hl:rs.length<=100000):Rep K H (n+3) (.ref p) (Nt rs):=by
 refine .lst hp (by rw [List.length_map,h.1];exact hl) (by rw [List.length_map,List.length_map,h.1]) fun i x y e1 e2=>?_
 rw [List.getElem?_map] at e1 e2
 cases ea:as[i]? with
 | none=>rw [ea] at e1;cases e1
 | some a=>
  cases er:rs[i]? with
  | none=>rw [er] at e2;cases e2
  | some r=>
   rw [ea] at e1;rw [er] at e2
   cases e1;cases e2
   exact I9 (h.2 i a r ea er) (hd r (List.mem_of_getElem? er))
theorem BU {K:PySem.W.Frag}{H:Hp}{a:Addr}{bs:List Bool}{n:Nat}(h:SqL K H a (bs.map V.bl))(hb:bs.length<=100000):Rep K H (n+1) (.ref a) (.lst ((bs.map V.bl).map Dt.flat)):=by
 refine .lst h (by rw [List.length_map];exact hb) (by simp) fun i x y e1 e2=>?_
 rw [List.getElem?_map,e1] at e2
 cases e2
 rw [List.getElem?_map] at e1
 cases eb:bs[i]? with
 | none=>rw [eb] at e1;cases e1
 | some b=>rw [eb] at e1;cases e1;exact .flat rfl
theorem WAt.off {C:Cl}{K:PySem.W.Frag}{H:Hp}{w bk rl:Addr}{g:Cfg}{n0:bg}{rs:List Row}(h:WAt C K H w bk rl g n0 rs)(p:Addr)(hp:g.N p):rl≠p:=by
 obtain ⟨dx,f,_,A,hA⟩:=h.bo.ob
 exact hA.nn.nr p hp
section
variable {X:Cx}
noncomputable def OB (C:Addr)(m:Str)(sp:Sp)(dvs:List V)(E':XT)(ta:TE)(t:TA):TE:=fun σ H Q=>HK C m sp dvs (fun cls _ H'=>E' cls σ H') ta t σ H Q
end
end L2
namespace PySem
open Sem (wp)
open Builtin PySem.Spec PyProof.Rows PySem.SeqAt
theorem xA:fillsNumberSlot (.type "tuple") "mul"=pure false:=
 fillsNumberSlot_seq (id:="tuple.__mul__") (r:=some (.builtin "tuple.__rmul__")) F.slot_tuple_mul.lookup (by decide +kernel) F.slot_tuple_rmul.lookup (by decide +kernel)
theorem Dk:seqRepeat? (.type "tuple")=pure (some (.builtin "tuple.__mul__")):=by
 unfold seqRepeat?
 rw [seqSlot_of (T:="tuple") (name:="__mul__") (id:="tuple.__mul__") F.slot_tuple_mul.lookup (by decide +kernel),seqSlot_of (T:="tuple") (name:="__rmul__") (id:="tuple.__rmul__") F.slot_tuple_rmul.lookup (by decide +kernel)]
 rfl
theorem oP (a:Int)(t:Tok)(l:Addr)(items:Array Value)(n:Nat)(dd:Option Addr)(sl:Array (Option Value)) :
  Meets (Builtin.«int.__rmul__» ⟨[.int a t,.ref l],[]⟩) (fun _ R s=>s.heap.get? l=some {cls:=.type "tuple",dict:=dd,data:=.seq items n,slots:=sl}/\R (.ok (.ret Value.notImplemented)) s):=
 .of_wp fun prog w A R s h=>by obtain ⟨hp,g,d,tk,os⟩:=s;obtain ⟨hl,h⟩:=h;wp_walk;exact ⟨_,rfl,h⟩
theorem GN (l:Addr)(items:Array Value)(n:Nat)(dd:Option Addr)(sl:Array (Option Value))(x:Int)(u:Tok)(h2:2<=x)(h3:x<=100)(hz:items.size=1) :
  Meets (Builtin.«tuple.__mul__» ⟨[.ref l,.int x u],[]⟩) (fun A R s=>s.heap.get? l=some {cls:=.type "tuple",dict:=dd,data:=.seq items n,slots:=sl}/\
   R (.ok (.ret (.ref s.heap.objs.size))) {s with heap:=s.heap.push {cls:=.type "tuple",data:=.seq ((List.replicate x.toNat items).foldl (·++·) #[])}}):=
 .of_wp fun prog w A R s h=>by
  obtain ⟨hp,g,d,tk,os⟩:=s;obtain ⟨hl,h⟩:=h
  have c1:¬(decide (x < -(2 ^ 63)) || decide (x≥2 ^ 63))=true:=by simp;omega
  have c2:¬(items.isEmpty || x == 1)=true:=by
   simp only [Array.isEmpty,Bool.or_eq_true,beq_iff_eq,decide_eq_true_eq];omega
  have c3:¬(decide (x<=0) || items.isEmpty)=true:=by
   simp only [Array.isEmpty,Bool.or_eq_true,beq_iff_eq,decide_eq_true_eq];omega
  have c4:¬((items.size:Int) * x > (2 ^ 63 - 1) / 8):=by rw [hz];omega
  have c5:¬Builtin.Tuple.tupleTooMany ((items.size:Int) * x)=true:=by
   simp only [Builtin.Tuple.tupleTooMany,decide_eq_true_eq,hz,sizeLine_eq];omega
  have c6:¬((List.foldl (fun x1 x2=>x1++x2) #[] (List.replicate x.toNat items)).size > sizeLine):=by
   have f0:∀(m:Nat) (b:Array Value),(List.foldl (fun x1 x2=>x1++x2) b (List.replicate m items)).size=b.size+m:=fun m=>by
    induction m with
    | zero=>intro b;rfl
    | succ m ih=>intro b;rw [List.replicate_succ,List.foldl_cons,ih,Array.size_append,hz];omega
   rw [f0,sizeLine_eq]
   show ¬(0+x.toNat > _)
   omega
  wp_walk using wpAny_loadPart' hl
  rw [if_neg c1]
  wp_walk using wpAny_loadPart' hl
  rw [if_neg c4]
  wp_walk using wpAny_loadPart' hl
  rw [if_neg c5]
  wp_walk using wpAny_loadPart' hl
  exact ⟨_,rfl,h⟩
theorem qt {M:Model}{A:Around}{E:Value->Shared->Prop}{s:Shared}{β:Type}{c:β}{f:Nat->β->Sem (ForInStep β)}{Q:β->Shared->Prop} :
  ∀(l:List Nat) (j:Nat) (hj:j < l.length) (hno:∀i (hi:i < l.length),i < j->∀Q',Q' (.yield c) s->wpAny M A (f l[i] c) Q' E s) (hit:wpAny M A (f l[j] c) (fun r s1=>match r with | .done b=>Q b s1 | .yield _=>False) E s),wpAny M A (forIn l c f) Q E s
 | [],j,hj,_,_=>absurd hj (Nat.not_lt_zero _)
 | x::l,0,hj,_,hit=>by
  rw [List.forIn_cons]
  refine wpAny_bind (wpAny_mono hit ?_ (fun _ _ z=>z))
  intro r s1 h1
  cases r with
  | done b=>exact wpAny_pure h1
  | yield b=>exact h1.elim
 | x::l,j+1,hj,hno,hit=>by
  rw [List.forIn_cons]
  refine wpAny_bind (hno 0 (Nat.succ_pos _) (Nat.succ_pos _) _ ?_)
  exact qt l j (by simpa using hj) (fun i hi hij=>hno (i+1) (by simpa using hi) (by omega)) hit
theorem zw {M:Model}{A:Around}{E:Value->Shared->Prop}{s:Shared}{β:Type}{c:β}{f:Nat->β->Sem (ForInStep β)}{Q:β->Shared->Prop}{n:Nat}(j:Nat)(hj:j < n)
  (h:(∀i,i < j->∀Q',Q' (.yield c) s->wpAny M A (f i c) Q' E s)/\wpAny M A (f j c) (fun r s1=>match r with | .done b=>Q b s1 | .yield _=>False) E s) :
  wpAny M A (forIn ([:n]:Std.Legacy.Range) c f) Q E s:=by
 rw [Std.Legacy.Range.forIn_eq_forIn_range']
 have hl:([:n]:Std.Legacy.Range).size=n:=by simp [Std.Legacy.Range.size]
 refine qt _ j (by simp [hl];exact hj) (fun i hi hij Q' q=>?_) ?_
 ·have:=h.1 i hij Q' q
  simpa using this
 ·have:=h.2
  simpa using this
theorem AZ (l:Addr)(items:Array Value)(n:Nat)(dd:Option Addr)(sl:Array (Option Value))(x:Value)(e:Value->Bool)(j:Nat)(hj:j < items.size)
  (hit:e items[j]=true) (hno:∀m (hm:m < items.size),m < j->e items[m]=false) :
  Meets (Builtin.«tuple.index» ⟨[.ref l,x],[]⟩)
   (fun A R s=>s.heap.get? l=some {cls:=.type "tuple",dict:=dd,data:=.seq items n,slots:=sl}/\(∀y,y∈items->EqAt A.in1 s y x (e y))/\R (.ok (.ret (.int j s.toks))) {s with toks:=s.toks+1}):=
 .of_wp fun prog w A R s h=>by
  obtain ⟨hp,g,d,tk,os⟩:=s;obtain ⟨hl,he,h⟩:=h
  wp_walk using wpAny_loadPart' hl,zw j (show j < min items.size items.size by omega)
  refine ⟨fun i hi Q' q=>?_,?_⟩
  ·have hm:i < items.size:=by omega
   simp only [getElem?_pos items i hm]
   refine wpAny_bind (he _ (Array.getElem_mem hm) prog w _ _ ?_)
   rw [hno i hm hi,if_neg Bool.false_ne_true]
   exact wpAny_pure q
  ·simp only [getElem?_pos items j hj]
   refine wpAny_bind (he _ (Array.getElem_mem hj) prog w _ _ ?_)
   rw [hit,if_pos rfl]
   wp_walk
   exact ⟨_,rfl,h⟩
section
variable {prog:Program}{w:World}{A:Around}{E:Value->Shared->Prop}{s:Shared}
theorem A1 {l:Addr}{vs:List Value}{Q:List Value->Shared->Prop}(hl:IsTup s.heap l vs.toArray)
  (h:Q vs {s with heap:=(s.heap.push (seqObj "list" #[] 0)).update s.heap.objs.size (Obj.mapSeq (·++vs.toArray))}) (hsz:vs.length<=sizeLine:=by size_fits) :
  wpAny (model prog w) A (collect (.ref l)) Q E s:=by
 obtain ⟨o,ho,hc,n,hd⟩:=id hl
 unfold collect
 refine wpAny_bind (wpAny_runValue (codeAny_builtin entry_proto_collect' ?_))
 show wpAny _ _ (do again (.builtin "list.__iadd__" ⟨[←newList [],.ref l],[]⟩)) _ _ s
 refine wpAny_bind (wpAny_newList (wpAny_pure ⟨Code.quiet_builtin _ (by decide +kernel),codeAny_builtin entry_list_iadd' ?_⟩))
 show wpAny _ _ (Builtin.List.listExtendWith (.ref s.heap.objs.size) (.ref l) (.ref s.heap.objs.size)) _ _ {s with heap:=s.heap.push (seqObj "list" #[] 0)}
 unfold Builtin.List.listExtendWith
 have ho':(s.heap.push (seqObj "list" #[] 0)).get? l=some o:=Heap.get?_push_of_some _ ho
 refine wpAny_bind (wpAny_typeOf (T:="tuple") ⟨o,ho',hc⟩ ?_)
 have ht:(Value.type "tuple" == Value.type "tuple")=true:=by rfl
 rw [if_pos (by rw [ht];simp)]
 refine wpAny_bind (listItems_at ho' hd ?_)
 refine wpAny_bind (listItems_at (xs:=#[]) (n:=0) (Heap.get?_push_size _ rfl) rfl ?_)
 rw [if_neg (by simp)]
 refine wpAny_bind (listUpdate_at (xs:=#[]) (n:=0) (Heap.get?_push_size _ rfl) rfl ?_ (Nat.zero_le _) (by show (#[]++vs.toArray).size<=sizeLine+1;simp only [Array.size_append,List.size_toArray,List.length_nil];omega))
 refine wpAny_pure ?_
 show wpAny (model prog w) A (do
   let o ←load s.heap.objs.size
   match o.data with
   | .seq xs _=>pure xs.toList
   | _=>unsupported "internal:collect") Q E {s with heap:=(s.heap.push (seqObj "list" #[] 0)).update s.heap.objs.size (Obj.mapSeq (·++vs.toArray))}
 refine wpAny_bind (wpAny_load (get?_update_seq (Heap.get?_push_size _ rfl) _) ?_)
 show wpAny _ _ (pure ((#[]:Array Value)++vs.toArray).toList) Q E _
 rw [show ((#[]:Array Value)++vs.toArray).toList=vs by simp]
 exact wpAny_pure h
theorem Dl {l:Addr}{vs:List Value}{ns:List Int}{Q:Value->Shared->Prop}(hl:IsTup s.heap l vs.toArray)(hI:IntsAre vs ns)(h64:vs.length < 64)
  (h:∀(out:Array Value) (ns':List Int),IntsAre out.toList ns'->ns'.Perm ns->ns'.Pairwise (·<=·)->Q (.ref (s.heap.objs.size+1)) {s with heap:=sortedAll s.heap vs out}) :
  wpAny (model prog w) A (call (.builtin "sorted") [.ref l]) Q E s:=by
 refine Calls.call_function_entry kind_sorted plain_sorted entry_sorted (args_sorted1 _) ?_
 unfold Builtin.«sorted»
 refine wpAny_bind (m:=checkCount "sorted" 1 1 _) (wpAny_pure ?_)
 refine wpAny_bind (A1 hl ?_ (by rw [sizeLine_eq];omega))
 refine wpAny_bind (wpAny_newList ?_)
 have hsz:((s.heap.push (seqObj "list" #[] 0)).update s.heap.objs.size (Obj.mapSeq (·++vs.toArray))).objs.size=s.heap.objs.size+1:=by
  rw [Heap.size_update,size_push']
 have hoL:(((s.heap.push (seqObj "list" #[] 0)).update s.heap.objs.size (Obj.mapSeq (·++vs.toArray))).push (seqObj "list" vs.toArray 0)).get? (s.heap.objs.size+1)=some (seqObj "list" vs.toArray 0):=by
  rw [←hsz];exact Heap.get?_push_size _ rfl
 show wpAny _ _ _ _ _ {s with heap:=((s.heap.push (seqObj "list" #[] 0)).update s.heap.objs.size (Obj.mapSeq (·++vs.toArray))).push (seqObj "list" vs.toArray 0)}
 rw [hsz]
 refine wpAny_bind (wpAny_holding (wpAny_call_entry slot_list_sort ⟨_,hoL,rfl⟩ entry_list_sort (list_sort_tree hoL hI h64 fun out ns' a1 a2 a3=>⟨_,rfl,?_⟩) (args_list_sort _)))
 exact wpAny_pure ⟨_,rfl,h out ns' a1 a2 a3⟩
end
end PySem
namespace L2
open PySem PySem.Spec PyProof.Rows PySem.SeqAt
section
variable {X:Cx}
noncomputable def Nu (K:PySem.W.Frag):R2:=fun x y H Q=>∃l k v,x=.ref l/\y=.int k/\SqT K H l [v]/\2<=k/\k<=100/\∀p,H p=none->Q (.ref p) (upd H p (.tup (List.replicate k.toNat v)))
theorem Ko {α:Type}(n:Nat)(x:α):(List.replicate n [x]).flatten=List.replicate n x:=by
 induction n with
 | zero=>rfl
 | succ n ih=>rw [List.replicate_succ,List.replicate_succ,List.flatten_cons,ih];rfl
theorem EI {v:V}{u:Value}(r:cw v u):∀n,bJ (List.replicate n v) (List.replicate n u)
 | 0=>.nil
 | n+1=>.cons r (EI r n)
theorem L4:OpR X (binaryOp .Mult) (Nu X.K):=by
 intro pins s σ H x y v u Q I rx ry h
 obtain ⟨l,k,z,rfl,rfl,hS,h1,h2,q⟩:=h
 cases rx
 obtain ⟨t,rfl⟩:=ry
 obtain ⟨its,r,ht,hz⟩:=I.tuple hS
 obtain ⟨w,rfl,rw1⟩:=r.one
 obtain ⟨⟨cls,dd,data,sl⟩,ho,hc,n,hd⟩:=id ht
 simp only at hc hd
 subst hc hd
 have e:List.foldl (fun x1 x2=>x1++x2) #[] (List.replicate k.toNat [w].toArray)=(List.replicate k.toNat w).toArray:=by
  have:=BK [w] k.toNat []
  rw [List.nil_append,Ko] at this
  exact this
 refine wpAny_binaryOp_repeat_ref (T:="tuple") (U:="int") (by decide) ⟨_,ho,rfl⟩ (fun s'=>typeIs_int s' k t) xA F.fills_int_mul F.slot_int_rmul Dk F.slot_int_index.lookup
  (call_meets F.slot_int_rmul (typeIs_int s k t) F.entry_int_rmul (F.args_int_rmul_2 _ _) (oP k t l [w].toArray n dd sl)
   ⟨ho,rfl,⟨_,ho,rfl⟩,call_meets F.slot_tuple_mul ⟨_,ho,rfl⟩ F.entry_tuple_mul (F.args_tuple_mul_2 _ _) (GN l [w].toArray n dd sl k t h1 h2 rfl) ⟨ho,?_⟩⟩)
 rw [e]
 refine ⟨.ref s.heap.objs.size,_,I.laid (t':=s.toks) (o:=.tup (List.replicate k.toNat z)) (fun b ob q=>Heap.get?_push_of_some _ q) (Nat.le_refl _) ?_,rfl,q _ (I.hok.fresh (Nat.le_refl _))⟩
 exact ⟨by rw [List.length_replicate,sizeLine_eq];omega,_,EI rw1 _,lq.new _ _⟩
noncomputable def Ih:V->List V->Hp->VK->Prop:=fun x vs H Q=>∃(l:Addr) (ns:List Int) (k:Int),x=.ref l/\vs=[.int k]/\H l=some (.tup (ns.map V.int))/\k∈ns/\Q (.int (ns.idxOf k:Nat)) H
theorem Jb:MtR X "tuple.index" Ih:=by
 intro pins s σ H x vs v us Q I rx rv h
 obtain ⟨l,ns,k,rfl,rfl,hq,hk,q⟩:=h
 cases rx
 obtain ⟨u,rfl,t,rfl⟩:=rv.one
 obtain ⟨its,r,pl,hz⟩:=I.tuple (SqT.of hq)
 have hi:IntsAre its ns:=xr r
 obtain ⟨⟨cls,dd,data,sl⟩,ho,hc,n,hd⟩:=id pl
 simp only at hc hd
 subst hc hd
 have hlen:=hi.length
 have hj:ns.idxOf k < ns.length:=List.idxOf_lt_length_iff.mpr hk
 refine call_meets PySem.F.slot_tuple_index ⟨_,ho,rfl⟩ PySem.F.entry_tuple_index (PySem.F.args_tuple_index_2 _ _)
  (AZ l its.toArray n dd sl (.int k t) (isInt k) (ns.idxOf k) (by simpa [hlen] using hj) ?_ ?_) ⟨ho,fun y hy=>(eq_isInt k t hi y (by simpa using hy)).at _ _,?_⟩
 ·show isInt k its[ns.idxOf k]=true
  rw [isInt_at k hi _ (by omega) hj]
  simpa using List.getElem_idxOf hj
 ·intro j hjs hlt
  show isInt k its[j]=false
  rw [isInt_at k hi j (by simpa using hjs) (by omega)]
  exact ne_of_lt_idxOf hlt _
 ·exact ⟨.int (ns.idxOf k:Nat),H,I.tok _,⟨_,rfl⟩,q⟩
noncomputable def P1 (r:V->List V->Hp->VK->Prop)(to:TE)(t:TA):TE:=fun σ H Q=>to σ H fun x H1=>(∃a xs,x=.ref a/\H1 a=some (.tup xs))/\t σ H1 fun xs H2=>r x xs H2 Q
theorem OC {o e:Expr}{es:List Expr}{to:TE}{t:TA}{name:Str}{apos cpos:Pos}{id:String}{r:V->List V->Hp->VK->Prop}(pa:PlainAttrs "tuple")(slot:Slot "tuple" name id)(hty:typeOf (.builtin id)=pure (.type "method_descriptor"))(hm:MtR X id r)(ho:PE X o to)(ha:PA X (e::es) t)
  (hbase:attributeBase o name X.env (eval o X.env)=eval o X.env:=by rfl)
  (hfew:((backTo cpos (starEach (e::es) X.env)).all (fun x=>!x.1) && (backToKw cpos (keywordEach [] X.env)).all (fun x=>x.1.isSome)
   && decide ((e::es).length+([]:List Keyword).length+(if ([]:List Keyword).isEmpty then 0 else 1) < 30))=true:=by rfl)
  (hline:(apos.endLine == cpos.line)=true:=by rfl) (hs:starEach (e::es) X.env=(false,eval e X.env)::starEach es X.env:=by rfl) (hplain:(backTo cpos (starEach es X.env)).any (·.1)=false:=by rfl) :
  PE X (.Call (.Attribute o name apos) (e::es) [] cpos) (P1 r to t):=by
 intro pins s σ H Q I h
 refine wpAny_Call_method_late hbase hfew hline rfl (thn (ho pins s σ H _ I h) fun v s1 ⟨x,H1,I1,r1,ty,q1⟩=>?_)
 obtain ⟨a,xs,rfl,hH⟩:=ty
 cases r1
 obtain ⟨_,its,_,ob,e1,⟨c1,_⟩,d1⟩:=I1.hok a _ hH
 refine ⟨"tuple",id,pa,slot,hty,⟨ob,e1,c1⟩,fun b eb=>?_,?_⟩
 ·cases eb;exact ⟨ob,e1,d1⟩
 have hA:=ha cpos pins s1 σ H1 _ I1 q1
 rw [hs] at hA ⊢
 refine Calls.callWith_builtin (by show (false || (backTo cpos (starEach es X.env)).any (·.1))=false;rw [hplain]<;>rfl) (Calls.evalArgs_plain ?_)
 exact thn hA fun us s2 ⟨vs,H2,I2,r2,q2⟩=>hm pins s2 σ H2 (.ref a) vs (.ref a) us Q I2 rfl r2 q2
end
section
variable {X:Cx}
noncomputable def Kp (K:PySem.W.Frag):List V->Hp->VK->Prop:=fun xs H Q=>∃(a:Addr) (ns:List Int),xs=[.ref a]/\SqT K H a (ns.map V.int)/\ns.length < 64/\∀(l:Addr) (ms:List Int),H l=none->ms.Perm ns->ms.Pairwise (·<=·)->Q (.ref l) (upd H l (.lst (ms.map V.int)))
theorem GO:iG X (.builtin "sorted") (Kp X.K):=by
 intro pins s σ H xs us Q I r h
 obtain ⟨a,ns,rfl,hS,hn,q⟩:=h
 obtain ⟨u,rfl,ru⟩:=xU r
 cases ru
 obtain ⟨its,rv,pl,hz⟩:=I.tuple hS
 have hI:IntsAre its ns:=xr rv
 have hlen:its.length=ns.length:=hI.length
 refine Dl pl hI (by omega) fun out ms a1 a2 a3=>?_
 obtain ⟨c,hc⟩:=sortedAll_at s.heap its out
 have hml:ms.length=ns.length:=a2.length_eq
 have J:=I.laid (a:=s.heap.objs.size+1) (o:=.lst (ms.map V.int)) (t':=s.toks) (h':=sortedAll s.heap its out) (fun b o e=>sortedAll_old e) (Nat.le_succ _) (show iP X.prog X.w _ _ _ (.lst (ms.map V.int)) from ⟨by rw [List.length_map,hml];exact Nat.le_of_lt (dO (by omega)),out.toList,c,BN a1,by rw [Array.toArray_toList];exact hc⟩)
 exact ⟨.ref (s.heap.objs.size+1),_,J,rfl,q _ ms (I.hok.fresh (Nat.le_succ _)) a2 a3⟩
end
end L2
namespace L2
open PySem PySem.Spec PyProof.Rows
def gG {α:Type}(P:Addr->α->Prop)(as:List Addr)(xs:List α):Prop:=as.length=xs.length/\∀(i:Nat) a x,as[i]?=some a->xs[i]?=some x->P a x
section
variable {α:Type}{P Q:Addr->α->Prop}{as:List Addr}{xs:List α}{a:Addr}{x:α}
theorem gG.imp (h:gG P as xs)(f:∀a x,P a x->Q a x):gG Q as xs:=⟨h.1,fun i a x e1 e2=>f _ _ (h.2 i a x e1 e2)⟩
theorem gG.nil:gG P [] []:=⟨rfl,fun i a r e _=>by simp at e⟩
theorem gG.push (h:gG P as xs)(hr:P a x):gG P (as++[a]) (xs++[x]):=by
 refine ⟨by rw [List.length_append,List.length_append,h.1];rfl,fun i b y e1 e2=>?_⟩
 by_cases hi:i < as.length
 ·rw [List.getElem?_append_left hi] at e1
  rw [List.getElem?_append_left (by rw [←h.1];exact hi)] at e2
  exact h.2 i b y e1 e2
 ·rw [List.getElem?_append_right (by omega)] at e1
  rw [List.getElem?_append_right (by rw [←h.1];omega),←h.1] at e2
  have hz:i - as.length=0:=by
   have:=(List.getElem?_eq_some_iff.mp e1).1
   simp at this
   omega
  rw [hz] at e1 e2
  cases e1
  cases e2
  exact hr
theorem gG.last (h:gG P as (xs++[x])):∃as' a,as=as'++[a]/\gG P as' xs/\P a x:=by
 have hl:=h.1
 rw [List.length_append,List.length_singleton] at hl
 rcases dU as with rfl | ⟨as',a,rfl⟩
 ·cases hl
 ·have hl':as'.length=xs.length:=by rw [List.length_append,List.length_singleton] at hl;omega
  refine ⟨as',a,rfl,⟨hl',fun i b y e1 e2=>?_⟩,?_⟩
  ·have hi:=(List.getElem?_eq_some_iff.mp e1).1
   exact h.2 i b y (by rw [List.getElem?_append_left hi];exact e1) (by rw [List.getElem?_append_left (by omega)];exact e2)
  ·refine h.2 as'.length a x ?_ ?_
   ·rw [List.getElem?_append_right (Nat.le_refl _)];simp
   ·rw [List.getElem?_append_right (by omega),hl'];simp
end
def kP (K:PySem.W.Frag)(H:Hp)(a:Addr)(x:bg×Int):Prop:=∃gt lt ht dt:Addr,SqT K H a [.int x.1.place,.ref gt,.ref lt,.ref ht,.ref dt,.int x.2]/\SqT K H gt (x.1.gates.map V.bl)/\H lt=some (.tup (x.1.ws.map V.int))/\SqT K H ht (oO x.1.e)/\SqT K H dt ((dE x.1.fs).map V.int)
theorem kP.same {K:PySem.W.Frag}{H H':Hp}{a:Addr}{x:bg×Int}(h:kP K H a x)(s:av H H'):kP K H' a x:=by
 obtain ⟨gt,lt,ht,dt,h1,h2,h3,h4,h5⟩:=h
 exact ⟨gt,lt,ht,dt,s.tup h1,s.tup h2,s _ _ h3,s.tup h4,s.tup h5⟩
theorem kP.keep {K:PySem.W.Frag}{H H':Hp}{a p:Addr}{ys:List V}{x:bg×Int}(h:kP K H a x)(s:aB p H H')(hp:H p=some (.lst ys)):kP K H' a x:=by
 obtain ⟨gt,lt,ht,dt,h1,h2,h3,h4,h5⟩:=h
 exact ⟨gt,lt,ht,dt,h1.keep s hp,h2.keep s hp,s _ _ (fun z=>by rw [z,hp] at h3;cases h3) h3,h4.keep s hp,h5.keep s hp⟩
noncomputable def pE (n0:bg)(rs:List Row):List (bg×Int):=(n0,0)::rs.map fun r=>(r.sn,r.ended)
theorem uZ (n0:bg)(rs:List Row)(r:Row):pE n0 (rs++[r])=pE n0 rs++[(r.sn,r.ended)]:=by simp [pE]
theorem GP (n0:bg)(rs:List Row):(pE n0 rs).getLast?=some (ak n0 rs,dz rs):=by
 rcases dU rs with rfl | ⟨rs',r,rfl⟩
 ·rfl
 ·rw [uZ,List.getLast?_concat,qs,xv]
theorem BV (n0:bg)(rs:List Row):(pE n0 rs).length=rs.length+1:=by simp [pE]
theorem Dm {K:PySem.W.Frag}{H:Hp}{as:List Addr}{n0:bg}{rs:List Row}(h:gG (kP K H) as (pE n0 rs)):∃as' a,as=as'++[a]/\kP K H a (ak n0 rs,dz rs):=by
 have hl:=GP n0 rs
 rcases dU (pE n0 rs) with e | ⟨l,x,e⟩
 ·rw [e] at hl;cases hl
 ·rw [e,List.getLast?_concat] at hl
  cases hl
  rw [e] at h
  obtain ⟨as',a,ea,_,ha⟩:=h.last
  exact ⟨as',a,ea,ha⟩
theorem oQ {as:List Addr}{a:Addr}:atI ((as++[a]).map V.ref) (-1)=some (.ref a):=by
 rw [List.map_append]
 exact JP _ _
structure fh (K:PySem.W.Frag)(H:Hp)(p dl cl ll:Addr)(g:Cfg)(lds:List Ld):Prop where
 ob:H p=some (.lst [.ref dl,.ref cl,.int g.slow,.int g.fast,.ref ll])
 od:H dl=some (.lst (g.ds.map V.int))
 oc:∃as:List Addr,H cl=some (.lst (as.map V.ref))/\dC cdV K H as g.ls
 ol:∃as:List Addr,H ll=some (.lst (as.map V.ref))/\nh K H as lds
 ek:g.ks=lds.map (·.1)
theorem fh.same {K:PySem.W.Frag}{H H':Hp}{p dl cl ll:Addr}{g:Cfg}{lds:List Ld}(h:fh K H p dl cl ll g lds)(s:av H H'):fh K H' p dl cl ll g lds:=by
 obtain ⟨h1,h2,⟨as,h3,h4⟩,⟨bs,h5,h6⟩,h7⟩:=h
 exact ⟨s _ _ h1,s _ _ h2,⟨as,s _ _ h3,h4.same s⟩,⟨bs,s _ _ h5,h6.same s⟩,h7⟩
def cb (a b c:Addr)(H H':Hp):Prop:=∀d o,d≠a->d≠b->d≠c->H d=some o->H' d=some o
theorem cb.of {a b c:Addr}{H H':Hp}(s:av H H'):cb a b c H H':=fun d o _ _ _ e=>s d o e
theorem cb.a {a b c:Addr}{H H':Hp}(s:aB a H H'):cb a b c H H':=fun d o n _ _ e=>s d o n e
theorem cb.b {a b c:Addr}{H H':Hp}(s:aB b H H'):cb a b c H H':=fun d o _ n _ e=>s d o n e
theorem cb.c {a b c:Addr}{H H':Hp}(s:aB c H H'):cb a b c H H':=fun d o _ _ n e=>s d o n e
theorem cb.trans {a b c:Addr}{H H1 H2:Hp}(s:cb a b c H H1)(t:cb a b c H1 H2):cb a b c H H2:=fun d o n m k e=>t d o n m k (s d o n m k e)
theorem av.keeps3 {a b c:Addr}{H H1 H2:Hp}(s:av H H1)(k:cb a b c H1 H2)(ha:H a=none)(hb:H b=none)(hc:H c=none):av H H2:=fun d o e=>k d o (aq e ha) (aq e hb) (aq e hc) (s d o e)
structure EJ (C:Cl)(K:PySem.W.Frag)(H:Hp)(w bk rl sl wl:Addr)(g:Cfg)(n0:bg)(rs:List Row):Prop where
 wk:WAt C K H w bk rl g n0 rs
 st:∃as:List Addr,H sl=some (.lst (as.map V.ref))/\gG (kP K H) as (pE n0 rs)
 ro:∃as:List Addr,H wl=some (.lst (as.map V.ref))/\dN K H as rs
 ns:g.N sl
 nw:g.N wl
 ne:sl≠wl
 run:Run g n0 rs
theorem EJ.same {C:Cl}{K:PySem.W.Frag}{H H':Hp}{w bk rl sl wl:Addr}{g:Cfg}{n0:bg}{rs:List Row}(h:EJ C K H w bk rl sl wl g n0 rs)(s:av H H'):EJ C K H' w bk rl sl wl g n0 rs:=by
 obtain ⟨h1,⟨as,h2,h3⟩,⟨bs,h4,h5⟩,h6,h7,h8,h9⟩:=h
 exact ⟨h1.same s,⟨as,s _ _ h2,h3.imp fun a x q=>q.same s⟩,⟨bs,s _ _ h4,h5.same s⟩,h6,h7,h8,h9⟩
noncomputable def A2 (K:PySem.W.Frag)(H:Hp)(n:bg)(t:Int):Dd->V->Prop
 | .rept s,v=>∃(p:Addr) (l r:Int),v=.ref p/\n.e=.wait l r/\SqT K H p [.bl (decide (s=r)),.int r,.int s]
 | _,v=>v=.int t
theorem L5 {K:PySem.W.Frag}{l:Addr}{ls:List Ld}{te:TE}{cm:List (Option Nat)}{σ:St}{H:Hp}{Q:VK}{j:Nat}(f:Ld->V)(hL:iz K H l ls)(hn:ls.length<=sizeLine)(hj:(cK cm σ)[j]?=some none)
  (he:∀a x,SqT K H a (ldV x)->∀N:VK,N (f x) H->te ((cK cm σ).set j (some (.ref a))) H N)
  (hd:∀p,H p=none->Q (.ref p) (upd H p (.lst (ls.map f)))):vy (Itl K l) (gN j) yK te cm σ Q H:=by
 obtain ⟨as,hS,hlen,hT⟩:=hL
 refine xq ls.length (fun i acc H'=>H'=H/\acc=(ls.take i).map f) ⟨rfl,by simp⟩ ?_ ?_ ?_ ?_
 ·rintro i acc H' hi ⟨rfl,_⟩
  have ha:as[i]?=some as[i]:=List.getElem?_eq_getElem (by omega)
  exact ⟨_,.ref as[i],hS,by rw [List.getElem?_map,ha];rfl⟩
 ·rintro acc H' ⟨rfl,_⟩
  exact ⟨_,hS,by rw [List.length_map];omega⟩
 ·rintro i acc H' hi ⟨rfl,rfl⟩
  have ha:as[i]?=some as[i]:=List.getElem?_eq_getElem (by omega)
  have hx:ls[i]?=some ls[i]:=List.getElem?_eq_getElem hi
  refine ⟨by rw [List.length_map,List.length_take];omega,fun x H2 y M hM=>?_⟩
  obtain ⟨e,y⟩:=y
  subst e
  have hy:=y _ hS
  rw [List.getElem?_map,ha] at hy
  cases hy
  refine ⟨Kg hj,?_⟩
  unfold yK;dsimp only
  split
  ·refine he as[i] ls[i] (hT i _ _ ha hx) _ (hM _ _ ⟨rfl,?_⟩)
   rw [List.take_succ_eq_append_getElem hi,List.map_append];rfl
  ·rename_i z;exact absurd rfl z
 ·rintro acc H' ⟨rfl,rfl⟩ p hp
  rw [List.take_length]
  exact hd p hp
theorem OD {n:Nat}(h:0 < n):ixN n (-1)=some (n - 1):=by
 unfold ixN
 rw [if_neg (by omega),if_pos (by omega)]
 congr 1
 omega
end L2
namespace L2
open PySem PySem.Spec PyProof.Rows PySem.SeqAt
theorem Jc (fs:List Bool)(n i:Nat)(v:Bool):(fs.set n v).getD i false=if n=i/\i < fs.length then v else fs.getD i false:=by
 rw [List.getD_eq_getElem?_getD,List.getD_eq_getElem?_getD,List.getElem?_set]
 by_cases e:n=i
 ·subst e
  by_cases h:n < fs.length
  ·rw [if_pos rfl,if_pos h,if_pos ⟨rfl,h⟩];rfl
  ·rw [if_pos rfl,if_neg h,if_neg (fun z=>h z.2),List.getElem?_eq_none (by omega)]
 ·rw [if_neg e,if_neg (fun z=>e z.1)]
theorem Jd {fs:List Bool}{l:Int}{ms:List Int}(h0:0<=l)(h1:l < fs.length)(h2:fs.getD l.toNat false=false)(hp:ms.Perm (dE fs++[l]))(hs:ms.Pairwise (·<=·)):ms=dE (fs.set l.toNat true):=by
 have hl:¬l∈dE fs:=fun z=>by rw [(nH.mp z).2.2] at h2;cases h2
 have hnd:(dE fs++[l]).Nodup:=by
  rw [List.nodup_append]
  refine ⟨(EE fs).imp fun h=>by omega,by simp,fun a ha b hb e=>?_⟩
  rw [List.mem_singleton] at hb
  subst hb e
  exact hl ha
 have hn:ms.Nodup:=hp.nodup_iff.mpr hnd
 have hu:ms.Pairwise (· < ·):=(hs.and hn).imp fun ⟨x,y⟩=>by omega
 refine Kl hu (EE _) fun k=>?_
 rw [hp.mem_iff,List.mem_append,List.mem_singleton,nH,nH,List.length_set,Jc]
 constructor
 ·rintro (⟨a,b,c⟩ | rfl)
  ·refine ⟨a,b,?_⟩
   split
   ·rfl
   ·exact c
  ·exact ⟨h0,h1,by rw [if_pos ⟨rfl,by omega⟩]⟩
 ·rintro ⟨a,b,c⟩
  split at c
  ·rename_i e
   exact .inr (by omega)
  ·exact .inl ⟨a,b,c⟩
theorem xB (fs:List Bool):(dE fs).length<=fs.length:=zv fs fs.length
theorem vD {α:Type}(f:α->V)(xs:List α)(n:Nat)(v:α):(xs.map f).set n (f v)=(xs.set n v).map f:=(List.map_set ..).symm
section
variable {X:Cx}
noncomputable def Nv:R2:=fun x y H Q=>∃a b xs ys,x=.ref a/\y=.ref b/\H a=some (.tup xs)/\H b=some (.tup ys)/\xs.length+ys.length<=1000/\∀p H',av H H'->H' p=some (.tup (xs++ys))->Q (.ref p) H'
theorem Ii:OpR X (binaryOp .Add) Nv:=by
 intro pins s σ H x y v u Q I rx ry h
 obtain ⟨a,b,xs,ys,rfl,rfl,ha,hb,hz,q⟩:=h
 by_cases hx:xs=[]
 ·subst hx
  cases rx
  cases ry
  obtain ⟨its,r1,p1,_⟩:=I.tuple (SqT.of ha)
  obtain ⟨its2,r2,p2,_⟩:=I.tuple (SqT.of hb)
  have e1:=r1.zero
  subst e1
  obtain ⟨⟨cls,dd,data,sl⟩,ho,hc,n,hd⟩:=id p1
  obtain ⟨⟨cls2,dd2,data2,sl2⟩,ho2,hc2,n2,hd2⟩:=id p2
  simp only at hc hd hc2 hd2
  subst hc hd hc2 hd2
  exact concat_meets ⟨_,ho,rfl⟩ ⟨_,ho2,rfl⟩ noFill_tuple_add seq_tuple_add PySem.F.slot_tuple_add PySem.F.entry_tuple_add (PySem.F.args_tuple_add_2 _ _)
   (tuple_addW0 a b _ its2.toArray n n2 dd dd2 sl sl2 rfl) ⟨ho,ho2,⟨.ref b,H,I,rfl,q b H (av.refl H) hb⟩⟩
 ·refine HN pins s σ H _ _ v u Q I rx ry ⟨a,b,xs,ys,rfl,rfl,SqT.of ha,SqT.of hb,hx,by rw [sizeLine_eq];omega,fun e=>q a H (av.refl H) (by rw [e,List.append_nil];exact ha),fun _ p hp=>q p _ ((av.refl H).lay hp) ah⟩
end
end L2
namespace L2
open PySem PySem.Spec PyProof.Rows
def onI (x:V)(P:Int->Prop):Prop:=match x with | .int i=>P i | _=>False
def onB (x:V)(P:Bool->Prop):Prop:=match x with | .bl i=>P i | _=>False
def onR (x:V)(P:Addr->Prop):Prop:=match x with | .ref i=>P i | _=>False
def onO (x:Option (Option V))(P:V->Prop):Prop:=match x with | some (some v)=>P v | _=>False
def onC (xs:List V)(P:V->List V->Prop):Prop:=match xs with | v::r=>P v r | []=>False
def onN (xs:List V)(P:Prop):Prop:=match xs with | []=>P | _=>False
theorem L6 (i:Int)(P:Int->Prop):onI (.int i) P=P i:=rfl
theorem OE (i:Bool)(P:Bool->Prop):onB (.bl i) P=P i:=rfl
theorem L7 (i:Addr)(P:Addr->Prop):onR (.ref i) P=P i:=rfl
theorem Kq (v:V)(P:V->Prop):onO (some (some v)) P=P v:=rfl
theorem Kr (v:V)(r:List V)(P:V->List V->Prop):onC (v::r) P=P v r:=rfl
theorem L8 (P:Prop):onN [] P=P:=rfl
theorem Dn {x:V}{P:Int->Prop}:(∃i,x=.int i/\P i)↔onI x P:=by cases x<;>simp [onI]
theorem y6 {x:V}{P:Bool->Prop}:(∃i,x=.bl i/\P i)↔onB x P:=by cases x<;>simp [onB]
theorem y8 {x:V}{P:Addr->Prop}:(∃i,x=.ref i/\P i)↔onR x P:=by cases x<;>simp [onR]
theorem gL {x:V}{P:Addr->Prop}(h:onR x P):∃i,x=.ref i/\P i:=y8.mpr h
theorem u5 {x:V}{P:Int->Prop}(h:onI x P):∃i,x=.int i/\P i:=Dn.mpr h
theorem L9 {x:Option (Option V)}{P:V->Prop}:(∃v,x=some (some v)/\P v)↔onO x P:=by
 rcases x with _ | _ | v<;>simp [onO]
theorem Ma {xs:List V}{P:V->List V->Prop}:(∃v r,xs=v::r/\P v r)↔onC xs P:=by
 cases xs with
 | nil=>exact ⟨fun ⟨_,_,e,_⟩=>(List.cons_ne_nil _ _ e.symm).elim,fun h=>False.elim h⟩
 | cons v r=>exact ⟨fun ⟨_,_,e,h⟩=>by cases e;exact h,fun h=>⟨v,r,rfl,h⟩⟩
theorem Mb {xs:List V}{P:Prop}:(xs=[]/\P)↔onN xs P:=by cases xs<;>simp [onN]
theorem QG {α β:Type}(f:α->β)(a:α)(l:List α):List.map f (a::l)=f a::List.map f l:=rfl
theorem QH {α β:Type}(f:α->β):List.map f ([]:List α)=[]:=rfl
theorem QI {α:Type}(a:α)(l m:List α):(a::l)++m=a::(l++m):=rfl
theorem QJ {α:Type}(m:List α):([]:List α)++m=m:=rfl
theorem P2 {α:Type}(a:α)(l:List α):(a::l)[0]?=some a:=rfl
theorem P4 {α:Type}(a:α)(l:List α)(n:Nat):(a::l)[n+1]?=l[n]?:=rfl
theorem P6 {α:Type}(a b:α)(l:List α):(a::l).set 0 b=b::l:=rfl
theorem P8 {α:Type}(a b:α)(l:List α)(n:Nat):(a::l).set (n+1) b=a::l.set n b:=rfl
theorem QK {α:Type}(a:α)(n:Nat):List.replicate (n+1) a=a::List.replicate n a:=rfl
theorem QL {α:Type}(a:α):List.replicate 0 a=[]:=rfl
theorem OF (N:List Str)(vs:List V):L2.tF N vs=vs.map some++List.replicate (N.length - vs.length) none:=rfl
theorem σN (cm:List (Option Nat))(σ:St):cK (none::cm) σ=none::cK cm σ:=rfl
theorem σS (i:Nat)(cm:List (Option Nat))(σ:St):cK (some i::cm) σ=(σ[i]?).getD none::cK cm σ:=rfl
theorem σ0 (σ:St):cK [] σ=[]:=rfl
theorem P9 {α:Type}(a b:α):(some a).getD b=a:=rfl
theorem QM {α:Type}(a:α)(l:List α):(a::l).length=l.length+1:=rfl
theorem QN {α:Type}:([]:List α).length=0:=rfl
theorem Qa {A B:Prop}:(if true=true then A else B)=A:=rfl
theorem Qb {A B:Prop}:(if false=true then A else B)=B:=rfl
theorem QO {p:Prop}[Decidable p]{A B:Prop}(h:if p then A else B):if decide p=true then A else B:=by
 by_cases e:p
 ·rw [if_pos e] at h;rw [if_pos (decide_eq_true e)];exact h
 ·rw [if_neg e] at h;rw [if_neg (by simp [e])];exact h
section
variable {α β:Type}
theorem ceq {f g:α->β->Prop}(h:∀x y,f x y↔g x y):f=g:=funext fun x=>funext fun y=>propext (h x y)
noncomputable def Nw (i:Nat):TE:=fun σ H Q=>onO σ[i]? fun v=>Q v H
theorem Mc (i:Nat):NZ i=Nw i:=funext fun σ=>funext fun H=>funext fun Q=>propext L9
noncomputable def tB' (t:TE):TT:=fun σ H Q=>t σ H fun x H1=>onB x fun c=>Q c H1
theorem Nx (t:TE):tB t=tB' t:=funext fun σ=>funext fun H=>funext fun Q=>congrArg (t σ H) (ceq fun _ _=>y6)
theorem Ks (t:TE):qh t=tB' t:=Nx t
noncomputable def Qc (g:Int->Int->V):R2:=fun x y H Q=>onI x fun i=>onI y fun j=>Q (g i j) H
theorem two_iff {x y:V}{P:Int->Int->Prop}:(∃i j,x=.int i/\y=.int j/\P i j)↔onI x fun i=>onI y fun j=>P i j:=⟨fun ⟨i,j,e,f,h⟩=>by subst e f;exact h,fun h=>let ⟨i,e,h⟩:=u5 h;let ⟨j,f,h⟩:=u5 h;⟨i,j,e,f,h⟩⟩
theorem OG (g:Int->Int->V):rI0 g=Qc g:=funext fun x=>funext fun y=>ceq fun _ _=>two_iff
noncomputable def rI' (C:Int->Int->Prop)(g:Int->Int->V):R2:=fun x y H Q=>onI x fun i=>onI y fun j=>C i j/\Q (g i j) H
theorem Qd (C:Int->Int->Prop)(g:Int->Int->V):rI C g=rI' C g:=funext fun x=>funext fun y=>ceq fun _ _=>two_iff
noncomputable def rU' (g:Int->V):V->Hp->VK->Prop:=fun x H Q=>onI x fun i=>Q (g i) H
theorem Qe (g:Int->V):rU g=rU' g:=funext fun x=>ceq fun _ _=>Dn
def eqP (x y:V)(P:Bool->Prop):Prop:=match x,y with
 | .int i,.int j=>P (decide (i=j))
 | .str i,.str j=>P (decide (i=j))
 | .bl i,.bl j=>P (decide (i=j))
 | x,y=>AU x y=true/\P (decide (x=y))
theorem Dp {x y:V}{P:Bool->Prop}:(AU x y=true/\P (decide (x=y)))↔eqP x y P:=by
 cases x<;>cases y<;>simp [eqP,AU]
theorem Md (i j:Int)(P:Bool->Prop):eqP (.int i) (.int j) P=P (decide (i=j)):=rfl
theorem Me (i j:Str)(P:Bool->Prop):eqP (.str i) (.str j) P=P (decide (i=j)):=rfl
theorem OH (i j:Bool)(P:Bool->Prop):eqP (.bl i) (.bl j) P=P (decide (i=j)):=rfl
noncomputable def Qf:R2:=fun x y H Q=>eqP x y fun b=>Q (.bl b) H
theorem OI:rEq=Qf:=funext fun x=>funext fun y=>ceq fun H Q=>Dp (P:=fun b=>Q (.bl b) H)
noncomputable def Qg:R2:=fun x y H Q=>eqP x y fun b=>Q (.bl (!b)) H
theorem OJ:rNe=Qg:=funext fun x=>funext fun y=>ceq fun H Q=>Dp (P:=fun b=>Q (.bl (!b)) H)
noncomputable def BW (p:Int->Int->Prop)[d:∀i j,Decidable (p i j)](ta tb:TE):TT:=fun σ H Q=>ta σ H fun x H1=>tb σ H1 fun y H2=>onI x fun i=>onI y fun j=>if p i j then Q true H2 else Q false H2
theorem GQ {p:Prop}[Decidable p]{Q:Bool->Prop}:Q (decide p)=if p then Q true else Q false:=by
 by_cases h:p
 ·rw [if_pos h,decide_eq_true h]
 ·rw [if_neg h,decide_eq_false h]
theorem y9 (p:Int->Int->Prop)[d:∀i j,Decidable (p i j)](ta tb:TE):qh (tOp (rI0 fun i j=>.bl (decide (p i j))) ta tb)=BW p ta tb:=by
 funext σ H Q
 refine congrArg (ta σ H) (funext fun x=>funext fun H1=>congrArg (tb σ H1) (ceq fun y H2=>?_))
 cases x<;>cases y<;>simp [rI0,onI,GQ (Q:=fun b=>Q b H2)]
theorem OK (ta tb:TE):qh (tOp (rI0 fun i j=>.bl (decide (i < j))) ta tb)=BW (fun i j=>i < j) ta tb:=y9 _ ta tb
theorem OL (ta tb:TE):qh (tOp (rI0 fun i j=>.bl (decide (i<=j))) ta tb)=BW (fun i j=>i<=j) ta tb:=y9 _ ta tb
theorem OM (ta tb:TE):qh (tOp (rI0 fun i j=>.bl (decide (j < i))) ta tb)=BW (fun i j=>j < i) ta tb:=y9 _ ta tb
theorem ON (ta tb:TE):qh (tOp (rI0 fun i j=>.bl (decide (j<=i))) ta tb)=BW (fun i j=>j<=i) ta tb:=y9 _ ta tb
def eqT (x y:V)(Y N:Prop):Prop:=match x,y with
 | .int i,.int j=>if i=j then Y else N
 | .str i,.str j=>if i=j then Y else N
 | .bl i,.bl j=>if i=j then Y else N
 | x,y=>AU x y=true/\if x=y then Y else N
theorem Mf (i j:Int)(Y N:Prop):eqT (.int i) (.int j) Y N=if i=j then Y else N:=rfl
theorem Mg (i j:Str)(Y N:Prop):eqT (.str i) (.str j) Y N=if i=j then Y else N:=rfl
theorem OO (i j:Bool)(Y N:Prop):eqT (.bl i) (.bl j) Y N=if i=j then Y else N:=rfl
theorem Ij {x y:V}{Q:Bool->Prop}:(AU x y=true/\Q (decide (x=y)))↔eqT x y (Q true) (Q false):=by
 rw [GQ (Q:=Q)]
 cases x<;>cases y<;>simp [eqT,AU]
def neT (x y:V)(Y N:Prop):Prop:=match x,y with
 | .int i,.int j=>if ¬i=j then Y else N
 | .str i,.str j=>if ¬i=j then Y else N
 | .bl i,.bl j=>if ¬i=j then Y else N
 | x,y=>AU x y=true/\if ¬x=y then Y else N
theorem Mh (i j:Int)(Y N:Prop):neT (.int i) (.int j) Y N=if ¬i=j then Y else N:=rfl
theorem Mi (i j:Str)(Y N:Prop):neT (.str i) (.str j) Y N=if ¬i=j then Y else N:=rfl
theorem OP (i j:Bool)(Y N:Prop):neT (.bl i) (.bl j) Y N=if ¬i=j then Y else N:=rfl
theorem Mj {x y:V}{Y N:Prop}:eqT x y N Y↔neT x y Y N:=by
 have h:∀(p:Prop) [Decidable p],(if p then N else Y)=if ¬p then Y else N:=fun p _=>by by_cases e:p<;>simp [e]
 cases x<;>cases y<;>first | exact iff_of_eq (h _) | exact and_congr Iff.rfl (iff_of_eq (h _))
noncomputable def Qh (ta tb:TE):TT:=fun σ H Q=>ta σ H fun x H1=>tb σ H1 fun y H2=>eqT x y (Q true H2) (Q false H2)
noncomputable def Qi (ta tb:TE):TT:=fun σ H Q=>ta σ H fun x H1=>tb σ H1 fun y H2=>neT x y (Q true H2) (Q false H2)
theorem Ml (ta tb:TE):qh (tOp rEq ta tb)=Qh ta tb:=by
 funext σ H Q
 refine congrArg (ta σ H) (funext fun x=>funext fun H1=>congrArg (tb σ H1) (ceq fun y H2=>?_))
 refine Iff.trans ?_ (Ij (Q:=fun b=>Q b H2))
 exact ⟨fun ⟨a,k,e,q⟩=>⟨a,by cases e;exact q⟩,fun ⟨a,q⟩=>⟨a,_,rfl,q⟩⟩
theorem Mm (ta tb:TE):qh (tOp rNe ta tb)=Qi ta tb:=by
 funext σ H Q
 refine congrArg (ta σ H) (funext fun x=>funext fun H1=>congrArg (tb σ H1) (ceq fun y H2=>?_))
 refine Iff.trans (Iff.trans ?_ (Ij (Q:=fun b=>Q (!b) H2))) Mj
 exact ⟨fun ⟨a,k,e,q⟩=>⟨a,by cases e;exact q⟩,fun ⟨a,q⟩=>⟨a,_,rfl,q⟩⟩
noncomputable def Kt (K:PySem.W.Frag)(n:Nat)(t:TGs):TG:=fun v σ H Q=>onR v fun a=>∃xs,SqT K H a xs/\xs.length=n/\t xs σ H Q
theorem vE {x:V}{γ:Type}{P:Addr->γ->Prop}:(∃a z,x=.ref a/\P a z)↔onR x fun a=>∃z,P a z:=by cases x<;>simp [onR]
theorem Ik (K:PySem.W.Frag)(n:Nat)(t:TGs):CQ K n t=Kt K n t:=funext fun v=>funext fun σ=>ceq fun _ _=>vE
noncomputable def Ku (K:PySem.W.Frag)(n:Nat)(t:TGs):TG:=fun v σ H Q=>onR v fun a=>∃xs,SqL K H a xs/\xs.length=n/\t xs σ H Q
theorem Kv (K:PySem.W.Frag)(n:Nat)(t:TGs):Nq K n t=Ku K n t:=funext fun v=>funext fun σ=>ceq fun _ _=>vE
noncomputable def zx (t:TG)(u:TGs):TGs:=fun vs σ H Q=>onC vs fun v r=>t v σ H fun σ' H'=>u r σ' H' Q
theorem vF (t:TG)(u:TGs):Ef t u=zx t u:=funext fun v=>funext fun σ=>ceq fun _ _=>Ma
noncomputable def Kw:TGs:=fun vs σ H Q=>onN vs (Q σ H)
theorem Il:N3=Kw:=funext fun v=>funext fun σ=>ceq fun _ _=>Mb
noncomputable def Ny (K:PySem.W.Frag):R2:=fun x y H Q=>onR x fun p=>onI y fun i=>∃xs,SqL K H p xs/\∃v,atI xs i=some v/\Q v H
theorem Mn (K:PySem.W.Frag):IM K=Ny K:=funext fun x=>funext fun y=>ceq fun H Q=>⟨fun ⟨p,xs,i,v,e,f,h1,h2,h3⟩=>by subst e f;exact ⟨xs,h1,v,h2,h3⟩,fun h=>let ⟨p,e,h⟩:=gL h;let ⟨i,f,xs,h1,v,h2,h3⟩:=u5 h;⟨p,xs,i,v,e,f,h1,h2,h3⟩⟩
noncomputable def Nz (K:PySem.W.Frag):R2:=fun x y H Q=>onR x fun p=>onI y fun i=>∃xs,SqT K H p xs/\∃v,atI xs i=some v/\Q v H
theorem Mo (K:PySem.W.Frag):Ek K=Nz K:=funext fun x=>funext fun y=>ceq fun H Q=>⟨fun ⟨p,xs,i,v,e,f,h1,h2,h3⟩=>by subst e f;exact ⟨xs,h1,v,h2,h3⟩,fun h=>let ⟨p,e,h⟩:=gL h;let ⟨i,f,xs,h1,v,h2,h3⟩:=u5 h;⟨p,xs,i,v,e,f,h1,h2,h3⟩⟩
noncomputable def Kx (ta tb:TE):TE:=fun σ H Q=>ta σ H fun x H1=>onB x fun c=>if c=true then tb σ H1 Q else Q (.bl false) H1
theorem Ky (ta tb:TE):M4 ta tb=Kx ta tb:=funext fun σ=>funext fun H=>funext fun Q=>congrArg (ta σ H) (ceq fun _ _=>y6)
noncomputable def NA (ta tb:TE):TE:=fun σ H Q=>ta σ H fun x H1=>onB x fun c=>if c=true then Q (.bl true) H1 else tb σ H1 Q
theorem Mp (ta tb:TE):Qy ta tb=NA ta tb:=funext fun σ=>funext fun H=>funext fun Q=>congrArg (ta σ H) (ceq fun _ _=>y6)
noncomputable def Kz (ta:TE):TE:=fun σ H Q=>ta σ H fun x H1=>onB x fun c=>Q (.bl (!c)) H1
theorem KA (ta:TE):Pg ta=Kz ta:=funext fun σ=>funext fun H=>funext fun Q=>congrArg (ta σ H) (ceq fun _ _=>y6)
noncomputable def NB (K:PySem.W.Frag)(ta:TE)(f:Str):TE:=fun σ H Q=>ta σ H fun x H1=>onR x fun a=>∃C dx fs,H1 a=some (.ins C dx fs)/\Cls K C/\bE K C f/\∃v,fs.lookup f=some v/\Q v H1
theorem Mq (K:PySem.W.Frag)(ta:TE)(f:Str):Pu K ta f=NB K ta f:=funext fun σ=>funext fun H=>funext fun Q=>congrArg (ta σ H) (ceq fun x H1=>by cases x<;>simp [onR])
noncomputable def NC (K:PySem.W.Frag)(ta tv:TE)(f:Str):TS:=fun D σ H=>tv σ H fun y H1=>ta σ H1 fun x H2=>onR x fun a=>∃C dx fs,H2 a=some (.ins C dx fs)/\Cls K C/\bE K C f/\fs.length < 1000/\D.nx σ (upd H2 a (.ins C dx (bL f y fs)))
theorem Mr (K:PySem.W.Frag)(ta tv:TE)(f:Str):Pw K ta tv f=NC K ta tv f:=funext fun D=>funext fun σ=>funext fun H=>congrArg (tv σ H) (funext fun y=>funext fun H1=>congrArg (ta σ H1) (ceq fun x H2=>by cases x<;>simp [onR]))
noncomputable def KC (C:Addr)(m:Str)(sp:Sp)(dvs:List V)(E:XK)(ta:TE)(t:TA):TE:=fun σ H Q=>ta σ H fun x H1=>onR x fun a=>∃dx fs,H1 a=some (.ins C dx fs)/\fs.lookup m=none/\t σ H1 fun vs H2=>sp (.ref a::(vs++dvs)) H2 Q E
theorem KD (C:Addr)(m:Str)(sp:Sp)(dvs:List V)(E:XK)(ta:TE)(t:TA):HK C m sp dvs E ta t=KC C m sp dvs E ta t:=funext fun σ=>funext fun H=>funext fun Q=>congrArg (ta σ H) (ceq fun x H1=>by cases x<;>simp [onR])
noncomputable def EK:V->List V->Hp->VK->Prop:=fun x vs H Q=>onR x fun l=>onC vs fun y r=>onN r (∃xs,H l=some (.lst xs)/\xs.length < sizeLine/\Q .non (upd H l (.lst (xs++[y]))))
theorem GR:HS=EK:=funext fun x=>funext fun vs=>ceq fun H Q=>⟨fun ⟨l,xs,y,e,f,h⟩=>by subst e f;exact ⟨xs,h⟩,fun h=>by
 obtain ⟨l,rfl,z⟩:=gL h
 match vs,z with
 | [v],⟨xs,z⟩=>exact ⟨l,xs,v,rfl,rfl,z⟩⟩
noncomputable def KG (t:TE):TO:=fun σ H Q=>t σ H fun x H1=>onI x fun i=>Q (some i) H1
theorem KH (t:TE):Nj t=KG t:=funext fun σ=>funext fun H=>funext fun Q=>congrArg (t σ H) (ceq fun _ _=>Dn)
noncomputable def KJ (K:PySem.W.Frag)(tl:TE):TI:=fun σ H R=>tl σ H fun x H1=>onR x fun a=>(∃xs,SqL K H1 a xs)/\R (Itl K a) H1
theorem KL (K:PySem.W.Frag)(tl:TE):M8 K tl=KJ K tl:=funext fun σ=>funext fun H=>funext fun R=>congrArg (tl σ H) (ceq fun _ _=>y8)
noncomputable def KN (ta:TA):TI:=fun σ H R=>ta σ H fun vs H1=>onC vs fun v r=>onN r (onI v fun j=>-(2 ^ 62)<=j/\j < 2 ^ 62/\R (Itr 0 j.toNat) H1)
theorem KO (ta:TA):M9 ta=KN ta:=funext fun σ=>funext fun H=>funext fun R=>congrArg (ta σ H) (ceq fun vs H1=>by
 rcases vs with _ | ⟨y,_ | ⟨z,vs⟩⟩<;>(try cases y)<;>simp [onI,onC,onN])
noncomputable def OQ (K:PySem.W.Frag):List V->Hp->VK->Prop:=fun vs H Q=>onC vs fun v r=>onN r (onR v fun p=>∃ys,(SqL K H p ys\/SqT K H p ys)/\Q (.int ys.length) H)
theorem Ms (K:PySem.W.Frag)(t:TA):tCB (fun xs H Q=>∃p ys,xs=[.ref p]/\(SqL K H p ys\/SqT K H p ys)/\Q (.int ys.length) H) t=tCB (OQ K) t:=by
 refine congrArg (fun r=>tCB r t) (funext fun vs=>ceq fun H Q=>?_)
 rcases vs with _ | ⟨y,_ | ⟨z,vs⟩⟩<;>(try cases y)<;>simp [OQ,onR,onC,onN]
noncomputable def Dq (K:PySem.W.Frag):List V->Hp->VK->Prop:=fun vs H Q=>onC vs fun v r=>onN r (onR v fun p=>∃ys,(SqL K H p ys\/SqT K H p ys)/\∀l,H l=none->Q (.ref l) (upd H l (.lst ys)))
theorem GS (K:PySem.W.Frag)(t:TA):tCB (fun xs H Q=>∃p ys,xs=[.ref p]/\(SqL K H p ys\/SqT K H p ys)/\∀l,H l=none->Q (.ref l) (upd H l (.lst ys))) t=tCB (Dq K) t:=by
 refine congrArg (fun r=>tCB r t) (funext fun vs=>ceq fun H Q=>?_)
 rcases vs with _ | ⟨y,_ | ⟨z,vs⟩⟩<;>(try cases y)<;>simp [Dq,onR,onC,onN]
noncomputable def KP:V->V->V->Hp->(Hp->Prop)->Prop:=fun o i v H Q=>onR o fun p=>onI i fun k=>∃xs,H p=some (.lst xs)/\∃j,ixN xs.length k=some j/\Q (upd H p (.lst (xs.set j v)))
theorem KQ:Nl=KP:=funext fun o=>funext fun i=>funext fun v=>ceq fun H Q=>⟨fun ⟨p,xs,k,j,e,f,h1,h2,h3⟩=>by subst e f;exact ⟨xs,h1,j,h2,h3⟩,fun h=>let ⟨p,e,h⟩:=gL h;let ⟨k,f,xs,h1,j,h2,h3⟩:=u5 h;⟨p,xs,k,j,e,f,h1,h2,h3⟩⟩
theorem QP {p:Prop}[Decidable p]{A B:Prop}(h:if ¬p then A else B):if (!decide p)=true then A else B:=by
 by_cases e:p
 ·rw [if_neg (fun z=>z e)] at h;rw [if_neg (by simp [e])];exact h
 ·rw [if_pos e] at h;rw [if_pos (by simp [e])];exact h
noncomputable def tU1 (f:Int->V)(ta:TE):TE:=fun σ H Q=>ta σ H fun x H1=>onI x fun i=>Q (f i) H1
theorem KR {k:Int}(hk:0 < k)(ta:TE)(g:Int->Int->V):tOp (rI (fun _ j=>0 < j) g) ta (tC (.int k))=tU1 (fun i=>g i k) ta:=funext fun σ=>funext fun H=>funext fun Q=>congrArg (ta σ H) (ceq fun x H1=>by
 cases x<;>simp [rI,tC,onI,hk])
theorem KS {k:Int}(h1:0 < k)(h2:k < 1073741824)(ta:TE)(g:Int->Int->V):tOp (rI JI g) ta (tC (.int k))=tU1 (fun i=>g i k) ta:=funext fun σ=>funext fun H=>funext fun Q=>congrArg (ta σ H) (ceq fun x H1=>by
 have hc:∀i,JI i k:=fun i=>by unfold JI;omega
 cases x<;>simp [rI,tC,onI,hc])
theorem KU {k:Int}(h1:-4294967296 < k)(h2:k < 4294967296)(ta:TE)(g:Int->Int->V):tOp (rI AS g) ta (tC (.int k))=tU1 (fun i=>g i k) ta:=funext fun σ=>funext fun H=>funext fun Q=>congrArg (ta σ H) (ceq fun x H1=>by
 have hc:∀i,AS i k:=fun i=>by unfold AS;omega
 cases x<;>simp [rI,tC,onI,hc])
theorem Je {k:Int}(h1:-4294967296 < k)(h2:k < 4294967296)(tb:TE)(g:Int->Int->V):tOp (rI AS g) (tC (.int k)) tb=tU1 (fun i=>g k i) tb:=funext fun σ=>funext fun H=>funext fun Q=>congrArg (tb σ H) (ceq fun x H1=>by
 have hc:∀i,AS k i:=fun i=>by unfold AS;omega
 cases x<;>simp [rI,onI,hc])
noncomputable def ND (K:PySem.W.Frag):V->Option Int->Option Int->Hp->VK->Prop:=fun x lo hi H Q=>onR x fun a=>∃xs,SqL K H a xs/\∀p,H p=none->Q (.ref p) (upd H p (.lst (vq xs lo hi)))
theorem Mt (K:PySem.W.Frag):PF K=ND K:=funext fun x=>funext fun lo=>funext fun hi=>ceq fun _ _=>vE
noncomputable def NF (K:PySem.W.Frag):V->Option Int->Option Int->Hp->VK->Prop:=fun x lo hi H Q=>onR x fun a=>∃xs,SqT K H a xs/\¬(HT.sIx xs.length 0 lo=0/\HT.sIx xs.length xs.length hi=xs.length)/\∀p,H p=none->Q (.ref p) (upd H p (.tup (vq xs lo hi)))
theorem Mu (K:PySem.W.Frag):Pz K=NF K:=funext fun x=>funext fun lo=>funext fun hi=>ceq fun _ _=>vE
noncomputable def NG:R2:=fun x y H Q=>onR x fun l=>onR y fun b=>∃xs,H l=some (.lst xs)/\∃zs,H b=some (.lst zs)/\xs.length+zs.length<=sizeLine/\∀p,H p=none->Q (.ref p) (upd H p (.lst (xs++zs)))
theorem Mv:PJ=NG:=funext fun x=>funext fun y=>ceq fun H Q=>⟨fun ⟨l,b,xs,zs,e,f,h1,h2,h3⟩=>by subst e f;exact ⟨xs,h1,zs,h2,h3⟩,fun h=>let ⟨l,e,h⟩:=gL h;let ⟨b,f,xs,h1,zs,h2,h3⟩:=gL h;⟨l,b,xs,zs,e,f,h1,h2,h3⟩⟩
noncomputable def KW:R2:=fun x y H Q=>onR x fun a=>onR y fun b=>∃xs,H a=some (.tup xs)/\∃ys,H b=some (.tup ys)/\xs.length+ys.length<=1000/\∀p H',av H H'->H' p=some (.tup (xs++ys))->Q (.ref p) H'
theorem KY:Nv=KW:=funext fun x=>funext fun y=>ceq fun H Q=>⟨fun ⟨l,b,xs,zs,e,f,h1,h2,h3⟩=>by subst e f;exact ⟨xs,h1,zs,h2,h3⟩,fun h=>let ⟨l,e,h⟩:=gL h;let ⟨b,f,xs,h1,zs,h2,h3⟩:=gL h;⟨l,b,xs,zs,e,f,h1,h2,h3⟩⟩
noncomputable def KZ (K:PySem.W.Frag):R2:=fun x y H Q=>onR x fun a=>onR y fun b=>∃xs,SqT K H a xs/\∃ys,SqT K H b ys/\xs.length+ys.length<=1000/\∀p H',av H H'->SqT K H' p (xs++ys)->Q (.ref p) H'
theorem K0 (K:PySem.W.Frag):Np K=KZ K:=funext fun x=>funext fun y=>ceq fun H Q=>⟨fun ⟨l,b,xs,zs,e,f,h1,h2,h3⟩=>by subst e f;exact ⟨xs,h1,zs,h2,h3⟩,fun h=>let ⟨l,e,h⟩:=gL h;let ⟨b,f,xs,h1,zs,h2,h3⟩:=gL h;⟨l,b,xs,zs,e,f,h1,h2,h3⟩⟩
noncomputable def OR (K:PySem.W.Frag)(neg:Bool):R2:=fun x y H Q=>onR y fun p=>∃xs,(SqL K H p xs\/SqT K H p xs)/\cx x=true/\xs.all cx=true/\Q (.bl (if neg=true then !inV x xs else inV x xs)) H
theorem OS (K:PySem.W.Frag)(neg:Bool):rIn K neg=OR K neg:=funext fun x=>funext fun y=>ceq fun H Q=>by cases y<;>simp [rIn,OR,onR]
theorem Qj {b c:Bool}:(if true=true then b else c)=b:=rfl
theorem Qk {b c:Bool}:(if false=true then b else c)=c:=rfl
noncomputable def K1 (ta:TA):TI:=fun σ H R=>ta σ H fun vs H1=>onC vs fun v r=>onC r fun u r2=>onN r2 (onI v fun i=>onI u fun j=>(-(2 ^ 62)<=i/\i < 2 ^ 62/\-(2 ^ 62)<=j/\j < 2 ^ 62)/\R (Itr i (j - i).toNat) H1)
theorem BX {vs:List V}{P:Int->Int->Prop}:(∃i j,vs=[.int i,.int j]/\P i j)↔onC vs fun v r=>onC r fun u r2=>onN r2 (onI v fun i=>onI u fun j=>P i j):=by
 constructor
 ·rintro ⟨i,j,rfl,h⟩;exact h
 ·intro h
  rcases vs with _ | ⟨y,_ | ⟨z,_ | ⟨u,vs⟩⟩⟩
  ·exact h.elim
  ·exact h.elim
  ·cases y<;>cases z<;>first | exact ⟨_,_,rfl,h⟩ | exact h.elim
  ·exact h.elim
theorem K2 (ta:TA):Na ta=K1 ta:=funext fun σ=>funext fun H=>funext fun R=>congrArg (ta σ H) (ceq fun vs H1=>BX)
noncomputable def NH (K:PySem.W.Frag)(tl:TE):TI:=fun σ H R=>tl σ H fun x H1=>onR x fun a=>(∃xs,SqT K H1 a xs)/\R (Itt K a) H1
theorem Mw (K:PySem.W.Frag)(tl:TE):QA K tl=NH K tl:=funext fun σ=>funext fun H=>funext fun R=>congrArg (tl σ H) (ceq fun _ _=>y8)
noncomputable def K3 (K:PySem.W.Frag)(te:TE):TI:=fun σ H R=>te σ H fun x H1=>onR x fun a=>(∃xs,SqL K H1 a xs)/\R (Ite K a) H1
theorem K4 (K:PySem.W.Frag)(te:TE):Nn K te=K3 K te:=funext fun σ=>funext fun H=>funext fun R=>congrArg (te σ H) (ceq fun _ _=>y8)
noncomputable def NJ (K:PySem.W.Frag)(ta tb:TE):TI:=fun σ H R=>ta σ H fun x H1=>tb σ H1 fun y H2=>onR x fun a=>onR y fun b=>(∃xs,SqL K H2 a xs)/\(∃ys,SqL K H2 b ys)/\R (Itz K a b) H2
theorem Mx (K:PySem.W.Frag)(ta tb:TE):PV K ta tb=NJ K ta tb:=funext fun σ=>funext fun H=>funext fun R=>congrArg (ta σ H) (funext fun x=>funext fun H1=>congrArg (tb σ H1) (ceq fun y H2=>⟨fun ⟨a,b,e,f,h⟩=>by subst e f;exact h,fun h=>let ⟨a,e,h⟩:=gL h;let ⟨b,f,h⟩:=gL h;⟨a,b,e,f,h⟩⟩))
noncomputable def Dr:V->List V->Hp->VK->Prop:=fun x vs H Q=>onR x fun l=>onN vs (∃xs,H l=some (.lst xs)/\Q .non (upd H l (.lst [])))
theorem Jf:GA=Dr:=funext fun x=>funext fun vs=>ceq fun H Q=>by cases vs<;>cases x<;>simp [GA,Dr,onR,onN]
noncomputable def K5:V->List V->Hp->VK->Prop:=fun x vs H Q=>onR x fun l=>onN vs (∃xs,H l=some (.lst xs)/\∃y,xs[xs.length - 1]?=some y/\Q y (upd H l (.lst xs.dropLast)))
theorem My:Ob=K5:=funext fun x=>funext fun vs=>ceq fun H Q=>by cases vs<;>cases x<;>simp [Ob,K5,onR,onN]
noncomputable def EL:V->List V->Hp->VK->Prop:=fun x vs H Q=>onR x fun l=>onC vs fun v r=>onN r (onR v fun b=>∃xs,H l=some (.lst xs)/\∃zs,H b=some (.lst zs)/\xs.length+zs.length<=sizeLine/\Q .non (upd H l (.lst (xs++zs))))
theorem GU:HU=EL:=funext fun x=>funext fun vs=>ceq fun H Q=>⟨fun ⟨l,b,xs,zs,e,f,h1,h2,h3⟩=>by subst e f;exact ⟨xs,h1,zs,h2,h3⟩,fun h=>by
 obtain ⟨l,rfl,z⟩:=gL h
 match vs,z with
 | [v],z=>
  obtain ⟨b,rfl,xs,h1,zs,h2,h3⟩:=gL (show onR v _ from z)
  exact ⟨l,b,xs,zs,rfl,rfl,h1,h2,h3⟩⟩
noncomputable def OT:List V->Hp->VK->Prop:=fun vs H Q=>onC vs fun v r=>onN r (onI v fun i=>Q (.int (if i < 0 then -i else i)) H)
theorem Mz (t:TA):tCB (fun xs H Q=>∃i,xs=[.int i]/\Q (.int (if i < 0 then -i else i)) H) t=tCB OT t:=by
 refine congrArg (fun r=>tCB r t) (funext fun vs=>ceq fun H Q=>?_)
 rcases vs with _ | ⟨y,_ | ⟨z,vs⟩⟩<;>(try cases y)<;>simp [OT,onI,onC,onN]
noncomputable def NK:List V->Hp->VK->Prop:=fun vs H Q=>onC vs fun v r=>onC r fun u r2=>onN r2 (onI v fun i=>onI u fun j=>Q (.int (if j < i then j else i)) H)
theorem K6 (t:TA):tCB (fun xs H Q=>∃i j,xs=[.int i,.int j]/\Q (.int (if j < i then j else i)) H) t=tCB NK t:=by
 refine congrArg (fun r=>tCB r t) (funext fun vs=>ceq fun H Q=>?_)
 exact BX
noncomputable def GV (K:PySem.W.Frag):List V->Hp->VK->Prop:=fun vs H Q=>onC vs fun v r=>onN r (onR v fun p=>∃ys,(SqL K H p ys/\∀l,H l=none->Q (.ref l) (upd H l (.tup ys)))\/(SqT K H p ys/\Q (.ref p) H))
theorem Jg (K:PySem.W.Frag)(t:TA):tCB (fun xs H Q=>∃p ys,xs=[.ref p]/\((SqL K H p ys/\∀l,H l=none->Q (.ref l) (upd H l (.tup ys)))\/(SqT K H p ys/\Q (.ref p) H))) t=tCB (GV K) t:=by
 refine congrArg (fun r=>tCB r t) (funext fun vs=>ceq fun H Q=>?_)
 rcases vs with _ | ⟨y,_ | ⟨z,vs⟩⟩<;>(try cases y)<;>simp [GV,onR,onC,onN]
def MA (v:V)(P:Int->Prop):Prop:=match v with | .int i=>P i | .bl k=>P (if k=true then 1 else 0) | _=>False
theorem K7 (i:Int)(P:Int->Prop):MA (.int i) P=P i:=rfl
theorem MB (k:Bool)(P:Int->Prop):MA (.bl k) P=P (if k=true then 1 else 0):=rfl
noncomputable def K8:List V->Hp->VK->Prop:=fun vs H Q=>onC vs fun v r=>onN r (MA v fun i=>Q (.int i) H)
theorem K9 (t:TA):tCB (fun xs H Q=>(∃i,xs=[.int i]/\Q (.int i) H)\/∃k,xs=[.bl k]/\Q (.int (if k=true then 1 else 0)) H) t=tCB K8 t:=by
 refine congrArg (fun r=>tCB r t) (funext fun vs=>ceq fun H Q=>?_)
 rcases vs with _ | ⟨y,_ | ⟨z,vs⟩⟩<;>(try cases y)<;>simp [K8,onC,onN,MA]
noncomputable def NL (ta:TE):TT:=fun σ H Q=>ta σ H fun x H1=>if x=.non then Q true H1 else Q false H1
theorem La (ta:TE):qh (tOp (fun x y H Q=>y=.non/\Q (.bl (decide (x=.non))) H) ta (tC .non))=NL ta:=funext fun σ=>funext fun H=>funext fun Q=>congrArg (ta σ H) (ceq fun x H1=>by
 refine Iff.trans ?_ (iff_of_eq (GQ (p:=x=.non) (Q:=fun b=>Q b H1)))
 exact ⟨fun ⟨_,k,e,q⟩=>by cases e;exact q,fun q=>⟨rfl,_,rfl,q⟩⟩)
noncomputable def Lb (ta:TE):TT:=fun σ H Q=>ta σ H fun x H1=>if ¬x=.non then Q true H1 else Q false H1
theorem MC {p:Prop}[Decidable p]{Q:Bool->Prop}:Q (!decide p)=if ¬p then Q true else Q false:=by
 by_cases h:p
 ·rw [if_neg (fun z=>z h),decide_eq_true h];rfl
 ·rw [if_pos h,decide_eq_false h];rfl
theorem Jh (ta:TE):qh (tOp (fun x y H Q=>y=.non/\Q (.bl (!decide (x=.non))) H) ta (tC .non))=Lb ta:=funext fun σ=>funext fun H=>funext fun Q=>congrArg (ta σ H) (ceq fun x H1=>by
 refine Iff.trans ?_ (iff_of_eq (MC (p:=x=.non) (Q:=fun b=>Q b H1)))
 exact ⟨fun ⟨_,k,e,q⟩=>by cases e;exact q,fun q=>⟨rfl,_,rfl,q⟩⟩)
theorem xC {K:PySem.W.Frag}{l:Addr}{ls:List Ld}{te:TE}{cm:List (Option Nat)}{σ:St}{H:Hp}{Q:VK}(f:Ld->V)(hL:iz K H l ls)(hn:ls.length<=sizeLine)(hcm:cK cm σ=[none,none,none])
  (he:∀x∈ls,∀N:VK,N (f x) H->te [some (.str x.1),some (.int x.2.1),some (.int x.2.2)] H N)
  (hd:∀p,H p=none->Q (.ref p) (upd H p (.lst (ls.map f)))):vy (Itl K l) (Kt K 3 (zx (gN 0) (zx (gN 1) (zx (gN 2) Kw)))) yK te cm σ Q H:=by
 rw [←Ik,←Il,←vF,←vF,←vF]
 exact Kj f hL hn hcm he hd
noncomputable def Lc (K:PySem.W.Frag):R2:=fun x y H Q=>onR x fun l=>onI y fun k=>∃v,SqT K H l [v]/\2<=k/\k<=100/\∀p,H p=none->Q (.ref p) (upd H p (.tup (List.replicate k.toNat v)))
theorem Le (K:PySem.W.Frag):Nu K=Lc K:=funext fun x=>funext fun y=>ceq fun H Q=>⟨fun ⟨l,k,v,e,f,h⟩=>by subst e f;exact ⟨v,h⟩,fun h=>let ⟨l,e,h⟩:=gL h;let ⟨k,f,v,h⟩:=u5 h;⟨l,k,v,e,f,h⟩⟩
noncomputable def NM:R2:=fun x y H Q=>onR x fun l=>onI y fun k=>∃xs,H l=some (.lst xs)/\-(2 ^ 63)<=k/\k < 2 ^ 63/\xs.length * k.toNat<=sizeLine/\∀p,H p=none->Q (.ref p) (upd H p (.lst (List.replicate k.toNat xs).flatten))
theorem MD:QC=NM:=funext fun x=>funext fun y=>ceq fun H Q=>⟨fun ⟨l,k,v,e,f,h⟩=>by subst e f;exact ⟨v,h⟩,fun h=>let ⟨l,e,h⟩:=gL h;let ⟨k,f,v,h⟩:=u5 h;⟨l,k,v,e,f,h⟩⟩
theorem onI.mono {x:V}{P Q:Int->Prop}(h:∀i,P i->Q i)(p:onI x P):onI x Q:=by cases x<;>first | exact h _ p | exact p
theorem onO.mono {x:Option (Option V)}{P Q:V->Prop}(h:∀i,P i->Q i)(p:onO x P):onO x Q:=by
 rcases x with _ | _ | v
 ·exact p
 ·exact p
 ·exact h _ p
end
noncomputable def NN (i j:Nat)(ta:TA):TS:=fun D σ H=>ta σ H fun vs H1=>onC vs fun v r=>onC r fun w r2=>onN r2 (D.nx ((σ.set i (some v)).set j (some w)) H1)
theorem ME {vs:List V}{P:V->V->Prop}:(∃v w,vs=[v,w]/\P v w)↔onC vs fun v r=>onC r fun w r2=>onN r2 (P v w):=by
 constructor
 ·rintro ⟨v,w,rfl,h⟩;exact h
 ·intro h
  rcases vs with _ | ⟨y,_ | ⟨z,_ | ⟨u,vs⟩⟩⟩
  ·exact h.elim
  ·exact h.elim
  ·exact ⟨_,_,rfl,h⟩
  ·exact h.elim
theorem MF (i j:Nat)(ta:TA):Po i j ta=NN i j ta:=funext fun D=>funext fun σ=>funext fun H=>congrArg (ta σ H) (ceq fun vs H1=>ME)
noncomputable def Lf (K:PySem.W.Frag):R2:=fun x y H Q=>onR x fun a=>onR y fun b=>∃xs,SqL K H a xs/\∃ys,SqL K H b ys/\xs.all cx=true/\ys.all cx=true/\Q (.bl (!eqL xs ys)) H
theorem MG (K:PySem.W.Frag):Oz K=Lf K:=funext fun x=>funext fun y=>ceq fun H Q=>by cases x<;>cases y<;>simp [Oz,Lf,onR]
noncomputable def Lg (K:PySem.W.Frag):R2:=fun x y H Q=>onR x fun a=>onR y fun b=>∃xs,SqL K H a xs/\∃ys,SqL K H b ys/\xs.all cx=true/\ys.all cx=true/\Q (.bl (eqL xs ys)) H
theorem MH (K:PySem.W.Frag):Oo K=Lg K:=funext fun x=>funext fun y=>ceq fun H Q=>by cases x<;>cases y<;>simp [Oo,Lg,onR]
theorem Im {xs:List V}:eqL xs []=decide (xs=[]):=by cases xs<;>simp [eqL]
theorem Ql {b:Bool}{A B:Prop}(h:if b=false then A else B):if (!b)=true then A else B:=by cases b<;>exact h
noncomputable def mB (fs:List Bool):List Int:=((List.range fs.length).filter fun j=>!fs.getD j false).map fun (j:Nat)=>(j:Int)
theorem Ji {fs:List Bool}{x:Int}(h:x∈mB fs):0<=x/\x < fs.length/\fs.getD x.toNat false=false:=by
 unfold mB at h
 rw [List.mem_map] at h
 obtain ⟨j,hj,rfl⟩:=h
 rw [List.mem_filter,List.mem_range] at hj
 exact ⟨Int.natCast_nonneg _,by omega,by rw [Int.toNat_natCast];simpa using hj.2⟩
theorem Jj {g:Cfg}{n:bg}(hs:cM g.ds)(h:∀c,c=0\/c=1->∀l,ck g.ds n.place c=some l->n.gates.getD l.toNat false=false):lD g n=false:=by
 unfold lD
 rw [List.any_eq_false]
 intro x hx
 unfold mz at hx
 rw [List.mem_map] at hx
 obtain ⟨i,hi,rfl⟩:=hx
 rw [List.mem_filter,List.mem_range] at hi
 obtain ⟨h1,h2⟩:=hi
 rw [Bool.not_eq_true]
 rcases of_decide_eq_true h2 with e | e
 ·exact h 0 (.inl rfl) i (by unfold ck;rw [if_pos rfl];exact lA hs h1 e)
 ·exact h 1 (.inr rfl) i (by unfold ck;rw [if_neg (by decide)];exact lA hs h1 e)
theorem jL.cd {g:Cfg}(hg:jL g){l:Int}(h0:0<=l)(h1:l < g.ds.length):fR (iT g.ls l):=by
 have hl:=hg.lc
 have hi:l.toNat < g.ls.length:=by omega
 unfold iT
 rw [List.getD_eq_getElem?_getD,List.getElem?_eq_getElem hi]
 exact hg.gc _ (List.getElem_mem hi)
theorem eD.code {g:Cfg}{n:bg}(hg:jL g)(hn:eD g n){l r:Int}(h:n.e=.wait l r\/n.e=.armed l r):1<=r/\r<=9:=by
 obtain ⟨h0,h1,h2⟩:=hn.ew l r h
 obtain ⟨⟨a,b⟩,⟨c,d⟩,_⟩:=hg.cd h0 h1
 rcases h2 with rfl | rfl<;>exact ⟨by assumption,by assumption⟩
theorem BY {x y:V}{b:Bool}:atI [x,y] (if b=true then 1 else 0)=some (if b=true then y else x):=by cases b<;>rfl
theorem u6 {g:Cfg}{n:bg}{l:Int}(h0:0<=l)(h1:l < g.ds.length)(h:n.gates.getD l.toNat false=false):dD g n (.opn l)=none:=(if_neg (fun z=>z ⟨h0,h1⟩)).trans (if_neg (by rw [h];decide))
theorem oR {g:Cfg}{n:bg}{l:Int}(h0:0<=l)(h1:l < g.ds.length)(h:n.gates.getD l.toNat false=true):dD g n (.sht l)=none:=(if_neg (fun z=>z ⟨h0,h1⟩)).trans (if_neg (by rw [h];decide))
theorem xX {g:Cfg}{n:bg}{l s:Int}(h0:0<=l)(h1:l < g.ds.length)(h:n.fs.getD l.toNat false=false)(hs:s=(iT g.ls l).1\/s=(iT g.ls l).2):dD g n (.ring l s)=none:=(if_neg (fun z=>z ⟨h0,h1⟩)).trans ((if_neg (by rw [h];decide)).trans (if_pos hs))
theorem EM {g:Cfg}{n:bg}{l:Int}(h0:0<=l)(h1:l < g.ds.length)(h:n.fs.getD l.toNat false=false):dD g n (.fail l)=none:=(if_neg (fun z=>z ⟨h0,h1⟩)).trans (if_neg (by rw [h];decide))
theorem xY {g:Cfg}{n:bg}{l r s:Int}(h:n.e=.wait l r)(h1:1<=s)(h2:s<=9):dD g n (.rept s)=none:=by
 simp only [dD,h]
 exact if_pos ⟨h1,h2⟩
theorem xZ {g:Cfg}{n:bg}{c l:Int}{k:Str}(h0:0<=l)(h1:l < g.ds.length)(h:lD g n=false)(he:n.e=.armed l (dk g.ls l k)):dD g n (.wind c l k)=none:=(if_neg (fun z=>z ⟨h0,h1⟩)).trans ((if_neg (by rw [h];decide)).trans (if_pos he))
theorem tH {g:Cfg}{n:bg}{c l:Int}(h:10+c∈n.ws)(hl:ck g.ds n.place c=some l)(ho:n.gates.getD l.toNat false=true):dD g n (.unload c)=none:=by
 refine (if_neg (fun z=>z h)).trans ?_
 rw [hl]
 exact if_pos ho
theorem yb {g:Cfg}{n:bg}{k c l:Int}(h0:0<=k)(h1:k < n.ws.length)(hl:ck g.ds n.place c=some l)(hk:n.ws.getD k.toNat 0=l)(hc:¬10+c∈n.ws)(ho:n.gates.getD l.toNat false=true):dD g n (.load k c)=none:=by
 refine (if_neg (fun z=>z ⟨h0,h1⟩)).trans ?_
 rw [hl]
 exact (if_neg (fun z=>z hk)).trans ((if_neg hc).trans (if_pos ho))
theorem Io {pl:Int}{ds:List Int}{c:Int}:(ck ds pl c).getD (-1) < 0->ck ds pl c=none:=by
 intro h
 cases e:ck ds pl c with
 | none=>rfl
 | some l=>rw [e] at h;have:=(fg e).1;simp only [Option.getD_some] at h;omega
theorem Ds {pl:Int}{ds:List Int}{c:Int}:¬(ck ds pl c).getD (-1) < 0->∃l,ck ds pl c=some l/\(ck ds pl c).getD (-1)=l:=by
 intro h
 cases e:ck ds pl c with
 | none=>rw [e] at h;exact absurd (by decide) h
 | some l=>exact ⟨l,rfl,rfl⟩
theorem Qm (e:Eng):(∃l r,e=.wait l r)\/(∃l r,e=.armed l r)\/∃(w:Str) (x y z:V),oO e=[.str w,x,y,z]/\¬w="not repeated"/\¬w="armed":=by
 cases e with
 | no=>exact .inr (.inr ⟨_,_,_,_,rfl,by decide,by decide⟩)
 | wait l r=>exact .inl ⟨l,r,rfl⟩
 | armed l r=>exact .inr (.inl ⟨l,r,rfl⟩)
 | other l r s=>exact .inr (.inr ⟨_,_,_,_,rfl,by decide,by decide⟩)
 | used l r=>exact .inr (.inr ⟨_,_,_,_,rfl,by decide,by decide⟩)
theorem Lh {ws:List Int}{lv x:Int}(h:x∈lB ws lv):0<=x/\x < ws.length/\ws.getD x.toNat 0=lv:=by
 unfold lB AY at h
 rw [List.mem_map] at h
 obtain ⟨j,hj,rfl⟩:=h
 rw [List.mem_filter,List.mem_range] at hj
 exact ⟨Int.natCast_nonneg _,by omega,by rw [Int.toNat_natCast];exact of_decide_eq_true hj.2⟩
theorem kP.un {K:PySem.W.Frag}{H:Hp}{a:Addr}{n:bg}{t:Int}(h:kP K H a (n,t)):∃gt lt ht dt:Addr,SqT K H a [.int n.place,.ref gt,.ref lt,.ref ht,.ref dt,.int t]/\SqT K H gt (n.gates.map V.bl)/\H lt=some (.tup (n.ws.map V.int))/\SqT K H ht (oO n.e)/\SqT K H dt ((dE n.fs).map V.int):=h
structure nq (C:Cl)(K:PySem.W.Frag)(H0 H:Hp)(p dl cl ll w bk rl sl wl:Addr)(g:Cfg)(lds:List Ld)(n0:bg)(rs:List Row):Prop where
 su:fh K H0 p dl cl ll g lds
 sa:av H0 H
 fr:H0 rl=none
 fs:H0 sl=none
 fw:H0 wl=none
 da:EJ C K H w bk rl sl wl g n0 rs
 cg:jL g
 c0:eD g n0
section
variable {C:Cl}{K:PySem.W.Frag}{H0 H H':Hp}{p dl cl ll w bk rl sl wl:Addr}{g:Cfg}{lds:List Ld}{n0:bg}{rs rs':List Row}
theorem nq.same (h:nq C K H0 H p dl cl ll w bk rl sl wl g lds n0 rs)(s:av H H'):nq C K H0 H' p dl cl ll w bk rl sl wl g lds n0 rs:=⟨h.su,h.sa.trans s,h.fr,h.fs,h.fw,h.da.same s,h.cg,h.c0⟩
theorem nq.setup (h:nq C K H0 H p dl cl ll w bk rl sl wl g lds n0 rs):fh K H p dl cl ll g lds:=h.su.same h.sa
theorem nq.snap (h:nq C K H0 H p dl cl ll w bk rl sl wl g lds n0 rs):eD g (ak n0 rs):=h.da.run.snap h.cg h.c0
theorem nq.to (h:nq C K H0 H p dl cl ll w bk rl sl wl g lds n0 rs)(k:cb rl sl wl H H')(d:EJ C K H' w bk rl sl wl g n0 rs'):nq C K H0 H' p dl cl ll w bk rl sl wl g lds n0 rs':=⟨h.su,h.sa.keeps3 k h.fr h.fs h.fw,h.fr,h.fs,h.fw,d,h.cg,h.c0⟩
end
theorem MJ (d:Dd):∃w:Str,atI (ddV d) 0=some (.str w)/\¬w="take back":=by
 cases d<;>exact ⟨_,rfl,by decide⟩
theorem MK {d:Dd}(h:∀s,d≠.rept s):∃w:Str,atI (ddV d) 0=some (.str w)/\¬w="repeat":=by
 cases d<;>first | exact ⟨_,rfl,by decide⟩ | exact absurd rfl (h _)
theorem A2.int {K:PySem.W.Frag}{H:Hp}{n:bg}{t:Int}{d:Dd}{v:V}(h:A2 K H n t d v)(hr:∀s,d≠.rept s):v=.int t:=by
 cases d<;>first | exact h | exact absurd rfl (hr _)
theorem A2.same {K:PySem.W.Frag}{H H':Hp}{n:bg}{t:Int}{d:Dd}{v:V}(h:A2 K H n t d v)(s:av H H'):A2 K H' n t d v:=by
 cases d<;>first | exact h | (obtain ⟨p,l,r,e,f,z⟩:=h;exact ⟨p,l,r,e,f,s.tup z⟩)
theorem A2.keep {K:PySem.W.Frag}{H H':Hp}{n:bg}{t:Int}{d:Dd}{v:V}{p:Addr}{ys:List V}(h:A2 K H n t d v)(s:aB p H H')(hp:H p=some (.lst ys)):A2 K H' n t d v:=by
 cases d<;>first | exact h | (obtain ⟨p,l,r,e,f,z⟩:=h;exact ⟨p,l,r,e,f,z.keep s hp⟩)
theorem ML {as:List Addr}{a b:Addr}:atI ((as++[a]++[b]).map V.ref) (-2)=some (.ref a):=by
 have hl:((as++[a]++[b]).map V.ref).length=as.length+2:=by simp
 unfold atI ixN
 rw [hl,if_neg (by omega),if_pos (by omega)]
 rw [show ((-2:Int)+((as.length+2:Nat):Int)).toNat=as.length by omega]
 show ((as++[a]++[b]).map V.ref)[as.length]?=_
 simp
structure BZ (ds:List Int)(ls:List Cd)(slow fast:Int)(lds:List Ld):Prop where
 sh:cM ds
 ln:ls.length=ds.length
 gd:∀x∈ls,fR x
 sp:1<=slow/\slow<=fast/\fast<=500
 l30:lds.length<=30
 gl:∀x∈lds,lz (ds.length:Nat) x
theorem BZ.cfg {ds:List Int}{ls:List Cd}{slow fast:Int}{lds:List Ld}(h:BZ ds ls slow fast lds)(N:Addr->Prop):jL (iK ds ls slow fast lds N):=Oy h.sh h.ln h.gd h.sp h.l30
theorem BZ.snap {ds:List Int}{ls:List Cd}{slow fast:Int}{lds:List Ld}(h:BZ ds ls slow fast lds)(N:Addr->Prop):eD (iK ds ls slow fast lds N) (jM ds ls lds):=L3 h.sh h.ln h.gl
def HV (ws:List Int)(i:Nat)(c:Int)(x:V):Prop:=(x=.non/\∀j,j < i->ws.getD j 0≠10+c)\/∃j:Nat,j < i/\x=.int (j:Int)/\ws.getD j 0=10+c
theorem HV.nil {ws:List Int}{c:Int}:HV ws 0 c .non:=.inl ⟨rfl,fun j h=>absurd h (Nat.not_lt_zero _)⟩
theorem HV.no {ws:List Int}{i:Nat}{c:Int}{x:V}(h:HV ws i c x)(n:ws.getD i 0≠10+c):HV ws (i+1) c x:=by
 rcases h with ⟨e,h⟩ | ⟨j,hj,e,h⟩
 ·exact .inl ⟨e,fun j hj=>by
   by_cases z:j=i
   ·rw [z];exact n
   ·exact h j (by omega)⟩
 ·exact .inr ⟨j,by omega,e,h⟩
theorem HV.yes {ws:List Int}{i:Nat}{c:Int}(n:ws.getD i 0=10+c):HV ws (i+1) c (.int (i:Int)):=.inr ⟨i,by omega,rfl,n⟩
theorem HV.all {g:Cfg}{n:bg}(hn:eD g n){c:Int}{x:V}(hc:0<=c)(h:HV n.ws n.ws.length c x):x=inC n.ws c:=by
 unfold inC
 rcases h with ⟨e,h⟩ | ⟨j,hj,e,h⟩
 ·rw [if_neg,e]
  intro z
  obtain ⟨h1,h2⟩:=xx z
  exact h _ h1 h2
 ·have hm:10+c∈n.ws:=h▸dw hj
  obtain ⟨h1,h2⟩:=xx hm
  rw [if_pos hm,e,hn.un j _ hj h1 (by omega) (h.trans h2.symm)]
theorem vG (ws:List Int)(c:Int):cx (inC ws c)=true:=by unfold inC;split<;>rfl
def fM (H:Hp)(ws:List Int)(as:List Addr)(m:Nat):Prop:=as.length=m/\∀(j:Nat) a,as[j]?=some a->H a=some (.lst ((lB ws (j:Int)).map V.int))
theorem fM.same {H H':Hp}{ws:List Int}{as:List Addr}{m:Nat}(h:fM H ws as m)(s:av H H'):fM H' ws as m:=⟨h.1,fun j a e=>s _ _ (h.2 j a e)⟩
theorem fM.nil {H:Hp}{ws:List Int}:fM H ws [] 0:=⟨rfl,fun j a e=>by simp at e⟩
theorem fM.push {H:Hp}{ws:List Int}{as:List Addr}{m:Nat}{a:Addr}(h:fM H ws as m)(e:H a=some (.lst ((lB ws (m:Int)).map V.int))):fM H ws (as++[a]) (m+1):=by
 refine ⟨by rw [List.length_append,h.1];rfl,fun j b hb=>?_⟩
 by_cases hj:j < as.length
 ·rw [List.getElem?_append_left hj] at hb
  exact h.2 j b hb
 ·rw [List.getElem?_append_right (by omega)] at hb
  have hz:j - as.length=0:=by
   have:=(List.getElem?_eq_some_iff.mp hb).1
   simp at this
   omega
  rw [hz] at hb
  cases hb
  have:j=m:=by rw [←h.1];omega
  rw [this]
  exact e
noncomputable def GW (ws:List Int)(m:Nat):Dt:=.lst ((List.range m).map fun (j:Nat)=>.lst (((lB ws (j:Int)).map V.int).map Dt.flat))
theorem B0 {K:PySem.W.Frag}{H:Hp}{p:Addr}{ws:List Int}{as:List Addr}{m n:Nat}(hp:SqL K H p (as.map V.ref))(h:fM H ws as m)(hm:m<=1000)(hw:ws.length<=1000):Rep K H (n+2) (.ref p) (GW ws m):=by
 refine .lst hp (by rw [List.length_map,h.1];omega) (by rw [List.length_map,List.length_map,List.length_range,h.1]) fun i x y e1 e2=>?_
 rw [List.getElem?_map] at e1 e2
 cases ea:as[i]? with
 | none=>rw [ea] at e1;cases e1
 | some a=>
  cases er:(List.range m)[i]? with
  | none=>rw [er] at e2;cases e2
  | some r=>
   rw [ea] at e1;rw [er] at e2
   cases e1;cases e2
   have hi:=(List.getElem?_eq_some_iff.mp er).1
   rw [List.length_range] at hi
   rw [List.getElem?_range hi] at er
   cases er
   exact qr (SqL.of (h.2 i a ea)) (by have:=Ey ws (i:Int) ws.length;unfold lB;omega)
inductive kQ (K:PySem.W.Frag)(H:Hp)(n:Nat):List V->List Dt->Prop
 | nil:kQ K H n [] []
 | cons {x:V} {d:Dt} {xs:List V} {ds:List Dt} (h:Rep K H n x d) (t:kQ K H n xs ds):kQ K H n (x::xs) (d::ds)
theorem kQ.len {K:PySem.W.Frag}{H:Hp}{n:Nat}{xs:List V}{ds:List Dt}(h:kQ K H n xs ds):xs.length=ds.length:=by
 induction h with
 | nil=>rfl
 | cons h t ih=>rw [List.length_cons,List.length_cons,ih]
theorem kQ.get {K:PySem.W.Frag}{H:Hp}{n:Nat}{xs:List V}{ds:List Dt}(h:kQ K H n xs ds):∀(i:Nat) x d,xs[i]?=some x->ds[i]?=some d->Rep K H n x d:=by
 induction h with
 | nil=>intro i x d e;simp at e
 | cons h t ih=>
  intro i x d e1 e2
  cases i with
  | zero=>cases e1;cases e2;exact h
  | succ i=>exact ih i x d e1 e2
theorem kQ.rep {K:PySem.W.Frag}{H:Hp}{n:Nat}{a:Addr}{xs:List V}{ds:List Dt}(h:kQ K H n xs ds)(hs:SqL K H a xs)(hb:xs.length<=100000):Rep K H (n+1) (.ref a) (.lst ds):=.lst hs hb h.len h.get
theorem kQ.same {K:PySem.W.Frag}{H H':Hp}{n:Nat}{xs:List V}{ds:List Dt}(h:kQ K H n xs ds)(s:av H H'):kQ K H' n xs ds:=by
 induction h with
 | nil=>exact .nil
 | cons h t ih=>exact .cons (h.same s) ih
theorem kQ.append {K:PySem.W.Frag}{H:Hp}{n:Nat}{xs ys:List V}{ds es:List Dt}(h:kQ K H n xs ds)(k:kQ K H n ys es):kQ K H n (xs++ys) (ds++es):=by
 induction h with
 | nil=>exact k
 | cons h t ih=>exact .cons h ih
theorem ml {M:Model}{A:Around}{E:Value->Shared->Prop}{s:Shared}{scope:Scope}{globals:Addr}{closure:List (Str×Addr)}{qual:Str}{func:Option Addr}{code:Value}{outer:Env}{builtins:Addr}{yc:Str}{Q:Env->Shared->Prop}
  (hcs:∀(n:Nat) (cl:List (Str×Addr)),cellsFrom n scope.names cl=(yc,n)::cl) (hpc:∀h:Heap,pushCells h scope.names=h.push {cls:=.type "cell",data:=.cell none})
  (hQ:∀h',h'.Ns s.heap.objs.size (fun _=>none)->(∀b u,s.heap.get? b=some u->h'.get? b=some u)->h'.IsCell (s.heap.objs.size+1) none->
   Q (newEnv scope s.heap.objs.size globals ((yc,s.heap.objs.size+1)::closure) qual func code (some outer) builtins) {s with heap:=h',toks:=s.toks+([]:List (Str×Value)).length}) :
  wpAny M A (newFunctionEnv scope globals closure [] qual func code (some outer) builtins) Q E s:=by
 simp only [newFunctionEnv,Option.isSome_some,if_true]
 refine wpAny_bind (wpAny_alloc ?_)
 refine wpAny_bind (wpAny_layCells _ (fun name kind cells=>by cases hkc:kind == NameKind.cell<;>simp [hkc]) _ _ _ _ ?_)
 rw [hcs,hpc]
 rw [show ({s with heap:=s.heap.push {cls:=.type "dict",data:=.dict #[]}}:Shared).heap.objs.size=s.heap.objs.size+1 from Heap.size_push ..]
 refine wpAny_bind ?_
 rw [List.forIn_nil]
 refine wpAny_pure (wpAny_pure ?_)
 refine hQ ((s.heap.push {cls:=.type "dict",data:=.dict #[]}).push {cls:=.type "cell",data:=.cell none}) ?_ (fun b u e=>Heap.get?_push_of_some _ (Heap.get?_push_of_some _ e)) ⟨{cls:=.type "cell",data:=.cell none},?_,rfl⟩
 ·exact (Heap.Ns.new s.heap (.type "dict")).keeps fun b o e=>Heap.get?_push_of_some _ e
 ·have:=Heap.get?_push_size (s.heap.push {cls:=.type "dict",data:=.dict #[]}) (o:={cls:=.type "cell",data:=.cell none}) rfl
  rw [Heap.size_push] at this
  exact this
theorem j7 {env:Env}{yc:Str}:∀{names:List (Str×NameKind)} {x:Str},(∀z∈names,z.2=NameKind.cell->z.1=yc)->
  ((names.map fun (n,k)=>if (k == NameKind.free && env.scope.kind == .function && env.kindOf n == some .cell) then (n,NameKind.cell) else (n,k)).lookup x=some .cell\/
  (names.map fun (n,k)=>if (k == NameKind.free && env.scope.kind == .function && env.kindOf n == some .cell) then (n,NameKind.cell) else (n,k)).lookup x=some .free)->x=yc\/names.lookup x=some .free
 | [],_,_,h=>by simp at h
 | (n,k)::r,x,hn,h=>by
  have ih:=@j7 env yc r x fun y hy=>hn y (List.mem_cons_of_mem _ hy)
  have h':List.lookup x ((if (k == NameKind.free && env.scope.kind == .function && env.kindOf n == some .cell)=true then (n,NameKind.cell) else (n,k))::(r.map fun (n,k)=>if (k == NameKind.free && env.scope.kind == .function && env.kindOf n == some .cell) then (n,NameKind.cell) else (n,k)))=some .cell\/List.lookup x ((if (k == NameKind.free && env.scope.kind == .function && env.kindOf n == some .cell)=true then (n,NameKind.cell) else (n,k))::(r.map fun (n,k)=>if (k == NameKind.free && env.scope.kind == .function && env.kindOf n == some .cell) then (n,NameKind.cell) else (n,k)))=some .free:=h
  cases hx:x == n with
  | true=>
   simp only [List.lookup_cons,hx]
   by_cases hc:(k == NameKind.free && env.scope.kind == .function && env.kindOf n == some .cell)=true
   ·have hk:k=NameKind.free:=by
     rw [Bool.and_eq_true,Bool.and_eq_true] at hc
     simpa using hc.1.1
    rw [hk];exact .inr rfl
   ·rw [if_neg hc] at h'
    simp only [List.lookup_cons,hx] at h'
    rcases h' with h' | h'
    ·have e:=hn (n,k) List.mem_cons_self (Option.some.inj h')
     have:x=n:=by simpa using hx
     exact .inl (this.trans e)
    ·exact .inr h'
  | false=>
   simp only [List.lookup_cons,hx]
   by_cases hc:(k == NameKind.free && env.scope.kind == .function && env.kindOf n == some .cell)=true
   ·rw [if_pos hc] at h';simp only [List.lookup_cons,hx] at h';exact ih h'
   ·rw [if_neg hc] at h';simp only [List.lookup_cons,hx] at h';exact ih h'
noncomputable def EN (X:Cx)(Nc:List Str)(scope:Scope)(yc:Str)(C:Addr)(s₀:Shared)(H₀:Hp)(ex:List Addr):Cx:=
 {X with N:=Nc,s₀:=s₀,H₀:=H₀,env:=compEnvC scope ((yc,C+1)::iR X.env.cells scope.names []) C X.env,outer:=X.stack,ex:=ex,fn:=fun x=>x == yc,pn:=[],xe:=fun _ _=>False}
section
variable {X:Cx}
theorem EO {tg iter elt:Expr}{ifs:List Expr}{scope:Scope}{pos spos py:Pos}{Nc:List Str}{cm:List (Option Nat)}{wi:TI}{g:TG}{tc:TT}{te:TE}{iy:Nat}{y yc:Str}(hcs:∀(n:Nat) (cl:List (Str×Addr)),cellsFrom n scope.names cl=(yc,n)::cl)(hpc:∀h:Heap,pushCells h scope.names=h.push {cls:=.type "cell",data:=.cell none})(hyc:scope.names.lookup yc=some .cell)(hN:X.N.Nodup)(hiy:X.N[iy]?=some y)(hly:X.env.scope.names.lookup y=some .local)
  (hsw:swapsWith (.ListComp elt [⟨tg,iter,ifs,0⟩] scope pos) (some (.Name y py)) spos.line X.env=pure true)
  (hc:X.calm=true) (hi:PI X tg iter wi) (hkind:scope.kind=.function) (hcell:∀z∈scope.names,z.2=.cell->z.1=yc) (hnames:∀y∈scope.names,y.2=.local->scope.names.lookup y.1=some .local)
  (hfree:∀y∈scope.names,y.2=.free->X.env.kindOf y.1=some .cell\/X.env.kindOf y.1=some .free) (hlen:cm.length=Nc.length)
  (hcm:∀(j:Nat) (x:Str) (i:Nat),Nc[j]?=some x->cm[j]?=some (some i)->X.N[i]?=some x/\scope.names.lookup x=some .free/\(X.env.kindOf x=some .cell\/X.env.kindOf x=some .free))
  (hg:∀C s₀ H₀ ex,PG (EN X Nc scope yc C s₀ H₀ ex) tg g) (ht:∀C s₀ H₀ ex,PIf (EN X Nc scope yc C s₀ H₀ ex) ifs tc) (he:∀C s₀ H₀ ex,PE (EN X Nc scope yc C s₀ H₀ ex) elt te)
  (hs:∀x,foldedSetIterable iter X.env x=pure x:=by intro _;rfl):PS X (.Assign [.Name y py] (.ListComp elt [⟨tg,iter,ifs,0⟩] scope pos) spos) (Gi (zk wi g tc te cm) (gN iy)):=by
 intro pins s σ H D0 I h
 rw [exec_Assign_Name_used _ _ _ _ hsw]
 refine wpAny_bind (wpAny_standAt (wpAny_bind ?_))
 show wpAny _ X.A (do let _ ←comprehension (.ListComp elt [⟨tg,iter,ifs,0⟩] scope pos) scope X.env _ (newList []) false (eval iter X.env) (some (assign (.Name y py) X.env))) _ _ s
 refine wpAny_bind (wpAny_mono (Q:=fun _ s'=>SP X pins D0 .next s') ?_ (fun _ s' hq=>wpAny_pure (wpAny_pure hq)) fun _ _ e=>e)
 have hfr:∀y∈scope.names,y.2=.free->∃c,X.env.cells.lookup y.1=some c:=fun y hy e=>I.ok.has y.1 (hfree y hy e)
 refine wpAny_comprehension_free (use:=some (assign (.Name y py) X.env)) (Q:=fun _ s'=>SP X pins D0 .next s') rfl hs (ly hfr) hkind hnames (thn (hi pins s σ H _ I h) fun v s1 h1=>thn h1 fun itv s2 h2=>?_)
 obtain ⟨it,fp,tn,J,H2,e,I2,T,st2,f2,W,⟨m0,w0⟩,turn⟩:=h2
 subst e
 refine wpAny_newObj_type (ml hcs hpc (fun h₁ hns₁ keepA hcl₁=>?_))
 dsimp only at hns₁ keepA hcl₁ ⊢
 have hk3:∀b u,s2.heap.get? b=some u->(s2.heap.push {cls:=.type "list",dict:=none,data:=.seq ([]:List Value).toArray}).get? b=some u:=fun b u q=>Heap.get?_push_of_some _ q
 have I3:Inv X pins σ H2 {s2 with heap:=s2.heap.push {cls:=.type "list",dict:=none,data:=.seq ([]:List Value).toArray},toks:=s2.toks}:=I2.kept hk3
 have hD3:(s2.heap.push {cls:=.type "list",dict:=none,data:=.seq ([]:List Value).toArray}).get? s2.heap.objs.size=some {cls:=.type "list",data:=.seq ([]:List Value).toArray}:=Heap.get?_push_size _ rfl
 have hCs:(s2.heap.push {cls:=.type "list",dict:=none,data:=.seq ([]:List Value).toArray}).objs.size=s2.heap.objs.size+1:=Heap.size_push _ _
 have hDn:H2 s2.heap.objs.size=none:=I2.hok.fresh (Nat.le_refl _)
 have st3:tn 0 (s2.heap.push {cls:=.type "list",dict:=none,data:=.seq ([]:List Value).toArray}):=T.keep _ _ _ st2 fun b _ o q=>hk3 b o q
 have fpD:∀b∈fp,b < s2.heap.objs.size:=fun b hb=>by
  obtain ⟨o,e,_⟩:=T.obj _ _ st2 b hb
  exact Heap.lt_size e
 have DX:qg X pins H2 s2.heap.objs.size:=I2.fpOk (Nat.le_refl _) hDn
 generalize hs3:s2.heap.push {cls:=.type "list",dict:=none,data:=.seq ([]:List Value).toArray}=h3 at *
 generalize hDg:s2.heap.objs.size=D at *
 have exX:∀b∈D::fp,qg X pins H2 b:=fun b hb=>by
  rcases List.mem_cons.mp hb with z | z
  ·rw [z];exact DX
  ·exact f2 b z
 have exC:∀b∈D::fp,b < h3.objs.size:=fun b hb=>by
  rcases List.mem_cons.mp hb with z | z
  ·rw [z,hCs];exact Nat.lt_succ_self _
  ·rw [hCs];exact Nat.lt_succ_of_lt (fpD b z)
 have exS:∀b∈D::fp,b∉frs X.stack:=fun b hb z=>by
  obtain ⟨_,n1,n2,_⟩:=exX b hb
  rcases List.mem_cons.mp (I2.stkSub b z) with y | y
  ·exact n1 y
  ·exact n2 y
 have clo:∀x c,(iR X.env.cells scope.names []).lookup x=some c->X.env.cells.lookup x=some c:=fun x c e=>sJ (acc:=[]) (fun _ _ z=>by simp at z) e
 have keep1:∀b u,h3.get? b=some u->h₁.get? b=some u:=keepA
 have ltX:∀x c,X.env.cells.lookup x=some c->c < h3.objs.size:=fun x c e=>by
  obtain ⟨v,z⟩:=I3.cell x c e
  exact z.lt
 have cloC:∀x c,((yc,h3.objs.size+1)::iR X.env.cells scope.names []).lookup x=some c->(x=yc/\c=h3.objs.size+1)\/(x≠yc/\X.env.cells.lookup x=some c):=fun x c e=>by
  rw [List.lookup_cons] at e
  cases hb:x == yc with
  | true=>rw [hb] at e;cases e;exact .inl ⟨by simpa using hb,rfl⟩
  | false=>rw [hb] at e;exact .inr ⟨by simpa using hb,clo x c e⟩
 have cellne:∀b,b < h3.objs.size->(∀x c,X.env.cells.lookup x=some c->c≠b)->∀x c,((yc,h3.objs.size+1)::iR X.env.cells scope.names []).lookup x=some c->c≠b:=fun b hb hn x c e=>by
  rcases cloC x c e with ⟨_,z⟩ | ⟨_,z⟩
  ·rw [z];exact Nat.ne_of_gt (Nat.lt_succ_of_lt hb)
  ·exact hn x c z
 let s3:Shared:={s2 with heap:=h3}
 let X':Cx:=EN X Nc scope yc h3.objs.size s3 H2 (D::fp)
 have hX':X'=EN X Nc scope yc h3.objs.size s3 H2 (D::fp):=rfl
 have okX:X'.Ok:=by
  refine ⟨I3.ok.mod,hkind,I3.ok.glob,I3.ok.blt,Nat.le_refl _,fun x y c e1 e2=>(by
   rcases cloC x c e1 with ⟨a1,a2⟩ | ⟨_,a2⟩
   ·rcases cloC y c e2 with ⟨b1,b2⟩ | ⟨_,b2⟩
    ·rw [a1,b1]
    ·exact absurd (ltX y c b2) (by rw [a2];exact Nat.not_lt.mpr (Nat.le_succ _))
   ·rcases cloC y c e2 with ⟨b1,b2⟩ | ⟨_,b2⟩
    ·exact absurd (ltX x c a2) (by rw [b2];exact Nat.not_lt.mpr (Nat.le_succ _))
    ·exact I3.ok.inj x y c a2 b2),fun x hx=>?_,fun x c e z=>(cloC x c z).elim (fun h=>by rw [h.2];exact Nat.le_succ _) (fun h=>absurd (show x=yc from eq_of_beq e) h.1),I3.ok.hd,I3.ok.frames,.inl rfl,fun b hb=>⟨Nat.ne_of_lt (exC b hb),cellne b (exC b hb) (exX b hb).2.2.2.2.1⟩,
   I3.bs,?_,fun b o e hb=>?_,exS,I3.stack,I3.stkFree⟩
  ·rcases j7 (env:=X.env) hcell hx with hx' | hx'
   ·exact ⟨h3.objs.size+1,by subst hx';show List.lookup x ((x,h3.objs.size+1)::_)=_;rw [List.lookup_cons];simp⟩
   have hmem:(x,NameKind.free)∈scope.names:=by
    have:∀(l:List (Str×NameKind)),l.lookup x=some .free->(x,NameKind.free)∈l:=by
     intro l
     induction l with
     | nil=>intro z;simp at z
     | cons a r ih=>
      obtain ⟨n,k⟩:=a
      intro z
      rw [List.lookup_cons] at z
      split at z
      ·rename_i y
       have yn:x=n:=by simpa using y
       cases z
       rw [yn];exact List.mem_cons_self
      ·exact List.mem_cons_of_mem _ (ih z)
    exact this _ hx'
   have nx:x≠yc:=fun z=>by rw [z,hyc] at hx';cases hx'
   obtain ⟨c,hc⟩:=iS (acc:=[]) hx' (hfr (x,.free) hmem rfl)
   exact ⟨c,by show List.lookup x ((yc,h3.objs.size+1)::_)=_;rw [List.lookup_cons,show (x == yc)=false by simpa using nx];exact hc⟩
  ·exact Nat.le_trans I3.ok.bsz I3.sz
  ·rcases (exX b hb).2.2.2.1 with z | z
   ·exact I3.ok.noex b o e z
   ·exact absurd (Nat.lt_of_lt_of_le (Heap.lt_size (I3.ok.bs b o e).1) z) (Nat.lt_irrefl _)
 have hσl:(cK cm σ).length=Nc.length:=by
  unfold cK
  rw [List.length_map];exact hlen
 have I4:Inv X' [] (cK cm σ) H2 {s2 with heap:=h₁,toks:=s2.toks+([]:List (Str×Value)).length}:=by
  refine ⟨okX,rfl,I3.bare,Un.kept keep1,⟨_,hns₁,fun j x v e1 e2 e3=>?_⟩,fun x c e=>?_,?_,fun x c e=>(cloC x c e).elim (fun h=>by rw [h.2];exact I3.hok.fresh (Nat.le_succ _)) (fun h=>I3.freeC x c h.2),(fun p hp=>absurd (show p∈([]:List (Addr×Obj)) from hp) (by simp)),I3.hok.kept keep1,hσl⟩
  ·have e2':∃i,cm[j]?=some (some i)/\σ[i]?=some (some v):=by
    unfold cK at e2
    rw [List.getElem?_map] at e2
    cases q:cm[j]? with
    | none=>rw [q] at e2;simp at e2
    | some o=>
     rw [q] at e2
     cases o with
     | none=>simp at e2
     | some i=>
      refine ⟨i,rfl,?_⟩
      simp only [Option.map_some,Option.some.injEq] at e2
      cases q2:σ[i]? with
      | none=>rw [q2] at e2;simp at e2
      | some o2=>rw [q2] at e2;simp at e2;rw [e2]
   obtain ⟨i,ej,ei⟩:=e2'
   obtain ⟨n1,n2,n3⟩:=hcm j x i e1 ej
   obtain ⟨m,hn,hl⟩:=I3.loc
   have n3':Vis X.env.scope x:=by
    rcases n3 with z | z
    ·exact .inr (.inl z)
    ·exact .inr (.inr z)
   obtain ⟨u,r,l⟩:=hl i x v n1 ei n3'
   refine ⟨u,r,?_⟩
   rcases l with ⟨l,_⟩ | ⟨_,c,ec,ic⟩
   ·rcases n3 with z | z
    ·rw [l] at z;cases z
    ·rw [l] at z;cases z
   ·obtain ⟨c',ec'⟩:=iS (cells:=X.env.cells) (acc:=[]) n2 ⟨c,ec⟩
    have hcc:=clo x c' ec'
    rw [ec] at hcc;cases hcc
    obtain ⟨oc,hoc,hdc⟩:=ic
    have nx:x≠yc:=fun z=>by rw [z,hyc] at n2;cases n2
    refine .inr ⟨?_,c,(by show List.lookup x ((yc,h3.objs.size+1)::_)=_;rw [List.lookup_cons,show (x == yc)=false by simpa using nx];exact ec'),oc,keep1 _ _ hoc,hdc⟩
    exact eI (env:=X.env) n2
  ·rcases cloC x c e with ⟨_,z⟩ | ⟨_,z⟩
   ·rw [z];exact ⟨none,hcl₁⟩
   ·obtain ⟨v,oc,hoc,hdc⟩:=I3.cell x c z
    exact ⟨v,oc,keep1 _ _ hoc,hdc⟩
  ·exact I3.hok.fresh (Nat.le_refl _)
 have stat:∀{H':Hp} {pl:List (Addr×Obj)},(∀b∈fp,H' b=none)->(∀p∈pl,p.1=D)->∀b∈fp,qg X' pl H' b:=fun {H' pl} hn hpl b hb=>
  ⟨hn b hb,Nat.ne_of_lt (exC b (List.mem_cons_of_mem _ hb)),exS b (List.mem_cons_of_mem _ hb),.inl (List.mem_cons_of_mem _ hb),cellne b (exC b (List.mem_cons_of_mem _ hb)) (f2 b hb).2.2.2.2.1,fun p hp z=>by
   have:p∈pl:=(List.mem_append.mp hp).elim (fun z=>absurd (show p∈([]:List (Addr×Obj)) from z) (by simp)) fun z=>z
   have e:=hpl p this
   rw [e] at z
   exact absurd (fpD b hb) (by rw [←z];exact Nat.lt_irrefl _)⟩
 have hDC:D≠h3.objs.size:=by rw [hCs];exact Nat.ne_of_lt (Nat.lt_succ_self _)
 have hDs:D∉frs X.stack:=exS D List.mem_cons_self
 have loop:∀s5:Shared,s5={s2 with heap:=h₁,toks:=s2.toks+([]:List (Str×Value)).length}->
   codeAny (model X.prog X.w) X.A (.compLoop (.ListComp elt [⟨tg,iter,ifs,0⟩] scope pos) 0 (.ref it) (.ref D) (compEnvC scope ((yc,h3.objs.size+1)::iR X.env.cells scope.names []) h3.objs.size X.env))
    (compPost (model X.prog X.w) X.A X.xe (some (assign (.Name y py) X.env)) (fun _ s'=>SP X pins D0 .next s') (.ref D) h3.objs.size) s5:=by
  rintro s5 rfl
  refine codeAny_loop rfl (fun n s'=>∃i acc its k H',Inv X' [] (cK cm σ) H' s'/\tn i s'.heap/\(∀b∈fp,H' b=none)/\s'.heap.get? D=some {cls:=.type "list",data:=.seq (List.toArray its) k}/\H' D=none/\bJ acc its/\acc.length<=sizeLine/\W i n acc H') (fun n s' hI=>?_) m0
   ⟨0,[],[],0,H2,I4,T.keep _ _ _ st3 fun b _ o q=>keep1 b o q,fun b hb=>(f2 b hb).1,keep1 _ _ hD3,hDn,.nil,Nat.zero_le _,w0⟩
  obtain ⟨i,acc,its,k,H5,J5,t5,fr5,d5,dn5,va5,ac5,w5⟩:=hI
  show wpAny _ X.A ((compTurn (.ListComp elt [⟨tg,iter,ifs,0⟩] scope pos) 0 (.ref it) (.ref D) (compEnvC scope ((yc,h3.objs.size+1)::iR X.env.cells scope.names []) h3.objs.size X.env)).onRaise (fun x=>do noteFrame x (compEnvC scope ((yc,h3.objs.size+1)::iR X.env.cells scope.names []) h3.objs.size X.env);theTreesLotGoes x)) _ _ s'
  refine wpAny_noted ?_
  rw [compTurn_list]
  have nocell:∀v,({cls:=.type "list",data:=.seq (List.toArray its) k}:Obj).data≠.cell v:=fun v z=>nomatch z
  have P5:Inv X' [(D,{cls:=.type "list",data:=.seq (List.toArray its) k})] (cK cm σ) H5 s':=J5.pins_of fun p hp=>by
   have e:p=(D,{cls:=.type "list",data:=.seq (List.toArray its) k}):=by simpa using hp
   subst e
   exact ⟨d5,dn5,hDC,hDs,nocell⟩
  have pl1:∀p∈[((D,{cls:=.type "list",data:=.seq (List.toArray its) k}):Addr×Obj)],p.1=D:=fun p hp=>by
   have e:p=(D,{cls:=.type "list",data:=.seq (List.toArray its) k}):=by simpa using hp
   rw [e]
  rcases turn i n acc H5 w5 with ⟨stop,qn⟩ | ⟨go,hsz,step⟩
  ·refine wpAny_bind (wpAny_standAt (wpAny_bind (wpAny_mono (T.done X' rfl rfl rfl hc i _ s' _ H5 (fun _ _=>False) P5 (stat fr5 pl1) t5 stop) (fun r s6 ⟨hr,J6⟩=>?_) fun _ _ f=>f.elim)))
   subst hr
   refine wpAny_pure ?_
   obtain ⟨mC,hnC,_⟩:=J6.loc
   have hsb:Heap.SameBut h3.objs.size s6.heap s6.heap:=⟨rfl,fun _ _=>rfl⟩
   let h':Heap:=s6.heap
   have hCn:H5 h3.objs.size=none:=J6.free
   have toh:∀b u,b≠h3.objs.size->s6.heap.get? b=some u->h'.get? b=some u:=fun b u hb q=>(hsb.2 b hb).trans q
   have hok':HOk X.prog X.w H5 h':=fun a o e=>(J6.hok a o e).stay (fun b u hb q=>toh b u (by
    rintro rfl
    rcases hb with z | z
    ·rw [←z,hCn] at e;cases e
    ·rw [hCn] at z;cases z) q) (fun _ q=>q) fun _ _ q=>q
   have ltC:∀{b:Addr} {u:Obj},h3.get? b=some u->b≠h3.objs.size:=fun q=>Nat.ne_of_lt (Heap.lt_size q)
   have un':Un (frs X.stack) (D::fp) H2 H5 h3 h':=by
    have u:=J6.base
    refine ⟨fun b o e n hb hx=>toh b o (ltC e) (u.keep b o e n hb hx),fun b o e n hb hx=>?_,u.free,fun b o e hx=>?_,u.tups,u.frzs,u.tbls⟩
    ·obtain ⟨sl,q⟩:=u.slot b o e n hb hx
     exact ⟨sl,toh b _ (ltC e) q⟩
    ·obtain ⟨o',q⟩:=u.there b o e hx
     exact ⟨o',toh b _ (ltC e) q⟩
   have J7:Inv X pins σ H5 {s6 with heap:=h'}:=Inv.call' (s':={s6 with heap:=h'}) (ch:=D::fp) I3 J6.os un' hok' J6.bare fun b hb=>by
    obtain ⟨_,n1,n2,n3,n4,n5⟩:=exX b hb
    exact ⟨n3,n1,n4,n5⟩
   obtain ⟨dg,dg2,_⟩:=J6.pin (D,{cls:=.type "list",data:=.seq (List.toArray its) k}) (by simp)
   obtain ⟨_,n1,n2,n3,n4,n5⟩:=exX D List.mem_cons_self
   have n3':X.s₀.heap.objs.size<=D:=by
    have:=I2.sz
    rw [hDg] at this
    exact this
   have J8:=J7.track (o:=.lst acc) dg2 n3' n1 n4 n5 ⟨ac5,its,k,va5,toh _ _ hDC dg⟩
   obtain ⟨fc0,fc1,fc2,fc3,fc4,fc5⟩:=I3.fpOk (b:=h3.objs.size) (H':=upd H5 D (.lst acc)) (Nat.le_refl _) (by rw [aS (Ne.symm hDC)];exact hCn)
   refine wpAny_assign_Name (xi (s:=s6) (v:=.ref D) J8 hN hiy (.inl hly) rfl (fun s7 J9 hsa=>?_) (.inr hly))
   obtain ⟨aa,hsa,hwh⟩:=hsa
   have hca:h3.objs.size≠aa:=by
    rcases hwh with z | z
    ·rw [z];exact fc1
    ·exact (fc4 _ _ z).symm
   refine ⟨mC,hnC.sameBut hsa hca,fun h7 hs7=>?_⟩
   exact ⟨_,_,J9.turned (it:=h3.objs.size) (t':=s7.toks) (fun b o hb hu=>(hs7.2 b hb).trans hu) fc0 fc1 fc3 fc4 fc5,qn D dg2⟩
  ·refine wpAny_bind (wpAny_standAt (wpAny_bind (wpAny_mono (T.item X' rfl rfl rfl hc i _ s' _ H5 (fun _ _=>False) P5 (stat fr5 pl1) t5 go) (fun r s6 ⟨u,hr,h6⟩=>?_) fun _ _ f=>f.elim)))
   subst hr
   refine wpAny_bind (wpAny_mono h6 (fun _ s7 ⟨x,H7,J7,r7,y7,t7,fr7⟩=>?_) fun _ _ f=>f.elim)
   have P7:=J7.pinned (stat fr7 pl1) (T.obj _ _ t7)
   refine wpAny_bind (wpAny_mono (hg _ _ _ _ _ s7 _ H7 x u _ P7 r7 (step x H7 y7)) (fun _ s8 ⟨σ8,H8,J8,wk8,q8⟩=>?_) fun _ _ f=>f.elim)
   refine wpAny_bind (wpAny_mono (ht _ _ _ _ _ s8 σ8 H8 _ J8 q8) (fun b s9 ⟨H9,J9,q9⟩=>?_) fun _ _ f=>f.elim)
   have back:∀{Ha:Hp} {sa:Shared},Inv X' ([(D,{cls:=.type "list",data:=.seq (List.toArray its) k})]++uW fp s7.heap) σ8 Ha sa->
     Inv X' [] (cK cm σ) Ha sa/\tn (i+1) sa.heap/\(∀b∈fp,Ha b=none)/\sa.heap.get? D=some {cls:=.type "list",data:=.seq (List.toArray its) k}/\Ha D=none:=fun {Ha sa} Ja=>by
    refine ⟨(Ja.weak wk8.1 wk8.2).pins_of fun p hp=>absurd hp (by simp),T.keep _ _ _ t7 fun b hb o e=>(Ja.pin (b,o) (List.mem_append_right _ (List.mem_append_right _ (fP hb e)))).1,fun b hb=>?_,?_⟩
    ·obtain ⟨o,e,d⟩:=T.obj _ _ t7 b hb
     exact (Ja.pin (b,o) (List.mem_append_right _ (List.mem_append_right _ (fP hb e)))).2.1
    ·obtain ⟨z1,z2,_⟩:=Ja.pin (D,{cls:=.type "list",data:=.seq (List.toArray its) k}) (by simp)
     exact ⟨z1,z2⟩
   cases b with
   | false=>
    simp only [Bool.false_eq_true,if_false] at q9 ⊢
    obtain ⟨m',hm,w'⟩:=q9
    obtain ⟨z0,z1,z2,z3,z4⟩:=back J9
    exact wpAny_pure ⟨rfl,m',hm,i+1,acc,its,k,H9,z0,z1,z2,z3,z4,va5,ac5,w'⟩
   | true=>
    simp only [if_true] at q9 ⊢
    refine wpAny_bind (wpAny_bind (wpAny_mono (he _ _ _ _ _ s9 σ8 H9 _ J9 q9) (fun y s10 ⟨v,H10,J10,rv,q10⟩=>wpAny_bind ?_) fun _ _ f=>f.elim))
    obtain ⟨m',hm,w'⟩:=q10
    obtain ⟨z0,z1,z2,z3,z4⟩:=back J10
    have hli:=va5.length
    refine call_meets F.slot_list_append ⟨_,z3,rfl⟩ F.entry_list_append (F.args_list_append_2 _ _) (PySem.list_append D its.toArray k y (by rw [List.size_toArray];omega)) ⟨z3,?_⟩
    obtain ⟨k',q⟩:∃k',(s10.heap.update D (Obj.mapSeq (·.push y))).get? D=some {cls:=.type "list",data:=.seq (List.toArray (its++[y])) k'}:=by
     have q:=PySem.IsL.update z3 (·.push y)
     have e:its.toArray.push y=(its++[y]).toArray:=by simp
     rw [e] at q
     exact ⟨_,q⟩
    refine wpAny_pure (wpAny_pure ⟨rfl,m',hm,i+1,acc++[v],its++[y],k',H10,z0.turned (it:=D) (fun b o hb hu=>(Heap.get?_update_other s10.heap (Obj.mapSeq (·.push y)) (Ne.symm hb)).trans hu) z4 hDC (.inl List.mem_cons_self) (cellne D (exC D List.mem_cons_self) (exX D List.mem_cons_self).2.2.2.2.1) (fun p hp=>absurd (show p∈([]:List (Addr×Obj)) from hp) (by simp)),
     T.keep _ _ _ z1 fun b hb o e=>(Heap.get?_update_other s10.heap (Obj.mapSeq (·.push y)) (Nat.ne_of_gt (fpD b hb))).trans e,z2,q,z4,va5.append (.cons rv .nil),by rw [List.length_append,List.length_singleton];omega,w'⟩)
 exact codeAny_compStart_list (loop _ rfl) (T.self X.A 0 _ _ _ (T.keep _ _ _ st3 fun b _ o q=>keep1 b o q) (loop _ rfl))
end
theorem OU {X:Cx}{tg iter elt:Expr}{ifs:List Expr}{scope:Scope}{pos spos py:Pos}(Nc:List Str)(yc:Str)(cm:List (Option Nat)){wi:TI}{g:TG}{tc:TT}{te:TE}{iy:Nat}{y:Str}(hN:X.N.Nodup)(hiy:X.N[iy]?=some y)(hly:X.env.scope.names.lookup y=some .local)
  (hi:PI X tg iter wi) (hg:∀C s₀ H₀ ex,PG (EN X Nc scope yc C s₀ H₀ ex) tg g) (ht:∀C s₀ H₀ ex,PIf (EN X Nc scope yc C s₀ H₀ ex) ifs tc) (he:∀C s₀ H₀ ex,PE (EN X Nc scope yc C s₀ H₀ ex) elt te)
  (hsw:swapsWith (.ListComp elt [⟨tg,iter,ifs,0⟩] scope pos) (some (.Name y py)) spos.line X.env=pure true:=by rfl)
  (hc:X.calm=true:=by rfl) (hkind:scope.kind=.function:=by rfl) (hcell:∀z∈scope.names,z.2=.cell->z.1=yc:=by decide +kernel) (hcs:∀(n:Nat) (cl:List (Str×Addr)),cellsFrom n scope.names cl=(yc,n)::cl:=by intro _ _;rfl) (hpc:∀h:Heap,pushCells h scope.names=h.push {cls:=.type "cell",data:=.cell none}:=by intro _;rfl) (hyc:scope.names.lookup yc=some .cell:=by rfl) (hnames:∀y∈scope.names,y.2=.local->scope.names.lookup y.1=some .local:=by decide +kernel)
  (hfree:GD X scope=true:=by rfl) (hlen:cm.length=Nc.length:=by rfl) (hcm:Og X scope Nc cm=true:=by rfl)
  (hs:∀x,foldedSetIterable iter X.env x=pure x:=by intro _;rfl):PS X (.Assign [.Name y py] (.ListComp elt [⟨tg,iter,ifs,0⟩] scope pos) spos) (Gi (zk wi g tc te cm) (gN iy)):=by
 refine EO hcs hpc hyc hN hiy hly hsw hc hi hkind hcell hnames (fun y hy e=>?_) hlen (fun j x i e1 e2=>?_) hg ht he hs
 ·have h:=List.all_eq_true.mp hfree y hy
  rw [e] at h
  simpa using h
 ·have hj:(Nc.zip cm)[j]?=some (x,some i):=by
   rw [List.getElem?_zip_eq_some];exact ⟨e1,e2⟩
  have h:=List.all_eq_true.mp hcm _ (List.mem_of_getElem? hj)
  simpa using h
theorem aH.calm0 {P:Program}{w:World}{K:PySem.W.Frag}{mg:Str->Option Value}{base:Heap}{k:Nat}{f:Addr}{fd:FuncData}{ps:List Str}{sp:Sp}(F:aH P w K mg base (CXf P w) k f fd ps sp):aH P w K mg base CX0 k f fd ps (fun vs H Q _=>sp vs H Q E0):=by
 refine ⟨fun vs H Q E h=>F.len vs H Q E0 h,fun A outer s H args us vs Q E hr he hb hv hs=>?_⟩
 refine codeAny_mono (F.run A outer s H args us vs Q E0 hr he hb hv hs) fun r s' q=>?_
 cases r with
 | ok fl=>cases fl<;>exact q
 | error e=>
  obtain ⟨x,cls,a0,H',B,_,_,_,_,_,_,_,_,_,z⟩:=q
  exact z.elim
noncomputable def NO (K:PySem.W.Frag):R2:=fun x y H Q=>onR x fun a=>onR y fun b=>∃xs,SqL K H a xs/\∃ys,SqL K H b ys/\xs.length≠ys.length/\Q (.bl false) H
theorem OV {X:Cx}(hu:X.A.units < cLine):OpR X (compareOp .Eq) (NO X.K):=by
 intro pins s σ H x y u v Q I rx ry h
 cases x with
 | ref a=>
  cases y with
  | ref b=>
   obtain ⟨xs,ha,ys,hb,hl,q⟩:=h
   cases rx;cases ry
   obtain ⟨ia,ra,pa,za⟩:=I.list ha
   obtain ⟨ib,rb,pb,zb⟩:=I.list hb
   have la:=ra.length
   have lb:=rb.length
   refine PySem.SeqAt.eq_list_lengthsAt pa.isList pb.isList (by simp only [List.size_toArray,bne_iff_ne,ne_eq];omega) hu ?_
   exact ⟨.bl false,H,I,rfl,q⟩
  | _=>exact h.elim
 | _=>exact h.elim
def ER (K:PySem.W.Frag)(H:Hp)(as:List Addr)(ds:List Dd):Prop:=gG (fun a d=>SqT K H a (ddV d)) as ds
theorem ER.same {K:PySem.W.Frag}{H H':Hp}{as:List Addr}{ds:List Dd}(h:ER K H as ds)(s:av H H'):ER K H' as ds:=h.imp fun _ _ z=>s.tup z
def DI (K:PySem.W.Frag)(x:Str)(st:Stmt):Prop:=∃f fd,PySem.W.nsIn K mainGlobals x=some (some (.ref f))/\Fun K x x st f fd
theorem DI.mk {K:PySem.W.Frag}{x:Str}{st:Stmt}{f:Addr}{oc:Value}{od an:Option Addr}{osl:Array (Option Value)}{kV doc pm cdv ct:Value}(a:PySem.W.nsIn K mainGlobals x=some (some (.ref f)))(l:K.lookup f=some ⟨oc,od,.func (PySem.W.fnOf x x (ff st) (cy st) (ao st) .none kV doc pm an cdv ct),osl⟩)
  (c:PySem.W.codeIn K cdv x=true) (k:PySem.W.keepIn K (.ref f)=true):DI K x st:=⟨f,_,a,GB l c k⟩
def MI (K:PySem.W.Frag)(C:Addr)(m q:Str)(st:Stmt):Prop:=∃f fd,IK K C m f/\Fun K m q st f fd
theorem MI.mk {K:PySem.W.Frag}{C:Addr}{m q:Str}{st:Stmt}{f:Addr}{oc:Value}{od an:Option Addr}{osl:Array (Option Value)}{kV doc pm cdv ct:Value}(a:PySem.W.findIn K (.ref C) m=some (some (.ref f)))(fn:PySem.W.isFn K (.ref f)=true)(l:K.lookup f=some ⟨oc,od,.func (PySem.W.fnOf m q (ff st) (cy st) (ao st) .none kV doc pm an cdv ct),osl⟩)
  (c:PySem.W.codeIn K cdv q=true) (k:PySem.W.keepIn K (.ref f)=true):MI K C m q st:=⟨f,_,⟨a,fn,k⟩,GB l c k⟩
def II (K:PySem.W.Frag)(C:Addr)(q:Str)(st:Stmt):Prop:=∃f fd,Mk K C f/\Fun K "__init__" q st f fd
theorem II.mk {K:PySem.W.Frag}{C:Addr}{q:Str}{st:Stmt}{f:Addr}{oc:Value}{od an:Option Addr}{osl:Array (Option Value)}{kV doc pm cdv ct:Value}(a:PySem.W.findIn K (.ref C) "__init__"=some (some (.ref f)))(fn:PySem.W.isFn K (.ref f)=true)(mk:PySem.W.makesIn K C=true)(kc:PySem.W.keepIn K (.ref C)=true)(l:K.lookup f=some ⟨oc,od,.func (PySem.W.fnOf "__init__" q (ff st) (cy st) (ao st) .none kV doc pm an cdv ct),osl⟩)
  (c:PySem.W.codeIn K cdv q=true) (k:PySem.W.keepIn K (.ref f)=true):II K C q st:=⟨f,_,⟨mk,a,fn,kc⟩,GB l c k⟩
def C0I (K:PySem.W.Frag)(C0:Addr):Prop:=∃(c0 c2:Value) (dd0 d2:Option Addr) (cd0:ClassData) (sl0 sl2:Array (Option Value)) (es0:Array DictEntry) (ep0:Nat),K.lookup C0=some ⟨c0,dd0,.cls cd0,sl0⟩/\K.lookup cd0.ns=some ⟨c2,d2,.dict es0 ep0,sl2⟩/\sL es0=true/\(quietNames.all fun n=>(nsFind es0 n).isNone)=true
theorem C0I.mk {K:PySem.W.Frag}{C0 N0:Addr}{c0 c2:Value}{dd0 d2:Option Addr}{cd0:ClassData}{sl0 sl2:Array (Option Value)}{es0:Array DictEntry}{ep0:Nat}(l0:K.lookup C0=some ⟨c0,dd0,.cls cd0,sl0⟩)(e0:cd0.ns=N0)(lN0:K.lookup N0=some ⟨c2,d2,.dict es0 ep0,sl2⟩)(kN0:sL es0=true)(iN0:(quietNames.all fun n=>(nsFind es0 n).isNone)=true):C0I K C0:=
 ⟨c0,c2,dd0,d2,cd0,sl0,sl2,es0,ep0,l0,e0▸lN0,kN0,iN0⟩
def XI (K:PySem.W.Frag)(C0 C:Addr):Prop:=C0I K C0->ExI K C
theorem XI.mk {K:PySem.W.Frag}{C N C0:Addr}{nm q:Str}{bs:List Value}{hdct:Bool}{sn:List Str}{sub:List Value}{ab:Bool}{col:Option Bool}{dd:Option Addr}{k0 k1 k2 k3 k5:Option Value}{c1:Value}{d1:Option Addr}{es:Array DictEntry}{ep:Nat}{sl1:Array (Option Value)}
  (lC:K.lookup C=some (excClassObj nm q C N bs [.ref C0,.type "ValueError",.type "Exception",.type "BaseException",.type "object"] hdct sn sub ab col dd k0 k1 k2 k3 k5 "ValueError.__new__"))
  (lN:K.lookup N=some ⟨c1,d1,.dict es ep,sl1⟩) (kN:sL es=true) (iN:(quietNames.all fun n=>(nsFind es n).isNone)=true) (ca:PySem.W.findIn K (.ref C) "__class__"=some (some (.builtin "object.__class__"))) (mo:PySem.W.mroIn K C (.type "object")=some true):XI K C0 C:=by
 rintro ⟨c0,c2,dd0,d2,cd0,sl0,sl2,es0,ep0,l0,lN0,kN0,iN0⟩
 exact ⟨Oj lC lN kN iN l0 rfl lN0 kN0 iN0,ca,mo⟩
def NI (K:PySem.W.Frag)(x:Str)(a:Addr):Prop:=PySem.W.nsIn K mainGlobals x=some (some (.ref a))
def KI (K:PySem.W.Frag)(x:Str)(v:Int):Prop:=∃tk,PySem.W.nsIn K mainGlobals x=some (some (.int v tk))
theorem KI.mk {K:PySem.W.Frag}{x:Str}{v:Int}{tk:Tok}(h:PySem.W.nsIn K mainGlobals x=some (some (.int v tk))):KI K x v:=⟨tk,h⟩
theorem KI.txt {K:PySem.W.Frag}{h:Heap}{mg:Str->Option Value}{x:Str}{v:Int}(X:K.In h)(G:h.Ns mainGlobals mg)(k:KI K x v):∃u,mg x=some u/\cw (.int v) u:=let ⟨_,k⟩:=k;⟨_,PySem.W.mg_of X G k,⟨_,rfl⟩⟩
theorem p6 {H H1:Hp}{p:Addr}{o:HO}(e:upd H p o=H1)(h:H p=none):av H H1:=e▸(av.refl H).lay h
theorem jN {H H1:Hp}{p:Addr}{o:HO}(e:upd H p o=H1):H1 p=some o:=e▸ah
theorem seg {X:Cx}{b:List Stmt}{R:TS->Prop}(j:Nat){t:TS}(h:PSs X (b.drop j) t)(k:∀t',PSs X (b.drop j) t'->t'=t->∃u,PSs X b u/\R u):∃u,PSs X b u/\R u:=k t h rfl
theorem oS {t t':TS}(e:t=t'){D:lr}{σ:St}{H:Hp}(h:t' D σ H):t D σ H:=e▸h
theorem aZ {N P:List Str}{sc:Scope}(kind:sc.kind=.function:=by rfl)(co:sc.isCoroutine=false:=by rfl)(gen:sc.isGenerator=false:=by rfl)(nd:N.Nodup:=by decide +kernel)(pre:N.take P.length=P:=by rfl)(par:∀x∈P,sc.names.lookup x=some .local\/sc.names.lookup x=some .cell:=by decide +kernel)(nofree:∀y∈sc.names,y.2≠.free:=by decide +kernel):aA N P sc:=⟨kind,co,gen,nd,pre,par,nofree⟩
section
variable {K:PySem.W.Frag}{x qual:Str}{st:Stmt}{f:Addr}{fd:FuncData}{ps:List Str}
theorem Fun.b0 (F:Fun K x qual st f fd)(hl:ps.length=0:=by rfl)(h:∀(kV doc pm:Value) (an:Option Addr) (cdv ct:Value),bindArgs (PySem.W.fnOf x qual (ff st) (cy st) (ao st) .none kV doc pm an cdv ct) ⟨[],[]⟩=pure (ps.zip []):=by intros;rfl):iI K fd ps []:=F.binds fun kV doc pm an cdv ct us e=>match us,e.trans hl with | [],_=>h kV doc pm an cdv ct
theorem Fun.b1 (F:Fun K x qual st f fd)(hl:ps.length=1:=by rfl)(h:∀(kV doc pm:Value) (an:Option Addr) (cdv ct:Value) (a0:Value), bindArgs (PySem.W.fnOf x qual (ff st) (cy st) (ao st) .none kV doc pm an cdv ct) ⟨[a0],[]⟩=pure (ps.zip [a0]):=by intros;rfl):iI K fd ps []:=F.binds fun kV doc pm an cdv ct us e=>match us,e.trans hl with | [a0],_=>h kV doc pm an cdv ct a0
theorem Fun.b2 (F:Fun K x qual st f fd)(hl:ps.length=2:=by rfl)(h:∀(kV doc pm:Value) (an:Option Addr) (cdv ct:Value) (a0 a1:Value), bindArgs (PySem.W.fnOf x qual (ff st) (cy st) (ao st) .none kV doc pm an cdv ct) ⟨[a0,a1],[]⟩=pure (ps.zip [a0,a1]):=by intros;rfl):iI K fd ps []:=F.binds fun kV doc pm an cdv ct us e=>match us,e.trans hl with | [a0,a1],_=>h kV doc pm an cdv ct a0 a1
theorem Fun.b3 (F:Fun K x qual st f fd)(hl:ps.length=3:=by rfl)(h:∀(kV doc pm:Value) (an:Option Addr) (cdv ct:Value) (a0 a1 a2:Value), bindArgs (PySem.W.fnOf x qual (ff st) (cy st) (ao st) .none kV doc pm an cdv ct) ⟨[a0,a1,a2],[]⟩=pure (ps.zip [a0,a1,a2]):=by intros;rfl):iI K fd ps []:=F.binds fun kV doc pm an cdv ct us e=>match us,e.trans hl with | [a0,a1,a2],_=>h kV doc pm an cdv ct a0 a1 a2
theorem Fun.b4 (F:Fun K x qual st f fd)(hl:ps.length=4:=by rfl)(h:∀(kV doc pm:Value) (an:Option Addr) (cdv ct:Value) (a0 a1 a2 a3:Value), bindArgs (PySem.W.fnOf x qual (ff st) (cy st) (ao st) .none kV doc pm an cdv ct) ⟨[a0,a1,a2,a3],[]⟩=pure (ps.zip [a0,a1,a2,a3]):=by intros;rfl):iI K fd ps []:=F.binds fun kV doc pm an cdv ct us e=>match us,e.trans hl with | [a0,a1,a2,a3],_=>h kV doc pm an cdv ct a0 a1 a2 a3
theorem Fun.b5 (F:Fun K x qual st f fd)(hl:ps.length=5:=by rfl)(h:∀(kV doc pm:Value) (an:Option Addr) (cdv ct:Value) (a0 a1 a2 a3 a4:Value), bindArgs (PySem.W.fnOf x qual (ff st) (cy st) (ao st) .none kV doc pm an cdv ct) ⟨[a0,a1,a2,a3,a4],[]⟩=pure (ps.zip [a0,a1,a2,a3,a4]):=by intros;rfl):iI K fd ps []:=F.binds fun kV doc pm an cdv ct us e=>match us,e.trans hl with | [a0,a1,a2,a3,a4],_=>h kV doc pm an cdv ct a0 a1 a2 a3 a4
theorem Fun.b6 (F:Fun K x qual st f fd)(hl:ps.length=6:=by rfl)(h:∀(kV doc pm:Value) (an:Option Addr) (cdv ct:Value) (a0 a1 a2 a3 a4 a5:Value), bindArgs (PySem.W.fnOf x qual (ff st) (cy st) (ao st) .none kV doc pm an cdv ct) ⟨[a0,a1,a2,a3,a4,a5],[]⟩=pure (ps.zip [a0,a1,a2,a3,a4,a5]):=by intros;rfl):iI K fd ps []:=F.binds fun kV doc pm an cdv ct us e=>match us,e.trans hl with | [a0,a1,a2,a3,a4,a5],_=>h kV doc pm an cdv ct a0 a1 a2 a3 a4 a5
end
theorem iQ.dn {j k:Nat}{A:Around}(r:iQ k A)(h:j<=k:=by decide):iQ j A:=r.mono h
theorem au {X:Cx}{a b:Expr}{ta tb:TE}{pos:Pos}{r:R2}(hr:IxR X r)(ha:PE X a ta)(hb:PE X b tb)(hs:HR b:=by intro _ _;rfl):PE X (.Subscript a b pos) (tOp r ta tb):=PB hr ha hb hs
theorem orL {α:Type}{a b:α}{p:Prop}(h:a=b:=by rfl):a=b\/p:=.inl h
termination_by rs.length
decreasing_by all_goals (subst_vars;simp)
theorem ES {x y:V}(hx:cx x=true)(hy:cx y=true):∀z∈[x,y],cx z=true:=by
 intro z hz
 simp only [List.mem_cons,List.not_mem_nil,or_false] at hz
 rcases hz with rfl | rfl<;>assumption
section
variable {X:Cx}
noncomputable def Qn (K:PySem.W.Frag)(C:Addr)(tb:XT->TS)(th:TS):TS:=fun D σ H=>
 tb (fun cls σ' H'=>PySem.W.exmOne K cls (.ref C)=some true/\th D σ' H') D σ H
end
theorem QQ {A B:Prop}(h:B):if true=false then A else B:=by rw [if_neg (by decide)];exact h
theorem QR {A B:Prop}(h:A):if false=false then A else B:=by rw [if_pos rfl];exact h
section
variable {X:Cx}
noncomputable def Qo (K:PySem.W.Frag):List V->Hp->VK->Prop:=fun xs H Q=>∃(p:Addr) (ns:List Int),xs=[.ref p]/\SqT K H p (ns.map V.int)/\Q (.int ns.sum) H
end
end L2
namespace K25
open PySem L2
noncomputable abbrev lE:List Str:=["number","many"]
noncomputable abbrev gO:List Str:=["level","many"]
noncomputable abbrev iW:List Str:=["number","many"]
noncomputable abbrev gP:List Str:=["loads","many"]
noncomputable abbrev j8:List Str:=["self","loads","many"]
noncomputable abbrev j9:List Str:=["self","number","cage"]
noncomputable abbrev lF:List Str:=["self","cage","level"]
noncomputable abbrev iX:List Str:=["self"]
noncomputable abbrev fS:List Str:=["self","cage"]
noncomputable abbrev fq:List Str:=["self","level"]
noncomputable abbrev dW:List Str:=["self"]
noncomputable abbrev ka:List Str:=["self"]
noncomputable abbrev gQ:List Str:=["number"]
noncomputable abbrev gR:List Str:=["codes","many"]
noncomputable abbrev iY:List Str:=["self","codes"]
noncomputable abbrev iZ:List Str:=["self","level","strokes"]
noncomputable abbrev fT:List Str:=["self","strokes"]
noncomputable abbrev fU:List Str:=["self"]
noncomputable abbrev i3:List Str:=["self","level"]
noncomputable abbrev i4:List Str:=["self"]
noncomputable abbrev kb:List Str:=["self","level","kind"]
noncomputable abbrev i5:List Str:=["self"]
noncomputable abbrev fV:List Str:=["depths"]
noncomputable abbrev i6:List Str:=["depths"]
noncomputable abbrev gS:List Str:=["depths","place"]
noncomputable abbrev lG:List Str:=["depths","depth"]
noncomputable abbrev gT:List Str:=["depths","cage","level"]
noncomputable abbrev lH:List Str:=["depths","place"]
noncomputable abbrev fW:List Str:=["slow","fast"]
noncomputable abbrev i7:List Str:=["way","speed"]
noncomputable abbrev ft:List Str:=["self","place","opened","bells","yard"]
noncomputable abbrev fu:List Str:=["self"]
noncomputable abbrev ke:List Str:=["self","first","most"]
noncomputable abbrev i8:List Str:=["self","deed","ticks","speed","standing"]
noncomputable abbrev gU:List Str:=["self"]
noncomputable abbrev lI:List Str:=["self"]
noncomputable abbrev gV:List Str:=["self"]
noncomputable abbrev kg:List Str:=["self"]
noncomputable abbrev i9:List Str:=["self","depths","codes","slow","fast","loads"]
noncomputable abbrev ja:List Str:=["self","level","strokes"]
noncomputable abbrev fX:List Str:=["self","strokes"]
noncomputable abbrev jb:List Str:=["self","level"]
noncomputable abbrev dX:List Str:=["self","level"]
noncomputable abbrev dY:List Str:=["self","level"]
noncomputable abbrev dZ:List Str:=["self","word","level","wanted"]
noncomputable abbrev jc:List Str:=["self","number","cage"]
noncomputable abbrev fY:List Str:=["self","cage"]
noncomputable abbrev jd:List Str:=["self","cage","level","kind"]
noncomputable abbrev eh:List Str:=["self"]
noncomputable abbrev gW:List Str:=["self","deed","ticks","standing"]
noncomputable abbrev dF:List Str:=["self","standing"]
noncomputable abbrev eL:List Str:=["self","cage"]
noncomputable abbrev cF:List Str:=["self","level"]
noncomputable abbrev kh:List Str:=["self"]
noncomputable abbrev je:List Str:=["self"]
noncomputable abbrev fZ:List Str:=["self"]
noncomputable abbrev jf:List Str:=["self"]
noncomputable abbrev gX:List Str:=["self"]
noncomputable abbrev gY:List Str:=["self"]
noncomputable abbrev dh:List Str:=["self","place"]
noncomputable abbrev gZ:List Str:=["self"]
noncomputable abbrev fv:List Str:=["self","cage"]
noncomputable abbrev eM:List Str:=["self","level"]
noncomputable abbrev zy:List Str:=["_law_script","_law_k"]
noncomputable abbrev qu:List Str:=["_law_cell","_law_k","_law_span"]
noncomputable abbrev nI:List Str:=["_law_script","_law_k"]
noncomputable abbrev vH:List Str:=["_law_found","_law_due"]
noncomputable abbrev lJ:List Str:=["_law_cell"]
noncomputable abbrev nJ:List Str:=["_law_cell","_law_many"]
noncomputable abbrev nK:List Str:=["_law_cell","_law_many","_law_most"]
noncomputable abbrev nL:List Str:=["_law_script"]
noncomputable abbrev nM:List Str:=["_law_script","_law_most"]
noncomputable abbrev qv:List Str:=["_law_setup_here"]
noncomputable abbrev zz:List Str:=["_law_depths_here","_law_cage","_law_place"]
noncomputable abbrev qw:List Str:=["_law_row","_law_k","_law_value"]
noncomputable abbrev nN:List Str:=["_law_way","_law_speed_here"]
noncomputable abbrev nO:List Str:=["_law_setup_here","_law_lying"]
noncomputable abbrev nP:List Str:=["_law_setup_here"]
noncomputable abbrev eN:List Str:=["_law_setup_here","_law_state","_law_deed"]
noncomputable abbrev nQ:List Str:=["_law_heard_here","_law_deed"]
noncomputable abbrev qx:List Str:=["_law_setup_here","_law_state","_law_deed"]
noncomputable abbrev qz:List Str:=["_law_works","_law_deed"]
noncomputable abbrev qA:List Str:=["_law_works","_law_setup_here","_law_states","_law_rows"]
noncomputable abbrev eO:List Str:=["_law_setup_here","_law_state","_law_rest"]
noncomputable abbrev eP:List Str:=["_law_setup_here","_law_state","_law_rest"]
noncomputable abbrev g0:List Str:=["_law_setup_here","_law_states","_law_cell"]
noncomputable abbrev qB:List Str:=["_law_works","_law_setup_here","_law_states","_law_rows","_law_deed"]
noncomputable abbrev vI:List Str:=["_law_works","_law_setup_here","_law_script","_law_begin","_law_end"]
noncomputable abbrev zA:List Str:=["_law_works","_law_deed"]
noncomputable abbrev Li:List Str:=["_law_script"]
noncomputable def top (i:Nat):Stmt:=PySem.Challenge.pw_cagebells_k25_in_and_out.main.body.getD i (.Pass ⟨0,0,0,0⟩)
noncomputable abbrev lK:Stmt:=top 22
theorem ET:aA ["number","many"] lE (ao lK):=aZ
noncomputable abbrev g8:Stmt:=top 23
theorem zB:aA ["level","many"] gO (ao g8):=aZ
noncomputable abbrev jg:Stmt:=top 24
theorem A3:aA ["number","many"] iW (ao jg):=aZ
noncomputable abbrev g9:Stmt:=top 29
theorem jh:aA ["loads","many","kind","level","goal"] gP (ao g9):=aZ
noncomputable abbrev ki:Stmt:=bb (top 30) 0
theorem Du:aA ["self","loads","many"] j8 (ao ki):=aZ
noncomputable abbrev kj:Stmt:=bb (top 30) 1
theorem Dv:aA ["self","number","cage"] j9 (ao kj):=aZ
noncomputable abbrev lL:Stmt:=bb (top 30) 2
theorem yd:aA ["self","cage","level","number"] lF (ao lL):=aZ
noncomputable abbrev ji:Stmt:=bb (top 30) 3
theorem A4:aA ["self"] iX (ao ji):=aZ
noncomputable abbrev gf:Stmt:=bb (top 30) 4
theorem kD:aA ["self","cage","number","spot"] fS (ao gf):=aZ
noncomputable abbrev fz:Stmt:=bb (top 30) 5
theorem xD:aA ["self","level"] fq (ao fz):=aZ
noncomputable abbrev en:Stmt:=bb (top 30) 6
theorem iC:aA ["self","kind","spot"] dW (ao en):=aZ
noncomputable abbrev kl:Stmt:=bb (top 30) 7
theorem vJ:aA ["self","other"] ka (ao kl):=aZ
noncomputable abbrev hG:Stmt:=top 34
theorem zC:aA ["number"] gQ (ao hG):=aZ
noncomputable abbrev hJ:Stmt:=top 35
theorem lM:aA ["codes","many","men","coal"] gR (ao hJ):=aZ
noncomputable abbrev jj:Stmt:=bb (top 36) 0
theorem A5:aA ["self","codes"] iY (ao jj):=aZ
noncomputable abbrev jk:Stmt:=bb (top 36) 1
theorem A6:aA ["self","level","strokes"] iZ (ao jk):=aZ
noncomputable abbrev gg:Stmt:=bb (top 36) 2
theorem iA:aA ["self","strokes","level","rung","alike"] fT (ao gg):=aZ
noncomputable abbrev gh:Stmt:=bb (top 36) 3
theorem yN:aA ["self"] fU (ao gh):=aZ
noncomputable abbrev jl:Stmt:=bb (top 36) 4
theorem A7:aA ["self","level"] i3 (ao jl):=aZ
noncomputable abbrev jm:Stmt:=bb (top 36) 5
theorem A8:aA ["self"] i4 (ao jm):=aZ
noncomputable abbrev km:Stmt:=bb (top 36) 6
theorem vK:aA ["self","level","kind","code"] kb (ao km):=aZ
noncomputable abbrev jn:Stmt:=bb (top 36) 7
theorem tI:aA ["self","other"] i5 (ao jn):=aZ
noncomputable abbrev gj:Stmt:=top 41
theorem kE:aA ["depths","depth","level"] fV (ao gj):=aZ
noncomputable abbrev jo:Stmt:=top 42
theorem A9:aA ["depths"] i6 (ao jo):=aZ
noncomputable abbrev hV:Stmt:=top 43
theorem zD:aA ["depths","place"] gS (ao hV):=aZ
noncomputable abbrev lO:Stmt:=top 44
theorem ye:aA ["depths","depth","level"] lG (ao lO):=aZ
noncomputable abbrev hZ:Stmt:=top 45
theorem zE:aA ["depths","cage","level"] gT (ao hZ):=aZ
noncomputable abbrev lP:Stmt:=top 46
theorem yf:aA ["depths","place","stands"] lH (ao lP):=aZ
noncomputable abbrev gm:Stmt:=top 49
theorem yO:aA ["slow","fast"] fW (ao gm):=aZ
noncomputable abbrev jq:Stmt:=top 50
theorem Ba:aA ["way","speed"] i7 (ao jq):=aZ
noncomputable abbrev fA:Stmt:=bb (top 52) 0
theorem xE:aA ["self","place","opened","bells","yard"] ft (ao fA):=aZ
noncomputable abbrev fB:Stmt:=bb (top 52) 1
theorem xF:aA ["self"] fu (ao fB):=aZ
noncomputable abbrev ko:Stmt:=bb (top 53) 0
theorem Dw:aA ["self","first","most"] ke (ao ko):=aZ
noncomputable abbrev jr:Stmt:=bb (top 53) 1
theorem tJ:aA ["self","deed","ticks","speed","standing","began"] i8 (ao jr):=aZ
noncomputable abbrev ie:Stmt:=bb (top 53) 2
theorem zF:aA ["self"] gU (ao ie):=aZ
noncomputable abbrev lQ:Stmt:=bb (top 53) 3
theorem EU:aA ["self"] lI (ao lQ):=aZ
noncomputable abbrev ig:Stmt:=bb (top 53) 4
theorem zG:aA ["self"] gV (ao ig):=aZ
noncomputable abbrev kq:Stmt:=bb (top 53) 5
theorem Dx:aA ["self"] kg (ao kq):=aZ
noncomputable abbrev js:Stmt:=bb (top 56) 0
theorem nu:aA ["self","depths","codes","slow","fast","loads","shut","first"] i9 (ao js):=aZ
noncomputable abbrev jt:Stmt:=bb (top 56) 1
theorem tK:aA ["self","level","strokes","standing"] ja (ao jt):=aZ
noncomputable abbrev gn:Stmt:=bb (top 56) 2
theorem kF:aA ["self","strokes","standing","answer"] fX (ao gn):=aZ
noncomputable abbrev ju:Stmt:=bb (top 56) 3
theorem tL:aA ["self","level","standing"] jb (ao ju):=aZ
noncomputable abbrev eo:Stmt:=bb (top 56) 4
theorem u7:aA ["self","level"] dX (ao eo):=aZ
noncomputable abbrev et:Stmt:=bb (top 56) 5
theorem u9:aA ["self","level"] dY (ao et):=aZ
noncomputable abbrev eA:Stmt:=bb (top 56) 6
theorem lR:aA ["self","word","level","wanted","standing"] dZ (ao eA):=aZ
noncomputable abbrev jv:Stmt:=bb (top 56) 7
theorem nv:aA ["self","number","cage","standing","level"] jc (ao jv):=aZ
noncomputable abbrev gp:Stmt:=bb (top 56) 8
theorem kG:aA ["self","cage","standing","level"] fY (ao gp):=aZ
noncomputable abbrev jw:Stmt:=bb (top 56) 9
theorem ij:aA ["self","cage","level","kind","standing","gate","end","ticks"] jd (ao jw):=aZ
noncomputable abbrev eB:Stmt:=bb (top 56) 10
theorem va:aA ["self"] eh (ao eB):=aZ
noncomputable abbrev ik:Stmt:=bb (top 56) 11
theorem zH:aA ["self","deed","ticks","standing"] gW (ao ik):=aZ
noncomputable abbrev dG:Stmt:=bb (top 56) 12
theorem td:aA ["self","standing"] dF (ao dG):=aZ
noncomputable abbrev eQ:Stmt:=bb (top 56) 13
theorem vL:aA ["self","cage"] eL (ao eQ):=aZ
noncomputable abbrev cG:Stmt:=bb (top 56) 14
theorem mm:aA ["self","level"] cF (ao cG):=aZ
noncomputable abbrev kr:Stmt:=bb (top 56) 15
theorem Dy:aA ["self"] kh (ao kr):=aZ
noncomputable abbrev jx:Stmt:=bb (top 56) 16
theorem Bb:aA ["self"] je (ao jx):=aZ
noncomputable abbrev gq:Stmt:=bb (top 56) 18
theorem yP:aA ["self"] fZ (ao gq):=aZ
noncomputable abbrev jy:Stmt:=bb (top 56) 19
theorem Bc:aA ["self"] jf (ao jy):=aZ
noncomputable abbrev il:Stmt:=bb (top 56) 20
theorem zI:aA ["self"] gX (ao il):=aZ
noncomputable abbrev ip:Stmt:=bb (top 56) 21
theorem zJ:aA ["self"] gY (ao ip):=aZ
noncomputable abbrev di:Stmt:=bb (top 56) 23
theorem qC:aA ["self","place"] dh (ao di):=aZ
noncomputable abbrev iq:Stmt:=bb (top 56) 24
theorem zK:aA ["self"] gZ (ao iq):=aZ
noncomputable abbrev fC:Stmt:=bb (top 56) 26
theorem xG:aA ["self","cage"] fv (ao fC):=aZ
noncomputable abbrev eR:Stmt:=bb (top 56) 27
theorem vM:aA ["self","level"] eM (ao eR):=aZ
noncomputable abbrev zL:Stmt:=top 58
theorem MM:aA ["_law_script","_law_k"] zy (ao zL):=aZ
noncomputable abbrev qD:Stmt:=top 59
theorem nR:aA ["_law_cell","_law_k","_law_span","_law_rest","_law_turn","_law_one"] qu (ao qD):=aZ
noncomputable abbrev nS:Stmt:=top 60
theorem vb:aA ["_law_script","_law_k","_law_cell","_law_one"] nI (ao nS):=aZ
noncomputable abbrev ku:Stmt:=top 61
theorem xH:aA ["_law_found","_law_due","_law_alike","_law_k"] vH (ao ku):=aZ
noncomputable abbrev lS:Stmt:=top 62
theorem dq:aA ["_law_cell","_law_many","_law_shape","_law_gap","_law_made_here","_law_last","_law_k","_law_span"] lJ (ao lS):=aZ
noncomputable abbrev nT:Stmt:=top 63
theorem oU:aA ["_law_cell","_law_many","_law_made_here","_law_k","_law_men"] nJ (ao nT):=aZ
noncomputable abbrev nU:Stmt:=top 64
theorem lT:aA ["_law_cell","_law_many","_law_most","_law_made_here","_law_count","_law_k","_law_kind"] nK (ao nU):=aZ
noncomputable abbrev jP:Stmt:=top 65
theorem iD:aA ["_law_script","_law_depths_here","_law_codes_here","_law_cell","_law_slow","_law_fast"] nL (ao jP):=aZ
noncomputable abbrev nV:Stmt:=top 66
theorem lU:aA ["_law_script","_law_most","_law_depths_here","_law_codes_here","_law_slow","_law_fast"] nM (ao nV):=aZ
noncomputable abbrev qF:Stmt:=top 67
theorem iL:aA ["_law_setup_here","_law_depths_here","_law_codes_here","_law_slow","_law_fast","_law_loads_here","_law_handed","_law_works"] qv (ao qF):=aZ
noncomputable abbrev zM:Stmt:=top 68
theorem Dz:aA ["_law_depths_here","_law_cage","_law_place","_law_deep","_law_k"] zz (ao zM):=aZ
noncomputable abbrev qG:Stmt:=top 69
theorem Jk:aA ["_law_row","_law_k","_law_value"] qw (ao qG):=aZ
noncomputable abbrev nW:Stmt:=top 70
theorem vc:aA ["_law_way","_law_speed_here","_law_ticks"] nN (ao nW):=aZ
noncomputable abbrev nX:Stmt:=top 71
theorem zN:aA ["_law_setup_here","_law_lying","_law_k"] nO (ao nX):=aZ
noncomputable abbrev nY:Stmt:=top 72
theorem vd:aA ["_law_setup_here","_law_many","_law_lying"] nP (ao nY):=aZ
noncomputable abbrev eS:Stmt:=top 73
theorem jz:aA ["_law_setup_here","_law_state","_law_deed","_law_lying","_law_level"] eN (ao eS):=aZ
noncomputable abbrev nZ:Stmt:=top 74
theorem zO:aA ["_law_heard_here","_law_deed","_law_word"] nQ (ao nZ):=aZ
noncomputable abbrev qH:Stmt:=top 75
theorem cD:aA ["_law_setup_here","_law_state","_law_deed","_law_place","_law_gates","_law_lying","_law_heard_here","_law_dead","_law_clock","_law_ended","_law_level","_law_deep","_law_goal"] qx (ao qH):=aZ
noncomputable abbrev qI:Stmt:=top 76
theorem Jl:aA ["_law_works","_law_deed"] qz (ao qI):=aZ
noncomputable abbrev jA:Stmt:=top 77
theorem dP:aA ["_law_works","_law_setup_here","_law_states","_law_rows","_law_place","_law_gates","_law_lying","_law_heard_here","_law_dead","_law_clock","_law_held","_law_k","_law_waits","_law_due","_law_found"] qA (ao jA):=aZ
noncomputable abbrev eT:Stmt:=top 78
theorem cz:aA ["_law_setup_here","_law_state","_law_rest","_law_depths_here","_law_codes_here","_law_heard_here","_law_live","_law_level","_law_cage","_law_kind"] eO (ao eT):=aZ
noncomputable abbrev cS:Stmt:=top 79
theorem cZ:aA ["_law_setup_here","_law_state","_law_rest","_law_cage","_law_level","_law_waits"] eP (ao cS):=aZ
noncomputable abbrev bW:Stmt:=top 80
theorem jB:aA ["_law_setup_here","_law_states","_law_cell","_law_state","_law_rest","_law_level"] g0 (ao bW):=aZ
noncomputable abbrev qJ:Stmt:=top 81
theorem xI:aA ["_law_works","_law_setup_here","_law_states","_law_rows","_law_deed","_law_told","_law_heard_here"] qB (ao qJ):=aZ
noncomputable abbrev vN:Stmt:=top 82
theorem qK:aA ["_law_works","_law_setup_here","_law_script","_law_begin","_law_end","_law_states","_law_rows","_law_k","_law_deed"] vI (ao vN):=aZ
noncomputable abbrev zP:Stmt:=top 83
theorem sP:aA ["_law_works","_law_deed","_law_hit","e","_law_names"] zA (ao zP):=aZ
noncomputable abbrev vO:Stmt:=top 84
theorem lV:aA ["_law_script","_law_setup_here","_law_works","_law_played","_law_states","_law_rows","_law_asked","_law_number","_law_deed","_law_word"] Li (ao vO):=aZ
structure Adr where
 bf:Addr
 aW:Addr
 gu:Addr
 bu:Addr
 bh:Addr
 bj:Addr
 gv:Addr
 fD:Addr
 jC:Addr
 cP:Addr
 dH:Addr
 eU:Addr
 eV:Addr
 eW:Addr
 eX:Addr
 cX:Addr
 gw:Addr
 bw:Addr
 cq:Addr
 gz:Addr
 bZ:Addr
 fE:Addr
 tf:Addr
 bI:Addr
 DA:Addr
 vP:Addr
structure Txt (K:PySem.W.Frag)(mg:Str->Option Value)(Z:Adr):Prop where
 cA:mg "len"=none
 fJ:mg "list"=none
 qL:mg "enumerate"=none
 Qp:mg "zip"=none
 cU:mg "range"=none
 NP:mg "abs"=none
 cj:mg "isinstance"=none
 vQ:mg "tuple"=none
 tM:mg "int"=none
 NQ:mg "str"=none
 Lj:mg "bool"=none
 Lk:mg "min"=none
 Ll:mg "sorted"=none
 DB:∃u,mg "MOST_LOADS"=some u/\cw (.int 30) u
 xJ:∃u,mg "FEWEST_STROKES"=some u/\cw (.int 1) u
 zQ:∃u,mg "MOST_STROKES"=some u/\cw (.int 9) u
 yQ:∃u,mg "FEWEST_LEVELS"=some u/\cw (.int 2) u
 Be:∃u,mg "MOST_LEVELS"=some u/\cw (.int 6) u
 xK:∃u,mg "GREATEST_DEPTH"=some u/\cw (.int 500) u
 xM:∃u,mg "GREATEST_SPEED"=some u/\cw (.int 500) u
 DC:∃u,mg "MOST_DEEDS"=some u/\cw (.int 300) u
 MN:∃u,mg "KINDS"=some u/\cw (.ref Z.DA) u
 MO:∀H,SqT K H Z.DA [.str "men",.str "coal"]
 MP:∃o,K.lookup Z.DA=some o/\o.cls=.type "tuple"/\o.dict=none
 kR:∃u,mg "CAGE_SPOTS"=some u/\cw (.ref Z.vP) u
 kS:∀H,SqT K H Z.vP [.int 10,.int 11]
 zR:mg "UnknownLevel"=some (.ref Z.bf)
 tN:mg "UnknownLoad"=some (.ref Z.aW)
 zS:mg "BadLoads"=some (.ref Z.gu)
 oV:mg "NotThere"=some (.ref Z.bu)
 yg:mg "CageTaken"=some (.ref Z.bh)
 qM:mg "CageEmpty"=some (.ref Z.bj)
 ve:mg "BadCodes"=some (.ref Z.gv)
 GX:mg "DeadBell"=some (.ref Z.fD)
 EV:mg "NoCode"=some (.ref Z.jC)
 Bf:mg "NothingRung"=some (.ref Z.cP)
 zT:mg "NoChange"=some (.ref Z.dH)
 GY:mg "NotArmed"=some (.ref Z.eU)
 qN:mg "BadDepths"=some (.ref Z.eV)
 EW:mg "BadSpeeds"=some (.ref Z.eW)
 GZ:mg "BookFull"=some (.ref Z.eX)
 Bg:mg "NothingDone"=some (.ref Z.cX)
 Hc:mg "GateOpen"=some (.ref Z.gw)
 zU:mg "GateShut"=some (.ref Z.bw)
 EX:mg "CageError"=some (.ref Z.cq)
 Lm:mg "Yard"=some (.ref Z.gz)
 Ip:mg "Bells"=some (.ref Z.bZ)
 zV:mg "Standing"=some (.ref Z.fE)
 OW:mg "Book"=some (.ref Z.tf)
 MQ:mg "Works"=some (.ref Z.bI)
 bV:Cls K Z.gz
 jT:bE K Z.gz "kinds"
 cH:bE K Z.gz "where"
 kT:bE K Z.gz "many"
 bx:Cls K Z.bZ
 dI:bE K Z.bZ "codes"
 de:bE K Z.bZ "failed"
 bT:bE K Z.bZ "state"
 aP:Cls K Z.fE
 c7:bE K Z.fE "place"
 cN:bE K Z.fE "opened"
 cB:bE K Z.fE "bells"
 bX:bE K Z.fE "yard"
 bD:Cls K Z.tf
 tO:bE K Z.tf "first"
 vR:bE K Z.tf "most"
 cL:bE K Z.tf "rows"
 aG:Cls K Z.bI
 df:bE K Z.bI "depths"
 tP:bE K Z.bI "slow"
 tQ:bE K Z.bI "fast"
 qO:bE K Z.bI "goals"
 br:bE K Z.bI "log"
 zW:ExC K Z.bf
 Ln:ExI K Z.bf
 Bh:PySem.W.exmOne K (.ref Z.bf) (.ref Z.cq)=some true
 zX:PySem.W.kitOne K (.ref Z.bf) (.ref Z.aW)=some false
 B1:PySem.W.kitOne K (.ref Z.bf) (.ref Z.bu)=some false
 Bi:PySem.W.kitOne K (.ref Z.bf) (.ref Z.bh)=some false
 B2:PySem.W.kitOne K (.ref Z.bf) (.ref Z.bw)=some false
 Bj:PySem.W.kitOne K (.ref Z.bf) (.ref Z.bj)=some false
 Bk:ExC K Z.aW
 Bl:ExI K Z.aW
 n6:PySem.W.exmOne K (.ref Z.aW) (.ref Z.cq)=some true
 mn:PySem.W.kitOne K (.ref Z.aW) (.ref Z.aW)=some true
 oW:PySem.W.kitOne K (.ref Z.aW) (.ref Z.bu)=some false
 n8:PySem.W.kitOne K (.ref Z.aW) (.ref Z.bh)=some false
 oX:PySem.W.kitOne K (.ref Z.aW) (.ref Z.bw)=some false
 n9:PySem.W.kitOne K (.ref Z.aW) (.ref Z.bj)=some false
 zY:ExC K Z.gu
 OX:ExI K Z.gu
 EY:PySem.W.exmOne K (.ref Z.gu) (.ref Z.cq)=some true
 DD:PySem.W.kitOne K (.ref Z.gu) (.ref Z.aW)=some false
 FT:PySem.W.kitOne K (.ref Z.gu) (.ref Z.bu)=some false
 EZ:PySem.W.kitOne K (.ref Z.gu) (.ref Z.bh)=some false
 FU:PySem.W.kitOne K (.ref Z.gu) (.ref Z.bw)=some false
 E1:PySem.W.kitOne K (.ref Z.gu) (.ref Z.bj)=some false
 vf:ExC K Z.bu
 Hd:ExI K Z.bu
 qP:PySem.W.exmOne K (.ref Z.bu) (.ref Z.cq)=some true
 oY:PySem.W.kitOne K (.ref Z.bu) (.ref Z.aW)=some false
 tj:PySem.W.kitOne K (.ref Z.bu) (.ref Z.bu)=some true
 qQ:PySem.W.kitOne K (.ref Z.bu) (.ref Z.bh)=some false
 tu:PySem.W.kitOne K (.ref Z.bu) (.ref Z.bw)=some false
 qR:PySem.W.kitOne K (.ref Z.bu) (.ref Z.bj)=some false
 E2:ExC K Z.bh
 E3:ExI K Z.bh
 p7:PySem.W.exmOne K (.ref Z.bh) (.ref Z.cq)=some true
 oa:PySem.W.kitOne K (.ref Z.bh) (.ref Z.aW)=some false
 qS:PySem.W.kitOne K (.ref Z.bh) (.ref Z.bu)=some false
 p8:PySem.W.kitOne K (.ref Z.bh) (.ref Z.bh)=some true
 qT:PySem.W.kitOne K (.ref Z.bh) (.ref Z.bw)=some false
 p9:PySem.W.kitOne K (.ref Z.bh) (.ref Z.bj)=some false
 yh:ExC K Z.bj
 E4:ExI K Z.bj
 qa:PySem.W.exmOne K (.ref Z.bj) (.ref Z.cq)=some true
 og:PySem.W.kitOne K (.ref Z.bj) (.ref Z.aW)=some false
 qU:PySem.W.kitOne K (.ref Z.bj) (.ref Z.bu)=some false
 qc:PySem.W.kitOne K (.ref Z.bj) (.ref Z.bh)=some false
 qV:PySem.W.kitOne K (.ref Z.bj) (.ref Z.bw)=some false
 qd:PySem.W.kitOne K (.ref Z.bj) (.ref Z.bj)=some true
 vg:ExC K Z.gv
 OY:ExI K Z.gv
 E5:PySem.W.exmOne K (.ref Z.gv) (.ref Z.cq)=some true
 DE:PySem.W.kitOne K (.ref Z.gv) (.ref Z.aW)=some false
 FV:PySem.W.kitOne K (.ref Z.gv) (.ref Z.bu)=some false
 E6:PySem.W.kitOne K (.ref Z.gv) (.ref Z.bh)=some false
 FW:PySem.W.kitOne K (.ref Z.gv) (.ref Z.bw)=some false
 E7:PySem.W.kitOne K (.ref Z.gv) (.ref Z.bj)=some false
 He:ExC K Z.fD
 OZ:ExI K Z.fD
 E8:PySem.W.exmOne K (.ref Z.fD) (.ref Z.cq)=some true
 DF:PySem.W.kitOne K (.ref Z.fD) (.ref Z.aW)=some false
 FX:PySem.W.kitOne K (.ref Z.fD) (.ref Z.bu)=some false
 E9:PySem.W.kitOne K (.ref Z.fD) (.ref Z.bh)=some false
 FY:PySem.W.kitOne K (.ref Z.fD) (.ref Z.bw)=some false
 Fb:PySem.W.kitOne K (.ref Z.fD) (.ref Z.bj)=some false
 Fc:ExC K Z.jC
 Qq:ExI K Z.jC
 Hf:PySem.W.exmOne K (.ref Z.jC) (.ref Z.cq)=some true
 Fd:PySem.W.kitOne K (.ref Z.jC) (.ref Z.aW)=some false
 Iq:PySem.W.kitOne K (.ref Z.jC) (.ref Z.bu)=some false
 Hg:PySem.W.kitOne K (.ref Z.jC) (.ref Z.bh)=some false
 Ir:PySem.W.kitOne K (.ref Z.jC) (.ref Z.bw)=some false
 Hh:PySem.W.kitOne K (.ref Z.jC) (.ref Z.bj)=some false
 Bm:ExC K Z.cP
 LA:ExI K Z.cP
 B3:PySem.W.exmOne K (.ref Z.cP) (.ref Z.cq)=some true
 AN:PySem.W.kitOne K (.ref Z.cP) (.ref Z.aW)=some false
 DG:PySem.W.kitOne K (.ref Z.cP) (.ref Z.bu)=some false
 B4:PySem.W.kitOne K (.ref Z.cP) (.ref Z.bh)=some false
 DH:PySem.W.kitOne K (.ref Z.cP) (.ref Z.bw)=some false
 B5:PySem.W.kitOne K (.ref Z.cP) (.ref Z.bj)=some false
 zZ:ExC K Z.dH
 O0:ExI K Z.dH
 Fe:PySem.W.exmOne K (.ref Z.dH) (.ref Z.cq)=some true
 DJ:PySem.W.kitOne K (.ref Z.dH) (.ref Z.aW)=some false
 FZ:PySem.W.kitOne K (.ref Z.dH) (.ref Z.bu)=some false
 Ff:PySem.W.kitOne K (.ref Z.dH) (.ref Z.bh)=some false
 Ga:PySem.W.kitOne K (.ref Z.dH) (.ref Z.bw)=some false
 Fg:PySem.W.kitOne K (.ref Z.dH) (.ref Z.bj)=some false
 Hi:ExC K Z.eU
 O1:ExI K Z.eU
 Fh:PySem.W.exmOne K (.ref Z.eU) (.ref Z.cq)=some true
 DK:PySem.W.kitOne K (.ref Z.eU) (.ref Z.aW)=some false
 Gb:PySem.W.kitOne K (.ref Z.eU) (.ref Z.bu)=some false
 Fi:PySem.W.kitOne K (.ref Z.eU) (.ref Z.bh)=some false
 Gc:PySem.W.kitOne K (.ref Z.eU) (.ref Z.bw)=some false
 Fj:PySem.W.kitOne K (.ref Z.eU) (.ref Z.bj)=some false
 qW:ExC K Z.eV
 NR:ExI K Z.eV
 DY:PySem.W.exmOne K (.ref Z.eV) (.ref Z.cq)=some true
 B6:PySem.W.kitOne K (.ref Z.eV) (.ref Z.aW)=some false
 Fk:PySem.W.kitOne K (.ref Z.eV) (.ref Z.bu)=some false
 DZ:PySem.W.kitOne K (.ref Z.eV) (.ref Z.bh)=some false
 Fl:PySem.W.kitOne K (.ref Z.eV) (.ref Z.bw)=some false
 Ea:PySem.W.kitOne K (.ref Z.eV) (.ref Z.bj)=some false
 Fm:ExC K Z.eW
 NS:ExI K Z.eW
 Eb:PySem.W.exmOne K (.ref Z.eW) (.ref Z.cq)=some true
 B7:PySem.W.kitOne K (.ref Z.eW) (.ref Z.aW)=some false
 Fn:PySem.W.kitOne K (.ref Z.eW) (.ref Z.bu)=some false
 Ec:PySem.W.kitOne K (.ref Z.eW) (.ref Z.bh)=some false
 Fo:PySem.W.kitOne K (.ref Z.eW) (.ref Z.bw)=some false
 Ed:PySem.W.kitOne K (.ref Z.eW) (.ref Z.bj)=some false
 Hj:ExC K Z.eX
 O2:ExI K Z.eX
 Fp:PySem.W.exmOne K (.ref Z.eX) (.ref Z.cq)=some true
 DL:PySem.W.kitOne K (.ref Z.eX) (.ref Z.aW)=some false
 Gd:PySem.W.kitOne K (.ref Z.eX) (.ref Z.bu)=some false
 Fq:PySem.W.kitOne K (.ref Z.eX) (.ref Z.bh)=some false
 Ge:PySem.W.kitOne K (.ref Z.eX) (.ref Z.bw)=some false
 Fs:PySem.W.kitOne K (.ref Z.eX) (.ref Z.bj)=some false
 Bn:ExC K Z.cX
 LB:ExI K Z.cX
 B8:PySem.W.exmOne K (.ref Z.cX) (.ref Z.cq)=some true
 AO:PySem.W.kitOne K (.ref Z.cX) (.ref Z.aW)=some false
 DM:PySem.W.kitOne K (.ref Z.cX) (.ref Z.bu)=some false
 B9:PySem.W.kitOne K (.ref Z.cX) (.ref Z.bh)=some false
 DN:PySem.W.kitOne K (.ref Z.cX) (.ref Z.bw)=some false
 Ca:PySem.W.kitOne K (.ref Z.cX) (.ref Z.bj)=some false
 Hk:ExC K Z.gw
 O3:ExI K Z.gw
 Ft:PySem.W.exmOne K (.ref Z.gw) (.ref Z.cq)=some true
 DO:PySem.W.kitOne K (.ref Z.gw) (.ref Z.aW)=some false
 Gf:PySem.W.kitOne K (.ref Z.gw) (.ref Z.bu)=some false
 Fu:PySem.W.kitOne K (.ref Z.gw) (.ref Z.bh)=some false
 Gg:PySem.W.kitOne K (.ref Z.gw) (.ref Z.bw)=some false
 Fv:PySem.W.kitOne K (.ref Z.gw) (.ref Z.bj)=some false
 Hl:ExC K Z.bw
 Hm:ExI K Z.bw
 qX:PySem.W.exmOne K (.ref Z.bw) (.ref Z.cq)=some true
 oZ:PySem.W.kitOne K (.ref Z.bw) (.ref Z.aW)=some false
 tw:PySem.W.kitOne K (.ref Z.bw) (.ref Z.bu)=some false
 qY:PySem.W.kitOne K (.ref Z.bw) (.ref Z.bh)=some false
 tx:PySem.W.kitOne K (.ref Z.bw) (.ref Z.bw)=some true
 qZ:PySem.W.kitOne K (.ref Z.bw) (.ref Z.bj)=some false
structure NT (K:PySem.W.Frag)(C0 C1 C2 C3 C4 C5 C6 C7 C8 C9 C10 C11 C12 C13 C14 C15 C16 C17 C18 C19 C20 C21 C22 C23:Addr)(ta_KINDS:Addr)(tk_KINDS_0 tk_KINDS_1:Tok)(tn_KINDS:Nat)(ts_KINDS:Array (Option Value))(ta_CAGE_SPOTS:Addr)(tk_CAGE_SPOTS_0 tk_CAGE_SPOTS_1:Tok)(to_CAGE_SPOTS:Option Addr)(tn_CAGE_SPOTS:Nat)(ts_CAGE_SPOTS:Array (Option Value)):Prop where
 z_len:PySem.W.nsIn K mainGlobals "len"=some none
 z_list:PySem.W.nsIn K mainGlobals "list"=some none
 z_enumerate:PySem.W.nsIn K mainGlobals "enumerate"=some none
 z_zip:PySem.W.nsIn K mainGlobals "zip"=some none
 z_range:PySem.W.nsIn K mainGlobals "range"=some none
 z_abs:PySem.W.nsIn K mainGlobals "abs"=some none
 z_isinstance:PySem.W.nsIn K mainGlobals "isinstance"=some none
 z_tuple:PySem.W.nsIn K mainGlobals "tuple"=some none
 z_int:PySem.W.nsIn K mainGlobals "int"=some none
 z_str:PySem.W.nsIn K mainGlobals "str"=some none
 z_bool:PySem.W.nsIn K mainGlobals "bool"=some none
 z_min:PySem.W.nsIn K mainGlobals "min"=some none
 z_sorted:PySem.W.nsIn K mainGlobals "sorted"=some none
 m0:NI K "UnknownLevel" C0
 m1:NI K "UnknownLoad" C1
 m2:NI K "BadLoads" C2
 m3:NI K "NotThere" C3
 m4:NI K "CageTaken" C4
 m5:NI K "CageEmpty" C5
 m6:NI K "BadCodes" C6
 m7:NI K "DeadBell" C7
 m8:NI K "NoCode" C8
 m9:NI K "NothingRung" C9
 m10:NI K "NoChange" C10
 m11:NI K "NotArmed" C11
 m12:NI K "BadDepths" C12
 m13:NI K "BadSpeeds" C13
 m14:NI K "BookFull" C14
 m15:NI K "NothingDone" C15
 m16:NI K "GateOpen" C16
 m17:NI K "GateShut" C17
 m18:NI K "CageError" C18
 m19:NI K "Yard" C19
 m20:NI K "Bells" C20
 m21:NI K "Standing" C21
 m22:NI K "Book" C22
 m23:NI K "Works" C23
 n_MOST_LOADS:KI K "MOST_LOADS" 30
 n_FEWEST_STROKES:KI K "FEWEST_STROKES" 1
 n_MOST_STROKES:KI K "MOST_STROKES" 9
 n_FEWEST_LEVELS:KI K "FEWEST_LEVELS" 2
 n_MOST_LEVELS:KI K "MOST_LEVELS" 6
 n_GREATEST_DEPTH:KI K "GREATEST_DEPTH" 500
 n_GREATEST_SPEED:KI K "GREATEST_SPEED" 500
 n_MOST_DEEDS:KI K "MOST_DEEDS" 300
 n_KINDS:PySem.W.nsIn K mainGlobals "KINDS"=some (some (.ref ta_KINDS))
 lt_KINDS:K.lookup ta_KINDS=some ⟨.type "tuple",none,.seq #[.str "men" tk_KINDS_0,.str "coal" tk_KINDS_1] tn_KINDS,ts_KINDS⟩
 n_CAGE_SPOTS:PySem.W.nsIn K mainGlobals "CAGE_SPOTS"=some (some (.ref ta_CAGE_SPOTS))
 lt_CAGE_SPOTS:K.lookup ta_CAGE_SPOTS=some ⟨.type "tuple",to_CAGE_SPOTS,.seq #[.int 10 tk_CAGE_SPOTS_0,.int 11 tk_CAGE_SPOTS_1] tn_CAGE_SPOTS,ts_CAGE_SPOTS⟩
 cl19:Cls K C19
 na19_kinds:bE K C19 "kinds"
 na19_where:bE K C19 "where"
 na19_many:bE K C19 "many"
 cl20:Cls K C20
 na20_codes:bE K C20 "codes"
 na20_failed:bE K C20 "failed"
 na20_state:bE K C20 "state"
 cl21:Cls K C21
 na21_place:bE K C21 "place"
 na21_opened:bE K C21 "opened"
 na21_bells:bE K C21 "bells"
 na21_yard:bE K C21 "yard"
 cl22:Cls K C22
 na22_first:bE K C22 "first"
 na22_most:bE K C22 "most"
 na22_rows:bE K C22 "rows"
 cl23:Cls K C23
 na23_depths:bE K C23 "depths"
 na23_slow:bE K C23 "slow"
 na23_fast:bE K C23 "fast"
 na23_goals:bE K C23 "goals"
 na23_log:bE K C23 "log"
 l0:C0I K C18
 x0:XI K C18 C0
 x1:XI K C18 C1
 x2:XI K C18 C2
 x3:XI K C18 C3
 x4:XI K C18 C4
 x5:XI K C18 C5
 x6:XI K C18 C6
 x7:XI K C18 C7
 x8:XI K C18 C8
 x9:XI K C18 C9
 x10:XI K C18 C10
 x11:XI K C18 C11
 x12:XI K C18 C12
 x13:XI K C18 C13
 x14:XI K C18 C14
 x15:XI K C18 C15
 x16:XI K C18 C16
 x17:XI K C18 C17
 e0_CageError:PySem.W.exmOne K (.ref C0) (.ref C18)=some true
 k0_UnknownLoad:PySem.W.kitOne K (.ref C0) (.ref C1)=some false
 k0_NotThere:PySem.W.kitOne K (.ref C0) (.ref C3)=some false
 k0_CageTaken:PySem.W.kitOne K (.ref C0) (.ref C4)=some false
 k0_GateShut:PySem.W.kitOne K (.ref C0) (.ref C17)=some false
 k0_CageEmpty:PySem.W.kitOne K (.ref C0) (.ref C5)=some false
 e1_CageError:PySem.W.exmOne K (.ref C1) (.ref C18)=some true
 k1_UnknownLoad:PySem.W.kitOne K (.ref C1) (.ref C1)=some true
 k1_NotThere:PySem.W.kitOne K (.ref C1) (.ref C3)=some false
 k1_CageTaken:PySem.W.kitOne K (.ref C1) (.ref C4)=some false
 k1_GateShut:PySem.W.kitOne K (.ref C1) (.ref C17)=some false
 k1_CageEmpty:PySem.W.kitOne K (.ref C1) (.ref C5)=some false
 e2_CageError:PySem.W.exmOne K (.ref C2) (.ref C18)=some true
 k2_UnknownLoad:PySem.W.kitOne K (.ref C2) (.ref C1)=some false
 k2_NotThere:PySem.W.kitOne K (.ref C2) (.ref C3)=some false
 k2_CageTaken:PySem.W.kitOne K (.ref C2) (.ref C4)=some false
 k2_GateShut:PySem.W.kitOne K (.ref C2) (.ref C17)=some false
 k2_CageEmpty:PySem.W.kitOne K (.ref C2) (.ref C5)=some false
 e3_CageError:PySem.W.exmOne K (.ref C3) (.ref C18)=some true
 k3_UnknownLoad:PySem.W.kitOne K (.ref C3) (.ref C1)=some false
 k3_NotThere:PySem.W.kitOne K (.ref C3) (.ref C3)=some true
 k3_CageTaken:PySem.W.kitOne K (.ref C3) (.ref C4)=some false
 k3_GateShut:PySem.W.kitOne K (.ref C3) (.ref C17)=some false
 k3_CageEmpty:PySem.W.kitOne K (.ref C3) (.ref C5)=some false
 e4_CageError:PySem.W.exmOne K (.ref C4) (.ref C18)=some true
 k4_UnknownLoad:PySem.W.kitOne K (.ref C4) (.ref C1)=some false
 k4_NotThere:PySem.W.kitOne K (.ref C4) (.ref C3)=some false
 k4_CageTaken:PySem.W.kitOne K (.ref C4) (.ref C4)=some true
 k4_GateShut:PySem.W.kitOne K (.ref C4) (.ref C17)=some false
 k4_CageEmpty:PySem.W.kitOne K (.ref C4) (.ref C5)=some false
 e5_CageError:PySem.W.exmOne K (.ref C5) (.ref C18)=some true
 k5_UnknownLoad:PySem.W.kitOne K (.ref C5) (.ref C1)=some false
 k5_NotThere:PySem.W.kitOne K (.ref C5) (.ref C3)=some false
 k5_CageTaken:PySem.W.kitOne K (.ref C5) (.ref C4)=some false
 k5_GateShut:PySem.W.kitOne K (.ref C5) (.ref C17)=some false
 k5_CageEmpty:PySem.W.kitOne K (.ref C5) (.ref C5)=some true
 e6_CageError:PySem.W.exmOne K (.ref C6) (.ref C18)=some true
 k6_UnknownLoad:PySem.W.kitOne K (.ref C6) (.ref C1)=some false
 k6_NotThere:PySem.W.kitOne K (.ref C6) (.ref C3)=some false
 k6_CageTaken:PySem.W.kitOne K (.ref C6) (.ref C4)=some false
 k6_GateShut:PySem.W.kitOne K (.ref C6) (.ref C17)=some false
 k6_CageEmpty:PySem.W.kitOne K (.ref C6) (.ref C5)=some false
 e7_CageError:PySem.W.exmOne K (.ref C7) (.ref C18)=some true
 k7_UnknownLoad:PySem.W.kitOne K (.ref C7) (.ref C1)=some false
 k7_NotThere:PySem.W.kitOne K (.ref C7) (.ref C3)=some false
 k7_CageTaken:PySem.W.kitOne K (.ref C7) (.ref C4)=some false
 k7_GateShut:PySem.W.kitOne K (.ref C7) (.ref C17)=some false
 k7_CageEmpty:PySem.W.kitOne K (.ref C7) (.ref C5)=some false
 e8_CageError:PySem.W.exmOne K (.ref C8) (.ref C18)=some true
 k8_UnknownLoad:PySem.W.kitOne K (.ref C8) (.ref C1)=some false
 k8_NotThere:PySem.W.kitOne K (.ref C8) (.ref C3)=some false
 k8_CageTaken:PySem.W.kitOne K (.ref C8) (.ref C4)=some false
 k8_GateShut:PySem.W.kitOne K (.ref C8) (.ref C17)=some false
 k8_CageEmpty:PySem.W.kitOne K (.ref C8) (.ref C5)=some false
 e9_CageError:PySem.W.exmOne K (.ref C9) (.ref C18)=some true
 k9_UnknownLoad:PySem.W.kitOne K (.ref C9) (.ref C1)=some false
 k9_NotThere:PySem.W.kitOne K (.ref C9) (.ref C3)=some false
 k9_CageTaken:PySem.W.kitOne K (.ref C9) (.ref C4)=some false
 k9_GateShut:PySem.W.kitOne K (.ref C9) (.ref C17)=some false
 k9_CageEmpty:PySem.W.kitOne K (.ref C9) (.ref C5)=some false
 e10_CageError:PySem.W.exmOne K (.ref C10) (.ref C18)=some true
 k10_UnknownLoad:PySem.W.kitOne K (.ref C10) (.ref C1)=some false
 k10_NotThere:PySem.W.kitOne K (.ref C10) (.ref C3)=some false
 k10_CageTaken:PySem.W.kitOne K (.ref C10) (.ref C4)=some false
 k10_GateShut:PySem.W.kitOne K (.ref C10) (.ref C17)=some false
 k10_CageEmpty:PySem.W.kitOne K (.ref C10) (.ref C5)=some false
 e11_CageError:PySem.W.exmOne K (.ref C11) (.ref C18)=some true
 k11_UnknownLoad:PySem.W.kitOne K (.ref C11) (.ref C1)=some false
 k11_NotThere:PySem.W.kitOne K (.ref C11) (.ref C3)=some false
 k11_CageTaken:PySem.W.kitOne K (.ref C11) (.ref C4)=some false
 k11_GateShut:PySem.W.kitOne K (.ref C11) (.ref C17)=some false
 k11_CageEmpty:PySem.W.kitOne K (.ref C11) (.ref C5)=some false
 e12_CageError:PySem.W.exmOne K (.ref C12) (.ref C18)=some true
 k12_UnknownLoad:PySem.W.kitOne K (.ref C12) (.ref C1)=some false
 k12_NotThere:PySem.W.kitOne K (.ref C12) (.ref C3)=some false
 k12_CageTaken:PySem.W.kitOne K (.ref C12) (.ref C4)=some false
 k12_GateShut:PySem.W.kitOne K (.ref C12) (.ref C17)=some false
 k12_CageEmpty:PySem.W.kitOne K (.ref C12) (.ref C5)=some false
 e13_CageError:PySem.W.exmOne K (.ref C13) (.ref C18)=some true
 k13_UnknownLoad:PySem.W.kitOne K (.ref C13) (.ref C1)=some false
 k13_NotThere:PySem.W.kitOne K (.ref C13) (.ref C3)=some false
 k13_CageTaken:PySem.W.kitOne K (.ref C13) (.ref C4)=some false
 k13_GateShut:PySem.W.kitOne K (.ref C13) (.ref C17)=some false
 k13_CageEmpty:PySem.W.kitOne K (.ref C13) (.ref C5)=some false
 e14_CageError:PySem.W.exmOne K (.ref C14) (.ref C18)=some true
 k14_UnknownLoad:PySem.W.kitOne K (.ref C14) (.ref C1)=some false
 k14_NotThere:PySem.W.kitOne K (.ref C14) (.ref C3)=some false
 k14_CageTaken:PySem.W.kitOne K (.ref C14) (.ref C4)=some false
 k14_GateShut:PySem.W.kitOne K (.ref C14) (.ref C17)=some false
 k14_CageEmpty:PySem.W.kitOne K (.ref C14) (.ref C5)=some false
 e15_CageError:PySem.W.exmOne K (.ref C15) (.ref C18)=some true
 k15_UnknownLoad:PySem.W.kitOne K (.ref C15) (.ref C1)=some false
 k15_NotThere:PySem.W.kitOne K (.ref C15) (.ref C3)=some false
 k15_CageTaken:PySem.W.kitOne K (.ref C15) (.ref C4)=some false
 k15_GateShut:PySem.W.kitOne K (.ref C15) (.ref C17)=some false
 k15_CageEmpty:PySem.W.kitOne K (.ref C15) (.ref C5)=some false
 e16_CageError:PySem.W.exmOne K (.ref C16) (.ref C18)=some true
 k16_UnknownLoad:PySem.W.kitOne K (.ref C16) (.ref C1)=some false
 k16_NotThere:PySem.W.kitOne K (.ref C16) (.ref C3)=some false
 k16_CageTaken:PySem.W.kitOne K (.ref C16) (.ref C4)=some false
 k16_GateShut:PySem.W.kitOne K (.ref C16) (.ref C17)=some false
 k16_CageEmpty:PySem.W.kitOne K (.ref C16) (.ref C5)=some false
 e17_CageError:PySem.W.exmOne K (.ref C17) (.ref C18)=some true
 k17_UnknownLoad:PySem.W.kitOne K (.ref C17) (.ref C1)=some false
 k17_NotThere:PySem.W.kitOne K (.ref C17) (.ref C3)=some false
 k17_CageTaken:PySem.W.kitOne K (.ref C17) (.ref C4)=some false
 k17_GateShut:PySem.W.kitOne K (.ref C17) (.ref C17)=some true
 k17_CageEmpty:PySem.W.kitOne K (.ref C17) (.ref C5)=some false
 d0:DI K "is_known" lK
 d1:DI K "check_level" g8
 d2:DI K "check_load" jg
 d3:DI K "check_loads" g9
 d4:II K C19 "Yard.__init__" ki
 d5:MI K C19 "into" "Yard.into" kj
 d6:MI K C19 "out" "Yard.out" lL
 d7:MI K C19 "spots" "Yard.spots" ji
 d8:MI K C19 "in_cage" "Yard.in_cage" gf
 d9:MI K C19 "at_level" "Yard.at_level" fz
 d10:MI K C19 "men_aboard" "Yard.men_aboard" en
 d11:MI K C19 "twin" "Yard.twin" kl
 d12:DI K "are_strokes" hG
 d13:DI K "check_codes" hJ
 d14:II K C20 "Bells.__init__" jj
 d15:MI K C20 "ring" "Bells.ring" jk
 d16:MI K C20 "repeat" "Bells.repeat" gg
 d17:MI K C20 "engine" "Bells.engine" gh
 d18:MI K C20 "fail" "Bells.fail" jl
 d19:MI K C20 "dead" "Bells.dead" jm
 d20:MI K C20 "use" "Bells.use" km
 d21:MI K C20 "twin" "Bells.twin" jn
 d22:DI K "check_depths" gj
 d23:DI K "drum_whole" jo
 d24:DI K "other_place" hV
 d25:DI K "level_at" lO
 d26:DI K "wound_place" hZ
 d27:DI K "gates_by" lP
 d28:DI K "check_speeds" gm
 d29:DI K "wind_ticks" jq
 d30:II K C21 "Standing.__init__" fA
 d31:MI K C21 "twin" "Standing.twin" fB
 d32:II K C22 "Book.__init__" ko
 d33:MI K C22 "write" "Book.write" jr
 d34:MI K C22 "strike" "Book.strike" ie
 d35:MI K C22 "now" "Book.now" lQ
 d36:MI K C22 "latest" "Book.latest" ig
 d37:MI K C22 "told" "Book.told" kq
 d38:II K C23 "Works.__init__" js
 d39:MI K C23 "ring" "Works.ring" jt
 d40:MI K C23 "repeat" "Works.repeat" gn
 d41:MI K C23 "fail" "Works.fail" ju
 d42:MI K C23 "open_gate" "Works.open_gate" eo
 d43:MI K C23 "shut_gate" "Works.shut_gate" et
 d44:MI K C23 "turn_gate" "Works.turn_gate" eA
 d45:MI K C23 "load" "Works.load" jv
 d46:MI K C23 "unload" "Works.unload" gp
 d47:MI K C23 "wind" "Works.wind" jw
 d48:MI K C23 "take_back" "Works.take_back" eB
 d49:MI K C23 "write" "Works.write" ik
 d50:MI K C23 "speed_with" "Works.speed_with" dG
 d51:MI K C23 "level_of" "Works.level_of" eQ
 d52:MI K C23 "refuse_shut_gate" "Works.refuse_shut_gate" cG
 d53:MI K C23 "now" "Works.now" kr
 d54:MI K C23 "book" "Works.book" jx
 d55:MI K C23 "engine" "Works.engine" gq
 d56:MI K C23 "dead" "Works.dead" jy
 d57:MI K C23 "gates" "Works.gates" il
 d58:MI K C23 "cages" "Works.cages" ip
 d59:MI K C23 "both_places" "Works.both_places" di
 d60:MI K C23 "spots" "Works.spots" iq
 d61:MI K C23 "in_cage" "Works.in_cage" fC
 d62:MI K C23 "at_level" "Works.at_level" eR
 d63:DI K "_law_at" zL
 d64:DI K "_law_draw" qD
 d65:DI K "_law_mixed" nS
 d66:DI K "_law_same" ku
 d67:DI K "_law_depths" lS
 d68:DI K "_law_codes" nT
 d69:DI K "_law_loads" nU
 d70:DI K "_law_shaft" jP
 d71:DI K "_law_setup" nV
 d72:DI K "_law_made" qF
 d73:DI K "_law_by" zM
 d74:DI K "_law_swap" qG
 d75:DI K "_law_lasts" nW
 d76:DI K "_law_speed" nX
 d77:DI K "_law_first" nY
 d78:DI K "_law_load_refusal" eS
 d79:DI K "_law_heard" nZ
 d80:DI K "_law_next" qH
 d81:DI K "_law_call" qI
 d82:DI K "_law_view" jA
 d83:DI K "_law_towards_wind" eT
 d84:DI K "_law_towards_load" cS
 d85:DI K "_law_good_deed" bW
 d86:DI K "_law_done" qJ
 d87:DI K "_law_day" vN
 d88:DI K "_law_do" zP
 d89:DI K "law" vO
set_option hygiene false in
local macro_rules | `(tactic| k_all) => `(tactic| ((try simp only [Ml, Mm, OK, OL, OM, ON, La, Jh, Ms, GS, Mz, K6, Jg, K9, KR, KS, KU, Je, Int.reduceNeg, Int.reduceLT]); (try simp only [Mc, Nx, Ks, OG, Qd, Qe, OI, OJ, Ik, Kv, vF, Il, Mn, Mo, Ky, Mp, KA, Mq, Mr, KD, GR, KH, KL, KO, K2, Mw, K4, Mx, KQ, Mt, Mu, Mv, KY, K0, OS, Jf, My, GU, Le, MD, MF, MG, MH])))
set_option hygiene false in
local macro_rules | `(tactic| walk_at "r0") => `(tactic| ((try dsimp only [Ph, Pl, tB', tOp, tUn, Nw, tCB, Nf, N8, Ng, Qc, rI', rU', Qf, Qg, Pj, Pk, tC, M5, M6, Gi, gN, Kt, Ku, zx, Kw, Ny, Nz, Pe, tOr, Pf, Kx, NA, Kz, tIf, Py, Px, tBM, P1, EK, tSl, HL, KG, ND, NF, NG, KN, K1, KJ, NH, LQ, J0, OR, yK, J2, PQ, Qn, J3, Lg, Lf, NO, NM, Lc, KW, Ih, Kp, QD, Kh, NB, NC, KC, OB, Nh, K3, NJ, EL, K5, QE, KZ, Ou, Ie, PX, PH, Dr, Pn, KP, BW, Qh, Qi, tU1, NL, Lb, OQ, Dq, OT, NK, GV, K8, Qo, NN, L6, OE, L7, Kq, Kr, L8, Md, Me, OH, Mf, Mg, OO, Mh, Mi, OP, K7, MB, QG, QH, QI, QJ, P2, P4, P6, P8, QK, QL, OF, σN, σS, σ0, P9, QM, QN, Qa, Qb, Qj, Qk, Oh, JI, AS, Pr, Nat.reduceAdd, Nat.reduceSub, Int.reducePow, Int.reduceToNat, Nat.reducePow, Int.reduceNeg, Bool.not_true, Bool.not_false]); (try first | refine L2.QO ?_ | refine L2.QP ?_ | refine L2.Ql ?_)))
set_option hygiene false in
local macro_rules | `(tactic| k_upd) => `(tactic| (repeat ((first | with_reducible refine L2.QQ ?_ | with_reducible refine L2.QR ?_ | with_reducible refine L2.oS ze1 ?_ | with_reducible refine L2.oS ze2 ?_ | with_reducible refine L2.oS ze3 ?_ | with_reducible refine L2.oS ze4 ?_ | with_reducible refine L2.oS ze5 ?_ | with_reducible refine L2.oS ze6 ?_ | with_reducible refine L2.oS ze7 ?_ | with_reducible refine L2.oS ze8 ?_ | with_reducible refine L2.oS ze9 ?_ | with_reducible refine L2.oS ze10 ?_ | with_reducible refine L2.oS ze11 ?_ | with_reducible refine L2.oS ze12 ?_ | with_reducible refine L2.oS ze13 ?_ | with_reducible refine L2.oS ze14 ?_ | with_reducible refine L2.oS ze15 ?_ | with_reducible refine L2.oS ze16 ?_ | with_reducible refine L2.oS ze17 ?_ | with_reducible refine L2.oS ze18 ?_ | with_reducible refine L2.oS ze19 ?_); walk_at "r0")))
set_option hygiene false in
local macro_rules | `(tactic| k_mem) => `(tactic| (walk_at "r0"; k_upd))
section
variable {P:Program}{w:World}{K:PySem.W.Frag}{mg:Str->Option Value}{base:Heap}{Z:Adr}
variable {z5 yi vS rd mD tR vT rf vU rg vV z6 rh vW pF yj tS z7 tT yk Lo Fw Cb Lp Fx Cc Ce Cf Cg tU vX tV tW rj tX vY mE lW ir yl vZ rk v3 tY tZ pG z8 Ci Cj oh Fy oi oj ym z9 pH yo v5 v7 yp v8 t6 Aa v9 t8 kJ Ck t9 pI ua om Cm wa rm wc mF we oo Fz FA mG mH wg rn FC FD FE Lq Iu:Addr}{yq wj ub pJ lX rp uc pK ud pL ue yr pM uf oq wm rq yt rz wo Iv Cn Ab Iw Co Ac Ad Ae Af rA ug rB rC pN rD uh lY kK gH wq ui pO uj rE rF ot yu Ag Ah mI Cp mJ mK wu yv ou wx uk um wz uo rG yw uq rH kv Ai rJ ow rK mL Aj ur pP uu lZ uv mM Cq Cr l3 l4 uw pQ Cs Ct Cu Iy FF:FuncData}
noncomputable def yx (K:PySem.W.Frag)(Z:Adr):Sp:=fun vs H Q _=>∃(n m:Int),vs=[.int n,.int m]/\Q (.bl (decide (0<=n/\n < m))) H
theorem FG {f:Addr}{fd:FuncData}(F:Fun K "is_known" "is_known" lK f fd)(T:Txt K mg Z):aH P w K mg base CX0 1 f fd lE (yx K Z):=by
 refine F.ok ET (fun vs H Q E h=>?_) (fun cdv A outer s H vs Q E hr h=>?_)
 ·obtain ⟨n,m,rfl,q⟩:=h
  rfl
 ·obtain ⟨n,m,rfl,q⟩:=h
  refine ⟨_,aj (aw (CP (fK ze (pv 0) ai (aJ _)) (Gh (fK nC (pv 0) (pv 1) (aJ _))))),?_⟩
  k_all
  k_mem
  split
  ·rename_i h0
   rw [show decide (0<=n/\n < m)=decide (n < m) by simp [h0]] at q
   k_upd
   exact q
  ·rename_i h0
   rw [show decide (0<=n/\n < m)=false by simp;omega] at q
   k_upd
   exact q
variable (cO:Def K mg "is_known" lK lE z5 yq)(iE:aH P w K mg base CX0 1 z5 yq lE (yx K Z))
noncomputable def wA (K:PySem.W.Frag)(Z:Adr):Sp:=fun vs H Q _=>∃(x dx l:Addr) (ls:List Ld) (m:Int),vs=[.ref x,.ref l,.int m]/\H x=some (.ins Z.gz dx [])/\iz K H l ls/\ls.length<=1000/\∀(kn wh:Addr) (H':Hp),H kn=none->H wh=none->kn≠wh->aB x H H'->dM Z.gz H' x kn wh (ls.map (·.1)) (ls.map (·.2.1)) m->Q .non H'
theorem DP {f:Addr}{fd:FuncData}(F:Fun K "__init__" "Yard.__init__" ki f fd)(T:Txt K mg Z):aH P w K mg base CX0 1 f fd j8 (wA K Z):=by
 refine F.ok Du (fun vs H Q E h=>?_) (fun cdv A outer s H vs Q E hr h=>?_)
 ·obtain ⟨x,dx,l,ls,m,rfl,hx,hL,hn,q⟩:=h
  rfl
 ·obtain ⟨x,dx,l,ls,m,rfl,hx,hL,hn,q⟩:=h
  refine ⟨_,ag (cW (pv 0) (nF ["kind","level","goal"] [none,none,none] (gx (pv 1)) (fun _ _ _ _=>(show PG _ _ (CQ K 3 _) from kA (n:=3) rfl (aV (aM (i:=0) (show (["kind","level","goal"]:List Str).Nodup by decide +kernel) rfl orL) (aV (aM (i:=1) (show (["kind","level","goal"]:List Str).Nodup by decide +kernel) rfl orL) (aV (aM (i:=2) (show (["kind","level","goal"]:List Str).Nodup by decide +kernel) rfl orL) fe))))) (fun _ _ _ _=>jS) (fun _ _ _ _=>(pv 0))) rfl) (ag (cW (pv 0) (nF ["kind","level","goal"] [none,none,none] (gx (pv 1)) (fun _ _ _ _=>(show PG _ _ (CQ K 3 _) from kA (n:=3) rfl (aV (aM (i:=0) (show (["kind","level","goal"]:List Str).Nodup by decide +kernel) rfl orL) (aV (aM (i:=1) (show (["kind","level","goal"]:List Str).Nodup by decide +kernel) rfl orL) (aV (aM (i:=2) (show (["kind","level","goal"]:List Str).Nodup by decide +kernel) rfl orL) fe))))) (fun _ _ _ _=>jS) (fun _ _ _ _=>(pv 1))) rfl) (aj (cW (pv 0) (pv 2) rfl))),?_⟩
  k_all
  k_mem
  obtain ⟨as,hS,hT⟩:=id hL
  refine ⟨⟨_,hS⟩,?_⟩
  refine xC (fun x=>V.str x.1) hL (by rw [sizeLine_eq];omega) rfl (fun x hx N hN=>by k_mem;exact hN) fun kn hkn=>?_
  k_mem
  have k1:L2.aB x H (upd (upd H kn (HO.lst (ls.map fun x=>V.str x.1))) x (HO.ins Z.gz dx (bL "kinds" (.ref kn) []))):=(aB.of ((av.refl H).lay hkn)).put
  have hx1:upd (upd H kn (HO.lst (ls.map fun x=>V.str x.1))) x (HO.ins Z.gz dx (bL "kinds" (.ref kn) [])) x=some (HO.ins Z.gz dx [("kinds",.ref kn)]):=ah
  have nx:kn≠x:=fun z=>by rw [z,hx] at hkn;cases hkn
  have hk1:upd (upd H kn (HO.lst (ls.map fun x=>V.str x.1))) x (HO.ins Z.gz dx (bL "kinds" (.ref kn) [])) kn=some (HO.lst (ls.map fun x=>V.str x.1)):=by rw [aS nx,ah]
  refine ⟨_,_,_,upo hx hkn,T.bV,T.jT,by decide,⟨_,hS.keepI k1 hx⟩,?_⟩
  generalize upd (upd H kn (HO.lst (ls.map fun x=>V.str x.1))) x (HO.ins Z.gz dx (bL "kinds" (.ref kn) []))=H1 at *
  refine xC (fun x=>V.int x.2.1) (hL.keepI k1 hx) (by rw [sizeLine_eq];omega) rfl (fun x hx N hN=>by k_mem;exact hN) fun wh hwh=>?_
  have nxw:wh≠x:=fun z=>by rw [z,hx1] at hwh;cases hwh
  have nkw:kn≠wh:=fun z=>by rw [z,hwh] at hk1;cases hk1
  refine ⟨_,_,_,upo hx1 hwh,T.bV,T.cH,by show 1 < 1000;decide,_,_,_,ah,T.bV,T.kT,Nat.lt_of_le_of_lt (qi _ _ _) (by show 2 < 1000;decide),?_⟩
  refine q kn wh _ hkn ?_ nkw (((k1.trans (aB.of ((av.refl H1).lay hwh))).put).put) ⟨⟨dx,?_⟩,?_,?_⟩
  ·cases e:H wh with
   | none=>rfl
   | some o=>have:=k1 wh o nxw e;rw [hwh] at this;cases this
  ·rw [ah];rfl
  ·rw [aS nx,aS nx,aS nkw,hk1,List.map_map];rfl
  ·rw [aS nxw,aS nxw,ah,List.map_map];rfl
variable (iM:AX K Z.gz "Yard.__init__" ki j8 yi wj)(mO:aH P w K mg base CX0 1 yi wj j8 (wA K Z))
noncomputable def ux (K:PySem.W.Frag)(Z:Adr):Sp:=fun vs H Q _=>∃(y kn wh:Addr) (ks:List Str) (ws:List Int) (m:Int),vs=[.ref y]/\dM Z.gz H y kn wh ks ws m/\∀p,H p=none->Q (.ref p) (upd H p (.lst (ws.map V.int)))
theorem Bo {f:Addr}{fd:FuncData}(F:Fun K "spots" "Yard.spots" ji f fd)(T:Txt K mg Z):aH P w K mg base CX0 1 f fd iX (ux K Z):=by
 refine F.ok A4 (fun vs H Q E h=>?_) (fun cdv A outer s H vs Q E hr h=>?_)
 ·obtain ⟨y,kn,wh,ks,ws,m,rfl,hy,q⟩:=h
  rfl
 ·obtain ⟨y,kn,wh,ks,ws,m,rfl,hy,q⟩:=h
  refine ⟨_,aj (aw (bC cf (by rfl) T.fJ dJ (ae (aK (pv 0) (by rfl)) af))),?_⟩
  k_all
  obtain ⟨⟨dx,hob⟩,hkn,hwh⟩:=id hy
  k_mem
  refine ⟨_,_,_,hob,T.bV,T.cH,_,rfl,?_⟩
  k_mem
  exact ⟨_,.inl (SqL.of hwh),q⟩
variable (gA:bG K Z.gz "spots" "Yard.spots" ji iX vS ub)(kU:aH P w K mg base CX0 1 vS ub iX (ux K Z))
def MR (y:Addr)(c:Int)(ws:List Int)(H:Hp)(i:Nat)(σ:St)(H':Hp):Prop:=av H H'/\(∃t u,σ=[some (.ref y),some (.int c),t,u])/\∀j,j < i->ws.getD j 0≠10+c
noncomputable def pR (K:PySem.W.Frag)(Z:Adr):Sp:=fun vs H Q _=>∃(y kn wh:Addr) (ks:List Str) (ws:List Int) (m c:Int),vs=[.ref y,.int c]/\dM Z.gz H y kn wh ks ws m/\0<=c/\c < 2/\∀H',av H H'->Q (inC ws c) H'
theorem yR {f:Addr}{fd:FuncData}(F:Fun K "in_cage" "Yard.in_cage" gf f fd)(T:Txt K mg Z):aH P w K mg base CX0 1 f fd fS (pR K Z):=by
 refine F.ok kD (fun vs H Q E h=>?_) (fun cdv A outer s H vs Q E hr h=>?_)
 ·obtain ⟨y,kn,wh,ks,ws,m,c,rfl,hy,h0,h1,q⟩:=h
  rfl
 ·obtain ⟨y,kn,wh,ks,ws,m,c,rfl,hy,h0,h1,q⟩:=h
  refine seg 1 (aj (aw fO)) fun zt1 zh1=>?_
  k_all
  intro ze1
  refine ⟨_,ag (eJ PassesOwn.never rfl (Df (by rfl) T.qL oJ (aK (pv 0) (by rfl))) (kA rfl (aV (aM (i:=2) kD.nd rfl orL) (aV (aM (i:=3) kD.nd rfl orL) fe))) (aj (aY (az bM (pv 3) (au ay (eK (by rfl) T.kR) (pv 1)) (aJ _)) (aj (aw (pv 2))) (aD)))) zh1,?_⟩
  k_all
  obtain ⟨⟨dx,hob⟩,hkn,hwh⟩:=id hy
  k_mem
  refine ⟨_,_,_,hob,T.bV,T.cH,_,rfl,?_⟩
  k_mem
  refine ⟨⟨_,SqL.of hwh⟩,?_⟩
  k_upd
  refine Ep ws.length (MR y c ws H) ⟨av.refl H,⟨_,_,rfl⟩,fun j hj=>absurd hj (Nat.not_lt_zero _)⟩ ?_ ?_ ?_ ?_
  ·rintro i σ H' hi ⟨s1,_,_⟩
   k_upd
   exact ⟨_,_,s1.seq (SqL.of hwh),by rw [List.getElem?_map,nG hi];rfl⟩
  ·rintro σ H' ⟨s1,_,_⟩
   k_upd
   exact ⟨_,s1.seq (SqL.of hwh),by rw [List.length_map];exact Nat.le_refl _⟩
  ·rintro i σ H' hi ⟨s1,⟨t,u,rfl⟩,hj⟩ x H2 ⟨tp,z,rfl,htp,rfl,hz⟩
   have e:=hz _ (s1.seq (SqL.of hwh))
   rw [List.getElem?_map,nG hi] at e
   cases e
   k_mem
   refine ⟨_,SqT.of ah,rfl,?_⟩
   k_mem
   refine ⟨_,T.kS _,_,BO h0 h1,?_⟩
   k_mem
   split
   ·rename_i h
    have e:=IY hi h hj
    have q':=q _ (s1.lay (o:=HO.tup [V.int ↑i,V.int (ws.getD i 0)]) htp)
    rw [inC,if_pos (h▸dw hi),e] at q'
    k_upd
    exact q'
   ·rename_i h
    k_upd
    refine ⟨s1.lay htp,⟨_,_,rfl⟩,fun j hj'=>?_⟩
    by_cases e:j=i
    ·rw [e];exact h
    ·exact hj j (by omega)
  ·rintro σ H' ⟨s1,⟨t,u,rfl⟩,hj⟩
   k_mem
   have q':=q _ s1
   rw [inC,if_neg] at q'
   ·k_upd
    exact q'
   ·intro hm
    have hlt:=List.idxOf_lt_length_iff.mpr hm
    refine hj _ hlt ?_
    rw [List.getD_eq_getElem?_getD,List.getElem?_eq_getElem hlt]
    exact List.getElem_idxOf hlt
variable (bU:bG K Z.gz "in_cage" "Yard.in_cage" gf fS rd pJ)(cY:aH P w K mg base CX0 1 rd pJ fS (pR K Z))
def Lr (y:Addr)(ks:List Str)(ws:List Int)(H:Hp)(i:Nat)(σ:St)(H':Hp):Prop:=av H H'/\(∃t u,σ=[some (.ref y),t,u])/\∀j k x,j < i->ks[j]?=some k->ws[j]?=some x->(decide (k="men") && decide (x=10\/x=11))=false
noncomputable def l5 (K:PySem.W.Frag)(Z:Adr):Sp:=fun vs H Q _=>∃(y kn wh:Addr) (ks:List Str) (ws:List Int) (m:Int),vs=[.ref y]/\dM Z.gz H y kn wh ks ws m/\ks.length=ws.length/\∀H',av H H'->Q (.bl (Ew ks ws)) H'
theorem vh {f:Addr}{fd:FuncData}(F:Fun K "men_aboard" "Yard.men_aboard" en f fd)(T:Txt K mg Z):aH P w K mg base CX0 1 f fd dW (l5 K Z):=by
 refine F.ok iC (fun vs H Q E h=>?_) (fun cdv A outer s H vs Q E hr h=>?_)
 ·obtain ⟨y,kn,wh,ks,ws,m,rfl,hy,hlen,q⟩:=h
  rfl
 ·obtain ⟨y,kn,wh,ks,ws,m,rfl,hy,hlen,q⟩:=h
  refine seg 1 (aj (aw iF)) fun zt1 zh1=>?_
  k_all
  intro ze1
  refine ⟨_,ag (eJ PassesOwn.never rfl (Ot (by rfl) T.Qp Of (aK (pv 0) (by rfl)) (aK (pv 0) (by rfl))) (kA rfl (aV (aM (i:=1) iC.nd rfl orL) (aV (aM (i:=2) iC.nd rfl orL) fe))) (aj (aY (oG (az bM (pv 1) aC (aJ _)) (mr (az nE (pv 2) (eK (by rfl) T.kR) (by rfl)))).pt (aj (aw iF)) (aD)))) zh1,?_⟩
  k_all
  obtain ⟨⟨dx,hob⟩,hkn,hwh⟩:=id hy
  k_mem
  refine ⟨_,_,_,hob,T.bV,T.jT,_,rfl,_,_,_,hob,T.bV,T.cH,_,rfl,?_⟩
  k_mem
  refine ⟨⟨_,SqL.of hkn⟩,⟨_,SqL.of hwh⟩,?_⟩
  k_upd
  refine Ep ws.length (Lr y ks ws H) ⟨av.refl H,⟨_,_,rfl⟩,fun j _ _ hj=>absurd hj (Nat.not_lt_zero _)⟩ ?_ ?_ ?_ ?_
  ·rintro i σ H' hi ⟨s1,_,_⟩
   have hk:ks[i]?=some ks[i]:=List.getElem?_eq_getElem (by omega)
   k_upd
   exact ⟨_,_,_,_,s1.seq (SqL.of hkn),s1.seq (SqL.of hwh),by rw [List.getElem?_map,hk];rfl,by rw [List.getElem?_map,nG hi];rfl⟩
  ·rintro σ H' ⟨s1,_,_⟩
   k_upd
   exact ⟨_,_,s1.seq (SqL.of hkn),s1.seq (SqL.of hwh),.inr (by rw [List.length_map];exact Nat.le_refl _)⟩
  ·rintro i σ H' hi ⟨s1,⟨t,u,rfl⟩,hj⟩ x H2 ⟨tp,z1,z2,rfl,htp,rfl,hz1,hz2⟩
   have hk:ks[i]?=some ks[i]:=List.getElem?_eq_getElem (by omega)
   have hw:ws[i]?=some ws[i]:=List.getElem?_eq_getElem hi
   have e:=hz1 _ (s1.seq (SqL.of hkn))
   rw [List.getElem?_map,hk] at e
   cases e
   have e:=hz2 _ (s1.seq (SqL.of hwh))
   rw [List.getElem?_map,hw] at e
   cases e
   k_mem
   refine ⟨_,SqT.of ah,rfl,?_⟩
   k_mem
   have no:(decide (ks[i]=Str.ofString "men") && decide (ws[i]=10\/ws[i]=11))=false->Lr y ks ws H (i+1) [some (V.ref y),some (V.str ks[i]),some (V.int ws[i])] (upd H' tp (HO.tup [V.str ks[i],V.int ws[i]])):=fun hn=>by
    refine ⟨s1.lay htp,⟨_,_,rfl⟩,fun j k x hj' e1 e2=>?_⟩
    by_cases e:j=i
    ·subst e
     rw [hk] at e1;rw [hw] at e2
     cases e1;cases e2
     exact hn
    ·exact hj j k x (by omega) e1 e2
   k_upd
   split
   ·rename_i h1
    k_upd
    refine ⟨_,.inr (T.kS _),rfl,rfl,?_⟩
    rw [BR]
    k_mem
    split
    ·rename_i h2
     have q':=q _ (s1.lay (o:=HO.tup [V.str ks[i],V.int ws[i]]) htp)
     rw [Ex hk hw h1 h2] at q'
     k_upd
     exact q'
    ·rename_i h2
     exact no (by simp [h2])
   ·rename_i h1
    exact no (by simp [h1])
  ·rintro σ H' ⟨s1,⟨t,u,rfl⟩,hj⟩
   k_mem
   have q':=q _ s1
   rw [BQ hj (.inr (Nat.le_refl _))] at q'
   k_upd
   exact q'
variable (jD:bG K Z.gz "men_aboard" "Yard.men_aboard" en dW mD lX)(mP:aH P w K mg base CX0 1 mD lX dW (l5 K Z))
noncomputable def rL (K:PySem.W.Frag)(Z:Adr):Sp:=fun vs H Q _=>∃(n:Int),vs=[.int n]/\Q (.bl (decide (1<=n/\n<=9))) H
theorem Ak {f:Addr}{fd:FuncData}(F:Fun K "are_strokes" "are_strokes" hG f fd)(T:Txt K mg Z):aH P w K mg base CX0 1 f fd gQ (rL K Z):=by
 refine F.ok zC (fun vs H Q E h=>?_) (fun cdv A outer s H vs Q E hr h=>?_)
 ·obtain ⟨n,rfl,q⟩:=h
  rfl
 ·obtain ⟨n,rfl,q⟩:=h
  refine ⟨_,aj (aw (CP (fK ze (pv 0) (eK (by rfl) T.xJ) (aJ _)) (Gh (fK Nb (pv 0) (eK (by rfl) T.zQ) (aJ _))))),?_⟩
  k_all
  k_mem
  split
  ·rename_i h0
   rw [show decide (1<=n/\n<=9)=decide (n<=9) by simp [h0]] at q
   k_upd
   exact q
  ·rename_i h0
   rw [show decide (1<=n/\n<=9)=false by simp;omega] at q
   k_upd
   exact q
variable (cI:Def K mg "are_strokes" hG gQ tR rp)(iu:aH P w K mg base CX0 1 tR rp gQ (rL K Z))
noncomputable def uy (K:PySem.W.Frag)(Z:Adr):Sp:=fun vs H Q _=>∃(x dx l:Addr) (ls:List Cd),vs=[.ref x,.ref l]/\H x=some (.ins Z.bZ dx [])/\ni cdV K H l ls/\ls.length<=1000/\∀(cs fl st:Addr) (H':Hp),H cs=none->H fl=none->aB x H H'->bR Z.bZ K H' x cs fl st ls (ls.map fun _=>false) .no->Q .non H'
theorem Bp {f:Addr}{fd:FuncData}(F:Fun K "__init__" "Bells.__init__" jj f fd)(T:Txt K mg Z):aH P w K mg base CX0 1 f fd iY (uy K Z):=by
 refine F.ok A5 (fun vs H Q E h=>?_) (fun cdv A outer s H vs Q E hr h=>?_)
 ·obtain ⟨x,dx,l,ls,rfl,hx,hL,hn,q⟩:=h
  rfl
 ·obtain ⟨x,dx,l,ls,rfl,hx,hL,hn,q⟩:=h
  refine seg 2 (aj (cW (pv 0) (bq (ae aC (ae fO (ae fO (ae fO af))))) rfl)) fun zt2 zh2=>?_
  k_all
  intro ze2
  refine seg 1 (ag (cW (pv 0) (nF ["code"] [none] (gx (pv 1)) (fun _ _ _ _=>(aM (i:=0) (show (["code"]:List Str).Nodup by decide +kernel) rfl orL)) (fun _ _ _ _=>jS) (fun _ _ _ _=>iF)) rfl) zh2) fun zt1 zh1=>?_
  k_all
  intro ze1
  refine ⟨_,ag (cW (pv 0) (bC cf (by rfl) T.fJ dJ (ae (pv 1) af)) rfl) zh1,?_⟩
  k_all
  obtain ⟨as,hS,hT⟩:=id hL
  k_mem
  refine ⟨_,.inl hS,fun cs hcs=>?_⟩
  k_upd
  refine ⟨_,_,_,upo hx hcs,T.bx,T.dI,by decide,?_⟩
  have nx:cs≠x:=fun z=>by rw [z,hx] at hcs;cases hcs
  have k1:L2.aB x H (upd (upd H cs (HO.lst (as.map V.ref))) x (HO.ins Z.bZ dx (bL "codes" (.ref cs) []))):=(aB.of ((av.refl H).lay hcs)).put
  have hx1:upd (upd H cs (HO.lst (as.map V.ref))) x (HO.ins Z.bZ dx (bL "codes" (.ref cs) [])) x=some (HO.ins Z.bZ dx [("codes",.ref cs)]):=ah
  have hc1:upd (upd H cs (HO.lst (as.map V.ref))) x (HO.ins Z.bZ dx (bL "codes" (.ref cs) [])) cs=some (HO.lst (as.map V.ref)):=by rw [aS nx,ah]
  generalize upd (upd H cs (HO.lst (as.map V.ref))) x (HO.ins Z.bZ dx (bL "codes" (.ref cs) []))=H1 at *
  k_upd
  refine ⟨⟨_,hS.keepI k1 hx⟩,?_⟩
  refine xW (fun _=>true) (fun _=>V.bl false) (hS.keepI k1 hx) (by rw [List.length_map,hT.1,sizeLine_eq];omega) rfl (fun y _ N hN=>by k_mem;exact hN) (fun y _ _ N hN=>by k_mem;exact hN) fun fl hfl=>?_
  k_mem
  have ef:((as.map V.ref).filter fun _=>true).map (fun _=>V.bl false)=(ls.map fun _=>false).map V.bl:=by
   rw [List.filter_eq_self.mpr (by simp),List.map_map,List.map_map]
   refine List.ext_getElem (by simp [hT.1]) fun i h1 h2=>by simp
  rw [ef]
  have nfx:fl≠x:=fun z=>by rw [z,hx1] at hfl;cases hfl
  have nfc:cs≠fl:=fun z=>by rw [←z,hc1] at hfl;cases hfl
  k_upd
  refine ⟨_,_,_,upo hx1 hfl,T.bx,T.de,by show 1 < 1000;decide,?_⟩
  have k2:L2.aB x H1 (upd (upd H1 fl (HO.lst ((ls.map fun _=>false).map V.bl))) x (HO.ins Z.bZ dx (bL "failed" (.ref fl) [("codes",.ref cs)]))):=(aB.of ((av.refl H1).lay hfl)).put
  have hx2:upd (upd H1 fl (HO.lst ((ls.map fun _=>false).map V.bl))) x (HO.ins Z.bZ dx (bL "failed" (.ref fl) [("codes",.ref cs)])) x=some (HO.ins Z.bZ dx [("codes",.ref cs),("failed",.ref fl)]):=by rw [ah];rfl
  have hf2:upd (upd H1 fl (HO.lst ((ls.map fun _=>false).map V.bl))) x (HO.ins Z.bZ dx (bL "failed" (.ref fl) [("codes",.ref cs)])) fl=some (HO.lst ((ls.map fun _=>false).map V.bl)):=by rw [aS nfx,ah]
  generalize upd (upd H1 fl (HO.lst ((ls.map fun _=>false).map V.bl))) x (HO.ins Z.bZ dx (bL "failed" (.ref fl) [("codes",.ref cs)]))=H2 at *
  k_upd
  refine ⟨by decide,fun st hst=>⟨_,_,_,upo hx2 hst,T.bx,T.bT,by show 2 < 1000;decide,?_⟩⟩
  have nsx:st≠x:=fun z=>by rw [z,hx2] at hst;cases hst
  have k3:L2.aB x H2 (upd (upd H2 st (HO.tup [V.str (Str.ofString "not rung"),V.non,V.non,V.non])) x (HO.ins Z.bZ dx (bL "state" (.ref st) [("codes",.ref cs),("failed",.ref fl)]))):=(aB.of ((av.refl H2).lay hst)).put
  refine q cs fl st _ hcs (k1.free nfx hfl) ((k1.trans k2).trans k3) ⟨⟨dx,by rw [ah];rfl⟩,⟨as,k3 _ _ nx (k2 _ _ nx hc1),?_⟩,k3 _ _ nfx hf2,SqT.of (by rw [aS nsx,ah];rfl),nfc,by rw [List.length_map]⟩
  exact hT.keepI ((k1.trans k2).trans k3) hx
variable (gB:AX K Z.bZ "Bells.__init__" jj iY vT uc)(kW:aH P w K mg base CX0 1 vT uc iY (uy K Z))
noncomputable def pS (K:PySem.W.Frag)(Z:Adr):Sp:=fun vs H Q _=>∃(b cs fl st:Addr) (ls:List Cd) (fs:List Bool) (e:Eng),vs=[.ref b]/\bR Z.bZ K H b cs fl st ls fs e/\Q (.ref st) H
theorem yS {f:Addr}{fd:FuncData}(F:Fun K "engine" "Bells.engine" gh f fd)(T:Txt K mg Z):aH P w K mg base CX0 1 f fd fU (pS K Z):=by
 refine F.ok yN (fun vs H Q E h=>?_) (fun cdv A outer s H vs Q E hr h=>?_)
 ·obtain ⟨b,cs,fl,st,ls,fs,e,rfl,hB,q⟩:=h
  rfl
 ·obtain ⟨b,cs,fl,st,ls,fs,e,rfl,hB,q⟩:=h
  refine ⟨_,aj (aw (aK (pv 0) (by rfl))),?_⟩
  k_all
  obtain ⟨⟨dx,hob⟩,⟨as,hcs,hT⟩,hfl,hst,nn,ln⟩:=id hB
  k_mem
  exact ⟨_,_,_,hob,T.bx,T.bT,_,rfl,q⟩
variable (l7:bG K Z.bZ "engine" "Bells.engine" gh fU rf pK)(rM:aH P w K mg base CX0 1 rf pK fU (pS K Z))
noncomputable def uz (K:PySem.W.Frag)(Z:Adr):Sp:=fun vs H Q _=>∃(b cs fl st:Addr) (ls:List Cd) (fs:List Bool) (e:Eng),vs=[.ref b]/\bR Z.bZ K H b cs fl st ls fs e/\fs.length<=1000/\∀p H',H p=none->av H H'->H' p=some (.lst ((dE fs).map V.int))->Q (.ref p) H'
theorem Bq {f:Addr}{fd:FuncData}(F:Fun K "dead" "Bells.dead" jm f fd)(T:Txt K mg Z):aH P w K mg base CX0 1 f fd i4 (uz K Z):=by
 refine F.ok A8 (fun vs H Q E h=>?_) (fun cdv A outer s H vs Q E hr h=>?_)
 ·obtain ⟨b,cs,fl,st,ls,fs,e,rfl,hB,hlen,q⟩:=h
  rfl
 ·obtain ⟨b,cs,fl,st,ls,fs,e,rfl,hB,hlen,q⟩:=h
  refine ⟨_,aj (aw (nF ["level","failed"] [none,none] (Df (by rfl) T.qL oJ (aK (pv 0) (by rfl))) (fun _ _ _ _=>(show PG _ _ (CQ K 2 _) from kA (n:=2) rfl (aV (aM (i:=0) (show (["level","failed"]:List Str).Nodup by decide +kernel) rfl orL) (aV (aM (i:=1) (show (["level","failed"]:List Str).Nodup by decide +kernel) rfl orL) fe)))) (fun _ _ _ _=>(oI (dj (pv 1)))) (fun _ _ _ _=>(pv 0)))),?_⟩
  k_all
  obtain ⟨⟨dx,hob⟩,⟨as,hcs,hT⟩,hfl,hst,nn,ln⟩:=id hB
  k_mem
  refine ⟨_,_,_,hob,T.bx,T.de,_,rfl,?_⟩
  k_mem
  refine ⟨⟨_,SqL.of hfl⟩,?_⟩
  have gi:∀i,i < fs.length->(fs.map V.bl)[i]?=some (V.bl (fs.getD i false)):=fun i hi=>by
   rw [List.getElem?_map,List.getD_eq_getElem?_getD,List.getElem?_eq_getElem hi];rfl
  refine xq fs.length (fun i acc H'=>av H H'/\acc=(nj fs i).map V.int) ⟨av.refl H,rfl⟩ ?_ ?_ ?_ ?_
  ·rintro i acc H' hi ⟨s1,_⟩
   k_upd
   exact ⟨_,_,s1.seq (SqL.of hfl),gi i hi⟩
  ·rintro acc H' ⟨s1,_⟩
   k_upd
   exact ⟨_,s1.seq (SqL.of hfl),by rw [List.length_map];exact Nat.le_refl _⟩
  ·rintro i acc H' hi ⟨s1,rfl⟩
   k_upd
   refine ⟨by have:=zv fs i;rw [List.length_map,sizeLine_eq];omega,?_⟩
   rintro x H2 ⟨tp,z,rfl,htp,rfl,hz⟩ M hM
   have e:=hz _ (s1.seq (SqL.of hfl))
   rw [gi i hi] at e
   cases e
   k_mem
   refine ⟨_,SqT.of ah,rfl,?_⟩
   k_mem
   refine ⟨⟨rfl,fun k v e=>?_⟩,?_⟩
   ·match k,e with
    | 0,e=>cases e
    | 1,e=>cases e
    | k+2,e=>simp at e
   ·have gs:=ED fs i
    k_upd
    split
    ·rename_i h
     refine hM _ _ ⟨s1.lay htp,?_⟩
     rw [gs,if_pos h,List.map_append];rfl
    ·rename_i h
     refine hM _ _ ⟨s1.lay htp,?_⟩
     rw [gs,if_neg h,List.append_nil]
  ·rintro acc H' ⟨s1,rfl⟩ p hp
   k_upd
   exact q p _ (s1.free hp) (s1.lay hp) ah
variable (o6:bG K Z.bZ "dead" "Bells.dead" jm i4 vU ud)(wB:aH P w K mg base CX0 1 vU ud i4 (uz K Z))
def O4 (a:Addr)(ds:List Int)(H:Hp)(i:Nat)(σ:St)(H':Hp):Prop:=H'=H/\(∃t,σ=[some (.ref a),t,none])/\∀j,j < i->0<=ds.getD j 0/\ds.getD j 0<=500
def O5 (a:Addr)(ds:List Int)(H:Hp)(i:Nat)(σ:St)(H':Hp):Prop:=H'=H/\(∃t u,σ=[some (.ref a),t,u])/\∀j,j < i->ds.getD j 0 < ds.getD (j+1) 0
noncomputable def pT (K:PySem.W.Frag)(Z:Adr):Sp:=fun vs H Q E=>∃(a:Addr) (ds:List Int),vs=[.ref a]/\SqL K H a (ds.map V.int)/\ds.length<=100000/\(cM ds->Q .non H)/\(¬cM ds->E (.ref Z.eV) none H)
theorem yT {f:Addr}{fd:FuncData}(F:Fun K "check_depths" "check_depths" gj f fd)(T:Txt K mg Z):aH P w K mg base (CXf P w) 1 f fd fV (pT K Z):=by
 refine F.okF kE (fun vs H Q E h=>?_) (fun cdv A outer s H vs Q E hr h=>?_)
 ·obtain ⟨a,ds,rfl,hS,hl,q1,q2⟩:=h
  rfl
 ·obtain ⟨a,ds,rfl,hS,hl,q1,q2⟩:=h
  refine seg 2 (aj (eJ Dc rfl (BF (by rfl) T.cU (ae ai (ae (aN aE (by rfl) T.cA bF (ae (pv 0) af)) af))) (aM (i:=2) kE.nd rfl orL) (aj (aY (az Nb (au aI (pv 0) (pv 2)) (au aI (pv 0) (aT gJ (pv 2) ai)) (aJ _)) (aj (bH T.qW (by rfl) T.qN (ae aC af))) (aD))))) fun zt2 zh2=>?_
  k_all
  intro ze2
  refine seg 1 (ag (eJ Dc rfl (gx (pv 0)) (aM (i:=1) kE.nd rfl orL) (aj (aY (qf (az nC (pv 1) ai (aJ _)) (mZ (az Eh (pv 1) (eK (by rfl) T.xK) (aJ _)))).pt (aj (bH T.qW (by rfl) T.qN (ae aC af))) (aD)))) zh2) fun zt1 zh1=>?_
  k_all
  intro ze1
  refine ⟨_,ag (aY (qf (az nC (aN aE (by rfl) T.cA bF (ae (pv 0) af)) (eK (by rfl) T.yQ) (aJ _)) (mZ (az Eh (aN aE (by rfl) T.cA bF (ae (pv 0) af)) (eK (by rfl) T.Be) (aJ _)))).pt (aj (bH T.qW (by rfl) T.qN (ae aC af))) (aD)) zh1,?_⟩
  k_all
  k_mem
  refine ⟨_,.inl hS,?_⟩
  rw [List.length_map]
  k_upd
  split
  ·k_upd
   exact ⟨by decide,q2 fun h=>by have:=h.l2;omega⟩
  ·k_upd
   refine ⟨_,.inl hS,?_⟩
   rw [List.length_map]
   k_upd
   split
   ·k_upd
    exact ⟨by decide,q2 fun h=>by have:=h.l6;omega⟩
   ·k_upd
    refine ⟨⟨_,hS⟩,?_⟩
    k_upd
    refine lg (ds.map V.int) (O4 a ds H) ⟨rfl,⟨_,rfl⟩,fun j h=>absurd h (Nat.not_lt_zero _)⟩ (fun i σ H' _ ⟨e,_⟩=>by rw [e];exact hS) ?_ ?_
    ·rintro i x σ H' hx ⟨rfl,⟨t,rfl⟩,hj⟩
     obtain ⟨d,rfl,hd,hmem⟩:=oN hx
     have hi:i < ds.length:=(List.getElem?_eq_some_iff.mp hd).1
     have hdg:ds.getD i 0=d:=by rw [List.getD_eq_getElem?_getD,hd];rfl
     k_mem
     split
     ·k_upd
      exact ⟨by decide,q2 fun h=>by have:=h.lo d hmem;omega⟩
     ·split
      ·k_upd
       exact ⟨by decide,q2 fun h=>by have:=h.hi d hmem;omega⟩
      ·k_upd
       refine ⟨rfl,⟨_,rfl⟩,fun j hj'=>?_⟩
       by_cases e:j=i
       ·rw [e,hdg];omega
       ·exact hj j (by omega)
    ·rintro σ H' ⟨rfl,⟨t,rfl⟩,hb⟩
     rw [List.length_map] at hb
     k_mem
     refine ⟨_,.inl hS,⟨by decide,by decide,by rw [List.length_map];omega,by rw [List.length_map];omega⟩,?_⟩
     k_upd
     refine cR (O5 a ds H') ⟨rfl,⟨_,_,rfl⟩,fun j h=>absurd h (Nat.not_lt_zero _)⟩ ?_ ?_
     ·rintro i σ H' hi ⟨rfl,⟨t,u,rfl⟩,hj⟩
      rw [List.length_map] at hi
      k_mem
      refine ⟨_,hS,_,dS (by omega) (by omega),_,hS,_,dS (by omega) (by omega),?_⟩
      k_mem
      rw [show (1+(i:Int)).toNat=i+1 by omega,show (1+(i:Int) - 1).toNat=i by omega]
      k_upd
      split
      ·k_upd
       refine ⟨by decide,q2 fun h=>?_⟩
       have:=h.lt (i:=i) (j:=i+1) (by omega) (by omega)
       omega
      ·k_upd
       refine ⟨rfl,⟨_,_,rfl⟩,fun j hj'=>?_⟩
       by_cases e:j=i
       ·rw [e];omega
       ·exact hj j (by omega)
     ·rintro σ H' ⟨rfl,⟨t,u,rfl⟩,hu⟩
      rw [List.length_map] at hu
      k_mem
      exact q1 (cM.of (by omega) (by omega) hb fun i hi=>hu i (by omega))
variable (jE:Def K mg "check_depths" gj fV rg pL)(rN:aH P w K mg base (CXf P w) 1 rg pL fV (pT K Z))
noncomputable def uA (K:PySem.W.Frag)(Z:Adr):Sp:=fun vs H Q _=>∃(a:Addr) (ds:List Int),vs=[.ref a]/\SqL K H a (ds.map V.int)/\0 < ds.length/\Q (.int (cQ ds)) H
theorem Br {f:Addr}{fd:FuncData}(F:Fun K "drum_whole" "drum_whole" jo f fd)(T:Txt K mg Z):aH P w K mg base CX0 1 f fd i6 (uA K Z):=by
 refine F.ok A9 (fun vs H Q E h=>?_) (fun cdv A outer s H vs Q E hr h=>?_)
 ·obtain ⟨a,ds,rfl,hS,hl,q⟩:=h
  rfl
 ·obtain ⟨a,ds,rfl,hS,hl,q⟩:=h
  refine ⟨_,aj (aw (au aI (pv 0) (aT gJ (aN aE (by rfl) T.cA bF (ae (pv 0) af)) ai))),?_⟩
  k_all
  k_mem
  refine ⟨_,.inl hS,_,hS,_,dS (by rw [List.length_map];omega) (by rw [List.length_map];omega),?_⟩
  rw [List.length_map,show ((ds.length:Int) - 1).toNat=ds.length - 1 by omega]
  k_upd
  exact q
variable (kX:Def K mg "drum_whole" jo i6 vV ue)(wC:aH P w K mg base CX0 1 vV ue i6 (uA K Z))
def Ls (a:Addr)(ds:List Int)(d:Int)(H:Hp)(i:Nat)(σ:St)(H':Hp):Prop:=H'=H/\(∃t,σ=[some (.ref a),some (.int d),t])/\∀j,j < i->ds.getD j 0≠d
noncomputable def yy (K:PySem.W.Frag)(Z:Adr):Sp:=fun vs H Q _=>∃(a:Addr) (ds:List Int) (d:Int),vs=[.ref a,.int d]/\SqL K H a (ds.map V.int)/\ds.length<=100000/\(∀i:Nat,i < ds.length->ds.getD i 0=d->Q (.int i) H)/\((∀i,i < ds.length->ds.getD i 0≠d)->Q .non H)
theorem FH {f:Addr}{fd:FuncData}(F:Fun K "level_at" "level_at" lO f fd)(T:Txt K mg Z):aH P w K mg base CX0 1 f fd lG (yy K Z):=by
 refine F.ok ye (fun vs H Q E h=>?_) (fun cdv A outer s H vs Q E hr h=>?_)
 ·obtain ⟨a,ds,d,rfl,hS,hl,q1,q2⟩:=h
  rfl
 ·obtain ⟨a,ds,d,rfl,hS,hl,q1,q2⟩:=h
  refine seg 1 (aj (aw fO)) fun zt1 zh1=>?_
  k_all
  intro ze1
  refine ⟨_,ag (eJ PassesOwn.never rfl (cC (by rfl) T.cU (ae (aN aE (by rfl) T.cA bF (ae (pv 0) af)) af)) (aM (i:=2) ye.nd rfl orL) (aj (aY (az bM (au aI (pv 0) (pv 2)) (pv 1) (aJ _)) (aj (aw (pv 2))) (aD)))) zh1,?_⟩
  k_all
  k_mem
  refine ⟨_,.inl hS,by omega,by rw [List.length_map];omega,cR (Ls a ds d H) ⟨rfl,⟨_,rfl⟩,fun _ h=>absurd h (Nat.not_lt_zero _)⟩ ?_ ?_⟩
  ·rintro i σ H' hi ⟨rfl,⟨t,rfl⟩,hj⟩
   rw [List.length_map] at hi
   have hi':i < ds.length:=by omega
   k_mem
   refine ⟨_,hS,_,by rw [Int.zero_add];exact j0 hi',?_⟩
   k_mem
   split
   ·rename_i he
    rw [Int.zero_add]
    k_upd
    exact q1 i hi' he
   ·rename_i he
    k_upd
    refine ⟨rfl,⟨_,rfl⟩,fun j hj'=>?_⟩
    by_cases e:j=i
    ·rw [e];exact he
    ·exact hj j (by omega)
  ·rintro σ H' ⟨rfl,⟨t,rfl⟩,hj⟩
   k_mem
   refine q2 fun i hi=>hj i ?_
   rw [List.length_map]
   omega
variable (o7:Def K mg "level_at" lO lG z6 yr)(Al:aH P w K mg base CX0 1 z6 yr lG (yy K Z))
noncomputable def pU (K:PySem.W.Frag)(Z:Adr):Sp:=fun vs H Q E=>∃(sl fa:Int),vs=[.int sl,.int fa]/\if 1<=sl/\sl<=fa/\fa<=500 then Q .non H else E (.ref Z.eW) none H
theorem yU {f:Addr}{fd:FuncData}(F:Fun K "check_speeds" "check_speeds" gm f fd)(T:Txt K mg Z):aH P w K mg base (CXf P w) 1 f fd fW (pU K Z):=by
 refine F.okF yO (fun vs H Q E h=>?_) (fun cdv A outer s H vs Q E hr h=>?_)
 ·obtain ⟨sl,fa,rfl,q⟩:=h
  rfl
 ·obtain ⟨sl,fa,rfl,q⟩:=h
  refine ⟨_,aj (aY (qf (az nC (pv 0) ai (aJ _)) (qf (az nC (pv 1) (pv 0) (aJ _)) (mZ (az Eh (pv 1) (eK (by rfl) T.xM) (aJ _))))).pt (aj (bH T.Fm (by rfl) T.EW (ae aC af))) (aD)),?_⟩
  k_all
  k_mem
  split
  ·rw [if_neg (by omega)] at q
   k_upd
   exact ⟨by decide,q⟩
  ·split
   ·rw [if_neg (by omega)] at q
    k_upd
    exact ⟨by decide,q⟩
   ·split
    ·rw [if_neg (by omega)] at q
     k_upd
     exact ⟨by decide,q⟩
    ·rw [if_pos (by omega)] at q
     k_upd
     exact q
variable (jF:Def K mg "check_speeds" gm fW rh pM)(rO:aH P w K mg base (CXf P w) 1 rh pM fW (pU K Z))
noncomputable def uB (K:PySem.W.Frag)(Z:Adr):Sp:=fun vs H Q _=>∃(wy sp:Int),vs=[.int wy,.int sp]/\0 < sp/\sp < 2 ^ 200/\Q (.int ((wy+sp - 1) / sp)) H
theorem Bs {f:Addr}{fd:FuncData}(F:Fun K "wind_ticks" "wind_ticks" jq f fd)(T:Txt K mg Z):aH P w K mg base CX0 1 f fd i7 (uB K Z):=by
 refine F.ok Ba (fun vs H Q E h=>?_) (fun cdv A outer s H vs Q E hr h=>?_)
 ·obtain ⟨wy,sp,rfl,h0,h1,q⟩:=h
  rfl
 ·obtain ⟨wy,sp,rfl,h0,h1,q⟩:=h
  refine ⟨_,aj (aw (aT JV (aT gJ (aT cu (pv 0) (pv 1)) ai) (pv 1))),?_⟩
  k_all
  k_mem
  exact ⟨⟨h0,h1⟩,q⟩
variable (kY:Def K mg "wind_ticks" jq i7 vW uf)(wD:aH P w K mg base CX0 1 vW uf i7 (uB K Z))
noncomputable abbrev clZ (Z:Adr):Cl:=⟨Z.bZ,Z.gz,Z.fE,Z.tf,Z.bI⟩
noncomputable def ox (K:PySem.W.Frag)(Z:Adr):Sp:=fun vs H Q _=>∃(x dx o b y:Addr) (pl:Int) (gs:List Bool),vs=[.ref x,.int pl,.ref o,.ref b,.ref y]/\H x=some (.ins Z.fE dx [])/\SqL K H o (gs.map V.bl)/\∀(ol:Addr) (H':Hp),H ol=none->aB x H H'->H' x=some (.ins Z.fE dx [("place",.int pl),("opened",.ref ol),("bells",.ref b),("yard",.ref y)])->H' ol=some (.lst (gs.map V.bl))->Q .non H'
theorem xN {f:Addr}{fd:FuncData}(F:Fun K "__init__" "Standing.__init__" fA f fd)(T:Txt K mg Z):aH P w K mg base CX0 1 f fd ft (ox K Z):=by
 refine F.ok xE (fun vs H Q E h=>?_) (fun cdv A outer s H vs Q E hr h=>?_)
 ·obtain ⟨x,dx,o,b,y,pl,gs,rfl,hx,hO,q⟩:=h
  rfl
 ·obtain ⟨x,dx,o,b,y,pl,gs,rfl,hx,hO,q⟩:=h
  refine ⟨_,ag (cW (pv 0) (pv 1) rfl) (ag (cW (pv 0) (bC cf (by rfl) T.fJ dJ (ae (pv 2) af)) rfl) (ag (cW (pv 0) (pv 3) rfl) (aj (cW (pv 0) (pv 4) rfl)))),?_⟩
  k_all
  k_mem
  refine ⟨_,_,_,hx,T.aP,T.c7,by decide,?_⟩
  have k1:L2.aB x H (upd H x (HO.ins Z.fE dx (bL "place" (.int pl) []))):=(aB.of (av.refl H)).put
  refine ⟨_,.inl (hO.keepI k1 hx),fun ol hol=>?_⟩
  have nol:ol≠x:=fun z=>by rw [z,ah] at hol;cases hol
  refine ⟨_,_,_,upo ah hol,T.aP,T.cN,by show 1 < 1000;decide,_,_,_,ah,T.aP,T.cB,by show 2 < 1000;decide,_,_,_,ah,T.aP,T.bX,by show 3 < 1000;decide,?_⟩
  refine q ol _ (k1.free nol hol) (((k1.trans (aB.of ((av.refl _).lay hol))).put).put.put) ?_ ?_
  ·rw [ah];rfl
  ·rw [aS nol,aS nol,aS nol,ah]
variable (dQ:AX K Z.fE "Standing.__init__" fA ft pF oq)(iB:aH P w K mg base CX0 1 pF oq ft (ox K Z))
noncomputable def wF (K:PySem.W.Frag)(Z:Adr):Sp:=fun vs H Q _=>∃(x dx f:Addr),vs=[.ref x,.ref f,.int 300]/\H x=some (.ins Z.tf dx [])/\∀(rl:Addr) (H':Hp),H rl=none->aB x H H'->H' x=some (.ins Z.tf dx [("first",.ref f),("most",.int 300),("rows",.ref rl)])->H' rl=some (.lst [])->Q .non H'
theorem DQ {f:Addr}{fd:FuncData}(F:Fun K "__init__" "Book.__init__" ko f fd)(T:Txt K mg Z):aH P w K mg base CX0 1 f fd ke (wF K Z):=by
 refine F.ok Dw (fun vs H Q E h=>?_) (fun cdv A outer s H vs Q E hr h=>?_)
 ·obtain ⟨x,dx,f0,rfl,hx,q⟩:=h
  rfl
 ·obtain ⟨x,dx,f0,rfl,hx,q⟩:=h
  refine ⟨_,ag (cW (pv 0) (pv 1) rfl) (ag (cW (pv 0) (pv 2) rfl) (aj (cW (pv 0) (bB af) rfl))),?_⟩
  k_all
  k_mem
  refine ⟨_,_,_,hx,T.bD,T.tO,by decide,_,_,_,ah,T.bD,T.vR,by show 1 < 1000;decide,by decide,fun rl hrl=>?_⟩
  have k1:L2.aB x H (upd (upd H x (HO.ins Z.tf dx (bL "first" (.ref f0) []))) x (HO.ins Z.tf dx (bL "most" (.int 300) (bL "first" (.ref f0) [])))):=((aB.of (av.refl H)).put).put
  have nrl:rl≠x:=fun z=>by rw [z,ah] at hrl;cases hrl
  refine ⟨_,_,_,upo ah hrl,T.bD,T.cL,by show 2 < 1000;decide,?_⟩
  refine q rl _ (k1.free nrl hrl) ((k1.trans (aB.of ((av.refl _).lay hrl))).put) ?_ ?_
  ·rw [ah];rfl
  ·rw [aS nrl,ah]
variable (rP:AX K Z.tf "Book.__init__" ko ke yj wm)(yz:aH P w K mg base CX0 1 yj wm ke (wF K Z))
noncomputable def rQ (K:PySem.W.Frag)(Z:Adr):Sp:=fun vs H Q E=>∃(bk rl:Addr) (g:Cfg) (n0:bg) (rs:List Row),vs=[.ref bk]/\BAt (clZ Z) K H bk rl g n0 rs/\
 (rs=[]->E (.ref Z.cX) none H)/\
 (∀rs' r,rs=rs'++[r]->∀p H',aB rl H H'->BAt (clZ Z) K H' bk rl g n0 rs'->SqT K H' p r.deed->Q (.ref p) H')
theorem Am {f:Addr}{fd:FuncData}(F:Fun K "strike" "Book.strike" ie f fd)(T:Txt K mg Z):aH P w K mg base (CXf P w) 1 f fd gU (rQ K Z):=by
 refine F.okF zF (fun vs H Q E h=>?_) (fun cdv A outer s H vs Q E hr h=>?_)
 ·obtain ⟨bk,rl,g,n0,rs,rfl,hB,q1,q2⟩:=h
  rfl
 ·obtain ⟨bk,rl,g,n0,rs,rfl,hB,q1,q2⟩:=h
  refine seg 1 (aj (aw (au ay (zj PySem.F.plainAttrs_list PySem.F.slot_list_pop PySem.F.type_list_pop Gz (aK (pv 0) (by rfl))) ai))) fun zt1 zh1=>?_
  k_all
  intro ze1
  refine ⟨_,ag (aY (eZ (zg (aK (pv 0) (by rfl)) (fun _=>rfl))) (aj (bH T.Bn (by rfl) T.Bg (ae aC af))) (aD)) zh1,?_⟩
  k_all
  obtain ⟨⟨dx,f0,hob,hF⟩,as,hrl,hR⟩:=id hB
  k_mem
  refine ⟨_,_,_,hob,T.bD,T.cL,_,rfl,_,.inl ⟨_,SqL.of hrl,rfl⟩,?_⟩
  rcases dU rs with rfl | ⟨rs',r,rfl⟩
  ·have e:as=[]:=List.length_eq_zero_iff.mp hR.1
   subst e
   k_upd
   exact ⟨by decide,q1 rfl⟩
  ·obtain ⟨as',a,rfl,hR',dd,s,hra,hdd,hs⟩:=hR.last
   k_upd
   rw [if_neg (by simp)]
   k_upd
   refine ⟨_,_,_,hob,T.bD,T.cL,_,rfl,?_⟩
   k_mem
   refine ⟨.inl ⟨rfl,_,SqL.of hrl⟩,_,hrl,.ref a,by simp,?_⟩
   have k1:L2.aB rl H (upd H rl (HO.lst ((as'++[a]).map V.ref).dropLast)):=(aB.of (av.refl H)).put
   k_mem
   refine ⟨_,hra.keep k1 hrl,_,rfl,?_⟩
   refine q2 rs' r rfl dd _ k1 ⟨⟨dx,f0,k1 _ _ (fun z=>by rw [z,hrl] at hob;cases hob) hob,hF.keep k1 hrl⟩,as',by rw [ah];simp,hR'.keep k1 hrl⟩ (hdd.keep k1 hrl)
variable (ny:bG K Z.tf "strike" "Book.strike" ie gU tS rq)(uC:aH P w K mg base (CXf P w) 1 tS rq gU (rQ K Z))
noncomputable def yA (K:PySem.W.Frag)(Z:Adr):Sp:=fun vs H Q _=>∃(bk rl:Addr) (g:Cfg) (n0:bg) (rs:List Row),vs=[.ref bk]/\BAt (clZ Z) K H bk rl g n0 rs/\Q (.int (dz rs)) H
theorem FI {f:Addr}{fd:FuncData}(F:Fun K "now" "Book.now" lQ f fd)(T:Txt K mg Z):aH P w K mg base CX0 1 f fd lI (yA K Z):=by
 refine F.ok EU (fun vs H Q E h=>?_) (fun cdv A outer s H vs Q E hr h=>?_)
 ·obtain ⟨bk,rl,g,n0,rs,rfl,hB,q⟩:=h
  rfl
 ·obtain ⟨bk,rl,g,n0,rs,rfl,hB,q⟩:=h
  refine seg 1 (aj (aw (au ay (au aI (aK (pv 0) (by rfl)) (aT gJ (aN aE (by rfl) T.cA bF (ae (aK (pv 0) (by rfl)) af)) ai)) ai))) fun zt1 zh1=>?_
  k_all
  intro ze1
  refine ⟨_,ag (aY (eZ (zg (aK (pv 0) (by rfl)) (fun _=>rfl))) (aj (aw ai)) (aD)) zh1,?_⟩
  k_all
  obtain ⟨⟨dx,f0,hob,hF⟩,as,hrl,hR⟩:=id hB
  k_mem
  refine ⟨_,_,_,hob,T.bD,T.cL,_,rfl,_,.inl ⟨_,SqL.of hrl,rfl⟩,?_⟩
  rcases dU rs with rfl | ⟨rs',r,rfl⟩
  ·have e:as=[]:=List.length_eq_zero_iff.mp hR.1
   subst e
   k_upd
   exact q
  ·obtain ⟨as',a,rfl,hR',dd,s,hra,_,_⟩:=hR.last
   k_upd
   rw [if_neg (by simp)]
   k_upd
   refine ⟨_,_,_,hob,T.bD,T.cL,_,rfl,?_⟩
   k_mem
   refine ⟨_,_,_,hob,T.bD,T.cL,_,rfl,?_⟩
   k_mem
   refine ⟨_,.inl (SqL.of hrl),_,SqL.of hrl,_,BP,?_⟩
   k_mem
   refine ⟨_,hra,_,rfl,?_⟩
   rw [xv] at q
   k_upd
   exact q
variable (jQ:bG K Z.tf "now" "Book.now" lQ lI z7 yt)(o8:aH P w K mg base CX0 1 z7 yt lI (yA K Z))
noncomputable def rR (K:PySem.W.Frag)(Z:Adr):Sp:=fun vs H Q _=>∃(bk rl:Addr) (g:Cfg) (n0:bg) (rs:List Row),vs=[.ref bk]/\BAt (clZ Z) K H bk rl g n0 rs/\∀s,fL (clZ Z) K H rl g s (ak n0 rs)->Q (.ref s) H
theorem An {f:Addr}{fd:FuncData}(F:Fun K "latest" "Book.latest" ig f fd)(T:Txt K mg Z):aH P w K mg base CX0 1 f fd gV (rR K Z):=by
 refine F.ok zG (fun vs H Q E h=>?_) (fun cdv A outer s H vs Q E hr h=>?_)
 ·obtain ⟨bk,rl,g,n0,rs,rfl,hB,q⟩:=h
  rfl
 ·obtain ⟨bk,rl,g,n0,rs,rfl,hB,q⟩:=h
  refine seg 1 (aj (aw (au ay (au aI (aK (pv 0) (by rfl)) (aT gJ (aN aE (by rfl) T.cA bF (ae (aK (pv 0) (by rfl)) af)) ai)) ai))) fun zt1 zh1=>?_
  k_all
  intro ze1
  refine ⟨_,ag (aY (eZ (zg (aK (pv 0) (by rfl)) (fun _=>rfl))) (aj (aw (aK (pv 0) (by rfl)))) (aD)) zh1,?_⟩
  k_all
  obtain ⟨⟨dx,f0,hob,hF⟩,as,hrl,hR⟩:=id hB
  k_mem
  refine ⟨_,_,_,hob,T.bD,T.cL,_,rfl,_,.inl ⟨_,SqL.of hrl,rfl⟩,?_⟩
  rcases dU rs with rfl | ⟨rs',r,rfl⟩
  ·have e:as=[]:=List.length_eq_zero_iff.mp hR.1
   subst e
   k_upd
   exact ⟨_,_,_,hob,T.bD,T.tO,_,rfl,q f0 hF⟩
  ·obtain ⟨as',a,rfl,hR',dd,s,hra,_,hs⟩:=hR.last
   k_upd
   rw [if_neg (by simp)]
   k_upd
   refine ⟨_,_,_,hob,T.bD,T.cL,_,rfl,?_⟩
   k_mem
   refine ⟨_,_,_,hob,T.bD,T.cL,_,rfl,?_⟩
   k_mem
   refine ⟨_,.inl (SqL.of hrl),_,SqL.of hrl,_,BP,?_⟩
   k_mem
   refine ⟨_,hra,_,rfl,?_⟩
   rw [qs] at q
   k_upd
   exact q s hs
variable (ax:bG K Z.tf "latest" "Book.latest" ig gV tT rz)(aQ:aH P w K mg base CX0 1 tT rz gV (rR K Z))
noncomputable def wG (K:PySem.W.Frag)(Z:Adr):Sp:=fun vs H Q _=>∃(bk rl:Addr) (g:Cfg) (n0:bg) (rs:List Row),vs=[.ref bk]/\BAt (clZ Z) K H bk rl g n0 rs/\rs.length<=1000/\∀(p:Addr) (as:List Addr) (H':Hp),H p=none->av H H'->H' p=some (.lst (as.map V.ref))->dN K H' as rs->Q (.ref p) H'
theorem DR {f:Addr}{fd:FuncData}(F:Fun K "told" "Book.told" kq f fd)(T:Txt K mg Z):aH P w K mg base CX0 1 f fd kg (wG K Z):=by
 refine F.ok Dx (fun vs H Q E h=>?_) (fun cdv A outer s H vs Q E hr h=>?_)
 ·obtain ⟨bk,rl,g,n0,rs,rfl,hB,hn,q⟩:=h
  rfl
 ·obtain ⟨bk,rl,g,n0,rs,rfl,hB,hn,q⟩:=h
  refine ⟨_,aj (aw (nF ["began","ended","deed","speed","standing"] [none,none,none,none,none] (gx (aK (pv 0) (by rfl))) (fun _ _ _ _=>(show PG _ _ (CQ K 5 _) from kA (n:=5) rfl (aV (aM (i:=0) (show (["began","ended","deed","speed","standing"]:List Str).Nodup by decide +kernel) rfl orL) (aV (aM (i:=1) (show (["began","ended","deed","speed","standing"]:List Str).Nodup by decide +kernel) rfl orL) (aV (aM (i:=2) (show (["began","ended","deed","speed","standing"]:List Str).Nodup by decide +kernel) rfl orL) (aV (aM (i:=3) (show (["began","ended","deed","speed","standing"]:List Str).Nodup by decide +kernel) rfl orL) (aV (aM (i:=4) (show (["began","ended","deed","speed","standing"]:List Str).Nodup by decide +kernel) rfl orL) fe))))))) (fun _ _ _ _=>jS) (fun _ _ _ _=>(bq (ae (pv 0) (ae (pv 1) (ae (pv 2) af))))))),?_⟩
  k_all
  obtain ⟨⟨dx,f0,hob,hF⟩,as,hrl,hR⟩:=id hB
  have hl:=hR.1
  k_mem
  refine ⟨_,_,_,hob,T.bD,T.cL,_,rfl,?_⟩
  k_mem
  refine ⟨⟨_,SqL.of hrl⟩,?_⟩
  refine xq rs.length (fun i acc H'=>av H H'/\∃bs:List Addr,acc=bs.map V.ref/\dN K H' bs (rs.take i)) ⟨av.refl H,[],rfl,rfl,fun i a r e _=>by simp at e⟩ ?_ ?_ ?_ ?_
  ·rintro i acc H' hi ⟨s1,_⟩
   have hi':i < as.length:=by omega
   k_upd
   exact ⟨_,.ref as[i],SqL.of (s1 _ _ hrl),by rw [List.getElem?_map,List.getElem?_eq_getElem hi'];rfl⟩
  ·rintro acc H' ⟨s1,_⟩
   k_upd
   exact ⟨_,SqL.of (s1 _ _ hrl),by rw [List.length_map];omega⟩
  ·rintro i acc H1 hi ⟨s1,bs,rfl,hb⟩
   have hi':i < as.length:=by omega
   have hbl:=hb.1
   rw [List.length_take] at hbl
   k_upd
   refine ⟨dO (by rw [List.length_map];omega),?_⟩
   rintro x H2 ⟨e2,y⟩ M hM
   subst e2
   have hy:=y _ (SqL.of (s1 _ _ hrl))
   rw [List.getElem?_map,List.getElem?_eq_getElem hi'] at hy
   cases hy
   obtain ⟨dd,s,hra,hdd,_⟩:=hR.2 i _ _ (List.getElem?_eq_getElem hi') (List.getElem?_eq_getElem hi)
   k_mem
   refine ⟨_,s1.tup hra,rfl,?_⟩
   k_mem
   refine ⟨⟨rfl,fun k v e=>?_⟩,?_⟩
   ·match k,e with
    | 0,e=>cases e
    | 1,e=>cases e
    | 2,e=>cases e
    | 3,e=>cases e
    | 4,e=>cases e
    | k+5,e=>simp at e
   ·k_upd
    refine ⟨by decide,fun p hp=>hM _ _ ⟨s1.lay hp,bs++[p],by rw [List.map_append];rfl,?_⟩⟩
    rw [List.take_succ_eq_append_getElem hi]
    exact (hb.same ((av.refl _).lay hp)).push ⟨dd,SqT.of ah,(s1.lay hp).tup hdd⟩
  ·rintro acc H1 ⟨s1,bs,rfl,hb⟩ p hp
   rw [List.take_length] at hb
   k_upd
   exact q p bs _ (s1.free hp) (s1.lay hp) ah (hb.same ((av.refl H1).lay hp))
variable (rS:bG K Z.tf "told" "Book.told" kq kg yk wo)(yB:aH P w K mg base CX0 1 yk wo kg (wG K Z))
noncomputable def Iz (K:PySem.W.Frag)(Z:Adr):Sp:=fun vs H Q _=>∃(a:Addr) (ns:List Int) (k:Int),vs=[.ref a,.int k]/\SqL K H a (ns.map V.int)/\0<=k/\Q (.int (ns.getD k.toNat 0)) H
theorem MS {f:Addr}{fd:FuncData}(F:Fun K "_law_at" "_law_at" zL f fd)(T:Txt K mg Z):aH P w K mg base CX0 1 f fd zy (Iz K Z):=by
 refine F.ok MM (fun vs H Q E h=>?_) (fun cdv A outer s H vs Q E hr h=>?_)
 ·obtain ⟨a,ns,k,rfl,hS,hk,q⟩:=h
  rfl
 ·obtain ⟨a,ns,k,rfl,hS,hk,q⟩:=h
  refine seg 1 (aj (aw ai)) fun zt1 zh1=>?_
  k_all
  intro ze1
  refine ⟨_,ag (aY (az nC (pv 1) (aN aE (by rfl) T.cA bF (ae (pv 0) af)) (aJ _)) (aj (aw (au aI (pv 0) (pv 1)))) (aD)) zh1,?_⟩
  k_all
  k_mem
  refine ⟨_,.inl hS,?_⟩
  rw [List.length_map]
  k_upd
  split
  ·rename_i hlt
   k_upd
   exact ⟨_,hS,_,dS hk hlt,q⟩
  ·rename_i hlt
   rw [JZ (by omega)] at q
   k_upd
   exact q
variable (jG:Def K mg "_law_at" zL zy Lo Iv)(xO:aH P w K mg base CX0 1 Lo Iv zy (Iz K Z))
def MT (c k n:Int)(H:Hp)(_:Nat)(σ:St)(H':Hp):Prop:=H'=H/\∃r t,σ=[some (.int c),some (.int k),some (.int n),some (.int r),t,none]
noncomputable def Cv (K:PySem.W.Frag)(Z:Adr):Sp:=fun vs H Q _=>∃(c k n:Int),vs=[.int c,.int k,.int n]/\0<=k/\k<=100000/\0 < n/\∀r:Int,0<=r->r < n->Q (.int r) H
theorem Jm {f:Addr}{fd:FuncData}(F:Fun K "_law_draw" "_law_draw" qD f fd)(T:Txt K mg Z):aH P w K mg base CX0 1 f fd qu (Cv K Z):=by
 refine F.ok nR (fun vs H Q E h=>?_) (fun cdv A outer s H vs Q E hr h=>?_)
 ·obtain ⟨c,k,n,rfl,hk0,hk1,hn,q⟩:=h
  rfl
 ·obtain ⟨c,k,n,rfl,hk0,hk1,hn,q⟩:=h
  refine seg 2 (aj (aw (aT c9 (aT oH (aT c9 (aT jO (pv 5) (aT cu (pv 5) ai)) ai) ai) (pv 2)))) fun zt2 zh2=>?_
  k_all
  intro ze2
  refine seg 1 (ag (aL (i:=5) nR.nd rfl orL (aT c9 (aT cu (aT cu (aT jO (pv 0) ai) (aT jO (pv 1) ai)) ai) ai)) zh2) fun zt1 zh1=>?_
  k_all
  intro ze1
  refine ⟨_,ag (aY (az bM (aT c9 (pv 0) ai) ai (aJ _)) (ag (aL (i:=3) nR.nd rfl orL (aT oH (pv 0) ai)) (ag (eJ PassesOwn.never rfl (cC (by rfl) T.cU (ae (pv 1) af)) (aM (i:=4) nR.nd rfl orL) (aj (aL (i:=3) nR.nd rfl orL (aT oH (pv 3) ai)))) (aj (aw (aT c9 (aT c9 (pv 3) ai) (pv 2)))))) (aD)) zh1,?_⟩
  k_all
  k_mem
  split
  ·k_upd
   refine ⟨by omega,by omega,cR (MT c k n H) ⟨rfl,_,_,rfl⟩ ?_ ?_⟩
   ·rintro i σ H' hi ⟨rfl,r,t,rfl⟩
    k_mem
    exact ⟨rfl,_,_,rfl⟩
   ·rintro σ H' ⟨rfl,r,t,rfl⟩
    k_mem
    exact ⟨hn,q _ (Int.emod_nonneg _ (by omega)) (Int.emod_lt_of_pos _ hn)⟩
  ·k_upd
   refine ⟨.inl ⟨by omega,by omega⟩,hn,q _ (Int.emod_nonneg _ (by omega)) (Int.emod_lt_of_pos _ hn)⟩
variable (aR:Def K mg "_law_draw" qD qu Fw Cn)(cJ:aH P w K mg base CX0 1 Fw Cn qu (Cv K Z))
noncomputable def Ao (K:PySem.W.Frag)(Z:Adr):Sp:=fun vs H Q _=>∃(a:Addr) (ns:List Int) (k:Int),vs=[.ref a,.int k]/\SqL K H a (ns.map V.int)/\0<=k/\k < ns.length/\∀n:Int,Q (.int n) H
theorem Hn {f:Addr}{fd:FuncData}(F:Fun K "_law_mixed" "_law_mixed" nS f fd)(T:Txt K mg Z):aH P w K mg base CX0 1 f fd nI (Ao K Z):=by
 refine F.ok vb (fun vs H Q E h=>?_) (fun cdv A outer s H vs Q E hr h=>?_)
 ·obtain ⟨a,ns,k,rfl,hS,hk0,hk1,q⟩:=h
  rfl
 ·obtain ⟨a,ns,k,rfl,hS,hk0,hk1,q⟩:=h
  refine ⟨_,ag (aL (i:=2) vb.nd rfl orL (au aI (pv 0) (pv 1))) (ag (aY (az bM (aT c9 (au aI (pv 0) ai) ai) ai (aJ _)) (aj (aw (pv 2))) (aD)) (ag (aL (i:=3) vb.nd rfl orL (aT c9 (aT cu (aT cu (aT jO (pv 2) ai) (aT jO (pv 1) ai)) ai) ai)) (aj (aw (aT c9 (aT jO (pv 3) (aT cu (pv 3) ai)) ai))))),?_⟩
  k_all
  k_mem
  refine ⟨_,hS,_,dS hk0 hk1,_,hS,_,dS (ns:=ns) (k:=0) (by omega) (by omega),?_⟩
  k_mem
  split
  ·exact q _
  ·exact ⟨.inl ⟨by omega,by omega⟩,q _⟩
variable (sQ:Def K mg "_law_mixed" nS nI Cb Ab)(Cw:aH P w K mg base CX0 1 Cb Ab nI (Ao K Z))
def Qr (a:Addr)(c pl:Int)(dp:Int)(ds:List Int)(H:Hp)(i:Nat)(σ:St)(H':Hp):Prop:=H'=H/\(∃t,σ=[some (.ref a),some (.int c),some (.int pl),some (.int dp),t])/\∀j,j < i->ds.getD j 0≠dp
theorem two_deep {p q c:Int}(h0:0<=c)(h1:c < 2):atI [V.int p,V.int q] c=some (.int (if c=0 then p else q)):=by
 rcases (by omega:c=0\/c=1) with rfl | rfl<;>rfl
noncomputable def IA (K:PySem.W.Frag)(Z:Adr):Sp:=fun vs H Q _=>∃(a:Addr) (ds:List Int) (c pl:Int),vs=[.ref a,.int c,.int pl]/\SqL K H a (ds.map V.int)/\cM ds/\0<=c/\c < 2/\∀H',av H H'->Q (.int ((ck ds pl c).getD (-1))) H'
theorem MU {f:Addr}{fd:FuncData}(F:Fun K "_law_by" "_law_by" zM f fd)(T:Txt K mg Z):aH P w K mg base CX0 1 f fd zz (IA K Z):=by
 refine F.ok Dz (fun vs H Q E h=>?_) (fun cdv A outer s H vs Q E hr h=>?_)
 ·obtain ⟨a,ds,c,pl,rfl,hS,hsh,h0,h1,q⟩:=h
  rfl
 ·obtain ⟨a,ds,c,pl,rfl,hS,hsh,h0,h1,q⟩:=h
  refine seg 2 (aj (aw (jZ fQ ai))) fun zt2 zh2=>?_
  k_all
  intro ze2
  refine seg 1 (ag (eJ PassesOwn.never rfl (cC (by rfl) T.cU (ae (aN aE (by rfl) T.cA bF (ae (pv 0) af)) af)) (aM (i:=4) Dz.nd rfl orL) (aj (aY (az bM (au aI (pv 0) (pv 4)) (pv 3) (aJ _)) (aj (aw (pv 4))) (aD)))) zh2) fun zt1 zh1=>?_
  k_all
  intro ze1
  refine ⟨_,ag (aL (i:=3) Dz.nd rfl orL (au aI (bB (ae (pv 2) (ae (aT gJ (au aI (pv 0) (jZ fQ ai)) (pv 2)) af))) (pv 1))) zh1,?_⟩
  k_all
  have l6:=hsh.l6
  have l2:=hsh.l2
  k_mem
  refine ⟨_,hS,_,GF (by omega),?_⟩
  k_mem
  refine ⟨by decide,fun p hp=>⟨_,SqL.of ah,_,two_deep h0 h1,?_⟩⟩
  have s1:=(av.refl H).lay (o:=HO.lst [V.int pl,V.int (cQ ds - pl)]) hp
  generalize upd H p (HO.lst [V.int pl,V.int (cQ ds - pl)])=H1 at *
  have ec:ck ds pl c=lvl ds (if c=0 then pl else cQ ds - pl):=by unfold ck;split<;>rfl
  generalize (if c=0 then pl else cQ ds - pl)=dp at *
  k_mem
  refine ⟨_,.inl (s1.seq hS),by omega,by rw [List.length_map];omega,?_⟩
  k_upd
  refine cR (Qr a c pl dp ds H1) ⟨rfl,⟨_,rfl⟩,fun _ h=>absurd h (Nat.not_lt_zero _)⟩ ?_ ?_
  ·rintro i σ H' hi ⟨rfl,⟨t,rfl⟩,hj⟩
   rw [List.length_map] at hi
   have hi':i < ds.length:=by omega
   k_mem
   refine ⟨_,s1.seq hS,_,by rw [Int.zero_add];exact j0 hi',?_⟩
   k_mem
   split
   ·rename_i he
    rw [Int.zero_add]
    have q':=q _ s1
    rw [ec,lA hsh hi' he] at q'
    k_upd
    exact q'
   ·rename_i he
    k_upd
    refine ⟨rfl,⟨_,rfl⟩,fun j hj'=>?_⟩
    by_cases e:j=i
    ·rw [e];exact he
    ·exact hj j (by omega)
  ·rintro σ H' ⟨rfl,⟨t,rfl⟩,hj⟩
   k_mem
   have q':=q _ s1
   rw [ec,Et (fun i hi=>hj i (by rw [List.length_map];omega))] at q'
   k_upd
   exact q'
variable (fi:Def K mg "_law_by" zM zz Lp Iw)(o9:aH P w K mg base CX0 1 Lp Iw zz (IA K Z))
theorem MV (x:List V)(k:Nat)(h:k < x.length):vq x none (some (k:Int))=x.take k/\¬(HT.sIx x.length 0 none=0/\HT.sIx x.length x.length (some (k:Int))=x.length):=by
 have e:HT.sIx x.length x.length (some (k:Int))=k:=by simp only [HT.sIx];split<;>omega
 refine ⟨?_,fun z=>by rw [e] at z;omega⟩
 unfold vq
 rw [e]
 simp [HT.sIx]
theorem MW (x:List V)(k:Nat)(h0:0 < k)(h:k<=x.length):vq x (some (k:Int)) none=x.drop k/\¬(HT.sIx x.length 0 (some (k:Int))=0/\HT.sIx x.length x.length none=x.length):=by
 have e:HT.sIx x.length 0 (some (k:Int))=k:=by simp only [HT.sIx];split<;>omega
 refine ⟨?_,fun z=>by rw [e] at z;omega⟩
 unfold vq
 rw [e]
 simp only [HT.sIx]
 exact List.take_of_length_le (by simp)
theorem Lu (x:List V)(k:Nat)(v:V)(h:k < x.length):x.take k++[v]++x.drop (k+1)=x.set k v:=by
 rw [List.set_eq_take_append_cons_drop,if_pos h,List.append_assoc];rfl
noncomputable def Cy (K:PySem.W.Frag)(Z:Adr):Sp:=fun vs H Q _=>∃(t:Addr) (x:List V) (k:Int) (s:V),vs=[.ref t,.int k,s]/\SqT K H t x/\0<=k/\k < x.length/\x.length<=100/\∀p H',av H H'->H' p=some (.tup (x.set k.toNat s))->Q (.ref p) H'
theorem Jn {f:Addr}{fd:FuncData}(F:Fun K "_law_swap" "_law_swap" qG f fd)(T:Txt K mg Z):aH P w K mg base CX0 1 f fd qw (Cy K Z):=by
 refine F.ok Jk (fun vs H Q E h=>?_) (fun cdv A outer s H vs Q E hr h=>?_)
 ·obtain ⟨t,x,k,s,rfl,hT,h0,h1,hl,q⟩:=h
  rfl
 ·obtain ⟨t,x,k,s,rfl,hT,h0,h1,hl,q⟩:=h
  refine ⟨_,aj (aw (aT Ii (aT Ii (zi JO (pv 0) HM (yZ (pv 1))) (bq (ae (pv 2) af))) (zi JO (pv 0) (yZ (aT cu (pv 1) ai)) HM))),?_⟩
  k_all
  obtain ⟨k,rfl⟩:=Int.eq_ofNat_of_zero_le h0
  rw [Int.toNat_natCast,←Lu x k s (by omega)] at q
  obtain ⟨c1,n1⟩:=MV x k (by omega)
  obtain ⟨c2,n2⟩:=MW x (k+1) (by omega) (by omega)
  k_mem
  rw [show ((k:Int)+1)=((k+1:Nat):Int) from rfl]
  k_upd
  refine ⟨_,hT,n1,?_⟩
  rw [c1]
  refine fun p1 h1'=>⟨by decide,fun p2 h2'=>⟨_,upo ah h2',_,ah,(by rw [List.length_take];show _+1<=1000;omega),fun p3 H3 s3 t3=>?_⟩⟩
  have s2:=(((av.refl H).lay h1').lay h2').trans s3
  k_upd
  refine ⟨_,s2.tup hT,n2,?_⟩
  rw [c2]
  refine fun p4 h4=>⟨_,upo t3 h4,_,ah,(by simp only [List.length_append,List.length_take,List.length_drop,List.length_singleton];omega),fun p5 H5 s5 t5=>?_⟩
  k_upd
  exact q p5 H5 ((s2.lay h4).trans s5) t5
variable (iw:Def K mg "_law_swap" qG qw Fx Co)(wH:aH P w K mg base CX0 1 Fx Co qw (Cy K Z))
theorem Jo {w s t:Int}(hs:1<=s)(h1:w<=t * s)(h2:t=0\/(t - 1) * s < w)(h0:0<=t)(hw:0<=w):t=Dj w s:=by
 have c:=GG (w:=w) (s:=s) hw (by omega)
 unfold Dj
 generalize (w+s - 1) / s=u at *
 obtain ⟨u0,u1,u2,_⟩:=c
 rcases Int.lt_trichotomy t u with h | h | h
 ·exfalso
  have:t<=u - 1:=by omega
  have:=Int.mul_le_mul_of_nonneg_right this (show 0<=s by omega)
  omega
 ·exact h
 ·exfalso
  rcases h2 with rfl | h2
  ·omega
  ·have:u<=t - 1:=by omega
   have:=Int.mul_le_mul_of_nonneg_right this (show 0<=s by omega)
   omega
noncomputable def Ap (K:PySem.W.Frag)(Z:Adr):Sp:=fun vs H Q _=>∃(wy sp:Int),vs=[.int wy,.int sp]/\0<=wy/\wy<=100000/\1<=sp/\sp<=100000/\Q (.int (Dj wy sp)) H
theorem Ho {f:Addr}{fd:FuncData}(F:Fun K "_law_lasts" "_law_lasts" nW f fd)(T:Txt K mg Z):aH P w K mg base CX0 1 f fd nN (Ap K Z):=by
 refine F.ok vc (fun vs H Q E h=>?_) (fun cdv A outer s H vs Q E hr h=>?_)
 ·obtain ⟨wy,sp,rfl,h0,h1,h2,h3,q⟩:=h
  rfl
 ·obtain ⟨wy,sp,rfl,h0,h1,h2,h3,q⟩:=h
  refine seg 2 (aj (aw (pv 2))) fun zt2 zh2=>?_
  k_all
  intro ze2
  refine seg 1 (ag (JE PassesOwn.never (az nC (aT jO (pv 2) (pv 1)) (pv 0) (aJ _)) (aj (aL (i:=2) vc.nd rfl orL (aT cu (pv 2) ai)))) zh2) fun zt1 zh1=>?_
  k_all
  intro ze1
  refine ⟨_,ag (aL (i:=2) vc.nd rfl orL ai) zh1,?_⟩
  k_all
  k_mem
  refine JH (fun σ H'=>H'=H/\∃t:Int,σ=[some (.int wy),some (.int sp),some (.int t)]/\0<=t/\t<=wy/\(t=0\/(t - 1) * sp < wy)) (fun σ H'=>match σ with | [_,_,some (.int t)]=>(wy - t).toNat | _=>0) ⟨rfl,0,rfl,by omega,by omega,.inl rfl⟩ ?_ ?_
  ·rintro σ H' ⟨rfl,t,rfl,t0,t1,t2⟩
   k_mem
   have tm:t * 1<=t * sp:=Int.mul_le_mul_of_nonneg_left h2 t0
   k_upd
   refine ⟨.inl ⟨by omega,by omega⟩,?_⟩
   k_upd
   split
   ·rename_i hlt
    k_upd
    refine ⟨⟨rfl,t+1,rfl,by omega,by omega,.inr (by rw [Int.add_sub_cancel];exact hlt)⟩,?_⟩
    show (wy - (t+1)).toNat < (wy - t).toNat
    omega
   ·rename_i hge
    rw [←Jo h2 (by omega) t2 t0 h0] at q
    k_upd
    exact q
  ·intro σ H' R R' hq h
   exact onO.mono (fun v=>onO.mono fun v1=>onI.mono fun i=>onI.mono fun j=>And.imp_right (onO.mono fun v2=>onI.mono fun j2=>onI.mono fun j3 z=>by split at z<;>rename_i c<;>(first | rw [if_pos c] | rw [if_neg c])<;>exact hq _ _ z)) h
variable (sR:Def K mg "_law_lasts" nW nN Cc Ac)(Cz:aH P w K mg base CX0 1 Cc Ac nN (Ap K Z))
def FJ (p lt:Addr)(ks:List Str)(ws:List Int)(H:Hp)(i:Nat)(σ:St)(H':Hp):Prop:=H'=H/\(∃t,σ=[some (.ref p),some (.ref lt),t])/\∀j k x,j < i->ks[j]?=some k->ws[j]?=some x->(decide (k="men") && decide (x=10\/x=11))=false
noncomputable def Aq (K:PySem.W.Frag)(Z:Adr):Sp:=fun vs H Q _=>∃(p dl cl ll lt:Addr) (g:Cfg) (lds:List Ld) (ws:List Int),vs=[.ref p,.ref lt]/\fh K H p dl cl ll g lds/\SqT K H lt (ws.map V.int)/\ws.length=lds.length/\ws.length<=30/\(∀x∈ws,x < 10\/x=10\/x=11)/\Q (.int (if Ew g.ks ws=true then g.slow else g.fast)) H
theorem Hq {f:Addr}{fd:FuncData}(F:Fun K "_law_speed" "_law_speed" nX f fd)(T:Txt K mg Z):aH P w K mg base CX0 1 f fd nO (Aq K Z):=by
 refine F.ok zN (fun vs H Q E h=>?_) (fun cdv A outer s H vs Q E hr h=>?_)
 ·obtain ⟨p,dl,cl,ll,lt,g,lds,ws,rfl,hP,hL,hlen,h30,hwr,q⟩:=h
  rfl
 ·obtain ⟨p,dl,cl,ll,lt,g,lds,ws,rfl,hP,hL,hlen,h30,hwr,q⟩:=h
  refine seg 1 (aj (aw (au aI (pv 0) ai))) fun zt1 zh1=>?_
  k_all
  intro ze1
  refine ⟨_,ag (eJ PassesOwn.never rfl (cC (by rfl) T.cU (ae (aN aE (by rfl) T.cA bF (ae (pv 1) af)) af)) (aM (i:=2) zN.nd rfl orL) (aj (aY (oG (az ze (au ay (pv 1) (pv 2)) ai (aJ _)) (mr (az bM (au ay (au aI (au aI (pv 0) ai) (pv 2)) ai) aC (aJ _)))).pt (aj (aw (au aI (pv 0) ai))) (aD)))) zh1,?_⟩
  k_all
  obtain ⟨hp,_,_,⟨bs,hll,hT2⟩,ek⟩:=id hP
  have hbl:=hT2.1
  k_mem
  refine ⟨_,.inr hL,by omega,by rw [List.length_map];omega,?_⟩
  rw [List.length_map]
  k_upd
  refine cR (FJ p lt g.ks ws H) ⟨rfl,⟨_,rfl⟩,fun j _ _ hj=>absurd hj (Nat.not_lt_zero _)⟩ ?_ ?_
  ·rintro i σ H' hi ⟨rfl,⟨t,rfl⟩,hj⟩
   have hi':i < ws.length:=by omega
   have hw:ws[i]?=some (ws.getD i 0):=nG hi'
   have hx:=hwr _ (dw hi')
   have ha:bs[i]?=some (bs[i]'(by omega)):=List.getElem?_eq_getElem (by omega)
   have hld:lds[i]?=some (lds[i]'(by omega)):=List.getElem?_eq_getElem (by omega)
   have hrow:=hT2.2 i _ _ ha hld
   have hk:g.ks[i]?=some (lds[i]'(by omega)).1:=by rw [ek,List.getElem?_map,hld];rfl
   have no:(decide ((lds[i]'(by omega)).1="men") && decide (ws.getD i 0=10\/ws.getD i 0=11))=false->FJ p lt g.ks ws H' (i+1) [some (V.ref p),some (V.ref lt),some (V.int (0+(i:Int)))] H':=fun hn=>by
    refine ⟨rfl,⟨_,rfl⟩,fun j k x hj' e1 e2=>?_⟩
    by_cases e:j=i
    ·subst e
     rw [hk] at e1;rw [hw] at e2
     cases e1;cases e2
     exact hn
    ·exact hj j k x (by omega) e1 e2
   k_mem
   refine ⟨_,hL,_,by rw [Int.zero_add];exact j0 hi',?_⟩
   k_mem
   split
   ·rename_i h10
    k_upd
    refine ⟨_,SqL.of hp,_,rfl,?_⟩
    k_mem
    refine ⟨_,SqL.of hll,_,by rw [Int.zero_add];exact qp (by rw [List.getElem?_map,ha];rfl),?_⟩
    k_mem
    refine ⟨_,hrow,_,rfl,?_⟩
    k_mem
    split
    ·rename_i hm
     have hm':(lds[i]'(by omega)).1="men":=hm
     rw [Ex hk hw hm' (by omega),if_pos rfl] at q
     k_upd
     exact ⟨_,SqL.of hp,_,rfl,q⟩
    ·rename_i hm
     exact no (by rw [decide_eq_false hm];rfl)
   ·rename_i h10
    exact no (by rw [decide_eq_false (p:=ws.getD i 0=10\/ws.getD i 0=11) (by omega),Bool.and_false])
  ·rintro σ H' ⟨rfl,⟨t,rfl⟩,hj⟩
   k_mem
   rw [BQ hj (.inr (by omega)),if_neg Bool.false_ne_true] at q
   k_upd
   exact ⟨_,SqL.of hp,_,rfl,q⟩
variable (sS:Def K mg "_law_speed" nX nO Ce Ad)(CA:aH P w K mg base CX0 1 Ce Ad nO (Aq K Z))
theorem Jp (ls:List Cd):dE (ls.map fun _=>false)=[]:=by
 unfold dE nj
 rw [List.filter_eq_nil_iff.mpr]
 ·rfl
 ·intro j _
  rw [Ow]
  exact Bool.false_ne_true
noncomputable def Ar (K:PySem.W.Frag)(Z:Adr):Sp:=fun vs H Q _=>∃(p dl cl ll:Addr) (ds:List Int) (ls:List Cd) (slow fast:Int) (lds:List Ld) (N0:Addr->Prop),vs=[.ref p]/\fh K H p dl cl ll (iK ds ls slow fast lds N0) lds/\2<=ds.length/\ds.length<=6/\lds.length<=30/\∀a H',av H H'->kP K H' a (jM ds ls lds,0)->Q (.ref a) H'
theorem Hr {f:Addr}{fd:FuncData}(F:Fun K "_law_first" "_law_first" nY f fd)(T:Txt K mg Z):aH P w K mg base CX0 1 f fd nP (Ar K Z):=by
 refine F.ok vd (fun vs H Q E h=>?_) (fun cdv A outer s H vs Q E hr h=>?_)
 ·obtain ⟨p,dl,cl,ll,ds,ls,slow,fast,lds,N0,rfl,hP,l2,l6,h30,q⟩:=h
  rfl
 ·obtain ⟨p,dl,cl,ll,ds,ls,slow,fast,lds,N0,rfl,hP,l2,l6,h30,q⟩:=h
  refine seg 2 (aj (aw (bq (ae (au aI (au aI (pv 0) ai) ai) (ae (aT L4 (bq (ae iF af)) (pv 1)) (ae (pv 2) (ae (bq (ae aC (ae fO (ae fO (ae fO af))))) (ae (bq af) (ae ai af))))))))) fun zt2 zh2=>?_
  k_all
  intro ze2
  refine seg 1 (ag (aL (i:=2) vd.nd rfl orL (bC tG (by rfl) T.vQ ql (ae (nF ["_law_one"] [none] (gx (au aI (pv 0) ai)) (fun _ _ _ _=>(aM (i:=0) (show (["_law_one"]:List Str).Nodup by decide +kernel) rfl orL)) (fun _ _ _ _=>jS) (fun _ _ _ _=>(au (show IxR _ (Ek K) from ay) (pv 0) ai))) af))) zh2) fun zt1 zh1=>?_
  k_all
  intro ze1
  refine ⟨_,ag (aL (i:=1) vd.nd rfl orL (aN aE (by rfl) T.cA bF (ae (au aI (pv 0) ai) af))) zh1,?_⟩
  k_all
  obtain ⟨hp,hdl,_,⟨bs,hll,hT2⟩,_⟩:=id hP
  replace hdl:H dl=some (HO.lst (ds.map V.int)):=hdl
  replace hp:H p=some (HO.lst [V.ref dl,V.ref cl,V.int slow,V.int fast,V.ref ll]):=hp
  have hbl:=hT2.1
  k_mem
  refine ⟨_,SqL.of hp,_,rfl,?_⟩
  k_mem
  refine ⟨_,.inl (SqL.of hdl),?_⟩
  rw [List.length_map]
  k_upd
  refine ⟨_,SqL.of hp,_,rfl,?_⟩
  k_mem
  refine ⟨⟨_,SqL.of hll⟩,?_⟩
  refine L5 (fun x=>.int x.2.1) ⟨bs,SqL.of hll,hT2⟩ (by rw [sizeLine_eq];omega) rfl (fun b x hb N hN=>by k_mem;exact ⟨_,hb,_,rfl,hN⟩) fun l1 hl1=>?_
  have s1:=(av.refl H).lay (o:=HO.lst (lds.map fun x=>V.int x.2.1)) hl1
  k_mem
  refine ⟨_,.inl ⟨SqL.of ah,fun lt hlt=>?_⟩⟩
  have s2:=s1.lay (o:=HO.tup (lds.map fun x=>V.int x.2.1)) hlt
  have ht2:upd (upd H l1 (HO.lst (lds.map fun x=>V.int x.2.1))) lt (HO.tup (lds.map fun x=>V.int x.2.1)) lt=some (HO.tup ((lds.map (·.2.1)).map V.int)):=by rw [ah,List.map_map];rfl
  generalize upd (upd H l1 (HO.lst (lds.map fun x=>V.int x.2.1))) lt (HO.tup (lds.map fun x=>V.int x.2.1))=H2 at *
  k_upd
  refine ⟨_,SqL.of (s2 _ _ hp),_,rfl,?_⟩
  k_mem
  refine ⟨_,SqL.of (s2 _ _ hdl),_,dS (k:=0) (by omega) (by omega),by decide,fun p1 hp1=>⟨_,SqT.of ah,by omega,by omega,fun gt hgt=>⟨by decide,fun ht hht=>⟨by decide,fun dt hdt=>⟨by decide,fun a ha=>?_⟩⟩⟩⟩⟩
  have eg:List.replicate ((ds.length:Nat):Int).toNat (V.bl false)=(ds.map fun _=>false).map V.bl:=by
   rw [List.map_map,Int.toNat_natCast]
   exact (List.map_const' (l:=ds) (b:=V.bl false)).symm
  refine q a _ (((((s2.lay hp1).lay hgt).lay hht).lay hdt).lay ha) ⟨gt,lt,ht,dt,SqT.of ah,SqT.of ?_,upo (upo (upo (upo (upo ht2 hp1) hgt) hht) hdt) ha,SqT.of (upo (upo ah hdt) ha),SqT.of ?_⟩
  ·rw [upo (upo (upo ah hht) hdt) ha,eg];rfl
  ·rw [upo ah ha]
   show _=some (HO.tup ((dE (ls.map fun _=>false)).map V.int))
   rw [Jp];rfl
variable (sT:Def K mg "_law_first" nY nP Cf Ae)(CB:aH P w K mg base CX0 1 Cf Ae nP (Ar K Z))
noncomputable def As (K:PySem.W.Frag)(Z:Adr):Sp:=fun vs H Q _=>∃(ht dd:Addr) (g:Cfg) (n:bg) (d:Dd),vs=[.ref ht,.ref dd]/\SqT K H ht (oO n.e)/\SqT K H dd (ddV d)/\dD g n d=none/\∀h H',av H H'->SqT K H' h (oO (zq g n d))->Q (.ref h) H'
theorem Hs {f:Addr}{fd:FuncData}(F:Fun K "_law_heard" "_law_heard" nZ f fd)(T:Txt K mg Z):aH P w K mg base CX0 1 f fd nQ (As K Z):=by
 refine F.ok zO (fun vs H Q E h=>?_) (fun cdv A outer s H vs Q E hr h=>?_)
 ·obtain ⟨ht,dd,g,n,d,rfl,hH,hD,hr,q⟩:=h
  rfl
 ·obtain ⟨ht,dd,g,n,d,rfl,hH,hD,hr,q⟩:=h
  refine seg 3 (aj (aw (pv 0))) fun zt3 zh3=>?_
  k_all
  intro ze3
  refine seg 2 (ag (aY (az bM (au ay (pv 1) ai) aC (aJ _)) (aj (aw (bq (ae aC (ae (au ay (pv 0) ai) (ae (au ay (pv 0) ai) (ae (au ay (pv 0) ai) af))))))) (aD)) zh3) fun zt2 zh2=>?_
  k_all
  intro ze2
  refine seg 1 (ag (aY (az bM (au ay (pv 1) ai) aC (aJ _)) (ag (aL (i:=2) zO.nd rfl orL (au aI (bB (ae aC (ae aC af))) (bC iH (by rfl) T.tM ng (ae (fK bM (au ay (pv 1) ai) (au ay (pv 0) ai) (aJ _)) af)))) (aj (aw (bq (ae (pv 2) (ae (au ay (pv 0) ai) (ae (au ay (pv 0) ai) (ae (au ay (pv 1) ai) af)))))))) (aD)) zh2) fun zt1 zh1=>?_
  k_all
  intro ze1
  refine ⟨_,ag (aY (az bM (au ay (pv 1) ai) aC (aJ _)) (aj (aw (bq (ae aC (ae (au ay (pv 1) ai) (ae (au ay (pv 1) ai) (ae fO af))))))) (aD)) zh1,?_⟩
  k_all
  have q0:zq g n d=n.e->Q (.ref ht) H:=fun e=>q ht H (av.refl H) (by rw [e];exact hH)
  cases d with
  | ring l s=>
   k_mem
   refine ⟨_,hD,_,rfl,?_⟩
   k_mem
   rw [if_pos rfl]
   k_upd
   refine ⟨_,hD,_,rfl,_,hD,_,rfl,by decide,fun p hp=>?_⟩
   k_upd
   exact q p _ ((av.refl H).lay hp) (SqT.of ah)
  | rept s=>
   obtain ⟨l,r,e,_⟩:=EB hr
   have ee:zq g n (.rept s)=if s=r then .armed l r else .other l r s:=by simp only [zq,e]
   rw [e] at hH
   rw [ee] at q
   k_mem
   refine ⟨_,hD,_,rfl,?_⟩
   k_mem
   rw [if_neg (by decide)]
   k_upd
   refine ⟨_,hD,_,rfl,?_⟩
   k_mem
   rw [if_pos rfl]
   k_upd
   refine ⟨by decide,fun p1 hp1=>⟨_,((av.refl H).lay hp1).tup hD,_,rfl,_,((av.refl H).lay hp1).tup hH,_,rfl,?_⟩⟩
   k_mem
   have s1:=(av.refl H).lay (o:=HO.lst [V.str (Str.ofString "repeated otherwise"),V.str (Str.ofString "armed")]) hp1
   k_upd
   refine ⟨_,SqL.of ah,.str (if s=r then "armed" else "repeated otherwise"),?_,_,s1.tup hH,_,rfl,_,s1.tup hH,_,rfl,_,s1.tup hD,_,rfl,by decide,fun p hp=>?_⟩
   ·by_cases h:s=r
    ·simp only [h,decide_true,if_true];rfl
    ·simp only [h,decide_false,if_false,Bool.false_eq_true];rfl
   ·refine q p _ (s1.lay hp) (SqT.of ?_)
    rw [ah]
    by_cases h:s=r
    ·subst h;simp only [if_true];rfl
    ·rw [if_neg h,if_neg h];rfl
  | wind c l k=>
   obtain ⟨_,_,e⟩:=zu hr
   rw [e] at hH
   k_mem
   refine ⟨_,hD,_,rfl,?_⟩
   k_mem
   rw [if_neg (by decide)]
   k_upd
   refine ⟨_,hD,_,rfl,?_⟩
   k_mem
   rw [if_neg (by decide)]
   k_upd
   refine ⟨_,hD,_,rfl,?_⟩
   k_mem
   rw [if_pos rfl]
   k_upd
   refine ⟨_,hH,_,rfl,_,hH,_,rfl,_,hH,_,rfl,by decide,fun p hp=>?_⟩
   k_upd
   exact q p _ ((av.refl H).lay hp) (SqT.of ah)
  | _=>
   k_mem
   refine ⟨_,hD,_,rfl,?_⟩
   k_mem
   rw [if_neg (by decide)]
   k_upd
   refine ⟨_,hD,_,rfl,?_⟩
   k_mem
   rw [if_neg (by decide)]
   k_upd
   refine ⟨_,hD,_,rfl,?_⟩
   k_mem
   rw [if_neg (by decide)]
   k_upd
   exact q0 rfl
variable (sU:Def K mg "_law_heard" nZ nQ Cg Af)(CC:aH P w K mg base CX0 1 Cg Af nQ (As K Z))
noncomputable def rT (K:PySem.W.Frag)(Z:Adr):Sp:=fun vs H Q E=>∃(lv m:Int),vs=[.int lv,.int m]/\(0<=lv/\lv < m->Q .non H)/\(¬(0<=lv/\lv < m)->E (.ref Z.bf) none H)
include cO iE in
theorem Au {f:Addr}{fd:FuncData}(F:Fun K "check_level" "check_level" g8 f fd)(T:Txt K mg Z):aH P w K mg base (CXf P w) 2 f fd gO (rT K Z):=by
 refine F.okF zB (fun vs H Q E h=>?_) (fun cdv A outer s H vs Q E hr h=>?_)
 ·obtain ⟨lv,m,rfl,q1,q2⟩:=h
  rfl
 ·obtain ⟨lv,m,rfl,q1,q2⟩:=h
  refine ⟨_,aj (aY (eZ (dj (aF iE hr.dn (by rfl) cO.m cO.F.kp cO.b .nil aO (ae (pv 0) (ae (pv 1) af))))) (aj (bH T.zW (by rfl) T.zR (ae aC af))) (aD)),?_⟩
  k_all
  k_mem
  refine ⟨_,_,rfl,?_⟩
  k_mem
  split
  ·rename_i h
   k_upd
   exact ⟨by decide,q2 h⟩
  ·rename_i h
   k_upd
   exact q1 (by simpa using h)
variable (aU:Def K mg "check_level" g8 gO tU rA)(bO:aH P w K mg base (CXf P w) 2 tU rA gO (rT K Z))
noncomputable def uD (K:PySem.W.Frag)(Z:Adr):Sp:=fun vs H Q E=>∃(n m:Int),vs=[.int n,.int m]/\(0<=n/\n < m->Q .non H)/\(¬(0<=n/\n < m)->E (.ref Z.aW) none H)
include cO iE in
theorem Bt {f:Addr}{fd:FuncData}(F:Fun K "check_load" "check_load" jg f fd)(T:Txt K mg Z):aH P w K mg base (CXf P w) 2 f fd iW (uD K Z):=by
 refine F.okF A3 (fun vs H Q E h=>?_) (fun cdv A outer s H vs Q E hr h=>?_)
 ·obtain ⟨n,m,rfl,q1,q2⟩:=h
  rfl
 ·obtain ⟨n,m,rfl,q1,q2⟩:=h
  refine ⟨_,aj (aY (eZ (dj (aF iE hr.dn (by rfl) cO.m cO.F.kp cO.b .nil aO (ae (pv 0) (ae (pv 1) af))))) (aj (bH T.Bk (by rfl) T.tN (ae aC af))) (aD)),?_⟩
  k_all
  k_mem
  refine ⟨_,_,rfl,?_⟩
  k_mem
  split
  ·rename_i h
   k_upd
   exact ⟨by decide,q2 h⟩
  ·rename_i h
   k_upd
   exact q1 (by simpa using h)
variable (eC:Def K mg "check_load" jg iW vX ug)(kZ:aH P w K mg base (CXf P w) 2 vX ug iW (uD K Z))
def Qs (l:Addr)(m:Int)(ls:List Ld)(H:Hp)(i:Nat)(σ:St)(H':Hp):Prop:=H'=H/\(∃t u v,σ=[some (.ref l),some (.int m),t,u,v])/\∀(j:Nat) x,j < i->ls[j]?=some x->lz m x
noncomputable def rV (K:PySem.W.Frag)(Z:Adr):Sp:=fun vs H Q E=>∃(l:Addr) (ls:List Ld) (m:Int),vs=[.ref l,.int m]/\iz K H l ls/\((ls.length<=30/\∀x∈ls,lz m x)->Q .non H)/\(¬(ls.length<=30/\∀x∈ls,lz m x)->E (.ref Z.gu) none H)
include cO iE in
theorem Av {f:Addr}{fd:FuncData}(F:Fun K "check_loads" "check_loads" g9 f fd)(T:Txt K mg Z):aH P w K mg base (CXf P w) 2 f fd gP (rV K Z):=by
 refine F.okF jh (fun vs H Q E h=>?_) (fun cdv A outer s H vs Q E hr h=>?_)
 ·obtain ⟨l,ls,m,rfl,hL,q1,q2⟩:=h
  rfl
 ·obtain ⟨l,ls,m,rfl,hL,q1,q2⟩:=h
  refine seg 1 (aj (eJ Dc rfl (gx (pv 0)) (kA rfl (aV (aM (i:=2) jh.nd rfl orL) (aV (aM (i:=3) jh.nd rfl orL) (aV (aM (i:=4) jh.nd rfl orL) fe)))) (aj (aY (qf (eZ (dj (aF iE hr.dn (by rfl) cO.m cO.F.kp cO.b .nil aO (ae (pv 3) (ae (pv 1) af))))) (mZ (eZ (dj (aF iE hr.dn (by rfl) cO.m cO.F.kp cO.b .nil aO (ae (pv 4) (ae (pv 1) af))))))).pt (aj (bH T.zY (by rfl) T.zS (ae aC af))) (aD))))) fun zt1 zh1=>?_
  k_all
  intro ze1
  refine ⟨_,ag (aY (az Eh (aN aE (by rfl) T.cA bF (ae (pv 0) af)) (eK (by rfl) T.DB) (aJ _)) (aj (bH T.zY (by rfl) T.zS (ae aC af))) (aD)) zh1,?_⟩
  k_all
  obtain ⟨as,hS,hlen,hT⟩:=id hL
  k_mem
  refine ⟨_,.inl hS,?_⟩
  rw [List.length_map]
  k_upd
  split
  ·k_upd
   exact ⟨by decide,q2 fun h=>by omega⟩
  ·k_upd
   refine ⟨⟨_,hS⟩,?_⟩
   k_upd
   refine lg (as.map V.ref) (Qs l m ls H) ⟨rfl,⟨_,_,_,rfl⟩,fun j x h=>absurd h (Nat.not_lt_zero _)⟩ (fun i σ H' _ ⟨e,_⟩=>by rw [e];exact hS) ?_ ?_
   ·rintro i x σ H' hx ⟨rfl,⟨t,u,v,rfl⟩,hj⟩
    rw [List.getElem?_map] at hx
    obtain ⟨a,ea,rfl⟩:=Option.map_eq_some_iff.mp hx
    have hi:i < as.length:=(List.getElem?_eq_some_iff.mp ea).1
    have el:ls[i]?=some ls[i]:=List.getElem?_eq_getElem (by omega)
    have hm:ls[i]∈ls:=List.getElem_mem _
    k_mem
    refine ⟨_,hT i a _ ea el,rfl,?_⟩
    k_mem
    refine ⟨_,_,rfl,?_⟩
    k_mem
    split
    ·rename_i h1
     k_upd
     exact ⟨by decide,q2 fun h=>h1 (h.2 _ hm).1⟩
    ·rename_i h1
     k_upd
     refine ⟨_,_,rfl,?_⟩
     k_mem
     split
     ·rename_i h2
      k_upd
      exact ⟨by decide,q2 fun h=>h2 (h.2 _ hm).2⟩
     ·rename_i h2
      k_upd
      refine ⟨rfl,⟨_,_,_,rfl⟩,fun j x hj' hx=>?_⟩
      by_cases e:j=i
      ·rw [e,el] at hx
       cases hx
       k_upd
       exact ⟨by omega,by omega⟩
      ·exact hj j x (by omega) hx
   ·rintro σ H' ⟨rfl,⟨t,u,v,rfl⟩,hj⟩
    k_mem
    refine q1 ⟨by omega,fun x hx=>?_⟩
    obtain ⟨j,hj1,rfl⟩:=List.getElem_of_mem hx
    rw [List.length_map] at hj
    exact hj j _ (by omega) (List.getElem?_eq_getElem hj1)
variable (jU:Def K mg "check_loads" g9 gP tV rB)(uE:aH P w K mg base (CXf P w) 2 tV rB gP (rV K Z))
def Qt (l:Addr)(m:Int)(ls:List Cd)(H:Hp)(i:Nat)(σ:St)(H':Hp):Prop:=H'=H/\(∃t u,σ=[some (.ref l),some (.int m),t,u])/\∀(j:Nat) x,j < i->ls[j]?=some x->fR x
noncomputable def rW (K:PySem.W.Frag)(Z:Adr):Sp:=fun vs H Q E=>∃(l:Addr) (ls:List Cd) (m:Int),vs=[.ref l,.int m]/\ni cdV K H l ls/\(((ls.length:Int)=m/\∀x∈ls,fR x)->Q .non H)/\(¬((ls.length:Int)=m/\∀x∈ls,fR x)->E (.ref Z.gv) none H)
include cI iu in
theorem Aw {f:Addr}{fd:FuncData}(F:Fun K "check_codes" "check_codes" hJ f fd)(T:Txt K mg Z):aH P w K mg base (CXf P w) 2 f fd gR (rW K Z):=by
 refine F.okF lM (fun vs H Q E h=>?_) (fun cdv A outer s H vs Q E hr h=>?_)
 ·obtain ⟨l,ls,m,rfl,hL,q1,q2⟩:=h
  rfl
 ·obtain ⟨l,ls,m,rfl,hL,q1,q2⟩:=h
  refine seg 1 (aj (eJ Dc rfl (gx (pv 0)) (kA rfl (aV (aM (i:=2) lM.nd rfl orL) (aV (aM (i:=3) lM.nd rfl orL) fe))) (ag (aY (qf (eZ (dj (aF iu hr.dn (by rfl) cI.m cI.F.kp cI.b .nil aO (ae (pv 2) af)))) (mZ (eZ (dj (aF iu hr.dn (by rfl) cI.m cI.F.kp cI.b .nil aO (ae (pv 3) af)))))).pt (aj (bH T.vg (by rfl) T.ve (ae aC af))) (aD)) (aj (aY (az bM (pv 2) (pv 3) (aJ _)) (aj (bH T.vg (by rfl) T.ve (ae aC af))) (aD)))))) fun zt1 zh1=>?_
  k_all
  intro ze1
  refine ⟨_,ag (aY (az tE (aN aE (by rfl) T.cA bF (ae (pv 0) af)) (pv 1) (aJ _)) (aj (bH T.vg (by rfl) T.ve (ae aC af))) (aD)) zh1,?_⟩
  k_all
  obtain ⟨as,hS,hlen,hT⟩:=id hL
  k_mem
  refine ⟨_,.inl hS,?_⟩
  rw [List.length_map]
  k_upd
  split
  ·k_upd
   exact ⟨by decide,q2 fun h=>by omega⟩
  ·k_upd
   refine ⟨⟨_,hS⟩,?_⟩
   k_upd
   refine lg (as.map V.ref) (Qt l m ls H) ⟨rfl,⟨_,_,rfl⟩,fun j x h=>absurd h (Nat.not_lt_zero _)⟩ (fun i σ H' _ ⟨e,_⟩=>by rw [e];exact hS) ?_ ?_
   ·rintro i x σ H' hx ⟨rfl,⟨t,u,rfl⟩,hj⟩
    rw [List.getElem?_map] at hx
    obtain ⟨a,ea,rfl⟩:=Option.map_eq_some_iff.mp hx
    have hi:i < as.length:=(List.getElem?_eq_some_iff.mp ea).1
    have el:ls[i]?=some ls[i]:=List.getElem?_eq_getElem (by omega)
    have hm:ls[i]∈ls:=List.getElem_mem _
    k_mem
    refine ⟨_,hT i a _ ea el,rfl,?_⟩
    k_mem
    refine ⟨_,rfl,?_⟩
    k_mem
    split
    ·rename_i h1
     k_upd
     exact ⟨by decide,q2 fun h=>h1 (h.2 _ hm).1⟩
    ·rename_i h1
     k_upd
     refine ⟨_,rfl,?_⟩
     k_mem
     split
     ·rename_i h2
      k_upd
      exact ⟨by decide,q2 fun h=>h2 (h.2 _ hm).2.1⟩
     ·rename_i h2
      k_upd
      split
      ·rename_i h3
       k_upd
       exact ⟨by decide,q2 fun h=>(h.2 _ hm).2.2 h3⟩
      ·rename_i h3
       k_upd
       refine ⟨rfl,⟨_,_,rfl⟩,fun j x hj' hx=>?_⟩
       by_cases e:j=i
       ·rw [e,el] at hx
        cases hx
        k_upd
        exact ⟨by omega,by omega,h3⟩
       ·exact hj j x (by omega) hx
   ·rintro σ H' ⟨rfl,⟨t,u,rfl⟩,hj⟩
    k_mem
    refine q1 ⟨by omega,fun x hx=>?_⟩
    obtain ⟨j,hj1,rfl⟩:=List.getElem_of_mem hx
    exact hj j _ (by rw [List.length_map];omega) (List.getElem?_eq_getElem hj1)
variable (jV:Def K mg "check_codes" hJ gR tW rC)(uF:aH P w K mg base (CXf P w) 2 tW rC gR (rW K Z))
noncomputable def pV (K:PySem.W.Frag)(Z:Adr):Sp:=fun vs H Q E=>∃(b cs fl st:Addr) (ls:List Cd) (fs:List Bool) (e:Eng) (s:Int),vs=[.ref b,.int s]/\bR Z.bZ K H b cs fl st ls fs e/\
 ((∀l r,e≠.wait l r)->E (.ref Z.cP) none H)/\
 (∀l r,e=.wait l r->¬(1<=s/\s<=9)->E (.ref Z.jC) none H)/\
 (∀l r,e=.wait l r->(1<=s/\s<=9)->∀st' p H',H p=none->aB b H H'->bR Z.bZ K H' b cs fl st' ls fs (if s=r then .armed l r else .other l r s)->SqT K H' p [.bl (decide (s=r)),.int r,.int s]->Q (.ref p) H')
include cI iu in
theorem yV {f:Addr}{fd:FuncData}(F:Fun K "repeat" "Bells.repeat" gg f fd)(T:Txt K mg Z):aH P w K mg base (CXf P w) 2 f fd fT (pV K Z):=by
 refine F.okF iA (fun vs H Q E h=>?_) (fun cdv A outer s H vs Q E hr h=>?_)
 ·obtain ⟨b,cs,fl,st,ls,fs,e,s,rfl,hB,q1,q2,q3⟩:=h
  rfl
 ·obtain ⟨b,cs,fl,st,ls,fs,e,s,rfl,hB,q1,q2,q3⟩:=h
  refine ⟨_,ag (aY (az tE (au ay (aK (pv 0) (by rfl)) ai) aC (aJ _)) (aj (bH T.Bm (by rfl) T.Bf (ae aC af))) (aD)) (ag (aY (eZ (dj (aF iu hr.dn (by rfl) cI.m cI.F.kp cI.b .nil aO (ae (pv 1) af)))) (aj (bH T.Fc (by rfl) T.EV (ae aC af))) (aD)) (ag (aL (i:=2) iA.nd rfl orL (au ay (aK (pv 0) (by rfl)) ai)) (ag (aL (i:=3) iA.nd rfl orL (au ay (aK (pv 0) (by rfl)) ai)) (ag (aL (i:=4) iA.nd rfl orL (fK bM (pv 1) (pv 3) (aJ _))) (ag (cW (pv 0) (bq (ae (Ee (dj (pv 4)) aC aC) (ae (pv 2) (ae (pv 3) (ae (pv 1) af))))) rfl) (aj (aw (bq (ae (pv 4) (ae (pv 3) (ae (pv 1) af))))))))))),?_⟩
  k_all
  obtain ⟨⟨dx,hob⟩,⟨as,hcs,hT⟩,hfl,hst,nn,ln⟩:=id hB
  k_mem
  refine ⟨_,_,_,hob,T.bx,T.bT,_,rfl,?_⟩
  k_mem
  cases e with
  | wait l r=>
   refine ⟨_,hst,_,rfl,?_⟩
   k_mem
   refine ⟨_,rfl,?_⟩
   k_mem
   split
   ·rename_i h
    exact ⟨by decide,q2 l r rfl h⟩
   ·rename_i h
    have hs:1<=s/\s<=9:=by simpa using h
    refine ⟨_,_,_,hob,T.bx,T.bT,_,rfl,?_⟩
    k_mem
    refine ⟨_,hst,_,rfl,?_⟩
    k_mem
    refine ⟨_,_,_,hob,T.bx,T.bT,_,rfl,?_⟩
    k_mem
    refine ⟨_,hst,_,rfl,?_⟩
    k_mem
    split
    ·rename_i hr
     refine ⟨by decide,fun st' hst'=>⟨_,_,_,upo hob hst',T.bx,T.bT,by show 3 < 1000;decide,by decide,fun p hp=>?_⟩⟩
     have nsx:st'≠b:=fun z=>by rw [z,hob] at hst';cases hst'
     have hpn:=upn (aB.free (H':=upd (upd H st' (HO.tup [V.str (Str.ofString "armed"),V.int l,V.int r,V.int s])) b (HO.ins Z.bZ dx (bL "state" (.ref st') [("codes",V.ref cs),("failed",V.ref fl),("state",V.ref st)]))) (p:=b) ((aB.of (av.refl _)).put) (fun z=>by rw [z,ah] at hp;cases hp) hp)
     have k:=((aB.of ((av.refl H).lay (o:=HO.tup [V.str (Str.ofString "armed"),V.int l,V.int r,V.int s]) hst')).put (o:=HO.ins Z.bZ dx (bL "state" (.ref st') [("codes",V.ref cs),("failed",V.ref fl),("state",V.ref st)])) (p:=b))
     refine q3 l r rfl hs st' p _ hpn (k.trans (aB.of ((av.refl _).lay hp))) ?_ (SqT.of ?_)
     ·refine (hB.state k (dx:=dx) (by rw [ah];rfl) (SqT.of (xs:=oO (if s=r then .armed l r else .other l r s)) ?_)).same ((av.refl _).lay hp)
      rw [aS nsx,ah,if_pos hr,hr];rfl
     ·rw [ah]
    ·rename_i hr
     refine ⟨by decide,fun st' hst'=>⟨_,_,_,upo hob hst',T.bx,T.bT,by show 3 < 1000;decide,by decide,fun p hp=>?_⟩⟩
     have nsx:st'≠b:=fun z=>by rw [z,hob] at hst';cases hst'
     have hpn:=upn (aB.free (H':=upd (upd H st' (HO.tup [V.str (Str.ofString "repeated otherwise"),V.int l,V.int r,V.int s])) b (HO.ins Z.bZ dx (bL "state" (.ref st') [("codes",V.ref cs),("failed",V.ref fl),("state",V.ref st)]))) (p:=b) ((aB.of (av.refl _)).put) (fun z=>by rw [z,ah] at hp;cases hp) hp)
     have k:=((aB.of ((av.refl H).lay (o:=HO.tup [V.str (Str.ofString "repeated otherwise"),V.int l,V.int r,V.int s]) hst')).put (o:=HO.ins Z.bZ dx (bL "state" (.ref st') [("codes",V.ref cs),("failed",V.ref fl),("state",V.ref st)])) (p:=b))
     refine q3 l r rfl hs st' p _ hpn (k.trans (aB.of ((av.refl _).lay hp))) ?_ (SqT.of ?_)
     ·refine (hB.state k (dx:=dx) (by rw [ah];rfl) (SqT.of (xs:=oO (if s=r then .armed l r else .other l r s)) ?_)).same ((av.refl _).lay hp)
      rw [aS nsx,ah,if_neg hr];rfl
     ·rw [ah]
  | _=>
   refine ⟨_,hst,_,rfl,?_⟩
   k_mem
   first
   | rw [if_pos (by decide)]
   | skip
   exact ⟨by decide,q1 fun l r z=>Eng.noConfusion z⟩
variable (l8:bG K Z.bZ "repeat" "Bells.repeat" gg fT rj pN)(rX:aH P w K mg base (CXf P w) 2 rj pN fT (pV K Z))
noncomputable def rY (K:PySem.W.Frag)(Z:Adr):Sp:=fun vs H Q _=>∃(a:Addr) (ds:List Int) (p:Int),vs=[.ref a,.int p]/\SqL K H a (ds.map V.int)/\0 < ds.length/\Q (.int (cQ ds - p)) H
include kX wC in
theorem Ax {f:Addr}{fd:FuncData}(F:Fun K "other_place" "other_place" hV f fd)(T:Txt K mg Z):aH P w K mg base CX0 2 f fd gS (rY K Z):=by
 refine F.ok zD (fun vs H Q E h=>?_) (fun cdv A outer s H vs Q E hr h=>?_)
 ·obtain ⟨a,ds,p,rfl,hS,hl,q⟩:=h
  rfl
 ·obtain ⟨a,ds,p,rfl,hS,hl,q⟩:=h
  refine ⟨_,aj (aw (aT gJ (aF wC hr.dn (by rfl) kX.m kX.F.kp kX.b .nil aO (ae (pv 0) af)) (pv 1))),?_⟩
  k_all
  k_mem
  refine ⟨a,ds,rfl,hS,hl,?_⟩
  k_mem
  exact q
variable (cv:Def K mg "other_place" hV gS tX rD)(fH:aH P w K mg base CX0 2 tX rD gS (rY K Z))
noncomputable def uG (K:PySem.W.Frag)(Z:Adr):Sp:=fun vs H Q E=>∃(bk rl dd s:Addr) (g:Cfg) (n0 n:bg) (rs:List Row) (tk sp:Int) (dv:List V),vs=[.ref bk,.ref dd,.int tk,.int sp,.ref s]/\BAt (clZ Z) K H bk rl g n0 rs/\SqT K H dd dv/\fL (clZ Z) K H rl g s n/\(300<=rs.length->E (.ref Z.eX) none H)/\(rs.length < 300->∀H',aB rl H H'->BAt (clZ Z) K H' bk rl g n0 (rs++[⟨dz rs,dz rs+tk,dv,sp,n⟩])->Q .non H')
include jQ o8 in
theorem Bu {f:Addr}{fd:FuncData}(F:Fun K "write" "Book.write" jr f fd)(T:Txt K mg Z):aH P w K mg base (CXf P w) 2 f fd i8 (uG K Z):=by
 refine F.okF tJ (fun vs H Q E h=>?_) (fun cdv A outer s H vs Q E hr h=>?_)
 ·obtain ⟨bk,rl,dd,s0,g,n0,n,rs,tk,sp,dv,rfl,hB,hD,hS,q1,q2⟩:=h
  rfl
 ·obtain ⟨bk,rl,dd,s0,g,n0,n,rs,tk,sp,dv,rfl,hB,hD,hS,q1,q2⟩:=h
  refine seg 2 (aj (bK (vv PySem.F.plainAttrs_list PySem.F.slot_list_append PySem.F.type_list_append iJ (aK (pv 0) (by rfl)) (ae (bq (ae (pv 5) (ae (aT cu (pv 5) (pv 2)) (ae (pv 1) (ae (pv 3) (ae (pv 4) af)))))) af)))) fun zt2 zh2=>?_
  k_all
  intro ze2
  refine seg 1 (ag (aL (i:=5) tJ.nd rfl orL (ba (pv 0) T.bD jQ.M o8 hr.dn jQ.b .nil aO)) zh2) fun zt1 zh1=>?_
  k_all
  intro ze1
  refine ⟨_,ag (aY (az ze (aN aE (by rfl) T.cA bF (ae (aK (pv 0) (by rfl)) af)) (aK (pv 0) (by rfl)) (aJ _)) (aj (bH T.Hj (by rfl) T.GZ (ae aC af))) (aD)) zh1,?_⟩
  k_all
  obtain ⟨⟨dx,f0,hob,hF⟩,as,hrl,hR⟩:=id hB
  have hl:=hR.1
  k_mem
  refine ⟨_,_,_,hob,T.bD,T.cL,_,rfl,?_⟩
  k_mem
  refine ⟨_,.inl (SqL.of hrl),_,_,_,hob,T.bD,T.vR,_,rfl,?_⟩
  k_mem
  rw [List.length_map]
  k_upd
  split
  ·k_upd
   exact ⟨by decide,q1 (by omega)⟩
  ·rename_i hlt
   k_upd
   refine ⟨_,_,hob,rfl,_,_,_,_,_,rfl,hB,?_⟩
   k_mem
   refine ⟨_,_,_,hob,T.bD,T.cL,_,rfl,?_⟩
   k_mem
   refine ⟨.inl ⟨rfl,_,SqL.of hrl⟩,by decide,fun p hp=>⟨_,upo hrl hp,dO (by rw [List.length_map];omega),?_⟩⟩
   have s1:=(av.refl H).lay (o:=HO.tup [V.int (dz rs),V.int (dz rs+tk),V.ref dd,V.int sp,V.ref s0]) hp
   have hrl1:=upo (o:=HO.tup [V.int (dz rs),V.int (dz rs+tk),V.ref dd,V.int sp,V.ref s0]) hrl hp
   have k1:L2.aB rl H (upd (upd H p (HO.tup [V.int (dz rs),V.int (dz rs+tk),V.ref dd,V.int sp,V.ref s0])) rl (HO.lst (as.map V.ref++[V.ref p]))):=(aB.of s1).put
   refine q2 (by omega) _ k1 ⟨⟨dx,f0,k1 _ _ (fun z=>by rw [z,hrl] at hob;cases hob) hob,hF.keep k1 hrl⟩,as++[p],by rw [ah,List.map_append];rfl,?_⟩
   exact (hR.keep k1 hrl).push ⟨dd,s0,(SqT.of ah).rew hrl1,hD.keep k1 hrl,hS.keep k1 hrl⟩
variable (pd:bG K Z.tf "write" "Book.write" jr i8 vY uh)(wI:aH P w K mg base (CXf P w) 2 vY uh i8 (uG K Z))
noncomputable def l9 (K:PySem.W.Frag)(Z:Adr):Sp:=fun vs H Q E=>∃(w bk rl:Addr) (g:Cfg) (n0:bg) (rs:List Row),vs=[.ref w]/\WAt (clZ Z) K H w bk rl g n0 rs/\(rs=[]->E (.ref Z.cX) none H)/\
 (∀rs' r,rs=rs'++[r]->∀p H',aB rl H H'->WAt (clZ Z) K H' w bk rl g n0 rs'->SqT K H' p r.deed->Q (.ref p) H')
include ny uC in
theorem vi {f:Addr}{fd:FuncData}(F:Fun K "take_back" "Works.take_back" eB f fd)(T:Txt K mg Z):aH P w K mg base (CXf P w) 2 f fd eh (l9 K Z):=by
 refine F.okF va (fun vs H Q E h=>?_) (fun cdv A outer s H vs Q E hr h=>?_)
 ·obtain ⟨w,bk,rl,g,n0,rs,rfl,hW,q1,q2⟩:=h
  rfl
 ·obtain ⟨w,bk,rl,g,n0,rs,rfl,hW,q1,q2⟩:=h
  refine ⟨_,aj (aw (ba (aK (pv 0) (by rfl)) T.bD ny.M uC hr.dn ny.b .nil bS)),?_⟩
  k_all
  obtain ⟨⟨dx,dl,gl,hob,hdl,hgl,n1,n2⟩,hB⟩:=id hW
  obtain ⟨⟨db,f0,hbo,hF⟩,as,hrl,hR⟩:=id hB
  k_mem
  refine ⟨_,_,_,hob,T.aG,T.br,_,rfl,?_⟩
  k_mem
  exact ⟨_,_,hbo,rfl,_,_,_,_,_,rfl,hB,q1,fun rs2 r e p H' k hB2 hp=>q2 rs2 r e p H' k (hW.keep k hrl hB2) hp⟩
variable (jH:bG K Z.bI "take_back" "Works.take_back" eB eh mE lY)(mQ:aH P w K mg base (CXf P w) 2 mE lY eh (l9 K Z))
noncomputable def kL (K:PySem.W.Frag)(Z:Adr):Sp:=fun vs H Q _=>∃(w bk rl:Addr) (g:Cfg) (n0:bg) (rs:List Row) (s:Addr) (n:bg),vs=[.ref w,.ref s]/\WAt (clZ Z) K H w bk rl g n0 rs/\fL (clZ Z) K H rl g s n/\g.ks.length=n.ws.length/\∀H',av H H'->Q (.int (iV g n)) H'
include jD mP in
theorem tD {f:Addr}{fd:FuncData}(F:Fun K "speed_with" "Works.speed_with" dG f fd)(T:Txt K mg Z):aH P w K mg base CX0 2 f fd dF (kL K Z):=by
 refine F.ok td (fun vs H Q E h=>?_) (fun cdv A outer s H vs Q E hr h=>?_)
 ·obtain ⟨w,bk,rl,g,n0,rs,s0,n,rfl,hW,hS,hl,q⟩:=h
  rfl
 ·obtain ⟨w,bk,rl,g,n0,rs,s0,n,rfl,hW,hS,hl,q⟩:=h
  refine ⟨_,aj (aw (Ee (dj (ba (aK (pv 1) (by rfl)) T.bV jD.M mP hr.dn jD.b .nil aO)) (aK (pv 0) (by rfl)) (aK (pv 0) (by rfl)))),?_⟩
  k_all
  obtain ⟨⟨dx,dl,gl,hob,hdl,hgl,n1,n2⟩,hB⟩:=id hW
  obtain ⟨⟨db,f0,hbo,hF⟩,as,hrl,hR⟩:=id hB
  k_mem
  obtain ⟨A,hA⟩:=id hS
  k_upd
  refine ⟨_,_,_,hA.ob,T.aP,T.bX,_,rfl,?_⟩
  k_mem
  obtain ⟨dy,hyb⟩:=hA.ya.ob
  k_upd
  refine ⟨_,_,hyb,rfl,_,_,_,_,_,_,rfl,hA.ya,hl,fun H' s1=>?_⟩
  k_mem
  have q':=q H' s1
  unfold iV at q'
  k_upd
  split
  ·rename_i h
   k_upd
   rw [if_pos h] at q'
   k_upd
   exact ⟨_,_,_,s1 _ _ hob,T.aG,T.tP,_,rfl,q'⟩
  ·rename_i h
   k_upd
   rw [if_neg h] at q'
   k_upd
   exact ⟨_,_,_,s1 _ _ hob,T.aG,T.tQ,_,rfl,q'⟩
variable (cT:bG K Z.bI "speed_with" "Works.speed_with" dG dF lW kK)(fj:aH P w K mg base CX0 2 lW kK dF (kL K Z))
noncomputable def gI (K:PySem.W.Frag)(Z:Adr):Sp:=fun vs H Q E=>∃(w bk rl:Addr) (g:Cfg) (n0:bg) (rs:List Row) (lv:Int),vs=[.ref w,.int lv]/\WAt (clZ Z) K H w bk rl g n0 rs/\0<=lv/\lv < (ak n0 rs).gates.length/\((ak n0 rs).gates.getD lv.toNat false=true->Q .non H)/\((ak n0 rs).gates.getD lv.toNat false=false->E (.ref Z.bw) none H)
include ax aQ in
theorem mq {f:Addr}{fd:FuncData}(F:Fun K "refuse_shut_gate" "Works.refuse_shut_gate" cG f fd)(T:Txt K mg Z):aH P w K mg base (CXf P w) 2 f fd cF (gI K Z):=by
 refine F.okF mm (fun vs H Q E h=>?_) (fun cdv A outer s H vs Q E hr h=>?_)
 ·obtain ⟨w,bk,rl,g,n0,rs,lv,rfl,hW,h0,h1,q1,q2⟩:=h
  rfl
 ·obtain ⟨w,bk,rl,g,n0,rs,lv,rfl,hW,h0,h1,q1,q2⟩:=h
  refine ⟨_,aj (aY (eZ (dj (au aI (aK (ba (aK (pv 0) (by rfl)) T.bD ax.M aQ hr.dn ax.b .nil aO) (by rfl)) (pv 1)))) (aj (bH T.Hl (by rfl) T.zU (ae aC af))) (aD)),?_⟩
  k_all
  obtain ⟨⟨dx,dl,gl,hob,hdl,hgl,n1,n2⟩,hB⟩:=id hW
  obtain ⟨⟨db,f0,hbo,hF⟩,as,hrl,hR⟩:=id hB
  k_mem
  refine ⟨_,_,_,hob,T.aG,T.br,_,rfl,?_⟩
  k_mem
  refine ⟨_,_,hbo,rfl,_,_,_,_,_,rfl,hB,fun s0 ⟨A,hA⟩=>?_⟩
  k_mem
  refine ⟨_,_,_,hA.ob,T.aP,T.cN,_,rfl,?_⟩
  k_mem
  refine ⟨_,SqL.of hA.go,_,kB h0 h1,?_⟩
  k_mem
  split
  ·rename_i h
   k_upd
   exact ⟨by decide,q2 (by simpa using h)⟩
  ·rename_i h
   k_upd
   exact q1 (by simpa using h)
variable (bY:bG K Z.bI "refuse_shut_gate" "Works.refuse_shut_gate" cG cF ir gH)(cV:aH P w K mg base (CXf P w) 2 ir gH cF (gI K Z))
noncomputable def wJ (K:PySem.W.Frag)(Z:Adr):Sp:=fun vs H Q _=>∃(w bk rl:Addr) (g:Cfg) (n0:bg) (rs:List Row),vs=[.ref w]/\WAt (clZ Z) K H w bk rl g n0 rs/\Q (.int (dz rs)) H
include jQ o8 in
theorem DS {f:Addr}{fd:FuncData}(F:Fun K "now" "Works.now" kr f fd)(T:Txt K mg Z):aH P w K mg base CX0 2 f fd kh (wJ K Z):=by
 refine F.ok Dy (fun vs H Q E h=>?_) (fun cdv A outer s H vs Q E hr h=>?_)
 ·obtain ⟨w,bk,rl,g,n0,rs,rfl,hW,q⟩:=h
  rfl
 ·obtain ⟨w,bk,rl,g,n0,rs,rfl,hW,q⟩:=h
  refine ⟨_,aj (aw (ba (aK (pv 0) (by rfl)) T.bD jQ.M o8 hr.dn jQ.b .nil aO)),?_⟩
  k_all
  obtain ⟨⟨dx,dl,gl,hob,hdl,hgl,n1,n2⟩,hB⟩:=id hW
  obtain ⟨⟨db,f0,hbo,hF⟩,as,hrl,hR⟩:=id hB
  k_mem
  refine ⟨_,_,_,hob,T.aG,T.br,_,rfl,?_⟩
  k_mem
  exact ⟨_,_,hbo,rfl,_,_,_,_,_,rfl,hB,q⟩
variable (iO:bG K Z.bI "now" "Works.now" kr kh yl wq)(mR:aH P w K mg base CX0 2 yl wq kh (wJ K Z))
noncomputable def uH (K:PySem.W.Frag)(Z:Adr):Sp:=fun vs H Q _=>∃(w bk rl:Addr) (g:Cfg) (n0:bg) (rs:List Row),vs=[.ref w]/\WAt (clZ Z) K H w bk rl g n0 rs/\rs.length<=1000/\∀(p:Addr) (as:List Addr) (H':Hp),H p=none->av H H'->H' p=some (.lst (as.map V.ref))->dN K H' as rs->Q (.ref p) H'
include rS yB in
theorem Bv {f:Addr}{fd:FuncData}(F:Fun K "book" "Works.book" jx f fd)(T:Txt K mg Z):aH P w K mg base CX0 2 f fd je (uH K Z):=by
 refine F.ok Bb (fun vs H Q E h=>?_) (fun cdv A outer s H vs Q E hr h=>?_)
 ·obtain ⟨w,bk,rl,g,n0,rs,rfl,hW,hn,q⟩:=h
  rfl
 ·obtain ⟨w,bk,rl,g,n0,rs,rfl,hW,hn,q⟩:=h
  refine ⟨_,aj (aw (ba (aK (pv 0) (by rfl)) T.bD rS.M yB hr.dn rS.b .nil aO)),?_⟩
  k_all
  obtain ⟨⟨dx,dl,gl,hob,hdl,hgl,n1,n2⟩,hB⟩:=id hW
  obtain ⟨⟨db,f0,hbo,hF⟩,as,hrl,hR⟩:=id hB
  k_mem
  refine ⟨_,_,_,hob,T.aG,T.br,_,rfl,?_⟩
  k_mem
  exact ⟨_,_,hbo,rfl,_,_,_,_,_,rfl,hB,hn,q⟩
variable (pe:bG K Z.bI "book" "Works.book" jx je vZ ui)(wK:aH P w K mg base CX0 2 vZ ui je (uH K Z))
noncomputable def pW (K:PySem.W.Frag)(Z:Adr):Sp:=fun vs H Q _=>∃(w bk rl:Addr) (g:Cfg) (n0:bg) (rs:List Row),vs=[.ref w]/\WAt (clZ Z) K H w bk rl g n0 rs/\∀st,SqT K H st (oO (ak n0 rs).e)->Q (.ref st) H
include l7 rM ax aQ in
theorem yW {f:Addr}{fd:FuncData}(F:Fun K "engine" "Works.engine" gq f fd)(T:Txt K mg Z):aH P w K mg base CX0 2 f fd fZ (pW K Z):=by
 refine F.ok yP (fun vs H Q E h=>?_) (fun cdv A outer s H vs Q E hr h=>?_)
 ·obtain ⟨w,bk,rl,g,n0,rs,rfl,hW,q⟩:=h
  rfl
 ·obtain ⟨w,bk,rl,g,n0,rs,rfl,hW,q⟩:=h
  refine ⟨_,aj (aw (ba (aK (ba (aK (pv 0) (by rfl)) T.bD ax.M aQ hr.dn ax.b .nil aO) (by rfl)) T.bx l7.M rM hr.dn l7.b .nil aO)),?_⟩
  k_all
  obtain ⟨⟨dx,dl,gl,hob,hdl,hgl,n1,n2⟩,hB⟩:=id hW
  obtain ⟨⟨db,f0,hbo,hF⟩,as,hrl,hR⟩:=id hB
  k_mem
  refine ⟨_,_,_,hob,T.aG,T.br,_,rfl,?_⟩
  k_mem
  refine ⟨_,_,hbo,rfl,_,_,_,_,_,rfl,hB,fun s0 ⟨A,hA⟩=>?_⟩
  k_mem
  refine ⟨_,_,_,hA.ob,T.aP,T.cB,_,rfl,?_⟩
  k_mem
  obtain ⟨db2,hbb⟩:=hA.be.ob
  k_upd
  exact ⟨_,_,hbb,rfl,_,_,_,_,_,_,_,rfl,hA.be,q _ hA.be.os⟩
variable (ma:bG K Z.bI "engine" "Works.engine" gq fZ rk pO)(rZ:aH P w K mg base CX0 2 rk pO fZ (pW K Z))
noncomputable def uI (K:PySem.W.Frag)(Z:Adr):Sp:=fun vs H Q _=>∃(w bk rl:Addr) (g:Cfg) (n0:bg) (rs:List Row),vs=[.ref w]/\WAt (clZ Z) K H w bk rl g n0 rs/\(ak n0 rs).fs.length<=1000/\∀p H',H p=none->av H H'->H' p=some (.lst ((dE (ak n0 rs).fs).map V.int))->Q (.ref p) H'
include o6 wB ax aQ in
theorem Bw {f:Addr}{fd:FuncData}(F:Fun K "dead" "Works.dead" jy f fd)(T:Txt K mg Z):aH P w K mg base CX0 2 f fd jf (uI K Z):=by
 refine F.ok Bc (fun vs H Q E h=>?_) (fun cdv A outer s H vs Q E hr h=>?_)
 ·obtain ⟨w,bk,rl,g,n0,rs,rfl,hW,hn,q⟩:=h
  rfl
 ·obtain ⟨w,bk,rl,g,n0,rs,rfl,hW,hn,q⟩:=h
  refine ⟨_,aj (aw (ba (aK (ba (aK (pv 0) (by rfl)) T.bD ax.M aQ hr.dn ax.b .nil aO) (by rfl)) T.bx o6.M wB hr.dn o6.b .nil aO)),?_⟩
  k_all
  obtain ⟨⟨dx,dl,gl,hob,hdl,hgl,n1,n2⟩,hB⟩:=id hW
  obtain ⟨⟨db,f0,hbo,hF⟩,as,hrl,hR⟩:=id hB
  k_mem
  refine ⟨_,_,_,hob,T.aG,T.br,_,rfl,?_⟩
  k_mem
  refine ⟨_,_,hbo,rfl,_,_,_,_,_,rfl,hB,fun s0 ⟨A,hA⟩=>?_⟩
  k_mem
  refine ⟨_,_,_,hA.ob,T.aP,T.cB,_,rfl,?_⟩
  k_mem
  obtain ⟨db2,hbb⟩:=hA.be.ob
  k_upd
  exact ⟨_,_,hbb,rfl,_,_,_,_,_,_,_,rfl,hA.be,hn,q⟩
variable (pf:bG K Z.bI "dead" "Works.dead" jy jf v3 uj)(wL:aH P w K mg base CX0 2 v3 uj jf (uI K Z))
noncomputable def r6 (K:PySem.W.Frag)(Z:Adr):Sp:=fun vs H Q _=>∃(w bk rl:Addr) (g:Cfg) (n0:bg) (rs:List Row),vs=[.ref w]/\WAt (clZ Z) K H w bk rl g n0 rs/\∀p,H p=none->Q (.ref p) (upd H p (.lst ((ak n0 rs).gates.map V.bl)))
include ax aQ in
theorem Ay {f:Addr}{fd:FuncData}(F:Fun K "gates" "Works.gates" il f fd)(T:Txt K mg Z):aH P w K mg base CX0 2 f fd gX (r6 K Z):=by
 refine F.ok zI (fun vs H Q E h=>?_) (fun cdv A outer s H vs Q E hr h=>?_)
 ·obtain ⟨w,bk,rl,g,n0,rs,rfl,hW,q⟩:=h
  rfl
 ·obtain ⟨w,bk,rl,g,n0,rs,rfl,hW,q⟩:=h
  refine ⟨_,aj (aw (bC cf (by rfl) T.fJ dJ (ae (aK (ba (aK (pv 0) (by rfl)) T.bD ax.M aQ hr.dn ax.b .nil aO) (by rfl)) af))),?_⟩
  k_all
  obtain ⟨⟨dx,dl,gl,hob,hdl,hgl,n1,n2⟩,hB⟩:=id hW
  obtain ⟨⟨db,f0,hbo,hF⟩,as,hrl,hR⟩:=id hB
  k_mem
  refine ⟨_,_,_,hob,T.aG,T.br,_,rfl,?_⟩
  k_mem
  refine ⟨_,_,hbo,rfl,_,_,_,_,_,rfl,hB,fun s0 ⟨A,hA⟩=>?_⟩
  k_mem
  refine ⟨_,_,_,hA.ob,T.aP,T.cN,_,rfl,?_⟩
  k_mem
  exact ⟨_,.inl (SqL.of hA.go),q⟩
variable (nz:bG K Z.bI "gates" "Works.gates" il gX tY rE)(uJ:aH P w K mg base CX0 2 tY rE gX (r6 K Z))
noncomputable def r8 (K:PySem.W.Frag)(Z:Adr):Sp:=fun vs H Q _=>∃(w bk rl:Addr) (g:Cfg) (n0:bg) (rs:List Row),vs=[.ref w]/\WAt (clZ Z) K H w bk rl g n0 rs/\∀p,H p=none->Q (.ref p) (upd H p (.lst ((ak n0 rs).ws.map V.int)))
include gA kU ax aQ in
theorem Az {f:Addr}{fd:FuncData}(F:Fun K "spots" "Works.spots" iq f fd)(T:Txt K mg Z):aH P w K mg base CX0 2 f fd gZ (r8 K Z):=by
 refine F.ok zK (fun vs H Q E h=>?_) (fun cdv A outer s H vs Q E hr h=>?_)
 ·obtain ⟨w,bk,rl,g,n0,rs,rfl,hW,q⟩:=h
  rfl
 ·obtain ⟨w,bk,rl,g,n0,rs,rfl,hW,q⟩:=h
  refine ⟨_,aj (aw (ba (aK (ba (aK (pv 0) (by rfl)) T.bD ax.M aQ hr.dn ax.b .nil aO) (by rfl)) T.bV gA.M kU hr.dn gA.b .nil aO)),?_⟩
  k_all
  obtain ⟨⟨dx,dl,gl,hob,hdl,hgl,n1,n2⟩,hB⟩:=id hW
  obtain ⟨⟨db,f0,hbo,hF⟩,as,hrl,hR⟩:=id hB
  k_mem
  refine ⟨_,_,_,hob,T.aG,T.br,_,rfl,?_⟩
  k_mem
  refine ⟨_,_,hbo,rfl,_,_,_,_,_,rfl,hB,fun s0 ⟨A,hA⟩=>?_⟩
  k_mem
  refine ⟨_,_,_,hA.ob,T.aP,T.bX,_,rfl,?_⟩
  k_mem
  obtain ⟨dy,hyb⟩:=hA.ya.ob
  k_upd
  exact ⟨_,_,hyb,rfl,_,_,_,_,_,_,rfl,hA.ya,q⟩
variable (nA:bG K Z.bI "spots" "Works.spots" iq gZ tZ rF)(uK:aH P w K mg base CX0 2 tZ rF gZ (r8 K Z))
noncomputable def oy (K:PySem.W.Frag)(Z:Adr):Sp:=fun vs H Q _=>∃(w bk rl:Addr) (g:Cfg) (n0:bg) (rs:List Row) (c:Int),vs=[.ref w,.int c]/\WAt (clZ Z) K H w bk rl g n0 rs/\0<=c/\c < 2/\∀H',av H H'->Q (inC (ak n0 rs).ws c) H'
include bU cY ax aQ in
theorem xP {f:Addr}{fd:FuncData}(F:Fun K "in_cage" "Works.in_cage" fC f fd)(T:Txt K mg Z):aH P w K mg base CX0 2 f fd fv (oy K Z):=by
 refine F.ok xG (fun vs H Q E h=>?_) (fun cdv A outer s H vs Q E hr h=>?_)
 ·obtain ⟨w,bk,rl,g,n0,rs,c,rfl,hW,h0,h1,q⟩:=h
  rfl
 ·obtain ⟨w,bk,rl,g,n0,rs,c,rfl,hW,h0,h1,q⟩:=h
  refine ⟨_,aj (aw (bz (aK (ba (aK (pv 0) (by rfl)) T.bD ax.M aQ hr.dn ax.b .nil aO) (by rfl)) T.bV bU.M cY hr.dn bU.b .nil aO (ae (pv 1) af))),?_⟩
  k_all
  obtain ⟨⟨dx,dl,gl,hob,hdl,hgl,n1,n2⟩,hB⟩:=id hW
  obtain ⟨⟨db,f0,hbo,hF⟩,as,hrl,hR⟩:=id hB
  k_mem
  refine ⟨_,_,_,hob,T.aG,T.br,_,rfl,?_⟩
  k_mem
  refine ⟨_,_,hbo,rfl,_,_,_,_,_,rfl,hB,fun s0 ⟨A,hA⟩=>?_⟩
  k_mem
  refine ⟨_,_,_,hA.ob,T.aP,T.bX,_,rfl,?_⟩
  k_mem
  obtain ⟨dy,hyb⟩:=hA.ya.ob
  k_upd
  exact ⟨_,_,hyb,rfl,_,_,_,_,_,_,_,rfl,hA.ya,h0,h1,q⟩
variable (fF:bG K Z.bI "in_cage" "Works.in_cage" fC fv pG ot)(kH:aH P w K mg base CX0 2 pG ot fv (oy K Z))
def Jq (c r0 sh:Int)(l:Addr)(H:Hp)(i:Nat)(σ:St)(H':Hp):Prop:=∃(ds:List Int) (last:Int) (t u:Option V),σ=[some (.int c),some (.int (2+r0)),some (.int sh),none,some (.ref l),some (.int last),t,u]/\oK ds last/\last<=500 - (2+r0)+i/\ds.length=i/\H'=upd H l (.lst (ds.map V.int))
noncomputable def yC (K:PySem.W.Frag)(Z:Adr):Sp:=fun vs H Q _=>∃(c:Int),vs=[.int c]/\∀(l:Addr) (ds:List Int) (H':Hp),H l=none->av H H'->H' l=some (.lst (ds.map V.int))->cM ds->Q (.ref l) H'
include aR cJ in
theorem FK {f:Addr}{fd:FuncData}(F:Fun K "_law_depths" "_law_depths" lS f fd)(T:Txt K mg Z):aH P w K mg base CX0 2 f fd lJ (yC K Z):=by
 refine F.ok dq (fun vs H Q E h=>?_) (fun cdv A outer s H vs Q E hr h=>?_)
 ·obtain ⟨c,rfl,q⟩:=h
  rfl
 ·obtain ⟨c,rfl,q⟩:=h
  refine ⟨_,ag (aL (i:=1) dq.nd rfl orL (aT cu ai (aF cJ hr.dn (by rfl) aR.m aR.F.kp aR.b .nil aO (ae (pv 0) (ae ai (ae ai af)))))) (ag (aL (i:=2) dq.nd rfl orL (aF cJ hr.dn (by rfl) aR.m aR.F.kp aR.b .nil aO (ae (pv 0) (ae ai (ae ai af))))) (ag (aY (az bM (pv 2) ai (aJ _)) (ag (aL (i:=3) dq.nd rfl (Or.inr rfl) (aT cu ai (aF cJ hr.dn (by rfl) aR.m aR.F.kp aR.b .nil aO (ae (pv 0) (ae ai (ae ai af)))))) (aj (aw (nF ["_law_k","_law_gap"] [none,some 3] (cC (by rfl) T.cU (ae (pv 1) af)) (fun _ _ _ _=>(aM (i:=0) (show (["_law_k","_law_gap"]:List Str).Nodup by decide +kernel) rfl orL)) (fun _ _ _ _=>jS) (fun _ _ _ _=>(aT jO (pv 1) (pv 0))))))) (aD)) (ag (aL (i:=4) dq.nd rfl orL (bB af)) (ag (aL (i:=5) dq.nd rfl orL (jZ fQ ai)) (ag (eJ PassesOwn.never rfl (cC (by rfl) T.cU (ae (pv 1) af)) (aM (i:=6) dq.nd rfl orL) (ag (aL (i:=7) dq.nd rfl orL (aT gJ (aT cu (aT gJ ai (pv 1)) (pv 6)) (pv 5))) (ag (aY (az bM (pv 2) ai (aJ _)) (aj (aL (i:=7) dq.nd rfl orL (aN (xl rfl) (by rfl) T.Lk GC (ae (pv 7) (ae ai af))))) (aD)) (ag (aL (i:=5) dq.nd rfl orL (aT cu (aT cu (pv 5) ai) (aF cJ hr.dn (by rfl) aR.m aR.F.kp aR.b .nil aO (ae (pv 0) (ae (aT cu ai (pv 6)) (ae (pv 7) af)))))) (aj (bK (vv PySem.F.plainAttrs_list PySem.F.slot_list_append PySem.F.type_list_append iJ (pv 4) (ae (pv 5) af)))))))) (ag (aY (oG (az bM (pv 2) ai (aJ _)) (mr (az bM (aF cJ hr.dn (by rfl) aR.m aR.F.kp aR.b .nil aO (ae (pv 0) (ae ai (ae ai af)))) ai (aJ _)))).pt (aj (aw (aT uY (aT uY (bB (ae ai af)) (zi LN (pv 4) (yZ ai) (yZ (jZ fQ ai)))) (bB (ae ai af))))) (aD)) (aj (aw (pv 4))))))))),?_⟩
  k_all
  k_mem
  refine ⟨c,0,5,rfl,by omega,by omega,by omega,fun r0 h0 h0'=>?_⟩
  k_mem
  refine ⟨c,1,4,rfl,by omega,by omega,by omega,fun sh h1 h1'=>?_⟩
  k_mem
  split
  ·refine ⟨c,2,100,rfl,by omega,by omega,by omega,fun r2 h2 h2'=>?_⟩
   k_mem
   refine ⟨by omega,by omega,CY (fun i=>V.int ((1+r2) * (i:Int))) (Nat.le_trans (by omega:(2+r0).toNat<=1000) (by decide)) rfl (fun i hi N q=>?_) (fun p hp=>?_)⟩
   ·k_mem
    rw [Int.zero_add]
    exact ⟨.inl ⟨by omega,by omega⟩,q⟩
   ·refine q p ((List.range (2+r0).toNat).map fun (i:Nat)=>(1+r2) * (i:Int)) _ hp (fun b o e=>?_) ?_ (cM.even (by omega) (by omega) (by omega) (by omega))
    ·rw [aS (aq e hp)];exact e
    ·rw [ah,List.map_map];rfl
  ·refine ⟨by decide,fun l hln=>⟨by omega,by omega,cR (Jq c r0 sh l H) ⟨[],-1,_,_,rfl,oK.nil,by omega,rfl,rfl⟩ ?_ ?_⟩⟩
   ·rintro i σ H' hi ⟨ds,last,t,u,rfl,hR,hla,hlen,rfl⟩
    have l0:=hR.l0
    k_mem
    split
    all_goals
     refine ⟨c,_,_,rfl,by omega,by omega,by (try split)<;>omega,fun r hr0 hr1=>?_⟩
     k_mem
     refine ⟨.inl ⟨rfl,_,SqL.of ah⟩,_,ah,dO (by rw [List.length_map];omega),ds++[last+1+r],last+1+r,_,_,rfl,hR.snoc hr0,?_,by rw [List.length_append,hlen];rfl,?_⟩
     ·(try split at hr1)<;>omega
     ·rw [LC,List.map_append];rfl
   ·rintro σ H' ⟨ds,last,t,u,rfl,hR,hla,hlen,rfl⟩
    have hsh:=hR.shaft (by omega) (by omega) (by omega)
    have hQ0:Q (V.ref l) (upd H l (HO.lst (List.map V.int ds))):=q l ds _ hln ((av.refl H).lay hln) ah hsh
    k_mem
    split
    ·refine ⟨c,8,4,rfl,by omega,by omega,by omega,fun r hr0 hr1=>?_⟩
     k_mem
     split
     ·refine ⟨by decide,fun p1 hp1=>⟨_,SqL.of (upo ah hp1),fun p2 hp2=>⟨_,upo ah hp2,_,ah,?_,fun p3 hp3=>⟨by decide,fun p4 hp4=>⟨_,upo ah hp4,_,ah,?_,fun p5 hp5=>?_⟩⟩⟩⟩⟩
      ·have:=mx (List.map V.int ds) (some 1) (some (-1))
       rw [List.length_map] at this
       exact Nat.le_of_lt (dO (by rw [List.length_singleton];omega))
      ·have:=mx (List.map V.int ds) (some 1) (some (-1))
       rw [List.length_map] at this
       exact Nat.le_of_lt (dO (by rw [List.length_append,List.length_singleton,List.length_singleton];omega))
      ·refine q p5 ([0]++(ds.drop 1).take (ds.length - 1 - 1)++[500]) _ (upn (upn (upn (upn (upn hp5))))) ((((((av.refl H).lay hln).lay hp1).lay hp2).lay hp3).lay hp4 |>.lay hp5) ?_ hsh.ends
       rw [ah,J1 ds hsh.l2,List.map_append,List.map_append]
       rfl
     ·exact hQ0
    ·exact hQ0
variable (ph:Def K mg "_law_depths" lS lJ z8 yu)(AA:aH P w K mg base CX0 2 z8 yu lJ (yC K Z))
def Lv (K:PySem.W.Frag)(c m:Int)(l:Addr)(H:Hp)(i:Nat)(σ:St)(H':Hp):Prop:=av H H'/\∃(as:List Addr) (ls:List Cd) (t u:Option V),σ=[some (.int c),some (.int m),some (.ref l),t,u]/\H' l=some (.lst (as.map V.ref))/\dC cdV K H' as ls/\ls.length=i/\∀x∈ls,fR x
noncomputable def AB (K:PySem.W.Frag)(Z:Adr):Sp:=fun vs H Q _=>∃(c m:Int),vs=[.int c,.int m]/\0<=m/\m<=500/\∀(l:Addr) (as:List Addr) (ls:List Cd) (H':Hp),H l=none->av H H'->H' l=some (.lst (as.map V.ref))->dC cdV K H' as ls->(ls.length:Int)=m->(∀x∈ls,fR x)->Q (.ref l) H'
include aR cJ in
theorem Ht {f:Addr}{fd:FuncData}(F:Fun K "_law_codes" "_law_codes" nT f fd)(T:Txt K mg Z):aH P w K mg base CX0 2 f fd nJ (AB K Z):=by
 refine F.ok oU (fun vs H Q E h=>?_) (fun cdv A outer s H vs Q E hr h=>?_)
 ·obtain ⟨c,m,rfl,h0,h1,q⟩:=h
  rfl
 ·obtain ⟨c,m,rfl,h0,h1,q⟩:=h
  refine ⟨_,ag (aL (i:=2) oU.nd rfl orL (bB af)) (ag (eJ PassesOwn.never rfl (cC (by rfl) T.cU (ae (pv 1) af)) (aM (i:=3) oU.nd rfl orL) (ag (aL (i:=4) oU.nd rfl orL (aT cu ai (aF cJ hr.dn (by rfl) aR.m aR.F.kp aR.b .nil aO (ae (pv 0) (ae (aT jO ai (pv 3)) (ae ai af)))))) (aj (bK (vv PySem.F.plainAttrs_list PySem.F.slot_list_append PySem.F.type_list_append iJ (pv 2) (ae (bq (ae (pv 4) (ae (aT cu ai (aT c9 (aT cu (pv 4) (aF cJ hr.dn (by rfl) aR.m aR.F.kp aR.b .nil aO (ae (pv 0) (ae (aT cu (aT jO ai (pv 3)) ai) (ae ai af))))) ai)) af))) af)))))) (aj (aw (pv 2)))),?_⟩
  k_all
  k_mem
  refine ⟨by decide,fun l hl=>⟨by omega,by omega,?_⟩⟩
  refine cR (Lv K c m l H) ⟨(av.refl H).lay hl,[],[],_,_,rfl,ah,dC.nil,rfl,fun x hx=>by cases hx⟩ ?_ ?_
  ·rintro i σ H' hi ⟨s1,as,ls,t,u,rfl,hl',hT,hlen,hg⟩
   k_mem
   refine ⟨c,2 * (0 + ↑i),9,rfl,by omega,by omega,by omega,fun r1 h2 h3=>?_⟩
   k_mem
   refine ⟨.inl ⟨rfl,_,SqL.of hl'⟩,c,2 * (0 + ↑i)+1,8,rfl,by omega,by omega,by omega,fun r2 h4 h5=>?_⟩
   k_mem
   refine ⟨by decide,fun p2 hp2=>⟨_,upo hl' hp2,dO (by rw [List.length_map,hT.1];omega),?_⟩⟩
   have hl2:=upo (o:=HO.tup [V.int (1+r1),V.int (1+(1+r1+r2) % 9)]) hl' hp2
   refine ⟨(s1.lay hp2).rewr hl,as++[p2],ls++[(1+r1,1+(1+r1+r2) % 9)],_,_,rfl,?_,?_,by rw [List.length_append,hlen];rfl,?_⟩
   ·rw [ah,List.map_append];rfl
   ·exact ((hT.same ((av.refl H').lay hp2)).app (dC.one (SqT.of ah))).rew hl2
   ·intro x hx
    rcases List.mem_append.mp hx with hx | hx
    ·exact hg x hx
    ·rw [List.mem_singleton] at hx
     subst hx
     refine ⟨⟨?_,?_⟩,⟨?_,?_⟩,?_⟩
     ·show 1<=1+r1;omega
     ·show 1+r1<=9;omega
     ·show 1<=1+(1+r1+r2) % 9;omega
     ·show 1+(1+r1+r2) % 9<=9;omega
     ·show 1+r1≠1+(1+r1+r2) % 9;omega
  ·rintro σ H' ⟨s1,as,ls,t,u,rfl,hl',hT,hlen,hg⟩
   k_mem
   exact q l as ls H' hl s1 hl' hT (by omega) hg
variable (sV:Def K mg "_law_codes" nT nJ Ci Ag)(CD:aH P w K mg base CX0 2 Ci Ag nJ (AB K Z))
def Lw (K:PySem.W.Frag)(c m mo:Int)(cn:V)(l:Addr)(H:Hp)(i:Nat)(σ:St)(H':Hp):Prop:=av H H'/\∃(as:List Addr) (ls:List Ld) (t u:Option V),σ=[some (.int c),some (.int m),some (.int mo),some (.ref l),some cn,t,u]/\H' l=some (.lst (as.map V.ref))/\nh K H' as ls/\ls.length=i/\(∀x∈ls,lz m x/\GI x)
theorem two_of {r2 r1 mo:Int}(h0:0<=r1)(h1:r1 < mo+1):∃n:Int,atI [V.int r1,V.int mo] (if decide (r2=3)=true then 1 else 0)=some (V.int n)/\0<=n/\n<=mo:=by
 split
 ·exact ⟨mo,rfl,by omega,by omega⟩
 ·exact ⟨r1,rfl,by omega,by omega⟩
noncomputable def AD (K:PySem.W.Frag)(Z:Adr):Sp:=fun vs H Q _=>∃(c m mo:Int),vs=[.int c,.int m,.int mo]/\0 < m/\0<=mo/\mo<=500/\∀(l:Addr) (as:List Addr) (ls:List Ld) (H':Hp),H l=none->av H H'->H' l=some (.lst (as.map V.ref))->nh K H' as ls->(ls.length:Int)<=mo->(∀x∈ls,lz m x/\GI x)->Q (.ref l) H'
include aR cJ in
theorem Hu {f:Addr}{fd:FuncData}(F:Fun K "_law_loads" "_law_loads" nU f fd)(T:Txt K mg Z):aH P w K mg base CX0 2 f fd nK (AD K Z):=by
 refine F.ok lT (fun vs H Q E h=>?_) (fun cdv A outer s H vs Q E hr h=>?_)
 ·obtain ⟨c,m,mo,rfl,hm,h0,h1,q⟩:=h
  rfl
 ·obtain ⟨c,m,mo,rfl,hm,h0,h1,q⟩:=h
  refine seg 3 (aj (aw (pv 3))) fun zt3 zh3=>?_
  k_all
  intro ze3
  refine seg 2 (ag (eJ PassesOwn.never rfl (cC (by rfl) T.cU (ae (pv 4) af)) (aM (i:=5) lT.nd rfl orL) (ag (aL (i:=6) lT.nd rfl orL (au aI (bB (ae aC (ae aC af))) (aF cJ hr.dn (by rfl) aR.m aR.F.kp aR.b .nil aO (ae (pv 0) (ae (aT cu (aT jO ai (pv 5)) ai) (ae ai af)))))) (aj (bK (vv PySem.F.plainAttrs_list PySem.F.slot_list_append PySem.F.type_list_append iJ (pv 3) (ae (bq (ae (pv 6) (ae (aF cJ hr.dn (by rfl) aR.m aR.F.kp aR.b .nil aO (ae (pv 0) (ae (aT cu (aT jO ai (pv 5)) ai) (ae (pv 1) af)))) (ae (aF cJ hr.dn (by rfl) aR.m aR.F.kp aR.b .nil aO (ae (pv 0) (ae (aT cu (aT jO ai (pv 5)) ai) (ae (pv 1) af)))) af)))) af)))))) zh3) fun zt2 zh2=>?_
  k_all
  intro ze2
  refine seg 1 (ag (aL (i:=4) lT.nd rfl orL (au aI (bB (ae (aF cJ hr.dn (by rfl) aR.m aR.F.kp aR.b .nil aO (ae (pv 0) (ae ai (ae (aT cu (pv 2) ai) af)))) (ae (pv 2) af))) (bC iH (by rfl) T.tM ng (ae (fK bM (aF cJ hr.dn (by rfl) aR.m aR.F.kp aR.b .nil aO (ae (pv 0) (ae ai (ae ai af)))) ai (aJ _)) af)))) zh2) fun zt1 zh1=>?_
  k_all
  intro ze1
  refine ⟨_,ag (aL (i:=3) lT.nd rfl orL (bB af)) zh1,?_⟩
  k_all
  k_mem
  refine ⟨by decide,fun l hl=>?_⟩
  k_upd
  refine ⟨c,0,mo+1,rfl,by omega,by omega,by omega,fun r1 h2 h3=>⟨by decide,fun p hp=>⟨c,94,4,rfl,by omega,by omega,by omega,fun r2 h4 h5=>⟨_,SqL.of ah,?_⟩⟩⟩⟩
  obtain ⟨n,e,hn0,hn1⟩:=two_of (r2:=r2) h2 h3
  k_upd
  refine ⟨_,e,?_⟩
  k_mem
  refine ⟨by omega,by omega,?_⟩
  k_upd
  refine cR (Lw K c m mo (.int n) l H) ⟨(av.refl H).lay hl |>.lay hp,[],[],none,none,rfl,upo ah hp,nh.nil,rfl,fun x hx=>by cases hx⟩ ?_ ?_
  ·rintro i σ H' hi ⟨s1,as,ls,t,u,rfl,hl',hT,hlen,hg⟩
   k_mem
   refine ⟨by decide,fun p1 hp1=>?_⟩
   k_upd
   refine ⟨c,3 * (0 + ↑i)+1,2,rfl,by omega,by omega,by omega,fun r3 h6 h7=>?_⟩
   obtain ⟨kd,hk,ek⟩:=Kf h6 h7
   k_mem
   refine ⟨_,SqL.of ah,_,ek,?_⟩
   k_mem
   refine ⟨.inl ⟨rfl,_,SqL.of (upo hl' hp1)⟩,c,3 * (0 + ↑i)+2,m,rfl,by omega,by omega,by omega,fun r4 h8 h9=>?_⟩
   k_upd
   refine ⟨c,3 * (0 + ↑i)+3,m,rfl,by omega,by omega,by omega,fun r5 h10 h11=>?_⟩
   k_mem
   refine ⟨by decide,fun p2 hp2=>⟨_,upo (upo hl' hp1) hp2,dO (by rw [List.length_map,hT.1];omega),?_⟩⟩
   have hl2:=upo (o:=HO.tup [V.str kd,V.int r4,V.int r5]) (upo (o:=HO.lst [V.str (Str.ofString "men"),V.str (Str.ofString "coal")]) hl' hp1) hp2
   k_upd
   refine ⟨(s1.lay hp1 |>.lay hp2).rewr hl,as++[p2],ls++[(kd,r4,r5)],_,_,rfl,?_,?_,by rw [List.length_append,hlen];rfl,?_⟩
   ·rw [ah,List.map_append];rfl
   ·exact ((hT.same ((av.refl H').lay hp1 |>.lay hp2)).app (nh.one (SqT.of ah))).rew hl2
   ·intro x hx
    rcases List.mem_append.mp hx with hx | hx
    ·exact hg x hx
    ·rw [List.mem_singleton] at hx
     subst hx
     k_upd
     exact ⟨⟨⟨h8,h9⟩,⟨h10,h11⟩⟩,hk⟩
  ·rintro σ H' ⟨s1,as,ls,t,u,rfl,hl',hT,hlen,hg⟩
   k_mem
   exact q l as ls H' hl s1 hl' hT (by omega) hg
variable (sW:Def K mg "_law_loads" nU nK Cj Ah)(CF:aH P w K mg base CX0 2 Cj Ah nK (AD K Z))
noncomputable def rwS:Rw->Str
 | .ul=>"UnknownLoad"
 | .nt=>"NotThere"
 | .ct=>"CageTaken"
 | .gs=>"GateShut"
 | .ce=>"CageEmpty"
 | _=>"other"
noncomputable def MX:Option Rw->Str
 | none=>""
 | some r=>rwS r
noncomputable def mS (K:PySem.W.Frag)(Z:Adr):Sp:=fun vs H Q _=>∃(p dl cl ll a dd:Addr) (g:Cfg) (lds:List Ld) (n:bg) (t:Int) (d:Dd),vs=[.ref p,.ref a,.ref dd]/\fh K H p dl cl ll g lds/\jL g/\eD g n/\kP K H a (n,t)/\SqT K H dd (ddV d)/\yM d/\((∃c,d=.unload c)\/∃k c,d=.load k c)/\∀H',av H H'->Q (.str (MX (dD g n d))) H'
include fi o9 in
theorem wM {f:Addr}{fd:FuncData}(F:Fun K "_law_load_refusal" "_law_load_refusal" eS f fd)(T:Txt K mg Z):aH P w K mg base CX0 2 f fd eN (mS K Z):=by
 refine F.ok jz (fun vs H Q E h=>?_) (fun cdv A outer s H vs Q E hr h=>?_)
 ·obtain ⟨p,dl,cl,ll,a,dd,g,lds,n,t,d,rfl,hP,hg,hn,hSt,hD,ok,hd,q⟩:=h
  rfl
 ·obtain ⟨p,dl,cl,ll,a,dd,g,lds,n,t,d,rfl,hP,hg,hn,hSt,hD,ok,hd,q⟩:=h
  refine seg 6 (aj (aw (au aI (bB (ae aC (ae aC af))) (bC iH (by rfl) T.tM ng (ae (au ay (au ay (pv 1) ai) (pv 4)) af))))) fun zt6 zh6=>?_
  k_all
  intro ze6
  refine seg 5 (ag (aY (az nE (aT cu ai (au ay (pv 2) ai)) (pv 3) (by rfl)) (aj (aw aC)) (aD)) zh6) fun zt5 zh5=>?_
  k_all
  intro ze5
  refine seg 4 (ag (aY (qf (az nC (pv 4) ai (aJ _)) (mZ (az tE (au ay (pv 3) (au ay (pv 2) ai)) (pv 4) (aJ _)))).pt (aj (aw aC)) (aD)) zh5) fun zt4 zh4=>?_
  k_all
  intro ze4
  refine seg 3 (ag (aY (qf (az nC (au ay (pv 2) ai) ai (aJ _)) (mZ (az ze (au ay (pv 2) ai) (aN aE (by rfl) T.cA bF (ae (pv 3) af)) (aJ _)))).pt (aj (aw aC)) (aD)) zh4) fun zt3 zh3=>?_
  k_all
  intro ze3
  refine seg 2 (ag (aY (az bM (au ay (pv 2) ai) aC (aJ _)) (ag (aY (az kO (aT cu ai (au ay (pv 2) ai)) (pv 3) (by rfl)) (aj (aw aC)) (aD)) (ag (aY (az nC (pv 4) ai (aJ _)) (aj (aw aC)) (aD)) (aj (aw (au aI (bB (ae aC (ae aC af))) (bC iH (by rfl) T.tM ng (ae (au ay (au ay (pv 1) ai) (pv 4)) af))))))) (aD)) zh3) fun zt2 zh2=>?_
  k_all
  intro ze2
  refine seg 1 (ag (aL (i:=4) jz.nd rfl orL (aF o9 hr.dn (by rfl) fi.m fi.F.kp fi.b .nil aO (ae (au aI (pv 0) ai) (ae (au ay (pv 2) (jZ fQ ai)) (ae (au ay (pv 1) ai) af))))) zh2) fun zt1 zh1=>?_
  k_all
  intro ze1
  refine ⟨_,ag (aL (i:=3) jz.nd rfl orL (au ay (pv 1) ai)) zh1,?_⟩
  k_all
  obtain ⟨gt,lt,ht,dt,h1,h2,h3,h4,h5⟩:=hSt.un
  obtain ⟨hp,hdl,_,_,_⟩:=id hP
  have gl:=hn.gl
  have wl:=hn.wl
  have k30:=hg.k30
  have gate:∀(l:Int) (H1:Hp),av H H1->0<=l->l < g.ds.length->(n.gates.getD l.toNat false=true->∀H',av H H'->Q (.str "") H')->(n.gates.getD l.toNat false=false->∀H',av H H'->Q (.str "GateShut") H')->∀p1,H1 p1=none->Q (if n.gates.getD l.toNat false=true then V.str (Str.ofString "") else V.str (Str.ofString "GateShut")) (upd H1 p1 (HO.lst [V.str (Str.ofString "GateShut"),V.str (Str.ofString "")])):=by
   intro l H1 s1 l0 l1 qy qn p1 hp1
   cases hb:n.gates.getD l.toNat false with
   | true=>exact qy hb _ (s1.lay hp1)
   | false=>exact qn hb _ (s1.lay hp1)
  k_mem
  refine ⟨_,h1,_,rfl,?_⟩
  k_mem
  refine ⟨_,SqL.of hp,_,rfl,?_⟩
  k_mem
  rcases hd with ⟨c,rfl⟩ | ⟨k,c,rfl⟩
  ·have okc:0<=c/\c < 2:=ok
   k_upd
   refine ⟨_,hD,_,rfl,_,h1,_,rfl,?_⟩
   k_mem
   refine ⟨dl,g.ds,c,n.place,rfl,SqL.of hdl,hg.sh,okc.1,okc.2,fun H1 s1=>?_⟩
   k_mem
   refine ⟨_,s1.tup hD,_,rfl,?_⟩
   k_mem
   rw [if_pos rfl]
   k_upd
   refine ⟨_,s1.tup hD,_,rfl,?_⟩
   k_mem
   refine ⟨_,.inr (SqT.of (s1 _ _ h3)),rfl,by simp [cx],?_⟩
   rw [oM]
   k_mem
   split
   ·rename_i hin
    have q1:=q H1 s1
    rw [show dD g n (.unload c)=some .ce from if_pos hin] at q1
    k_upd
    exact q1
   ·rename_i hin
    have hin':10+c∈n.ws:=Decidable.not_not.mp hin
    k_upd
    split
    ·rename_i hl
     have q1:=q H1 s1
     rw [show dD g n (.unload c)=some .nt from (if_neg hin).trans (by rw [Io hl])] at q1
     k_upd
     exact q1
    ·rename_i hl
     obtain ⟨l,el,el2⟩:=Ds hl
     obtain ⟨l0,l1,_⟩:=fg el
     rw [el2]
     k_upd
     refine ⟨by decide,fun p1 hp1=>?_⟩
     have f2:=s1.lay (o:=HO.lst [V.str (Str.ofString "GateShut"),V.str (Str.ofString "")]) hp1
     k_upd
     refine ⟨_,f2.tup h1,_,rfl,?_⟩
     k_mem
     refine ⟨_,f2.tup h2,_,kB l0 (by show l < (n.gates.length:Int);omega),?_⟩
     k_mem
     refine ⟨_,SqL.of ah,_,BY,?_⟩
     refine gate l H1 s1 l0 l1 (fun hb H' s=>?_) (fun hb H' s=>?_) p1 hp1
     ·have q1:=q H' s
      rw [tH hin' el hb] at q1
      k_upd
      exact q1
     ·have q1:=q H' s
      rw [show dD g n (.unload c)=some .gs from (if_neg hin).trans (by rw [el];exact if_neg (by rw [hb];decide))] at q1
      k_upd
      exact q1
  ·have okc:0<=c/\c < 2:=ok
   k_upd
   refine ⟨_,hD,_,rfl,_,h1,_,rfl,?_⟩
   k_mem
   refine ⟨dl,g.ds,c,n.place,rfl,SqL.of hdl,hg.sh,okc.1,okc.2,fun H1 s1=>?_⟩
   k_mem
   refine ⟨_,s1.tup hD,_,rfl,?_⟩
   k_mem
   rw [if_neg (by decide)]
   k_upd
   refine ⟨_,s1.tup hD,_,rfl,?_⟩
   k_mem
   split
   ·rename_i hk
    have q1:=q H1 s1
    rw [show dD g n (.load k c)=some .ul from if_pos (fun z=>by omega)] at q1
    k_upd
    exact q1
   rename_i hk
   k_upd
   refine ⟨_,s1.tup hD,_,rfl,_,.inr (SqT.of (s1 _ _ h3)),?_⟩
   rw [List.length_map]
   k_mem
   split
   ·rename_i hk2
    have q1:=q H1 s1
    rw [show dD g n (.load k c)=some .ul from if_pos (fun z=>by omega)] at q1
    k_upd
    exact q1
   rename_i hk2
   have hku:¬unk k n.ws.length:=fun z=>z ⟨by omega,by omega⟩
   k_upd
   split
   ·rename_i hl
    have q1:=q H1 s1
    rw [show dD g n (.load k c)=some .nt from (if_neg hku).trans (by rw [Io hl])] at q1
    k_upd
    exact q1
   rename_i hl
   obtain ⟨l,el,el2⟩:=Ds hl
   obtain ⟨l0,l1,_⟩:=fg el
   rw [el2]
   k_upd
   refine ⟨_,s1.tup hD,_,rfl,?_⟩
   k_mem
   refine ⟨_,SqT.of (s1 _ _ h3),_,dS (by omega) (by omega),?_⟩
   k_mem
   split
   ·rename_i hne
    have q1:=q H1 s1
    rw [show dD g n (.load k c)=some .nt from (if_neg hku).trans (by rw [el];exact if_pos hne)] at q1
    k_upd
    exact q1
   rename_i hne
   have heq:n.ws.getD k.toNat 0=l:=Decidable.not_not.mp hne
   k_upd
   refine ⟨_,s1.tup hD,_,rfl,?_⟩
   k_mem
   refine ⟨_,.inr (SqT.of (s1 _ _ h3)),rfl,by simp [cx],?_⟩
   rw [oM]
   k_mem
   split
   ·rename_i hin
    have q1:=q H1 s1
    rw [show dD g n (.load k c)=some .ct from (if_neg hku).trans (by rw [el];exact (if_neg hne).trans (if_pos hin))] at q1
    k_upd
    exact q1
   rename_i hin
   k_upd
   refine ⟨by decide,fun p1 hp1=>?_⟩
   have f2:=s1.lay (o:=HO.lst [V.str (Str.ofString "GateShut"),V.str (Str.ofString "")]) hp1
   k_upd
   refine ⟨_,f2.tup h1,_,rfl,?_⟩
   k_mem
   refine ⟨_,f2.tup h2,_,kB l0 (by show l < (n.gates.length:Int);omega),?_⟩
   k_mem
   refine ⟨_,SqL.of ah,_,BY,?_⟩
   refine gate l H1 s1 l0 l1 (fun hb H' s=>?_) (fun hb H' s=>?_) p1 hp1
   ·have q1:=q H' s
    rw [yb (by omega) (by omega) el heq hin hb] at q1
    k_upd
    exact q1
   ·have q1:=q H' s
    rw [show dD g n (.load k c)=some .gs from (if_neg hku).trans (by rw [el];exact (if_neg hne).trans ((if_neg hin).trans (if_neg (by rw [hb];decide))))] at q1
    k_upd
    exact q1
variable (dA:Def K mg "_law_load_refusal" eS eN oh mI)(gC:aH P w K mg base CX0 2 oh mI eN (mS K Z))
noncomputable def CG (K:PySem.W.Frag)(Z:Adr):Sp:=fun vs H Q _=>∃(p dl cl ll a dd:Addr) (g:Cfg) (lds:List Ld) (n:bg) (t:Int) (d:Dd),vs=[.ref p,.ref a,.ref dd]/\fh K H p dl cl ll g lds/\jL g/\eD g n/\kP K H a (n,t)/\SqT K H dd (ddV d)/\yM d/\dD g n d=none/\∀b H',av H H'->kP K H' b (dm g n d,t+xw g n d)->Q (.ref b) H'
include fi o9 iw wH sR Cz sS CA sU CC in
theorem Jr {f:Addr}{fd:FuncData}(F:Fun K "_law_next" "_law_next" qH f fd)(T:Txt K mg Z):aH P w K mg base CX0 2 f fd qx (CG K Z):=by
 refine F.ok cD (fun vs H Q E h=>?_) (fun cdv A outer s H vs Q E hr h=>?_)
 ·obtain ⟨p,dl,cl,ll,a,dd,g,lds,n,t,d,rfl,hP,hg,hn,hSt,hD,ok,hrf,q⟩:=h
  rfl
 ·obtain ⟨p,dl,cl,ll,a,dd,g,lds,n,t,d,rfl,hP,hg,hn,hSt,hD,ok,hrf,q⟩:=h
  refine seg 8 (aj (aw (bq (ae (pv 3) (ae (pv 4) (ae (pv 5) (ae (pv 6) (ae (pv 7) (ae (pv 9) af))))))))) fun zt8 zh8=>?_
  k_all
  intro ze8
  refine seg 7 (ag (aY (az bM (au ay (pv 2) ai) aC (aJ _)) (ag (aL (i:=11) cD.nd rfl orL (au aI (au aI (pv 0) ai) (au ay (pv 2) ai))) (ag (aL (i:=12) cD.nd rfl orL (au aI (bB (ae (pv 11) (ae (aT gJ (au aI (au aI (pv 0) ai) (jZ fQ ai)) (pv 11)) af))) (au ay (pv 2) ai))) (ag (aL (i:=9) cD.nd rfl orL (aT cu (pv 8) (aF Cz hr.dn (by rfl) sR.m sR.F.kp sR.b .nil aO (ae (aN Ei (by rfl) T.NP JW (ae (aT gJ (pv 12) (pv 3)) af)) (ae (aF CA hr.dn (by rfl) sS.m sS.F.kp sS.b .nil aO (ae (pv 0) (ae (pv 5) af))) af))))) (aj (aL (i:=3) cD.nd rfl orL (pv 12)))))) (aD)) zh8) fun zt7 zh7=>?_
  k_all
  intro ze7
  refine seg 6 (ag (aY (az bM (au ay (pv 2) ai) aC (aJ _)) (aj (aL (i:=7) cD.nd rfl orL (bC tG (by rfl) T.vQ ql (ae (aN GO (by rfl) T.Ll IS (ae (aT LX (pv 7) (bq (ae (au ay (pv 2) ai) af))) af)) af)))) (aD)) zh7) fun zt6 zh6=>?_
  k_all
  intro ze6
  refine seg 5 (ag (aY (az bM (au ay (pv 2) ai) aC (aJ _)) (ag (aL (i:=10) cD.nd rfl orL (aF o9 hr.dn (by rfl) fi.m fi.F.kp fi.b .nil aO (ae (au aI (pv 0) ai) (ae (au ay (pv 2) ai) (ae (pv 3) af))))) (aj (aL (i:=5) cD.nd rfl orL (aF wH hr.dn (by rfl) iw.m iw.F.kp iw.b .nil aO (ae (pv 5) (ae (OC PySem.F.plainAttrs_tuple PySem.F.slot_tuple_index PySem.F.type_tuple_index Jb (pv 5) (ae (aT cu ai (au ay (pv 2) ai)) af)) (ae (pv 10) af))))))) (aD)) zh6) fun zt5 zh5=>?_
  k_all
  intro ze5
  refine seg 4 (ag (aY (az bM (au ay (pv 2) ai) aC (aJ _)) (aj (aL (i:=5) cD.nd rfl orL (aF wH hr.dn (by rfl) iw.m iw.F.kp iw.b .nil aO (ae (pv 5) (ae (au ay (pv 2) ai) (ae (aT cu ai (au ay (pv 2) ai)) af)))))) (aD)) zh5) fun zt4 zh4=>?_
  k_all
  intro ze4
  refine seg 3 (ag (aY (qf (az bM (au ay (pv 2) ai) aC (aJ _)) (mZ (az bM (au ay (pv 2) ai) aC (aJ _)))).pt (aj (aL (i:=4) cD.nd rfl orL (aF wH hr.dn (by rfl) iw.m iw.F.kp iw.b .nil aO (ae (pv 4) (ae (au ay (pv 2) ai) (ae (fK bM (au ay (pv 2) ai) aC (aJ _)) af)))))) (aD)) zh4) fun zt3 zh3=>?_
  k_all
  intro ze3
  refine seg 2 (ag (aL (i:=9) cD.nd rfl orL (aT cu (pv 8) ai)) zh3) fun zt2 zh2=>?_
  k_all
  intro ze2
  refine seg 1 (ag (aL (i:=6) cD.nd rfl orL (aF CC hr.dn (by rfl) sU.m sU.F.kp sU.b .nil aO (ae (pv 6) (ae (pv 2) af)))) zh2) fun zt1 zh1=>?_
  k_all
  intro ze1
  refine ⟨_,ag (lu (pv 1) (kA rfl (aV (aM (i:=3) cD.nd rfl orL) (aV (aM (i:=4) cD.nd rfl orL) (aV (aM (i:=5) cD.nd rfl orL) (aV (aM (i:=6) cD.nd rfl orL) (aV (aM (i:=7) cD.nd rfl orL) (aV (aM (i:=8) cD.nd rfl orL) fe)))))))) zh1,?_⟩
  k_all
  obtain ⟨gt,lt,ht,dt,h1,h2,h3,h4,h5⟩:=hSt
  obtain ⟨hp,hdl,_,⟨bs,hll,hT2⟩,ek⟩:=id hP
  have l2:=hg.sh.l2
  have l6:=hg.sh.l6
  have gl:=hn.gl
  have wl:=hn.wl
  have k30:=hg.k30
  have ekl:lds.length=g.ks.length:=by rw [ek,List.length_map]
  k_mem
  refine ⟨_,h1,rfl,?_⟩
  k_mem
  refine ⟨ht,dd,g,n,d,rfl,h4,hD,hrf,fun hh H1 s1 hH=>?_⟩
  have hD1:=s1.tup hD
  k_mem
  cases d with
  | ring l s=>
   refine ⟨_,hD1,_,rfl,?_⟩
   k_mem
   rw [if_neg (by decide)]
   k_upd
   refine ⟨_,hD1,_,rfl,?_⟩
   k_mem
   rw [if_neg (by decide)]
   k_upd
   refine ⟨_,hD1,_,rfl,?_⟩
   k_mem
   rw [if_neg (by decide)]
   k_upd
   refine ⟨_,hD1,_,rfl,?_⟩
   k_mem
   rw [if_neg (by decide)]
   k_upd
   refine ⟨_,hD1,_,rfl,?_⟩
   k_mem
   rw [if_neg (by decide)]
   k_upd
   refine ⟨_,hD1,_,rfl,?_⟩
   k_mem
   rw [if_neg (by decide)]
   k_upd
   refine ⟨by decide,fun b hb=>q b _ ((s1).lay hb) ⟨gt,lt,hh,dt,SqT.of ah,?_,?_,?_,?_⟩⟩
   ·exact (s1.lay hb).tup h2
   ·exact upo (s1 _ _ h3) hb
   ·exact ((av.refl H1).lay hb).tup hH
   ·exact (s1.lay hb).tup h5
  | rept s=>
   refine ⟨_,hD1,_,rfl,?_⟩
   k_mem
   rw [if_neg (by decide)]
   k_upd
   refine ⟨_,hD1,_,rfl,?_⟩
   k_mem
   rw [if_neg (by decide)]
   k_upd
   refine ⟨_,hD1,_,rfl,?_⟩
   k_mem
   rw [if_neg (by decide)]
   k_upd
   refine ⟨_,hD1,_,rfl,?_⟩
   k_mem
   rw [if_neg (by decide)]
   k_upd
   refine ⟨_,hD1,_,rfl,?_⟩
   k_mem
   rw [if_neg (by decide)]
   k_upd
   refine ⟨_,hD1,_,rfl,?_⟩
   k_mem
   rw [if_neg (by decide)]
   k_upd
   refine ⟨by decide,fun b hb=>q b _ ((s1).lay hb) ⟨gt,lt,hh,dt,SqT.of ah,?_,?_,?_,?_⟩⟩
   ·exact (s1.lay hb).tup h2
   ·exact upo (s1 _ _ h3) hb
   ·exact ((av.refl H1).lay hb).tup hH
   ·exact (s1.lay hb).tup h5
  | opn l=>
   obtain ⟨hl,_⟩:=LY hrf
   k_upd
   refine ⟨_,hD1,_,rfl,?_⟩
   k_mem
   rw [if_pos rfl]
   k_upd
   refine ⟨_,hD1,_,rfl,_,hD1,_,rfl,?_⟩
   k_mem
   refine ⟨gt,n.gates.map V.bl,l,.bl true,?_,s1.tup h2,hl.1,by rw [List.length_map];omega,by rw [List.length_map];omega,fun g2 H2 s2 hg2=>?_⟩
   ·rfl
   have s12:=s1.trans s2
   have hD2:=s2.tup hD1
   k_mem
   refine ⟨_,hD2,_,rfl,?_⟩
   k_mem
   rw [if_neg (by decide)]
   k_upd
   refine ⟨_,hD2,_,rfl,?_⟩
   k_mem
   rw [if_neg (by decide)]
   k_upd
   refine ⟨_,hD2,_,rfl,?_⟩
   k_mem
   rw [if_neg (by decide)]
   k_upd
   refine ⟨_,hD2,_,rfl,?_⟩
   k_mem
   rw [if_neg (by decide)]
   k_upd
   refine ⟨by decide,fun b hb=>q b _ ((s12).lay hb) ⟨g2,lt,hh,dt,SqT.of ah,?_,?_,?_,?_⟩⟩
   ·exact SqT.of (by rw [upo hg2 hb,vD];rfl)
   ·exact upo (s12 _ _ h3) hb
   ·exact (s2.lay hb).tup hH
   ·exact (s12.lay hb).tup h5
  | sht l=>
   obtain ⟨hl,_⟩:=LZ hrf
   k_upd
   refine ⟨_,hD1,_,rfl,?_⟩
   k_mem
   rw [if_neg (by decide)]
   k_upd
   refine ⟨_,hD1,_,rfl,?_⟩
   k_mem
   rw [if_pos rfl]
   k_upd
   refine ⟨_,hD1,_,rfl,_,hD1,_,rfl,?_⟩
   k_mem
   refine ⟨gt,n.gates.map V.bl,l,.bl false,?_,s1.tup h2,hl.1,by rw [List.length_map];omega,by rw [List.length_map];omega,fun g2 H2 s2 hg2=>?_⟩
   ·rfl
   have s12:=s1.trans s2
   have hD2:=s2.tup hD1
   k_mem
   refine ⟨_,hD2,_,rfl,?_⟩
   k_mem
   rw [if_neg (by decide)]
   k_upd
   refine ⟨_,hD2,_,rfl,?_⟩
   k_mem
   rw [if_neg (by decide)]
   k_upd
   refine ⟨_,hD2,_,rfl,?_⟩
   k_mem
   rw [if_neg (by decide)]
   k_upd
   refine ⟨_,hD2,_,rfl,?_⟩
   k_mem
   rw [if_neg (by decide)]
   k_upd
   refine ⟨by decide,fun b hb=>q b _ ((s12).lay hb) ⟨g2,lt,hh,dt,SqT.of ah,?_,?_,?_,?_⟩⟩
   ·exact SqT.of (by rw [upo hg2 hb,vD];rfl)
   ·exact upo (s12 _ _ h3) hb
   ·exact (s2.lay hb).tup hH
   ·exact (s12.lay hb).tup h5
  | load k c=>
   obtain ⟨hk,l,hl,_,_,_⟩:=EC hrf
   k_upd
   refine ⟨_,hD1,_,rfl,?_⟩
   k_mem
   rw [if_neg (by decide)]
   k_upd
   refine ⟨_,hD1,_,rfl,?_⟩
   k_mem
   rw [if_neg (by decide)]
   k_upd
   refine ⟨_,hD1,_,rfl,?_⟩
   k_mem
   rw [if_pos rfl]
   k_upd
   refine ⟨_,hD1,_,rfl,_,hD1,_,rfl,?_⟩
   k_mem
   refine ⟨lt,n.ws.map V.int,k,.int (10+c),rfl,SqT.of (s1 _ _ h3),hk.1,by rw [List.length_map];omega,by rw [List.length_map];omega,fun w2 H2 s2 hw2=>?_⟩
   have s12:=s1.trans s2
   have hD2:=s2.tup hD1
   k_mem
   refine ⟨_,hD2,_,rfl,?_⟩
   k_mem
   rw [if_neg (by decide)]
   k_upd
   refine ⟨_,hD2,_,rfl,?_⟩
   k_mem
   rw [if_neg (by decide)]
   k_upd
   refine ⟨_,hD2,_,rfl,?_⟩
   k_mem
   rw [if_neg (by decide)]
   k_upd
   refine ⟨by decide,fun b hb=>q b _ ((s12).lay hb) ⟨gt,w2,hh,dt,SqT.of ah,?_,?_,?_,?_⟩⟩
   ·exact (s12.lay hb).tup h2
   ·rw [upo hw2 hb,vD];rfl
   ·exact (s2.lay hb).tup hH
   ·exact (s12.lay hb).tup h5
  | unload c=>
   obtain ⟨hin,l,hl,_⟩:=zt hrf
   have hix:=xx hin
   k_upd
   refine ⟨_,hD1,_,rfl,?_⟩
   k_mem
   rw [if_neg (by decide)]
   k_upd
   refine ⟨_,hD1,_,rfl,?_⟩
   k_mem
   rw [if_neg (by decide)]
   k_upd
   refine ⟨_,hD1,_,rfl,?_⟩
   k_mem
   rw [if_neg (by decide)]
   k_upd
   refine ⟨_,hD1,_,rfl,?_⟩
   k_mem
   rw [if_pos rfl]
   k_upd
   refine ⟨_,SqL.of (s1 _ _ hp),_,rfl,_,hD1,_,rfl,?_⟩
   k_mem
   refine ⟨dl,g.ds,c,n.place,rfl,SqL.of (s1 _ _ hdl),hg.sh,ok.1,ok.2,fun H2 s2=>?_⟩
   have s12:=s1.trans s2
   have hD2:=s2.tup hD1
   k_mem
   refine ⟨⟨_,_,rfl,s12 _ _ h3⟩,_,hD2,_,rfl,?_⟩
   k_mem
   refine ⟨_,n.ws,_,rfl,rfl,s12 _ _ h3,hin,?_⟩
   k_mem
   refine ⟨lt,n.ws.map V.int,_,.int ((ck g.ds n.place c).getD (-1)),rfl,SqT.of (s12 _ _ h3),Int.natCast_nonneg _,by rw [List.length_map];omega,by rw [List.length_map];omega,fun w2 H3 s3 hw2=>?_⟩
   have s13:=s12.trans s3
   have hD3:=s3.tup hD2
   k_mem
   refine ⟨_,hD3,_,rfl,?_⟩
   k_mem
   rw [if_neg (by decide)]
   k_upd
   refine ⟨_,hD3,_,rfl,?_⟩
   k_mem
   rw [if_neg (by decide)]
   k_upd
   refine ⟨by decide,fun b hb=>q b _ ((s13).lay hb) ⟨gt,w2,hh,dt,SqT.of ah,?_,?_,?_,?_⟩⟩
   ·exact (s13.lay hb).tup h2
   ·rw [upo hw2 hb,Int.toNat_natCast,vD];rfl
   ·exact ((s2.trans s3).lay hb).tup hH
   ·exact (s13.lay hb).tup h5
  | fail l=>
   obtain ⟨hl,hf⟩:=Kn hrf
   have fl:=hn.fl
   have dlen:=xB n.fs
   k_upd
   refine ⟨_,hD1,_,rfl,?_⟩
   k_mem
   rw [if_neg (by decide)]
   k_upd
   refine ⟨_,hD1,_,rfl,?_⟩
   k_mem
   rw [if_neg (by decide)]
   k_upd
   refine ⟨_,hD1,_,rfl,?_⟩
   k_mem
   rw [if_neg (by decide)]
   k_upd
   refine ⟨_,hD1,_,rfl,?_⟩
   k_mem
   rw [if_neg (by decide)]
   k_upd
   refine ⟨_,hD1,_,rfl,?_⟩
   k_mem
   rw [if_pos rfl]
   k_upd
   refine ⟨_,hD1,_,rfl,?_⟩
   k_mem
   refine ⟨by decide,fun p1 hp1=>⟨_,(s1.lay hp1).tup h5,_,SqT.of ah,by rw [List.length_map];show (dE n.fs).length+1<=1000;omega,fun p2 H2 s2 hc=>?_⟩⟩
   have s12:=(s1.lay (o:=HO.tup [V.int l]) hp1).trans s2
   have f12:=((av.refl H1).lay (o:=HO.tup [V.int l]) hp1).trans s2
   k_upd
   refine ⟨p2,dE n.fs++[l],rfl,by rw [List.map_append];exact hc,by rw [List.length_append,List.length_singleton];omega,fun l1 ms hl1 hpm hpw=>?_⟩
   rw [Jd hl.1 (by omega) hf hpm hpw]
   k_mem
   refine ⟨_,.inl ⟨SqL.of ah,fun d2 hd2=>?_⟩⟩
   have s13:=(s12.lay (o:=HO.lst ((dE (n.fs.set l.toNat true)).map V.int)) hl1).lay (o:=HO.tup ((dE (n.fs.set l.toNat true)).map V.int)) hd2
   have f13:=(f12.lay (o:=HO.lst ((dE (n.fs.set l.toNat true)).map V.int)) hl1).lay (o:=HO.tup ((dE (n.fs.set l.toNat true)).map V.int)) hd2
   have hd3:upd (upd H2 l1 (HO.lst ((dE (n.fs.set l.toNat true)).map V.int))) d2 (HO.tup ((dE (n.fs.set l.toNat true)).map V.int)) d2=some (HO.tup ((dE (n.fs.set l.toNat true)).map V.int)):=ah
   generalize upd (upd H2 l1 (HO.lst ((dE (n.fs.set l.toNat true)).map V.int))) d2 (HO.tup ((dE (n.fs.set l.toNat true)).map V.int))=H3 at *
   have hD3:=f13.tup hD1
   k_mem
   refine ⟨_,hD3,_,rfl,?_⟩
   k_mem
   rw [if_neg (by decide)]
   k_upd
   refine ⟨by decide,fun b hb=>q b _ ((s13).lay hb) ⟨gt,lt,hh,d2,SqT.of ah,?_,?_,?_,?_⟩⟩
   ·exact (s13.lay hb).tup h2
   ·exact upo (s13 _ _ h3) hb
   ·exact (f13.lay hb).tup hH
   ·exact SqT.of (upo hd3 hb)
  | wind c l k=>
   obtain ⟨hl,_,harm⟩:=zu hrf
   have okc:0<=c/\c < 2:=ok.1
   k_upd
   refine ⟨_,hD1,_,rfl,?_⟩
   k_mem
   rw [if_neg (by decide)]
   k_upd
   refine ⟨_,hD1,_,rfl,?_⟩
   k_mem
   rw [if_neg (by decide)]
   k_upd
   refine ⟨_,hD1,_,rfl,?_⟩
   k_mem
   rw [if_neg (by decide)]
   k_upd
   refine ⟨_,hD1,_,rfl,?_⟩
   k_mem
   rw [if_neg (by decide)]
   k_upd
   refine ⟨_,hD1,_,rfl,?_⟩
   k_mem
   rw [if_neg (by decide)]
   k_upd
   refine ⟨_,hD1,_,rfl,?_⟩
   k_mem
   rw [if_pos rfl]
   k_upd
   refine ⟨_,SqL.of (s1 _ _ hp),_,rfl,?_⟩
   k_mem
   refine ⟨_,hD1,_,rfl,?_⟩
   k_mem
   refine ⟨_,SqL.of (s1 _ _ hdl),_,dS hl.1 hl.2,?_⟩
   k_mem
   refine ⟨_,SqL.of (s1 _ _ hp),_,rfl,?_⟩
   k_mem
   refine ⟨_,SqL.of (s1 _ _ hdl),_,GF (by omega),?_⟩
   k_mem
   refine ⟨by decide,fun p1 hp1=>⟨_,((av.refl H1).lay hp1).tup hD1,_,rfl,?_⟩⟩
   k_mem
   refine ⟨_,SqL.of ah,_,two_deep okc.1 okc.2,?_⟩
   have f2:=(av.refl H1).lay (o:=HO.lst [V.int (g.ds.getD l.toNat 0),V.int (cQ g.ds - g.ds.getD l.toNat 0)]) hp1
   have s2:=s1.lay (o:=HO.lst [V.int (g.ds.getD l.toNat 0),V.int (cQ g.ds - g.ds.getD l.toNat 0)]) hp1
   generalize upd H1 p1 (HO.lst [V.int (g.ds.getD l.toNat 0),V.int (cQ g.ds - g.ds.getD l.toNat 0)])=H2 at *
   rw [show (if c=0 then g.ds.getD l.toNat 0 else cQ g.ds - g.ds.getD l.toNat 0)=kC g.ds c l from rfl]
   k_mem
   refine ⟨p,dl,cl,ll,lt,g,lds,n.ws,rfl,hP.same s2,SqT.of (s2 _ _ h3),by omega,by omega,fun x hx=>by have:=hn.wr x hx;omega,?_⟩
   k_mem
   have sp:=hg.speed n
   have pl:=hn.place hg
   have hm:g.ds.getD l.toNat 0∈g.ds:=dw (by omega)
   have m0:=hg.sh.lo _ hm
   have m5:=hg.sh.hi _ hm
   have mw:=hg.sh.le_whole hm
   have w5:=hg.sh.hi _ hg.sh.whole_mem
   have wb:0<=kC g.ds c l/\kC g.ds c l<=500:=by unfold kC;split<;>omega
   rw [show (if Ew g.ks n.ws=true then g.slow else g.fast)=iV g n from rfl]
   k_upd
   refine ⟨_,_,rfl,by split<;>omega,by split<;>omega,by omega,by omega,?_⟩
   k_mem
   refine ⟨by decide,fun b hb=>q b _ ((s2).lay hb) ⟨gt,lt,hh,dt,SqT.of ah,?_,?_,?_,?_⟩⟩
   ·exact (s2.lay hb).tup h2
   ·exact upo (s2 _ _ h3) hb
   ·exact (f2.lay hb).tup hH
   ·exact (s2.lay hb).tup h5
variable (wN:Def K mg "_law_next" qH qx Fy Cp)(FL:aH P w K mg base CX0 2 Fy Cp qx (CG K Z))
def Qu (H:Hp)(p a dl cl ht lv:Addr)(r:Int)(g:Cfg)(n:bg)(i:Nat)(σ:St)(H':Hp):Prop:=av H H'/\(∃t u v,σ=[some (.ref p),some (.ref a),some (.int r),some (.ref dl),some (.ref cl),some (.ref ht),some (.ref lv),t,u,v])/\∀c:Int,0<=c->c < i->∀l,ck g.ds n.place c=some l->n.gates.getD l.toNat false=false
noncomputable def mT (K:PySem.W.Frag)(Z:Adr):Sp:=fun vs H Q _=>∃(p dl cl ll a:Addr) (g:Cfg) (lds:List Ld) (n:bg) (t r:Int),vs=[.ref p,.ref a,.int r]/\fh K H p dl cl ll g lds/\jL g/\eD g n/\kP K H a (n,t)/\∀dd d H',av H H'->SqT K H' dd (ddV d)->yM d->dD g n d=none->Q (.ref dd) H'
include fi o9 in
theorem wO {f:Addr}{fd:FuncData}(F:Fun K "_law_towards_wind" "_law_towards_wind" eT f fd)(T:Txt K mg Z):aH P w K mg base CX0 2 f fd eO (mT K Z):=by
 refine F.ok cz (fun vs H Q E h=>?_) (fun cdv A outer s H vs Q E hr h=>?_)
 ·obtain ⟨p,dl,cl,ll,a,g,lds,n,t,r,rfl,hP,hg,hn,hSt,q⟩:=h
  rfl
 ·obtain ⟨p,dl,cl,ll,a,g,lds,n,t,r,rfl,hP,hg,hn,hSt,q⟩:=h
  refine seg 8 (aj (aw (bq (ae aC (ae (aT c9 (pv 2) ai) (ae (au ay (pv 5) ai) (ae (pv 9) af))))))) fun zt8 zh8=>?_
  k_all
  intro ze8
  refine seg 7 (ag (aL (i:=9) cz.nd rfl orL (au aI (bB (ae aC (ae aC af))) (bC iH (by rfl) T.tM ng (ae (fK bM (au ay (au aI (pv 4) (au ay (pv 5) ai)) ai) (au ay (pv 5) ai) (aJ _)) af)))) zh8) fun zt7 zh7=>?_
  k_all
  intro ze7
  refine seg 6 (ag (eJ PassesOwn.never rfl (cC (by rfl) T.cU (ae ai af)) (aM (i:=8) cz.nd rfl orL) (ag (aL (i:=7) cz.nd rfl orL (aF o9 hr.dn (by rfl) fi.m fi.F.kp fi.b .nil aO (ae (pv 3) (ae (pv 8) (ae (au ay (pv 1) ai) af))))) (aj (aY (oG (az ze (pv 7) ai (aJ _)) (mr (dj (au ay (au ay (pv 1) ai) (pv 7))))).pt (aj (aw (bq (ae aC (ae (pv 7) af))))) (aD))))) zh7) fun zt6 zh6=>?_
  k_all
  intro ze6
  refine seg 5 (ag (aY (az tE (au ay (pv 5) ai) aC (aJ _)) (aj (aw (au aI (bB (ae (bq (ae aC (ae ai af))) (ae (bq (ae aC (ae ai af))) af))) (bC iH (by rfl) T.tM ng (ae (au ay (au ay (pv 1) ai) ai) af))))) (aD)) zh6) fun zt5 zh5=>?_
  k_all
  intro ze5
  refine seg 4 (ag (aY (oG (az tE (au ay (pv 5) ai) aC (aJ _)) (mr (az (OA hr.units0) (pv 6) (bB af) (aJ _)))).pt (ag (aL (i:=7) cz.nd rfl orL (au aI (pv 6) (aT c9 (pv 2) (aN aE (by rfl) T.cA bF (ae (pv 6) af))))) (aj (aw (bq (ae aC (ae (pv 7) (ae (au ay (au aI (pv 4) (pv 7)) (aT c9 (aT oH (pv 2) ai) ai)) af))))))) (aD)) zh5) fun zt4 zh4=>?_
  k_all
  intro ze4
  refine seg 3 (ag (aY (az bM (au ay (pv 5) ai) aC (aJ _)) (aj (aw (bq (ae aC (ae (au ay (pv 5) ai) af))))) (aD)) zh4) fun zt3 zh3=>?_
  k_all
  intro ze3
  refine seg 2 (ag (Kk ["_law_k","_law_state"] [none,some 1] (iy:=6) cz.nd rfl rfl (cC (by rfl) T.cU (ae (aN aE (by rfl) T.cA bF (ae (pv 3) af)) af)) (fun _ _ _ _=>(aM (i:=0) (show (["_law_k","_law_state"]:List Str).Nodup by decide +kernel) rfl orL)) (fun _ _ _ _=>(oI (az (show OpR _ _ (rIn K true) from kO) (pv 0) (au (show IxR _ (Ek K) from ay) (pv 1) ai) (by rfl)))) (fun _ _ _ _=>(pv 0))) zh3) fun zt2 zh2=>?_
  k_all
  intro ze2
  refine seg 1 (ag (aL (i:=5) cz.nd rfl orL (au ay (pv 1) ai)) zh2) fun zt1 zh1=>?_
  k_all
  intro ze1
  refine ⟨_,ag (N4 (i:=3) (j:=4) rfl cz.nd rfl rfl (by decide) rfl rfl (ae (au aI (pv 0) ai) (ae (au aI (pv 0) ai) af)) (by rfl)) zh1,?_⟩
  k_all
  obtain ⟨gt,lt,ht,dt,h1,h2,h3,h4,h5⟩:=hSt
  obtain ⟨hp,hdl,⟨as,hcl,hT⟩,_,ek⟩:=id hP
  have l2:=hg.sh.l2
  have l6:=hg.sh.l6
  have gl:=hn.gl
  have fl:=hn.fl
  k_mem
  refine ⟨_,SqL.of hp,_,rfl,_,SqL.of hp,_,rfl,?_⟩
  k_mem
  refine ⟨_,h1,_,rfl,?_⟩
  k_mem
  refine ⟨_,.inl (SqL.of hdl),by omega,by rw [List.length_map];omega,?_⟩
  rw [List.length_map,Int.toNat_natCast,←fl]
  refine fm (fun j=>!n.fs.getD j false) (fun (j:Nat)=>.int (j:Int)) (by rw [sizeLine_eq];omega) rfl (fun i hi N hN=>?_) (fun i hi _ N hN=>?_) fun lv hlv=>?_
  ·k_mem
   k_upd
   refine ⟨_,h1,_,rfl,?_⟩
   k_mem
   refine ⟨_,.inr h5,rfl,by simp [cx],?_⟩
   rw [oM]
   have:(!decide (0+(i:Int)∈dE n.fs))=!n.fs.getD i false:=by
    congr 1
    rw [Bool.eq_iff_iff,decide_eq_true_eq,nH,Int.zero_add,Int.toNat_natCast]
    k_upd
    exact ⟨fun z=>z.2.2,fun z=>⟨Int.natCast_nonneg _,by omega,z⟩⟩
   rw [this]
   exact hN
  ·k_mem
   rw [Int.zero_add]
   exact hN
  rw [show List.map (fun (j:Nat)=>V.int (j:Int)) (List.filter (fun j=>!n.fs.getD j false) (List.range n.fs.length))=(mB n.fs).map V.int by unfold mB;rw [List.map_map];rfl] at *
  (generalize hE:upd H lv _=H1 at *;have s1:=p6 hE hlv;have hlv1:=jN hE;clear hE)
  k_mem
  have h41:=s1.tup h4
  rcases Qm n.e with ⟨l,rr,he⟩ | ⟨l,rr,he⟩ | ⟨w1,w2,w3,w4,he,na,nb⟩
  ·simp only [he] at h41
   have hr:=hn.code hg (.inl he)
   k_upd
   refine ⟨_,h41,_,rfl,?_⟩
   k_mem
   rw [if_pos rfl]
   k_upd
   refine ⟨_,h41,_,rfl,by decide,fun dd hdd=>?_⟩
   k_upd
   exact q dd (.rept rr) _ (s1.lay hdd) (SqT.of ah) trivial (xY he hr.1 hr.2)
  ·simp only [he] at h41
   obtain ⟨el0,el1,erc⟩:=hn.ew l rr (.inr he)
   k_upd
   refine ⟨_,h41,_,rfl,?_⟩
   k_mem
   rw [if_neg (by decide)]
   k_upd
   refine ⟨_,h41,_,rfl,?_⟩
   k_mem
   rw [if_neg (by decide)]
   k_upd
   refine ⟨_,h41,_,rfl,?_⟩
   k_mem
   rw [if_neg (by decide)]
   k_upd
   refine ⟨by decide,by decide,?_⟩
   k_upd
   refine cR (Qu H1 p a dl cl ht lv r g n) ⟨av.refl H1,⟨_,_,_,rfl⟩,fun c h0 h=>by omega⟩ ?_ ?_
   ·rintro i σ H2 hi ⟨s2,⟨t1,t2,t3,rfl⟩,hj⟩
    have s12:=s1.trans s2
    have hi2:i < 2:=hi
    k_mem
    refine ⟨_,s12.tup h1,_,rfl,?_⟩
    k_mem
    refine ⟨dl,g.ds,0+(i:Int),n.place,rfl,SqL.of (s12 _ _ hdl),hg.sh,by omega,by omega,fun H3 s3=>?_⟩
    have s13:=s12.trans s3
    k_mem
    split
    ·rename_i hge
     obtain ⟨l',e1,e2⟩:=Ds (by omega:¬(ck g.ds n.place (0+(i:Int))).getD (-1) < 0)
     obtain ⟨c0,c1,_⟩:=fg e1
     rw [e2] at *
     k_upd
     refine ⟨_,s13.tup h1,_,rfl,?_⟩
     k_mem
     refine ⟨_,s13.tup h2,_,kB c0 (by show l' < (n.gates.length:Int);omega),?_⟩
     k_mem
     split
     ·rename_i ho
      k_upd
      refine ⟨by decide,fun dd hdd=>?_⟩
      k_upd
      exact q dd (.sht l') _ (s13.lay hdd) (SqT.of ah) trivial (oR c0 c1 ho)
     ·rename_i ho
      k_upd
      refine ⟨s2.trans s3,⟨_,_,_,rfl⟩,fun c h0 h l2 el=>?_⟩
      by_cases ec:c=(i:Int)
      ·subst ec
       rw [Int.zero_add] at e1
       rw [e1] at el
       cases el
       simpa using ho
      ·exact hj c h0 (by omega) l2 el
    ·rename_i hge
     have e1:=Io (by omega:(ck g.ds n.place (0+(i:Int))).getD (-1) < 0)
     k_upd
     refine ⟨s2.trans s3,⟨_,_,_,rfl⟩,fun c h0 h l2 el=>?_⟩
     by_cases ec:c=(i:Int)
     ·subst ec
      rw [Int.zero_add] at e1
      rw [e1] at el
      cases el
     ·exact hj c h0 (by omega) l2 el
   ·rintro σ H2 ⟨s2,⟨t1,t2,t3,rfl⟩,hj⟩
    have s12:=s1.trans s2
    have ho:lD g n=false:=Jj hg.sh fun c hc l' el=>hj c (by omega) (by show c < ((2:Nat):Int);omega) l' el
    have h42:=s2.tup h41
    obtain ⟨ra,era,hra⟩:=vA (hT.same s12) el0 (by rw [hg.lc];exact el1)
    k_mem
    refine ⟨by decide,fun p1 hp1=>?_⟩
    have f1:=(av.refl H2).lay (o:=HO.lst [V.str (Str.ofString "coal"),V.str (Str.ofString "men")]) hp1
    have hp1':upd H2 p1 (HO.lst [V.str (Str.ofString "coal"),V.str (Str.ofString "men")]) p1=some (HO.lst [V.str (Str.ofString "coal"),V.str (Str.ofString "men")]):=ah
    generalize upd H2 p1 (HO.lst [V.str (Str.ofString "coal"),V.str (Str.ofString "men")])=H3 at *
    have s13:=s12.trans f1
    have h43:=f1.tup h42
    k_upd
    refine ⟨_,h43,_,rfl,?_⟩
    k_mem
    refine ⟨_,SqL.of (s13 _ _ hcl),_,era,?_⟩
    k_mem
    refine ⟨_,f1.tup hra,_,rfl,?_⟩
    k_mem
    refine ⟨_,h43,_,rfl,?_⟩
    k_mem
    refine ⟨_,SqL.of hp1',_,BY,?_⟩
    k_mem
    refine ⟨_,h43,_,rfl,by decide,fun dd hdd=>?_⟩
    by_cases e:(iT g.ls l).1=rr
    ·refine q dd (.wind (r % 2) l "men") _ (s13.lay hdd) (SqT.of (by rw [ah];simp only [e,decide_true,if_true];rfl)) ⟨⟨by omega,by omega⟩,.inl rfl⟩ (xZ el0 el1 ho ?_)
     rw [he,dk,if_pos rfl,e]
    ·refine q dd (.wind (r % 2) l "coal") _ (s13.lay hdd) (SqT.of (by rw [ah];simp only [e,decide_false,Bool.false_eq_true,if_false];rfl)) ⟨⟨by omega,by omega⟩,.inr rfl⟩ (xZ el0 el1 ho ?_)
     rw [he,dk,if_neg (by decide)]
     rcases erc with h | h
     ·exact absurd h.symm e
     ·rw [h]
  ·simp only [he] at h41
   k_upd
   refine ⟨_,h41,_,rfl,?_⟩
   k_mem
   rw [if_neg na]
   k_upd
   refine ⟨_,h41,_,rfl,?_⟩
   k_mem
   rw [if_pos nb]
   k_upd
   refine ⟨by decide,fun p1 hp1=>?_⟩
   have f1:=(av.refl H1).lay (o:=HO.lst []) hp1
   have hp1':upd H1 p1 (HO.lst []) p1=some (HO.lst []):=ah
   generalize upd H1 p1 (HO.lst [])=H2 at *
   have s12:=s1.trans f1
   have h42:=f1.tup h41
   k_mem
   refine ⟨_,SqL.of (f1 _ _ hlv1),_,SqL.of hp1',by simp [cx],rfl,?_⟩
   rw [Im]
   k_mem
   by_cases hz:(mB n.fs).map V.int=[]
   ·rw [if_neg (fun z=>z hz)]
    k_upd
    refine ⟨_,h42,_,rfl,?_⟩
    k_mem
    rw [if_pos nb]
    k_upd
    refine ⟨by decide,fun p2 hp2=>⟨by decide,fun p3 hp3=>⟨by decide,fun p4 hp4=>?_⟩⟩⟩
    have f4:=(((av.refl H2).lay (o:=HO.tup [V.str (Str.ofString "open"),V.int 0]) hp2).lay (o:=HO.tup [V.str (Str.ofString "shut"),V.int 0]) hp3).lay (o:=HO.lst [V.ref p2,V.ref p3]) hp4
    have e2:upd (upd (upd H2 p2 (HO.tup [V.str (Str.ofString "open"),V.int 0])) p3 (HO.tup [V.str (Str.ofString "shut"),V.int 0])) p4 (HO.lst [V.ref p2,V.ref p3]) p2=some (HO.tup [V.str (Str.ofString "open"),V.int 0]):=upo (upo ah hp3) hp4
    have e3:upd (upd (upd H2 p2 (HO.tup [V.str (Str.ofString "open"),V.int 0])) p3 (HO.tup [V.str (Str.ofString "shut"),V.int 0])) p4 (HO.lst [V.ref p2,V.ref p3]) p3=some (HO.tup [V.str (Str.ofString "shut"),V.int 0]):=upo ah hp4
    have e4:upd (upd (upd H2 p2 (HO.tup [V.str (Str.ofString "open"),V.int 0])) p3 (HO.tup [V.str (Str.ofString "shut"),V.int 0])) p4 (HO.lst [V.ref p2,V.ref p3]) p4=some (HO.lst [V.ref p2,V.ref p3]):=ah
    generalize upd (upd (upd H2 p2 (HO.tup [V.str (Str.ofString "open"),V.int 0])) p3 (HO.tup [V.str (Str.ofString "shut"),V.int 0])) p4 (HO.lst [V.ref p2,V.ref p3])=H3 at *
    have s13:=s12.trans f4
    k_upd
    refine ⟨_,s13.tup h1,_,rfl,?_⟩
    k_mem
    refine ⟨_,s13.tup h2,_,kB (l:=0) (by omega) (by show (0:Int) < (n.gates.length:Int);omega),?_⟩
    k_mem
    refine ⟨_,SqL.of e4,_,BY,?_⟩
    by_cases hb:n.gates.getD 0 false=true
    ·rw [if_pos hb]
     k_upd
     exact q p3 (.sht 0) _ s13 (SqT.of e3) trivial (oR (by omega) (by omega) hb)
    ·rw [if_neg hb]
     k_upd
     exact q p2 (.opn 0) _ s13 (SqT.of e2) trivial (u6 (by omega) (by omega) (by simpa using hb))
   ·rw [if_pos hz]
    have hlen:0 < (mB n.fs).length:=by
     rcases Nat.eq_zero_or_pos (mB n.fs).length with z | z
     ·exact absurd (by rw [List.eq_nil_of_length_eq_zero z];rfl) hz
     ·exact z
    have hm0:0<=r % ((mB n.fs).length:Int):=Int.emod_nonneg _ (by omega)
    have hm1:r % ((mB n.fs).length:Int) < ((mB n.fs).length:Int):=Int.emod_lt_of_pos _ (by omega)
    obtain ⟨v0,v1,v2⟩:=Ji (dw (ds:=mB n.fs) (i:=(r % ((mB n.fs).length:Int)).toNat) (by omega))
    k_upd
    refine ⟨_,.inl (SqL.of (f1 _ _ hlv1)),by rw [List.length_map];omega,_,SqL.of (f1 _ _ hlv1),_,by rw [List.length_map];exact dS hm0 hm1,?_⟩
    generalize (mB n.fs).getD (r % ((mB n.fs).length:Int)).toNat 0=lx at *
    obtain ⟨ra,era,hra⟩:=vA (hT.same s12) v0 (by rw [hg.lc];omega)
    k_mem
    refine ⟨_,SqL.of (s12 _ _ hcl),_,era,?_⟩
    k_mem
    refine ⟨_,hra,_,two_deep (by omega) (by omega),by decide,fun dd hdd=>?_⟩
    refine q dd (.ring lx _) _ (s12.lay hdd) (SqT.of ah) trivial (xX v0 (by omega) v2 ?_)
    k_upd
    split
    ·exact .inl rfl
    ·exact .inr rfl
variable (gD:Def K mg "_law_towards_wind" eT eO oi mJ)(oz:aH P w K mg base CX0 2 oi mJ eO (mT K Z))
noncomputable def mU (K:PySem.W.Frag)(Z:Adr):Sp:=fun vs H Q _=>∃(p dl cl ll a:Addr) (g:Cfg) (lds:List Ld) (n:bg) (t r:Int),vs=[.ref p,.ref a,.int r]/\fh K H p dl cl ll g lds/\jL g/\eD g n/\kP K H a (n,t)/\∀dd d H',av H H'->SqT K H' dd (ddV d)->yM d->dD g n d=none->Q (.ref dd) H'
include fi o9 in
theorem wQ {f:Addr}{fd:FuncData}(F:Fun K "_law_towards_load" "_law_towards_load" cS f fd)(T:Txt K mg Z):aH P w K mg base CX0 2 f fd eP (mU K Z):=by
 refine F.ok cZ (fun vs H Q E h=>?_) (fun cdv A outer s H vs Q E hr h=>?_)
 ·obtain ⟨p,dl,cl,ll,a,g,lds,n,t,r,rfl,hP,hg,hn,hSt,q⟩:=h
  rfl
 ·obtain ⟨p,dl,cl,ll,a,g,lds,n,t,r,rfl,hP,hg,hn,hSt,q⟩:=h
  obtain ⟨t1,h1,k1⟩:∃t,PSs (vo CX0 P w K mg base ["_law_setup_here","_law_state","_law_rest","_law_cage","_law_level","_law_waits"] "_law_towards_load" (ao cS) f cdv A outer s H E).nox ((cy cS).drop 3) t/\∀(c l:Int) (H1:Hp),av H H1->0<=c->c < 2->ck g.ds n.place c=some l->t ({nx:=fun _ H2=>Q .non H2,rt:=Q}:lr) [some (.ref p),some (.ref a),some (.int r),some (.int c),some (.int l),none] H1:=by
   refine seg 4 (aj (aw (bq (ae aC (ae (au aI (pv 5) (aT c9 (aT oH (pv 2) ai) (aN aE (by rfl) T.cA bF (ae (pv 5) af)))) (ae (pv 3) af)))))) fun zt4 zh4=>?_
   k_all
   intro ze4
   refine seg 3 (ag (aY (az (Oq hr.units0) (pv 5) (bB af) (aJ _)) (aj (aw (bq (ae aC (ae (pv 4) af))))) (aD)) zh4) fun zt3 zh3=>?_
   k_all
   intro ze3
   refine seg 2 (ag (Kk ["_law_k","_law_state","_law_level"] [none,some 1,some 4] (iy:=5) cZ.nd rfl rfl (cC (by rfl) T.cU (ae (aN aE (by rfl) T.cA bF (ae (au ay (pv 1) ai) af)) af)) (fun _ _ _ _=>(aM (i:=0) (show (["_law_k","_law_state","_law_level"]:List Str).Nodup by decide +kernel) rfl orL)) (fun _ _ _ _=>(oI (az bM (au (show IxR _ (Ek K) from ay) (au (show IxR _ (Ek K) from ay) (pv 1) ai) (pv 0)) (pv 2) (aJ _)))) (fun _ _ _ _=>(pv 0))) zh3) fun zt2 zh2=>?_
   k_all
   intro ze2
   refine seg 1 (ag (aY (az nE (aT cu ai (pv 3)) (au ay (pv 1) ai) (by rfl)) (aj (aw (bq (ae aC (ae (pv 3) af))))) (aD)) zh2) fun zt1 zh1=>?_
   k_all
   intro ze1
   refine ⟨_,ag (aY (eZ (dj (au ay (au ay (pv 1) ai) (pv 4)))) (aj (aw (bq (ae aC (ae (pv 4) af))))) (aD)) zh1,?_⟩
   intro c l H1 s1 c0 c1 hl
   obtain ⟨gt,lt,ht,dt,h1,h2,h3,h4,h5⟩:=(hSt.same s1).un
   obtain ⟨l0,l1,_⟩:=fg hl
   have gl:=hn.gl
   have wl:=hn.wl
   have k30:=hg.k30
   k_all
   k_mem
   refine ⟨_,h1,_,rfl,?_⟩
   k_mem
   refine ⟨_,h2,_,kB l0 (by show l < (n.gates.length:Int);omega),?_⟩
   k_mem
   split
   ·rename_i ho
    k_upd
    refine ⟨by decide,fun dd hdd=>?_⟩
    k_upd
    exact q dd (.opn l) _ (s1.lay hdd) (SqT.of ah) trivial (u6 l0 l1 ho)
   rename_i ho
   have ho':n.gates.getD l.toNat false=true:=by simpa using ho
   k_upd
   refine ⟨_,h1,_,rfl,?_⟩
   k_mem
   refine ⟨_,.inr (SqT.of h3),rfl,by simp [cx],?_⟩
   rw [oM]
   k_mem
   split
   ·rename_i hin
    k_upd
    refine ⟨by decide,fun dd hdd=>?_⟩
    k_upd
    exact q dd (.unload c) _ (s1.lay hdd) (SqT.of ah) ⟨c0,c1⟩ (tH hin hl ho')
   rename_i hin
   k_upd
   refine ⟨_,h1,_,rfl,?_⟩
   k_mem
   refine ⟨_,.inr (SqT.of h3),by omega,by rw [List.length_map];omega,?_⟩
   rw [List.length_map,Int.toNat_natCast]
   refine fm (fun j=>decide (n.ws.getD j 0=l)) (fun (j:Nat)=>.int (j:Int)) (by rw [sizeLine_eq];omega) rfl (fun i hi N hN=>?_) (fun i hi _ N hN=>?_) fun lv hlv=>?_
   ·k_mem
    k_upd
    refine ⟨_,h1,_,rfl,?_⟩
    k_mem
    refine ⟨_,SqT.of h3,_,by rw [Int.zero_add];exact j0 hi,?_⟩
    k_mem
    by_cases e:n.ws.getD i 0=l
    ·rw [if_pos e];rw [decide_eq_true e] at hN;exact hN
    ·rw [if_neg e];rw [decide_eq_false e] at hN;exact hN
   ·k_mem
    rw [Int.zero_add]
    exact hN
   rw [show List.map (fun (j:Nat)=>V.int (j:Int)) (List.filter (fun j=>decide (n.ws.getD j 0=l)) (List.range n.ws.length))=(lB n.ws l).map V.int by unfold lB AY;rw [List.map_map];rfl] at *
   have s2:=s1.lay (o:=HO.lst ((lB n.ws l).map V.int)) hlv
   have hlv1:upd H1 lv (HO.lst ((lB n.ws l).map V.int)) lv=some (HO.lst ((lB n.ws l).map V.int)):=ah
   generalize upd H1 lv (HO.lst ((lB n.ws l).map V.int))=H2 at *
   k_mem
   refine ⟨by decide,fun p1 hp1=>?_⟩
   have f1:=(av.refl H2).lay (o:=HO.lst []) hp1
   have hp1':upd H2 p1 (HO.lst []) p1=some (HO.lst []):=ah
   generalize upd H2 p1 (HO.lst [])=H3 at *
   have s3:=s2.trans f1
   k_upd
   refine ⟨_,SqL.of (f1 _ _ hlv1),_,SqL.of hp1',by simp [cx],rfl,?_⟩
   rw [Im]
   k_mem
   by_cases hz:(lB n.ws l).map V.int=[]
   ·rw [if_pos hz]
    k_upd
    refine ⟨by decide,fun dd hdd=>?_⟩
    k_upd
    exact q dd (.sht l) _ (s3.lay hdd) (SqT.of ah) trivial (oR l0 l1 ho')
   ·rw [if_neg hz]
    have hlen:0 < (lB n.ws l).length:=by
     rcases Nat.eq_zero_or_pos (lB n.ws l).length with z | z
     ·exact absurd (by rw [List.eq_nil_of_length_eq_zero z];rfl) hz
     ·exact z
    have hm0:0<=r / 2 % ((lB n.ws l).length:Int):=Int.emod_nonneg _ (by omega)
    have hm1:r / 2 % ((lB n.ws l).length:Int) < ((lB n.ws l).length:Int):=Int.emod_lt_of_pos _ (by omega)
    obtain ⟨v0,v1,v2⟩:=Lh (dw (ds:=lB n.ws l) (i:=(r / 2 % ((lB n.ws l).length:Int)).toNat) (by omega))
    k_upd
    refine ⟨_,.inl (SqL.of (f1 _ _ hlv1)),by rw [List.length_map];omega,_,SqL.of (f1 _ _ hlv1),_,by rw [List.length_map];exact dS hm0 hm1,by decide,fun dd hdd=>?_⟩
    k_upd
    exact q dd (.load _ c) _ (s3.lay hdd) (SqT.of ah) ⟨c0,c1⟩ (yb v0 v1 hl v2 hin ho')
  refine seg 2 (ag (aY (az nC (pv 4) ai (aJ _)) (ag (aL (i:=3) cZ.nd rfl orL (aT gJ ai (pv 3))) (aj (aL (i:=4) cZ.nd rfl (Or.inr rfl) (aF o9 hr.dn (by rfl) fi.m fi.F.kp fi.b .nil aO (ae (au aI (pv 0) ai) (ae (pv 3) (ae (au ay (pv 1) ai) af))))))) (aD)) h1) fun zt2 zh2=>?_
  k_all
  intro ze2
  refine seg 1 (ag (aL (i:=4) cZ.nd rfl (Or.inr rfl) (aF o9 hr.dn (by rfl) fi.m fi.F.kp fi.b .nil aO (ae (au aI (pv 0) ai) (ae (pv 3) (ae (au ay (pv 1) ai) af))))) zh2) fun zt1 zh1=>?_
  k_all
  intro ze1
  refine ⟨_,ag (aL (i:=3) cZ.nd rfl orL (aT c9 (pv 2) ai)) zh1,?_⟩
  k_all
  obtain ⟨gt,lt,ht,dt,h1,h2,h3,h4,h5⟩:=hSt.un
  obtain ⟨hp,hdl,_,_,_⟩:=id hP
  k_mem
  refine ⟨_,SqL.of hp,_,rfl,_,h1,_,rfl,?_⟩
  k_mem
  refine ⟨dl,g.ds,r % 2,n.place,rfl,SqL.of hdl,hg.sh,by omega,by omega,fun H1 s1=>?_⟩
  k_mem
  split
  ·rename_i hlt
   have e0:=Io hlt
   k_upd
   refine ⟨_,SqL.of (s1 _ _ hp),_,rfl,_,s1.tup h1,_,rfl,?_⟩
   k_mem
   refine ⟨dl,g.ds,1 - r % 2,n.place,rfl,SqL.of (s1 _ _ hdl),hg.sh,by omega,by omega,fun H2 s2=>?_⟩
   k_mem
   obtain ⟨c,hc,l,hl⟩:=hn.st
   have ec:c=1 - r % 2:=by
    rcases (by omega:c=r % 2\/c=1 - r % 2) with e | e
    ·rw [←e,hl] at e0;cases e0
    ·exact e
   rw [ec] at hl
   rw [hl]
   exact k1 _ l _ (s1.trans s2) (by omega) (by omega) hl
  ·rename_i hlt
   obtain ⟨l,hl,el⟩:=Ds hlt
   rw [el]
   exact k1 _ l _ s1 (by omega) (by omega) hl
variable (gE:Def K mg "_law_towards_load" cS eP oj mK)(oA:aH P w K mg base CX0 2 oj mK eP (mU K Z))
noncomputable def wR (K:PySem.W.Frag)(Z:Adr):Sp:=fun vs H Q E=>∃(y kn wh:Addr) (ks:List Str) (ws:List Int) (m n c:Int),vs=[.ref y,.int n,.int c]/\dM Z.gz H y kn wh ks ws m/\0<=c/\c < 2/\
 (¬(0<=n/\n < ws.length)->E (.ref Z.aW) none H)/\
 (0<=n->n < ws.length->(ws.getD n.toNat 0=10\/ws.getD n.toNat 0=11)->E (.ref Z.bu) none H)/\
 (0<=n->n < ws.length->¬(ws.getD n.toNat 0=10\/ws.getD n.toNat 0=11)->10+c∈ws->∀H',av H H'->E (.ref Z.bh) none H')/\
 (0<=n->n < ws.length->¬(ws.getD n.toNat 0=10\/ws.getD n.toNat 0=11)->¬10+c∈ws->∀H',aB wh H H'->H' wh=some (.lst ((ws.set n.toNat (10+c)).map V.int))->Q .non H')
include bU cY eC kZ in
theorem DT {f:Addr}{fd:FuncData}(F:Fun K "into" "Yard.into" kj f fd)(T:Txt K mg Z):aH P w K mg base (CXf P w) 3 f fd j9 (wR K Z):=by
 refine F.okF Dv (fun vs H Q E h=>?_) (fun cdv A outer s H vs Q E hr h=>?_)
 ·obtain ⟨y,kn,wh,ks,ws,m,n,c,rfl,hy,h0,h1,q1,q2,q3,q4⟩:=h
  rfl
 ·obtain ⟨y,kn,wh,ks,ws,m,n,c,rfl,hy,h0,h1,q1,q2,q3,q4⟩:=h
  refine seg 3 (aj (lu (au ay (eK (by rfl) T.kR) (pv 2)) (xj (aK (pv 0) (by rfl)) (pv 1) nD))) fun zt3 zh3=>?_
  k_all
  intro ze3
  refine seg 2 (ag (aY (az LH (bz (pv 0) T.bV bU.M cY hr.dn bU.b .nil aO (ae (pv 2) af)) fO (aJ _)) (aj (bH T.E2 (by rfl) T.yg (ae aC af))) (aD)) zh3) fun zt2 zh2=>?_
  k_all
  intro ze2
  refine seg 1 (ag (aY (az nE (au aI (aK (pv 0) (by rfl)) (pv 1)) (eK (by rfl) T.kR) (by rfl)) (aj (bH T.vf (by rfl) T.oV (ae aC af))) (aD)) zh2) fun zt1 zh1=>?_
  k_all
  intro ze1
  refine ⟨_,ag (bK (aF kZ hr.dn (by rfl) eC.m eC.F.kp eC.b .nil bS (ae (pv 1) (ae (aN aE (by rfl) T.cA bF (ae (aK (pv 0) (by rfl)) af)) af)))) zh1,?_⟩
  k_all
  obtain ⟨⟨dx,hob⟩,hkn,hwh⟩:=id hy
  k_mem
  refine ⟨_,_,_,hob,T.bV,T.cH,_,rfl,?_⟩
  k_mem
  refine ⟨_,.inl (SqL.of hwh),_,_,rfl,?_⟩
  rw [List.length_map]
  k_upd
  refine ⟨fun hn=>?_,q1⟩
  ·k_mem
   k_upd
   refine ⟨_,_,_,hob,T.bV,T.cH,_,rfl,?_⟩
   k_mem
   refine ⟨_,SqL.of hwh,_,dS hn.1 hn.2,_,.inr (T.kS _),rfl,rfl,?_⟩
   rw [BR]
   k_mem
   split
   ·rename_i h2
    k_upd
    exact ⟨by decide,q2 hn.1 hn.2 h2⟩
   ·rename_i h2
    k_upd
    refine ⟨_,_,hob,rfl,_,_,_,_,_,_,_,rfl,hy,h0,h1,fun H' s1=>?_⟩
    k_mem
    by_cases hm:10+c∈ws
    ·rw [inC,if_pos hm,if_pos (show ¬(V.int _=V.non) from fun z=>V.noConfusion z)]
     k_upd
     exact ⟨by decide,q3 hn.1 hn.2 h2 hm H' s1⟩
    ·rw [inC,if_neg hm,if_neg (fun z=>z rfl)]
     k_upd
     refine ⟨_,T.kS _,_,BO h0 h1,_,_,_,s1 _ _ hob,T.bV,T.cH,_,rfl,?_⟩
     k_mem
     refine ⟨_,s1 _ _ hwh,_,Dg hn.1 (by rw [List.length_map];exact hn.2),?_⟩
     refine q4 hn.1 hn.2 h2 hm _ (aB.put (aB.of s1)) ?_
     rw [ah,List.map_set]
variable (r9:bG K Z.gz "into" "Yard.into" kj j9 ym wu)(yD:aH P w K mg base (CXf P w) 3 ym wu j9 (wR K Z))
noncomputable def yE (K:PySem.W.Frag)(Z:Adr):Sp:=fun vs H Q E=>∃(y kn wh:Addr) (ks:List Str) (ws:List Int) (m c lv:Int),vs=[.ref y,.int c,.int lv]/\dM Z.gz H y kn wh ks ws m/\0<=c/\c < 2/\
 (¬(0<=lv/\lv < m)->E (.ref Z.bf) none H)/\
 (0<=lv->lv < m->¬10+c∈ws->∀H',av H H'->E (.ref Z.bj) none H')/\
 (0<=lv->lv < m->10+c∈ws->∀H',aB wh H H'->H' wh=some (.lst ((ws.set (ws.idxOf (10+c)) lv).map V.int))->Q .non H')
include bU cY aU bO in
theorem FN {f:Addr}{fd:FuncData}(F:Fun K "out" "Yard.out" lL f fd)(T:Txt K mg Z):aH P w K mg base (CXf P w) 3 f fd lF (yE K Z):=by
 refine F.okF yd (fun vs H Q E h=>?_) (fun cdv A outer s H vs Q E hr h=>?_)
 ·obtain ⟨y,kn,wh,ks,ws,m,c,lv,rfl,hy,h0,h1,q1,q2,q3⟩:=h
  rfl
 ·obtain ⟨y,kn,wh,ks,ws,m,c,lv,rfl,hy,h0,h1,q1,q2,q3⟩:=h
  refine seg 3 (aj (lu (pv 2) (xj (aK (pv 0) (by rfl)) (pv 3) nD))) fun zt3 zh3=>?_
  k_all
  intro ze3
  refine seg 2 (ag (aY (az CS (pv 3) fO (aJ _)) (aj (bH T.yh (by rfl) T.qM (ae aC af))) (aD)) zh3) fun zt2 zh2=>?_
  k_all
  intro ze2
  refine seg 1 (ag (aL (i:=3) yd.nd rfl orL (bz (pv 0) T.bV bU.M cY hr.dn bU.b .nil aO (ae (pv 1) af))) zh2) fun zt1 zh1=>?_
  k_all
  intro ze1
  refine ⟨_,ag (bK (aF bO hr.dn (by rfl) aU.m aU.F.kp aU.b .nil bS (ae (pv 2) (ae (aK (pv 0) (by rfl)) af)))) zh1,?_⟩
  k_all
  obtain ⟨⟨dx,hob⟩,hkn,hwh⟩:=id hy
  k_mem
  refine ⟨_,_,_,hob,T.bV,T.kT,_,rfl,?_⟩
  k_mem
  refine ⟨_,_,rfl,fun hlv=>?_,q1⟩
  k_mem
  refine ⟨_,_,hob,rfl,_,_,_,_,_,_,_,rfl,hy,h0,h1,fun H' s1=>?_⟩
  k_mem
  by_cases hm:10+c∈ws
  ·rw [inC,if_pos hm,if_neg (show ¬(V.int _=V.non) from fun z=>V.noConfusion z)]
   have hlt:ws.idxOf (10+c) < ws.length:=List.idxOf_lt_length_iff.mpr hm
   k_mem
   refine ⟨_,_,_,s1 _ _ hob,T.bV,T.cH,_,rfl,?_⟩
   k_mem
   refine ⟨_,s1 _ _ hwh,_,Dg (Int.natCast_nonneg _) (by rw [List.length_map];omega),?_⟩
   refine q3 hlv.1 hlv.2 hm _ (aB.put (aB.of s1)) ?_
   rw [ah,List.map_set];rfl
  ·rw [inC,if_neg hm,if_pos rfl]
   k_upd
   exact ⟨by decide,q2 hlv.1 hlv.2 hm H' s1⟩
variable (vj:bG K Z.gz "out" "Yard.out" lL lF z9 yv)(AE:aH P w K mg base (CXf P w) 3 z9 yv lF (yE K Z))
noncomputable def oB (K:PySem.W.Frag)(Z:Adr):Sp:=fun vs H Q E=>∃(y kn wh:Addr) (ks:List Str) (ws:List Int) (m lv:Int),vs=[.ref y,.int lv]/\dM Z.gz H y kn wh ks ws m/\ws.length<=1000/\(0<=lv/\lv < m->∀p H',H p=none->av H H'->H' p=some (.lst ((lB ws lv).map V.int))->Q (.ref p) H')/\(¬(0<=lv/\lv < m)->E (.ref Z.bf) none H)
include aU bO in
theorem xQ {f:Addr}{fd:FuncData}(F:Fun K "at_level" "Yard.at_level" fz f fd)(T:Txt K mg Z):aH P w K mg base (CXf P w) 3 f fd fq (oB K Z):=by
 refine F.okF xD (fun vs H Q E h=>?_) (fun cdv A outer s H vs Q E hr h=>?_)
 ·obtain ⟨y,kn,wh,ks,ws,m,lv,rfl,hy,hlen,q1,q2⟩:=h
  rfl
 ·obtain ⟨y,kn,wh,ks,ws,m,lv,rfl,hy,hlen,q1,q2⟩:=h
  refine seg 1 (aj (aw (nF ["number","spot","level"] [none,none,some 1] (Df (by rfl) T.qL oJ (aK (pv 0) (by rfl))) (fun _ _ _ _=>(show PG _ _ (CQ K 2 _) from kA (n:=2) rfl (aV (aM (i:=0) (show (["number","spot","level"]:List Str).Nodup by decide +kernel) rfl orL) (aV (aM (i:=1) (show (["number","spot","level"]:List Str).Nodup by decide +kernel) rfl orL) fe)))) (fun _ _ _ _=>(oI (az bM (pv 1) (pv 2) (aJ _)))) (fun _ _ _ _=>(pv 0))))) fun zt1 zh1=>?_
  k_all
  intro ze1
  refine ⟨_,ag (bK (aF bO hr.dn (by rfl) aU.m aU.F.kp aU.b .nil bS (ae (pv 1) (ae (aK (pv 0) (by rfl)) af)))) zh1,?_⟩
  k_all
  obtain ⟨⟨dx,hob⟩,hkn,hwh⟩:=id hy
  k_mem
  refine ⟨_,_,_,hob,T.bV,T.kT,_,rfl,?_⟩
  k_mem
  refine ⟨_,_,rfl,fun hlv=>?_,q2⟩
  k_mem
  refine ⟨_,_,_,hob,T.bV,T.cH,_,rfl,?_⟩
  k_mem
  refine ⟨⟨_,SqL.of hwh⟩,?_⟩
  refine xq ws.length (fun i acc H'=>av H H'/\acc=(AY ws lv i).map V.int) ⟨av.refl H,rfl⟩ ?_ ?_ ?_ ?_
  ·rintro i acc H' hi ⟨s1,_⟩
   k_upd
   exact ⟨_,_,s1.seq (SqL.of hwh),by rw [List.getElem?_map,nG hi];rfl⟩
  ·rintro acc H' ⟨s1,_⟩
   k_upd
   exact ⟨_,s1.seq (SqL.of hwh),by rw [List.length_map];exact Nat.le_refl _⟩
  ·rintro i acc H' hi ⟨s1,rfl⟩
   k_upd
   refine ⟨by have:=Ey ws lv i;rw [List.length_map,sizeLine_eq];omega,?_⟩
   rintro x H2 ⟨tp,z,rfl,htp,rfl,hz⟩ M hM
   have e:=hz _ (s1.seq (SqL.of hwh))
   rw [List.getElem?_map,nG hi] at e
   cases e
   k_mem
   refine ⟨_,SqT.of ah,rfl,?_⟩
   k_mem
   refine ⟨⟨rfl,fun k v e=>?_⟩,?_⟩
   ·match k,e with
    | 0,e=>cases e
    | 1,e=>cases e
    | 2,e=>exact e
   ·have gs:=I8 ws lv i
    k_upd
    split
    ·rename_i h
     refine hM _ _ ⟨s1.lay htp,?_⟩
     rw [gs,if_pos h,List.map_append];rfl
    ·rename_i h
     refine hM _ _ ⟨s1.lay htp,?_⟩
     rw [gs,if_neg h,List.append_nil]
  ·rintro acc H' ⟨s1,rfl⟩ p hp
   k_upd
   exact q1 hlv p _ (s1.free hp) (s1.lay hp) ah
variable (kI:bG K Z.gz "at_level" "Yard.at_level" fz fq pH ou)(pX:aH P w K mg base (CXf P w) 3 pH ou fq (oB K Z))
noncomputable def wU (K:PySem.W.Frag)(Z:Adr):Sp:=fun vs H Q _=>∃(y kn wh:Addr) (ks:List Str) (ws:List Int) (m:Int),vs=[.ref y]/\dM Z.gz H y kn wh ks ws m/\∀(y' kn' wh':Addr) (H':Hp),H y'=none->H kn'=none->H wh'=none->kn'≠wh'->av H H'->dM Z.gz H' y' kn' wh' ks ws m->Q (.ref y') H'
include iM mO in
theorem DU {f:Addr}{fd:FuncData}(F:Fun K "twin" "Yard.twin" kl f fd)(T:Txt K mg Z):aH P w K mg base CX0 3 f fd ka (wU K Z):=by
 refine F.ok vJ (fun vs H Q E h=>?_) (fun cdv A outer s H vs Q E hr h=>?_)
 ·obtain ⟨y,kn,wh,ks,ws,m,rfl,hy,q⟩:=h
  rfl
 ·obtain ⟨y,kn,wh,ks,ws,m,rfl,hy,q⟩:=h
  refine ⟨_,ag (aL (i:=1) vJ.nd rfl orL (mv iM.M mO hr.dn (by rfl) T.Lm iM.b .nil aO (ae (bB af) (ae (aK (pv 0) (by rfl)) af)))) (ag (cW (pv 1) (bC cf (by rfl) T.fJ dJ (ae (aK (pv 0) (by rfl)) af)) rfl) (ag (cW (pv 1) (bC cf (by rfl) T.fJ dJ (ae (aK (pv 0) (by rfl)) af)) rfl) (aj (aw (pv 1))))),?_⟩
  k_all
  obtain ⟨⟨dy,hob⟩,hkn,hwh⟩:=id hy
  k_mem
  refine ⟨by decide,fun p0 hp0=>⟨_,_,_,upo hob hp0,T.bV,T.kT,_,rfl,?_⟩⟩
  refine fun x dx hx hdx nxd=>?_
  have s0:=(av.refl H).lay (o:=HO.lst []) hp0
  have hx':upd (upd H p0 (HO.lst [])) dx (.own x) x=none:=by rw [aS (Ne.symm nxd)];exact hx
  refine ⟨x,dx,p0,[],m,rfl,ah,⟨[],SqL.of (upo (upo ah hdx) hx'),nh.nil⟩,by decide,fun kn0 wh0 H1 hkn0 hwh0 nkw kp hy1=>⟨rfl,?_⟩⟩
  have s1:=s0.trans (j1 hx hdx kp)
  obtain ⟨⟨dx1,hob1⟩,hkn1,hwh1⟩:=id hy1
  have hxn:H x=none:=s0.free hx
  clear kp hy1
  k_mem
  refine ⟨_,_,_,s1 _ _ hob,T.bV,T.jT,_,rfl,?_⟩
  k_mem
  refine ⟨_,.inl (SqL.of (s1 _ _ hkn)),fun k1 hk1=>⟨_,_,_,upo hob1 hk1,T.bV,T.jT,by show 3 < 1000;decide,?_⟩⟩
  have nk1:k1≠x:=fun z=>by rw [z,hob1] at hk1;cases hk1
  have s2:av H (upd (upd H1 k1 (HO.lst (ks.map V.str))) x (HO.ins Z.gz dx1 (bL "kinds" (.ref k1) [("kinds",V.ref kn0),("where",V.ref wh0),("many",V.int m)]))):=(s1.lay hk1).rewr hxn
  have hob2:upd (upd H1 k1 (HO.lst (ks.map V.str))) x (HO.ins Z.gz dx1 (bL "kinds" (.ref k1) [("kinds",V.ref kn0),("where",V.ref wh0),("many",V.int m)])) x=some (HO.ins Z.gz dx1 [("kinds",V.ref k1),("where",V.ref wh0),("many",V.int m)]):=by rw [ah];rfl
  have hk2:upd (upd H1 k1 (HO.lst (ks.map V.str))) x (HO.ins Z.gz dx1 (bL "kinds" (.ref k1) [("kinds",V.ref kn0),("where",V.ref wh0),("many",V.int m)])) k1=some (HO.lst (ks.map V.str)):=by rw [aS nk1,ah]
  generalize upd (upd H1 k1 (HO.lst (ks.map V.str))) x (HO.ins Z.gz dx1 (bL "kinds" (.ref k1) [("kinds",V.ref kn0),("where",V.ref wh0),("many",V.int m)]))=H2 at *
  refine ⟨_,_,_,s2 _ _ hob,T.bV,T.cH,_,rfl,?_⟩
  k_mem
  refine ⟨_,.inl (SqL.of (s2 _ _ hwh)),fun w1 hw1=>⟨_,_,_,upo hob2 hw1,T.bV,T.cH,by show 3 < 1000;decide,?_⟩⟩
  have nw1:w1≠x:=fun z=>by rw [z,hob2] at hw1;cases hw1
  have nkw1:k1≠w1:=aq hk2 hw1
  refine q x k1 w1 _ hxn (s1.free hk1) (s2.free hw1) nkw1 ((s2.lay hw1).rewr hxn) ⟨⟨dx1,by rw [ah];rfl⟩,?_,?_⟩
  ·rw [aS nk1,aS nkw1];exact hk2
  ·rw [aS nw1,ah]
variable (sd:bG K Z.gz "twin" "Yard.twin" kl ka yo wx)(yF:aH P w K mg base CX0 3 yo wx ka (wU K Z))
theorem O6 (s:Int)(x:Cd):inV (.int s) (cdV x)=decide (s=x.1\/s=x.2):=HY s x.1 x.2
noncomputable def uL (K:PySem.W.Frag)(Z:Adr):Sp:=fun vs H Q E=>∃(b cs fl st:Addr) (ls:List Cd) (fs:List Bool) (e:Eng) (lv s:Int),vs=[.ref b,.int lv,.int s]/\bR Z.bZ K H b cs fl st ls fs e/\
 (¬(0<=lv/\lv < ls.length)->E (.ref Z.bf) none H)/\
 (0<=lv->lv < ls.length->fs.getD lv.toNat false=true->E (.ref Z.fD) none H)/\
 (0<=lv->lv < ls.length->fs.getD lv.toNat false=false->¬(s=(iT ls lv).1\/s=(iT ls lv).2)->E (.ref Z.jC) none H)/\
 (0<=lv->lv < ls.length->fs.getD lv.toNat false=false->(s=(iT ls lv).1\/s=(iT ls lv).2)->∀st' H',aB b H H'->bR Z.bZ K H' b cs fl st' ls fs (.wait lv s)->Q .non H')
include aU bO in
theorem Bx {f:Addr}{fd:FuncData}(F:Fun K "ring" "Bells.ring" jk f fd)(T:Txt K mg Z):aH P w K mg base (CXf P w) 3 f fd iZ (uL K Z):=by
 refine F.okF A6 (fun vs H Q E h=>?_) (fun cdv A outer s H vs Q E hr h=>?_)
 ·obtain ⟨b,cs,fl,st,ls,fs,e,lv,s,rfl,hB,q1,q2,q3,q4⟩:=h
  rfl
 ·obtain ⟨b,cs,fl,st,ls,fs,e,lv,s,rfl,hB,q1,q2,q3,q4⟩:=h
  refine seg 3 (aj (cW (pv 0) (bq (ae aC (ae (pv 1) (ae (pv 2) (ae fO af))))) rfl)) fun zt3 zh3=>?_
  k_all
  intro ze3
  refine seg 2 (ag (aY (az kO (pv 2) (au aI (aK (pv 0) (by rfl)) (pv 1)) (by rfl)) (aj (bH T.Fc (by rfl) T.EV (ae aC af))) (aD)) zh3) fun zt2 zh2=>?_
  k_all
  intro ze2
  refine seg 1 (ag (aY (dj (au aI (aK (pv 0) (by rfl)) (pv 1))) (aj (bH T.He (by rfl) T.GX (ae aC af))) (aD)) zh2) fun zt1 zh1=>?_
  k_all
  intro ze1
  refine ⟨_,ag (bK (aF bO hr.dn (by rfl) aU.m aU.F.kp aU.b .nil bS (ae (pv 1) (ae (aN aE (by rfl) T.cA bF (ae (aK (pv 0) (by rfl)) af)) af)))) zh1,?_⟩
  k_all
  obtain ⟨⟨dx,hob⟩,⟨as,hcs,hT⟩,hfl,hst,nn,ln⟩:=id hB
  k_mem
  refine ⟨_,_,_,hob,T.bx,T.dI,_,rfl,?_⟩
  k_mem
  refine ⟨_,.inl (SqL.of hcs),_,_,rfl,?_⟩
  rw [List.length_map,hT.1]
  k_upd
  refine ⟨fun hlv=>?_,q1⟩
  k_mem
  refine ⟨_,_,_,hob,T.bx,T.de,_,rfl,?_⟩
  k_mem
  refine ⟨_,SqL.of hfl,_,kB hlv.1 (by omega),?_⟩
  k_mem
  split
  ·rename_i h
   k_upd
   exact ⟨by decide,q2 hlv.1 hlv.2 h⟩
  ·rename_i h
   k_upd
   refine ⟨_,_,_,hob,T.bx,T.dI,_,rfl,?_⟩
   k_mem
   obtain ⟨ar,ea,hr⟩:=vA hT hlv.1 hlv.2
   k_upd
   refine ⟨_,SqL.of hcs,_,ea,?_⟩
   k_mem
   refine ⟨_,.inr hr,rfl,rfl,?_⟩
   rw [O6]
   k_mem
   split
   ·rename_i h2
    k_upd
    exact ⟨by decide,q3 hlv.1 hlv.2 (by simpa using h) h2⟩
   ·rename_i h2
    k_upd
    refine ⟨by decide,fun st' hst'=>⟨_,_,_,upo hob hst',T.bx,T.bT,by show 3 < 1000;decide,?_⟩⟩
    have nsx:st'≠b:=fun z=>by rw [z,hob] at hst';cases hst'
    refine q4 hlv.1 hlv.2 (by simpa using h) (Decidable.not_not.mp h2) st' _ ((aB.of ((av.refl H).lay hst')).put) (hB.state ((aB.of ((av.refl H).lay hst')).put) (dx:=dx) (by rw [ah];rfl) (SqT.of ?_))
    rw [aS nsx,ah];rfl
variable (pj:bG K Z.bZ "ring" "Bells.ring" jk iZ v5 uk)(wV:aH P w K mg base (CXf P w) 3 v5 uk iZ (uL K Z))
noncomputable def uM (K:PySem.W.Frag)(Z:Adr):Sp:=fun vs H Q E=>∃(b cs fl st:Addr) (ls:List Cd) (fs:List Bool) (e:Eng) (lv:Int),vs=[.ref b,.int lv]/\bR Z.bZ K H b cs fl st ls fs e/\
 (¬(0<=lv/\lv < ls.length)->E (.ref Z.bf) none H)/\
 (0<=lv->lv < ls.length->fs.getD lv.toNat false=true->E (.ref Z.dH) none H)/\
 (0<=lv->lv < ls.length->fs.getD lv.toNat false=false->∀H',aB fl H H'->H' fl=some (.lst ((fs.set lv.toNat true).map V.bl))->Q .non H')
include aU bO in
theorem By {f:Addr}{fd:FuncData}(F:Fun K "fail" "Bells.fail" jl f fd)(T:Txt K mg Z):aH P w K mg base (CXf P w) 3 f fd i3 (uM K Z):=by
 refine F.okF A7 (fun vs H Q E h=>?_) (fun cdv A outer s H vs Q E hr h=>?_)
 ·obtain ⟨b,cs,fl,st,ls,fs,e,lv,rfl,hB,q1,q2,q3⟩:=h
  rfl
 ·obtain ⟨b,cs,fl,st,ls,fs,e,lv,rfl,hB,q1,q2,q3⟩:=h
  refine seg 2 (aj (lu iF (xj (aK (pv 0) (by rfl)) (pv 1) nD))) fun zt2 zh2=>?_
  k_all
  intro ze2
  refine seg 1 (ag (aY (dj (au aI (aK (pv 0) (by rfl)) (pv 1))) (aj (bH T.zZ (by rfl) T.zT (ae aC af))) (aD)) zh2) fun zt1 zh1=>?_
  k_all
  intro ze1
  refine ⟨_,ag (bK (aF bO hr.dn (by rfl) aU.m aU.F.kp aU.b .nil bS (ae (pv 1) (ae (aN aE (by rfl) T.cA bF (ae (aK (pv 0) (by rfl)) af)) af)))) zh1,?_⟩
  k_all
  obtain ⟨⟨dx,hob⟩,⟨as,hcs,hT⟩,hfl,hst,nn,ln⟩:=id hB
  k_mem
  refine ⟨_,_,_,hob,T.bx,T.dI,_,rfl,?_⟩
  k_mem
  refine ⟨_,.inl (SqL.of hcs),_,_,rfl,?_⟩
  rw [List.length_map,hT.1]
  k_upd
  refine ⟨fun hlv=>?_,q1⟩
  k_mem
  refine ⟨_,_,_,hob,T.bx,T.de,_,rfl,?_⟩
  k_mem
  refine ⟨_,SqL.of hfl,_,kB hlv.1 (by omega),?_⟩
  k_mem
  split
  ·rename_i h
   k_upd
   exact ⟨by decide,q2 hlv.1 hlv.2 h⟩
  ·rename_i h
   k_upd
   refine ⟨_,_,_,hob,T.bx,T.de,_,rfl,?_⟩
   k_mem
   refine ⟨_,hfl,_,Dg hlv.1 (by rw [List.length_map];omega),?_⟩
   k_upd
   exact q3 hlv.1 hlv.2 (by simpa using h) _ ((aB.of (av.refl H)).put) (by rw [ah,List.map_set])
variable (pk:bG K Z.bZ "fail" "Bells.fail" jl i3 v7 um)(wW:aH P w K mg base (CXf P w) 3 v7 um i3 (uM K Z))
theorem O7 (e:Eng)(lv c:Int):eqL (oO e) [V.str "armed",V.int lv,V.int c,V.int c]=match e with | .armed l' r=>decide (l'=lv/\r=c) | _=>false:=by
 cases e with
 | armed l r=>
  simp only [oO,eqL,CZ,Bool.and_true]
  have:eqV (V.str "armed") (V.str "armed")=true:=rfl
  rw [this]
  by_cases h1:l=lv<;>by_cases h2:r=c<;>simp [h1,h2]
 | _=>rfl
theorem MY {k:Str}(hk:k="men"\/k="coal"):∃i:Int,(if eqV (V.str "men") (V.str k)=true then (0:Int) else 1)=i/\(eqV (V.str "men") (V.str k) || eqV (V.str "coal") (V.str k))=true/\∀x:Cd,atI (cdV x) i=some (.int (if k="men" then x.1 else x.2)):=by
 rcases hk with rfl | rfl
 ·exact ⟨0,rfl,rfl,fun x=>rfl⟩
 ·exact ⟨1,rfl,rfl,fun x=>rfl⟩
noncomputable def wX (K:PySem.W.Frag)(Z:Adr):Sp:=fun vs H Q E=>∃(b cs fl st:Addr) (ls:List Cd) (fs:List Bool) (e:Eng) (lv:Int) (k:Str),vs=[.ref b,.int lv,.str k]/\bR Z.bZ K H b cs fl st ls fs e/\(k="men"\/k="coal")/\
 (¬(0<=lv/\lv < ls.length)->E (.ref Z.bf) none H)/\
 (0<=lv->lv < ls.length->e≠.armed lv (dk ls lv k)->∀H',av H H'->E (.ref Z.eU) none H')/\
 (0<=lv->lv < ls.length->e=.armed lv (dk ls lv k)->∀st' H',aB b H H'->bR Z.bZ K H' b cs fl st' ls fs (.used lv (dk ls lv k))->Q .non H')
include aU bO in
theorem DV {f:Addr}{fd:FuncData}(F:Fun K "use" "Bells.use" km f fd)(T:Txt K mg Z):aH P w K mg base (CXf P w) 3 f fd kb (wX K Z):=by
 refine F.okF vK (fun vs H Q E h=>?_) (fun cdv A outer s H vs Q E hr h=>?_)
 ·obtain ⟨b,cs,fl,st,ls,fs,e,lv,k,rfl,hB,hk,q1,q2,q3⟩:=h
  rfl
 ·obtain ⟨b,cs,fl,st,ls,fs,e,lv,k,rfl,hB,hk,q1,q2,q3⟩:=h
  refine seg 3 (aj (cW (pv 0) (bq (ae aC (ae (pv 1) (ae (pv 3) (ae (pv 3) af))))) rfl)) fun zt3 zh3=>?_
  k_all
  intro ze3
  refine seg 2 (ag (aY (az (Ov hr.units0) (aK (pv 0) (by rfl)) (bq (ae aC (ae (pv 1) (ae (pv 3) (ae (pv 3) af))))) (aJ _)) (aj (bH T.Hi (by rfl) T.GY (ae aC af))) (aD)) zh3) fun zt2 zh2=>?_
  k_all
  intro ze2
  refine seg 1 (ag (aL (i:=3) vK.nd rfl orL (au ay (au aI (aK (pv 0) (by rfl)) (pv 1)) (vv PySem.F.plainAttrs_tuple PySem.F.slot_tuple_index PySem.F.type_tuple_index IZ (eK (by rfl) T.MN) (ae (pv 2) af)))) zh2) fun zt1 zh1=>?_
  k_all
  intro ze1
  refine ⟨_,ag (bK (aF bO hr.dn (by rfl) aU.m aU.F.kp aU.b .nil bS (ae (pv 1) (ae (aN aE (by rfl) T.cA bF (ae (aK (pv 0) (by rfl)) af)) af)))) zh1,?_⟩
  k_all
  obtain ⟨⟨dx,hob⟩,⟨as,hcs,hT⟩,hfl,hst,nn,ln⟩:=id hB
  k_mem
  refine ⟨_,_,_,hob,T.bx,T.dI,_,rfl,?_⟩
  k_mem
  refine ⟨_,.inl (SqL.of hcs),_,_,rfl,?_⟩
  rw [List.length_map,hT.1]
  k_upd
  refine ⟨fun hlv=>?_,q1⟩
  k_mem
  obtain ⟨ar,ea,hr⟩:=vA hT hlv.1 hlv.2
  obtain ⟨i,ei,ek,ex⟩:=MY hk
  k_upd
  refine ⟨_,_,_,hob,T.bx,T.dI,_,rfl,?_⟩
  k_mem
  refine ⟨_,SqL.of hcs,_,ea,.inr (.inl ⟨rfl,T.MP⟩),_,_,_,_,rfl,rfl,T.MO _,rfl,rfl,rfl,ek,?_⟩
  rw [ei]
  k_mem
  refine ⟨_,hr,_,ex _,?_⟩
  k_mem
  have ec:(if k=Str.ofString "men" then (iT ls lv).1 else (iT ls lv).2)=dk ls lv k:=rfl
  rw [ec]
  k_upd
  refine ⟨_,_,_,hob,T.bx,T.bT,_,rfl,by decide,fun tp htp=>?_⟩
  k_mem
  refine ⟨_,_,_,_,rfl,rfl,((av.refl H).lay htp).tup hst,SqT.of ah,List.all_eq_true.mpr (xt e),rfl,?_⟩
  have s0:=(av.refl H).lay (o:=HO.tup [V.str (Str.ofString "armed"),V.int lv,V.int (dk ls lv k),V.int (dk ls lv k)]) htp
  have e2:eqL (oO e) [V.str (Str.ofString "armed"),V.int lv,V.int (dk ls lv k),V.int (dk ls lv k)]=_:=O7 e lv (dk ls lv k)
  rw [e2]
  have hob0:=s0 _ _ hob
  generalize upd H tp (HO.tup [V.str (Str.ofString "armed"),V.int lv,V.int (dk ls lv k),V.int (dk ls lv k)])=H0 at *
  have no:e≠.armed lv (dk ls lv k)->E (.ref Z.eU) none H0:=fun z=>q2 hlv.1 hlv.2 z H0 s0
  cases e with
  | armed l' r=>
   k_mem
   by_cases hh:l'=lv/\r=dk ls lv k
   ·rw [if_neg (by simp [hh])]
    k_mem
    refine ⟨by decide,fun st' hst'=>⟨_,_,_,upo hob0 hst',T.bx,T.bT,by show 3 < 1000;decide,?_⟩⟩
    have nsx:st'≠b:=fun z=>by rw [z,hob0] at hst';cases hst'
    have k0:=((aB.of (s0.lay (o:=HO.tup [V.str (Str.ofString "used up"),V.int lv,V.int (dk ls lv k),V.int (dk ls lv k)]) hst')).put (o:=HO.ins Z.bZ dx (bL "state" (.ref st') [("codes",V.ref cs),("failed",V.ref fl),("state",V.ref st)])) (p:=b))
    refine q3 hlv.1 hlv.2 (by rw [hh.1,hh.2]) st' _ k0 (hB.state k0 (dx:=dx) (by rw [ah];rfl) (SqT.of ?_))
    rw [aS nsx,ah];rfl
   ·rw [if_pos (by simp;intro z1 z2;exact hh ⟨z1,z2⟩)]
    k_mem
    exact ⟨by decide,no fun z=>by injection z with z1 z2;exact hh ⟨z1,z2⟩⟩
  | _=>
   k_mem
   exact ⟨by decide,no fun z=>Eng.noConfusion z⟩
variable (se:bG K Z.bZ "use" "Bells.use" km kb yp wz)(yG:aH P w K mg base (CXf P w) 3 yp wz kb (wX K Z))
noncomputable def uN (K:PySem.W.Frag)(Z:Adr):Sp:=fun vs H Q _=>∃(b cs fl st:Addr) (ls:List Cd) (fs:List Bool) (e:Eng),vs=[.ref b]/\bR Z.bZ K H b cs fl st ls fs e/\ls.length<=1000/\∀(b' cs' fl':Addr) (H':Hp),H b'=none->H cs'=none->H fl'=none->av H H'->bR Z.bZ K H' b' cs' fl' st ls fs e->Q (.ref b') H'
include gB kW in
theorem Bz {f:Addr}{fd:FuncData}(F:Fun K "twin" "Bells.twin" jn f fd)(T:Txt K mg Z):aH P w K mg base CX0 3 f fd i5 (uN K Z):=by
 refine F.ok tI (fun vs H Q E h=>?_) (fun cdv A outer s H vs Q E hr h=>?_)
 ·obtain ⟨b,cs,fl,st,ls,fs,e,rfl,hB,hn,q⟩:=h
  rfl
 ·obtain ⟨b,cs,fl,st,ls,fs,e,rfl,hB,hn,q⟩:=h
  refine ⟨_,ag (aL (i:=1) tI.nd rfl orL (mv gB.M kW hr.dn (by rfl) T.Ip gB.b .nil aO (ae (aK (pv 0) (by rfl)) af))) (ag (cW (pv 1) (bC cf (by rfl) T.fJ dJ (ae (aK (pv 0) (by rfl)) af)) rfl) (ag (cW (pv 1) (aK (pv 0) (by rfl)) rfl) (aj (aw (pv 1))))),?_⟩
  k_all
  obtain ⟨⟨db,hob⟩,⟨as,hcs,hT⟩,hfl,hst,nn,ln⟩:=id hB
  k_mem
  refine ⟨_,_,_,hob,T.bx,T.dI,_,rfl,?_⟩
  refine fun x dx hx hdx nxd=>?_
  have hx':upd H dx (.own x) x=none:=by rw [aS (Ne.symm nxd)];exact hx
  refine ⟨x,dx,cs,ls,rfl,ah,hB.rows.same (((av.refl H).lay hdx).lay hx'),hn,fun cs1 fl1 st1 H1 hcs1 hfl1 kp hB1=>⟨rfl,?_⟩⟩
  have s1:=j1 hx hdx kp
  obtain ⟨⟨dx1,hob1⟩,⟨as1,hc1,hT1⟩,hf1,_,nn1,ln1⟩:=id hB1
  clear kp
  k_mem
  refine ⟨_,_,_,s1 _ _ hob,T.bx,T.de,_,rfl,?_⟩
  k_mem
  refine ⟨_,.inl (SqL.of (s1 _ _ hfl)),fun f2 hf2=>⟨_,_,_,upo hob1 hf2,T.bx,T.de,by show 3 < 1000;decide,?_⟩⟩
  have nf2:f2≠x:=fun z=>by rw [z,hob1] at hf2;cases hf2
  have ncf:cs1≠f2:=aq hc1 hf2
  have ncx:cs1≠x:=fun z=>by rw [z,hob1] at hc1;cases hc1
  have s2:av H (upd (upd H1 f2 (HO.lst (fs.map V.bl))) x (HO.ins Z.bZ dx1 (bL "failed" (.ref f2) [("codes",V.ref cs1),("failed",V.ref fl1),("state",V.ref st1)]))):=(s1.lay hf2).rewr hx
  have k2:L2.aB x H1 (upd (upd H1 f2 (HO.lst (fs.map V.bl))) x (HO.ins Z.bZ dx1 (bL "failed" (.ref f2) [("codes",V.ref cs1),("failed",V.ref fl1),("state",V.ref st1)]))):=(aB.of ((av.refl H1).lay hf2)).put
  have hob2:upd (upd H1 f2 (HO.lst (fs.map V.bl))) x (HO.ins Z.bZ dx1 (bL "failed" (.ref f2) [("codes",V.ref cs1),("failed",V.ref fl1),("state",V.ref st1)])) x=some (HO.ins Z.bZ dx1 [("codes",V.ref cs1),("failed",V.ref f2),("state",V.ref st1)]):=by rw [ah];rfl
  have hff:upd (upd H1 f2 (HO.lst (fs.map V.bl))) x (HO.ins Z.bZ dx1 (bL "failed" (.ref f2) [("codes",V.ref cs1),("failed",V.ref fl1),("state",V.ref st1)])) f2=some (HO.lst (fs.map V.bl)):=by rw [aS nf2,ah]
  generalize upd (upd H1 f2 (HO.lst (fs.map V.bl))) x (HO.ins Z.bZ dx1 (bL "failed" (.ref f2) [("codes",V.ref cs1),("failed",V.ref fl1),("state",V.ref st1)]))=H2 at *
  refine ⟨_,_,_,s2 _ _ hob,T.bx,T.bT,_,rfl,?_⟩
  k_mem
  refine ⟨_,_,_,hob2,T.bx,T.bT,by show 3 < 1000;decide,?_⟩
  have k3:L2.aB x H2 (upd H2 x (HO.ins Z.bZ dx1 (bL "state" (.ref st) [("codes",V.ref cs1),("failed",V.ref f2),("state",V.ref st1)]))):=(aB.of (av.refl H2)).put
  refine q x cs1 f2 _ hx (iU hcs1) (s1.free hf2) (s2.rewr hx) ⟨⟨dx1,by rw [ah];rfl⟩,⟨as1,k3 _ _ ncx (k2 _ _ ncx hc1),(hT1.keepI k2 hob1).keepI k3 hob2⟩,k3 _ _ nf2 hff,(s2.rewr hx).tup hst,ncf,ln⟩
variable (pq:bG K Z.bZ "twin" "Bells.twin" jn i5 v8 uo)(wY:aH P w K mg base CX0 3 v8 uo i5 (uN K Z))
noncomputable def sg (K:PySem.W.Frag)(Z:Adr):Sp:=fun vs H Q _=>∃(a:Addr) (ds:List Int) (c lv:Int),vs=[.ref a,.int c,.int lv]/\SqL K H a (ds.map V.int)/\0<=lv/\lv < ds.length/\Q (.int (if c=0 then ds.getD lv.toNat 0 else cQ ds - ds.getD lv.toNat 0)) H
include cv fH in
theorem AF {f:Addr}{fd:FuncData}(F:Fun K "wound_place" "wound_place" hZ f fd)(T:Txt K mg Z):aH P w K mg base CX0 3 f fd gT (sg K Z):=by
 refine F.ok zE (fun vs H Q E h=>?_) (fun cdv A outer s H vs Q E hr h=>?_)
 ·obtain ⟨a,ds,c,lv,rfl,hS,h0,h1,q⟩:=h
  rfl
 ·obtain ⟨a,ds,c,lv,rfl,hS,h0,h1,q⟩:=h
  refine seg 1 (aj (aw (aF fH hr.dn (by rfl) cv.m cv.F.kp cv.b .nil aO (ae (pv 0) (ae (au aI (pv 0) (pv 2)) af))))) fun zt1 zh1=>?_
  k_all
  intro ze1
  refine ⟨_,ag (aY (az bM (pv 1) ai (aJ _)) (aj (aw (au aI (pv 0) (pv 2)))) (aD)) zh1,?_⟩
  k_all
  k_mem
  split
  ·rename_i hc
   k_upd
   rw [if_pos hc] at q
   k_upd
   exact ⟨_,hS,_,dS h0 h1,q⟩
  ·rename_i hc
   k_upd
   rw [if_neg hc] at q
   k_upd
   refine ⟨_,hS,_,dS h0 h1,?_⟩
   k_mem
   exact ⟨a,ds,_,rfl,hS,by omega,q⟩
variable (jW:Def K mg "wound_place" hZ gT t6 rG)(uO:aH P w K mg base CX0 3 t6 rG gT (sg K Z))
noncomputable def yH (K:PySem.W.Frag)(Z:Adr):Sp:=fun vs H Q _=>∃(a:Addr) (ds:List Int) (pl:Int),vs=[.ref a,.int pl]/\SqL K H a (ds.map V.int)/\0 < ds.length/\ds.length<=1000/\∀(b:Addr) (H':Hp),H b=none->av H H'->H' b=some (.lst ((mz ds pl).map V.int))->Q (.ref b) H'
include cv fH in
theorem FO {f:Addr}{fd:FuncData}(F:Fun K "gates_by" "gates_by" lP f fd)(T:Txt K mg Z):aH P w K mg base CX0 3 f fd lH (yH K Z):=by
 refine F.ok yf (fun vs H Q E h=>?_) (fun cdv A outer s H vs Q E hr h=>?_)
 ·obtain ⟨a,ds,pl,rfl,hS,h0,h1,q⟩:=h
  rfl
 ·obtain ⟨a,ds,pl,rfl,hS,h0,h1,q⟩:=h
  refine ⟨_,ag (aL (i:=2) yf.nd rfl (Or.inr rfl) (bq (ae (pv 1) (ae (aF fH hr.dn (by rfl) cv.m cv.F.kp cv.b .nil aO (ae (pv 0) (ae (pv 1) af))) af)))) (aj (aw (nF ["level","depths","stands"] [none,some 0,some 2] (cC (by rfl) T.cU (ae (aN aE (by rfl) T.cA bF (ae (pv 0) af)) af)) (fun _ _ _ _=>(aM (i:=0) (show (["level","depths","stands"]:List Str).Nodup by decide +kernel) rfl orL)) (fun _ _ _ _=>(oI (az (show OpR _ _ (rIn K false) from nE) (au (show IxR _ (IM K) from aI) (pv 1) (pv 0)) (pv 2) (by rfl)))) (fun _ _ _ _=>(pv 0))))),?_⟩
  k_all
  k_mem
  refine ⟨a,ds,pl,rfl,hS,h0,?_⟩
  k_mem
  refine ⟨by decide,fun t ht=>⟨_,.inl (((av.refl H).lay ht).seq hS),by omega,by rw [List.length_map];omega,?_⟩⟩
  refine fm (fun i=>decide (ds.getD i 0=pl\/ds.getD i 0=cQ ds - pl)) (fun i=>V.int (i:Int)) (Nat.le_of_lt (dO (by rw [List.length_map];omega))) rfl (fun i hi N q=>?_) (fun i hi _ N q=>?_) (fun b hb=>?_)
  ·rw [List.length_map] at hi
   k_mem
   refine ⟨_,((av.refl H).lay ht).seq hS,_,by rw [Int.zero_add];exact j0 (by omega),_,.inr (SqT.of ah),rfl,rfl,?_⟩
   rw [HY]
   exact q
  ·k_mem
   rw [Int.zero_add]
   exact q
  ·refine q b _ (upn hb) (((av.refl H).lay ht).lay hb) ?_
   rw [ah]
   unfold mz
   rw [List.map_map,List.length_map]
   rfl
variable (pw:Def K mg "gates_by" lP lH Aa yw)(AG:aH P w K mg base CX0 3 Aa yw lH (yH K Z))
noncomputable def uP (K:PySem.W.Frag)(Z:Adr):Sp:=fun vs H Q E=>∃(x dx d c l:Addr) (ds:List Int) (ls:List Cd) (lds:List Ld) (slow fast:Int) (N:Addr->Prop),vs=[.ref x,.ref d,.ref c,.int slow,.int fast,.ref l]/\H x=some (.ins Z.bI dx [])/\SqL K H d (ds.map V.int)/\ni cdV K H c ls/\iz K H l lds/\ds.length<=1000/\ls.length<=1000/\lds.length<=1000/\(∀p,N p->∃ys,H p=some (.lst ys))/\
 (¬cM ds->E (.ref Z.eV) none H)/\
 (cM ds->¬((ls.length:Int)=(ds.length:Nat)/\∀x∈ls,fR x)->E (.ref Z.gv) none H)/\
 (cM ds->((ls.length:Int)=(ds.length:Nat)/\∀x∈ls,fR x)->¬(1<=slow/\slow<=fast/\fast<=500)->E (.ref Z.eW) none H)/\
 (cM ds->((ls.length:Int)=(ds.length:Nat)/\∀x∈ls,fR x)->(1<=slow/\slow<=fast/\fast<=500)->¬(lds.length<=30/\∀x∈lds,lz (ds.length:Nat) x)->E (.ref Z.gu) none H)/\
 (cM ds->((ls.length:Int)=(ds.length:Nat)/\∀x∈ls,fR x)->(1<=slow/\slow<=fast/\fast<=500)->(lds.length<=30/\∀x∈lds,lz (ds.length:Nat) x)->∀bk rl H',aB x H H'->H rl=none->WAt (clZ Z) K H' x bk rl (iK ds ls slow fast lds N) (jM ds ls lds) []->Q .non H')
include iM mO gB kW jE rN jF rO dQ iB rP yz jU uE jV uF in
theorem BA {f:Addr}{fd:FuncData}(F:Fun K "__init__" "Works.__init__" js f fd)(T:Txt K mg Z):aH P w K mg base (CXf P w) 3 f fd i9 (uP K Z):=by
 refine F.okF nu (fun vs H Q E h=>?_) (fun cdv A outer s H vs Q E hr h=>?_)
 ·obtain ⟨x,dx,d,c,l,ds,ls,lds,slow,fast,N,rfl,hx,hD,hC,hL,n1,n2,n3,hN,q1,q2,q3,q4,q5⟩:=h
  rfl
 ·obtain ⟨x,dx,d,c,l,ds,ls,lds,slow,fast,N,rfl,hx,hD,hC,hL,n1,n2,n3,hN,q1,q2,q3,q4,q5⟩:=h
  refine ⟨_,ag (bK (aF rN hr.dn (by rfl) jE.m jE.F.kp jE.b .nil bS (ae (pv 1) af))) (ag (bK (aF uF hr.dn (by rfl) jV.m jV.F.kp jV.b .nil bS (ae (pv 2) (ae (aN aE (by rfl) T.cA bF (ae (pv 1) af)) af)))) (ag (bK (aF rO hr.dn (by rfl) jF.m jF.F.kp jF.b .nil bS (ae (pv 3) (ae (pv 4) af)))) (ag (bK (aF uE hr.dn (by rfl) jU.m jU.F.kp jU.b .nil bS (ae (pv 5) (ae (aN aE (by rfl) T.cA bF (ae (pv 1) af)) af)))) (ag (cW (pv 0) (bC cf (by rfl) T.fJ dJ (ae (pv 1) af)) rfl) (ag (cW (pv 0) (pv 3) rfl) (ag (cW (pv 0) (pv 4) rfl) (ag (cW (pv 0) (nF ["kind","level","goal"] [none,none,none] (gx (pv 5)) (fun _ _ _ _=>(show PG _ _ (CQ K 3 _) from kA (n:=3) rfl (aV (aM (i:=0) (show (["kind","level","goal"]:List Str).Nodup by decide +kernel) rfl orL) (aV (aM (i:=1) (show (["kind","level","goal"]:List Str).Nodup by decide +kernel) rfl orL) (aV (aM (i:=2) (show (["kind","level","goal"]:List Str).Nodup by decide +kernel) rfl orL) fe))))) (fun _ _ _ _=>jS) (fun _ _ _ _=>(pv 2))) rfl) (ag (Kk ["depth"] [none] (iy:=6) nu.nd rfl rfl (gx (pv 1)) (fun _ _ _ _=>(aM (i:=0) (show (["depth"]:List Str).Nodup by decide +kernel) rfl orL)) (fun _ _ _ _=>jS) (fun _ _ _ _=>iF)) (ag (aL (i:=7) nu.nd rfl orL (mv dQ.M iB hr.dn (by rfl) T.zV dQ.b .nil aO (ae (au aI (pv 1) ai) (ae (pv 6) (ae (mv gB.M kW hr.dn (by rfl) T.Ip gB.b .nil aO (ae (pv 2) af)) (ae (mv iM.M mO hr.dn (by rfl) T.Lm iM.b .nil aO (ae (pv 5) (ae (aN aE (by rfl) T.cA bF (ae (pv 1) af)) af))) af)))))) (aj (cW (pv 0) (mv rP.M yz hr.dn (by rfl) T.OW rP.b .nil aO (ae (pv 7) (ae (eK (by rfl) T.DC) af))) rfl))))))))))),?_⟩
  k_all
  k_mem
  refine ⟨d,ds,rfl,hD,by omega,fun sh=>?_,q1⟩
  k_mem
  refine ⟨_,.inl hD,?_⟩
  rw [List.length_map]
  refine ⟨c,ls,_,rfl,hC,fun h2=>?_,q2 sh⟩
  k_mem
  refine ⟨_,_,rfl,?_⟩
  by_cases h3:1<=slow/\slow<=fast/\fast<=500
  case neg=>rw [if_neg h3];exact q3 sh h2 h3
  rw [if_pos h3]
  k_mem
  refine ⟨_,.inl hD,?_⟩
  rw [List.length_map]
  refine ⟨l,lds,_,rfl,hL,fun h4=>?_,q4 sh h2 h3⟩
  replace q5:=q5 sh h2 h3 h4
  clear q1 q2 q3 q4
  k_mem
  refine ⟨_,.inl hD,fun dl hdl=>⟨_,_,_,upo hx hdl,T.aG,T.df,by decide,_,_,_,ah,T.aG,T.tP,by show 1 < 1000;decide,_,_,_,ah,T.aG,T.tQ,by show 2 < 1000;decide,?_⟩⟩
  have ndx:dl≠x:=fun z=>by rw [z,hx] at hdl;cases hdl
  have k1:L2.aB x H (upd (upd (upd (upd H dl (HO.lst (ds.map V.int))) x (HO.ins Z.bI dx (bL "depths" (.ref dl) []))) x (HO.ins Z.bI dx (bL "slow" (.int slow) (bL "depths" (.ref dl) [])))) x (HO.ins Z.bI dx (bL "fast" (.int fast) (bL "slow" (.int slow) (bL "depths" (.ref dl) []))))):=(((aB.of ((av.refl H).lay hdl)).put).put).put
  have hx1:upd (upd (upd (upd H dl (HO.lst (ds.map V.int))) x (HO.ins Z.bI dx (bL "depths" (.ref dl) []))) x (HO.ins Z.bI dx (bL "slow" (.int slow) (bL "depths" (.ref dl) [])))) x (HO.ins Z.bI dx (bL "fast" (.int fast) (bL "slow" (.int slow) (bL "depths" (.ref dl) [])))) x=some (HO.ins Z.bI dx [("depths",.ref dl),("slow",.int slow),("fast",.int fast)]):=by rw [ah];rfl
  have hd1:upd (upd (upd (upd H dl (HO.lst (ds.map V.int))) x (HO.ins Z.bI dx (bL "depths" (.ref dl) []))) x (HO.ins Z.bI dx (bL "slow" (.int slow) (bL "depths" (.ref dl) [])))) x (HO.ins Z.bI dx (bL "fast" (.int fast) (bL "slow" (.int slow) (bL "depths" (.ref dl) [])))) dl=some (HO.lst (ds.map V.int)):=by rw [aS ndx,aS ndx,aS ndx,ah]
  generalize upd (upd (upd (upd H dl (HO.lst (ds.map V.int))) x (HO.ins Z.bI dx (bL "depths" (.ref dl) []))) x (HO.ins Z.bI dx (bL "slow" (.int slow) (bL "depths" (.ref dl) [])))) x (HO.ins Z.bI dx (bL "fast" (.int fast) (bL "slow" (.int slow) (bL "depths" (.ref dl) []))))=H1 at *
  obtain ⟨asL,hLs,hLt⟩:=id hL
  refine ⟨⟨_,hLs.keepI k1 hx⟩,xC (fun y=>.int y.2.2) (hL.keepI k1 hx) (by rw [sizeLine_eq];omega) rfl (fun y _ M hM=>by k_mem;exact hM) fun gl hgl=>?_⟩
  k_mem
  refine ⟨_,_,_,upo hx1 hgl,T.aG,T.qO,by show 3 < 1000;decide,?_⟩
  have ngx:gl≠x:=fun z=>by rw [z,hx1] at hgl;cases hgl
  have ngd:dl≠gl:=aq hd1 hgl
  have k2:L2.aB x H1 (upd (upd H1 gl (HO.lst (lds.map fun y=>V.int y.2.2))) x (HO.ins Z.bI dx (bL "goals" (.ref gl) [("depths",.ref dl),("slow",.int slow),("fast",.int fast)]))):=(aB.of ((av.refl H1).lay hgl)).put
  have hx2:upd (upd H1 gl (HO.lst (lds.map fun y=>V.int y.2.2))) x (HO.ins Z.bI dx (bL "goals" (.ref gl) [("depths",.ref dl),("slow",.int slow),("fast",.int fast)])) x=some (HO.ins Z.bI dx [("depths",.ref dl),("slow",.int slow),("fast",.int fast),("goals",.ref gl)]):=by rw [ah];rfl
  have hg2:upd (upd H1 gl (HO.lst (lds.map fun y=>V.int y.2.2))) x (HO.ins Z.bI dx (bL "goals" (.ref gl) [("depths",.ref dl),("slow",.int slow),("fast",.int fast)])) gl=some (HO.lst ((lds.map (·.2.2)).map V.int)):=by rw [aS ngx,ah,List.map_map];rfl
  generalize upd (upd H1 gl (HO.lst (lds.map fun y=>V.int y.2.2))) x (HO.ins Z.bI dx (bL "goals" (.ref gl) [("depths",.ref dl),("slow",.int slow),("fast",.int fast)]))=H2 at *
  have k12:=k1.trans k2
  have hd2:=k2 _ _ ndx hd1
  refine ⟨⟨_,hD.keepI k12 hx⟩,?_⟩
  refine xW (fun _=>true) (fun _=>V.bl false) (hD.keepI k12 hx) (by rw [List.length_map,sizeLine_eq];omega) rfl (fun y _ M hM=>by k_mem;exact hM) (fun y _ _ M hM=>by k_mem;exact hM) fun sh1 hsh1=>?_
  have es:((ds.map V.int).filter fun _=>true).map (fun _=>V.bl false)=(ds.map fun _=>false).map V.bl:=by
   rw [List.filter_eq_self.mpr (by simp),List.map_map,List.map_map];rfl
  rw [es]
  have f3:=(av.refl H2).lay (o:=HO.lst ((ds.map fun _=>false).map V.bl)) hsh1
  have hs3:upd H2 sh1 (HO.lst ((ds.map fun _=>false).map V.bl)) sh1=some (HO.lst ((ds.map fun _=>false).map V.bl)):=ah
  generalize upd H2 sh1 (HO.lst ((ds.map fun _=>false).map V.bl))=H3 at *
  have k13:L2.aB x H H3:=k12.trans (aB.of f3)
  have sl2:=sh.l2
  k_mem
  refine ⟨_,hD.keepI k13 hx,_,dS (k:=0) (by omega) (by omega),?_⟩
  k_mem
  refine fun b db hb hdb nbd=>?_
  have hb':upd H3 db (.own b) b=none:=by rw [aS (Ne.symm nbd)];exact hb
  refine ⟨b,db,c,ls,rfl,ah,(hC.keepI k13 hx).same (((av.refl H3).lay hdb).lay hb'),n2,fun cs fl st H4 hcs hfl kp hB=>⟨rfl,?_⟩⟩
  have f4:=j1 hb hdb kp
  have fcs:=iU hcs
  have ffl:=iU hfl
  clear kp hcs hfl
  have f34:=f3.trans f4
  have k14:L2.aB x H H4:=k13.trans (aB.of f4)
  k_mem
  refine ⟨_,.inl (hD.keepI k14 hx),?_⟩
  rw [List.length_map]
  refine fun y dy hy hdy nyd=>?_
  have hy':upd H4 dy (.own y) y=none:=by rw [aS (Ne.symm nyd)];exact hy
  refine ⟨y,dy,l,lds,_,rfl,ah,(hL.keepI k14 hx).same (((av.refl H4).lay hdy).lay hy'),n3,fun kn wh H5 hkn hwh nkw kp hY=>⟨rfl,?_⟩⟩
  have f5:=j1 hy hdy kp
  have fkn:=iU hkn
  have fwh:=iU hwh
  clear kp hkn hwh
  k_mem
  refine fun s ds1 hs hds1 nsd=>?_
  have hs':upd H5 ds1 (.own s) s=none:=by rw [aS (Ne.symm nsd)];exact hs
  refine ⟨s,ds1,sh1,b,y,ds.getD 0 0,ds.map fun _=>false,rfl,ah,(((av.refl H5).lay hds1).lay hs').seq (SqL.of (f5 _ _ (f4 _ _ hs3))),fun ol H6 hol kp hob6 hol6=>⟨rfl,?_⟩⟩
  have f6:=j1 hs hds1 kp
  have fol:=iU hol
  clear kp hol
  k_mem
  refine fun bk dbk hbk hdbk nbk=>?_
  refine ⟨bk,dbk,s,rfl,ah,fun rl H7 hrl kp hob7 hrl7=>⟨rfl,?_⟩⟩
  have f7:=j1 hbk hdbk kp
  have frl:=iU hrl
  clear kp hrl
  have f26:=(f3.trans f4).trans (f5.trans f6)
  have f27:=f26.trans f7
  have hx7:=f27 _ _ hx2
  k_mem
  refine ⟨_,_,_,hx7,T.aG,T.br,by show 4 < 1000;decide,?_⟩
  have k8:L2.aB x H7 (upd H7 x (HO.ins Z.bI dx (bL "log" (.ref bk) [("depths",.ref dl),("slow",.int slow),("fast",.int fast),("goals",.ref gl)]))):=(aB.of (av.refl H7)).put
  have hx8:upd H7 x (HO.ins Z.bI dx (bL "log" (.ref bk) [("depths",.ref dl),("slow",.int slow),("fast",.int fast),("goals",.ref gl)])) x=some (HO.ins Z.bI dx [("depths",.ref dl),("slow",.int slow),("fast",.int fast),("goals",.ref gl),("log",.ref bk)]):=by rw [ah];rfl
  generalize upd H7 x (HO.ins Z.bI dx (bL "log" (.ref bk) [("depths",.ref dl),("slow",.int slow),("fast",.int fast),("goals",.ref gl)]))=H8 at *
  have frx:∀z,H6 z=none->H z=none:=fun z hz=>by
   by_cases e:z=x
   ·subst e;rw [f26 _ _ hx2] at hz;cases hz
   ·exact k12.free e (f26.free hz)
  obtain ⟨_,⟨asc,oc4,_⟩,of4,_,ncf,_⟩:=id hB
  obtain ⟨_,okn5,owh5⟩:=id hY
  have hsx:s≠x:=fun z=>by rw [z] at hs;rw [f5 _ _ (f34 _ _ hx2)] at hs;cases hs
  have hbx:b≠x:=fun z=>by rw [z] at hb;rw [f3 _ _ hx2] at hb;cases hb
  have hyx:y≠x:=fun z=>by rw [z] at hy;rw [f34 _ _ hx2] at hy;cases hy
  have hbkx:bk≠x:=fun z=>by rw [z] at hbk;rw [f26 _ _ hx2] at hbk;cases hbk
  have f46:=f5.trans f6
  have hN6:∀p,N p->∃ys,H6 p=some (.lst ys):=fun p hp=>by
   obtain ⟨ys,e⟩:=hN p hp
   exact ⟨ys,f26 _ _ (k12 _ _ (fun z=>by rw [z,hx] at e;cases e) e)⟩
  have hNn:∀p,N p->∀z,H z=none->z≠p:=fun p hp z hz e=>by
   obtain ⟨ys,e'⟩:=hN p hp
   rw [←e,hz] at e';cases e'
  have fr3:∀z,z≠x->H3 z=none->H z=none:=fun z e hz=>k13.free e hz
  have nx3:∀z,H3 z=none->z≠x:=fun z hz e=>by rw [e,f3 _ _ hx2] at hz;cases hz
  have gcs:=fr3 cs (nx3 cs fcs) fcs
  have gfl:=fr3 fl (nx3 fl ffl) ffl
  have gkn:=fr3 kn (nx3 kn (f4.free fkn)) (f4.free fkn)
  have gwh:=fr3 wh (nx3 wh (f4.free fwh)) (f4.free fwh)
  have gol:=fr3 ol (nx3 ol (f4.free (f5.free fol))) (f4.free (f5.free fol))
  have cs5:=f5 _ _ oc4
  have fl5:=f5 _ _ of4
  have hst:bt (clZ Z) K H7 rl (iK ds ls slow fast lds N) s ⟨ds1,ol,b,cs,fl,st,y,kn,wh⟩ (jM ds ls lds):=
   ⟨f7 _ _ hob6,f7 _ _ hol6,((hB.same f5).same f6).same f7,(hY.same f6).same f7,
    ⟨aq hol6 frl,aq (f6 _ _ cs5) frl,aq (f6 _ _ fl5) frl,aq (f6 _ _ okn5) frl,aq (f6 _ _ owh5) frl,
    aq cs5 fol,aq fl5 fol,aq okn5 fol,aq owh5 fol,
    (aq fl5 fol).symm,(aq of4 fkn).symm,(aq of4 fwh).symm,
    (aq owh5 fol).symm,aq oc4 fwh,aq of4 fwh,nkw⟩,
    ⟨fun p hp=>by obtain ⟨ys,e⟩:=hN6 p hp;exact ⟨ys,f7 _ _ e⟩,fun p hp=>hNn p hp rl (frx rl frl),fun p hp=>hNn p hp ol gol,fun p hp=>hNn p hp cs gcs,fun p hp=>hNn p hp fl gfl,fun p hp=>hNn p hp kn gkn,fun p hp=>hNn p hp wh gwh⟩⟩
  have hst8:=hst.keepI k8 hx7 hsx hbx hyx
  have nrx:rl≠x:=fun z=>by rw [z] at frl;rw [f26 _ _ hx2] at frl;cases frl
  refine q5 bk rl H8 ((k12.trans (aB.of f27)).trans k8) (frx rl frl) ⟨⟨dx,dl,gl,hx8,k8 _ _ ndx (f27 _ _ hd2),k8 _ _ ngx (f27 _ _ hg2),aq (f26 _ _ hd2) frl,aq (f26 _ _ hg2) frl,fun p hp=>hNn p hp dl hdl,fun p hp=>hNn p hp gl (k1.free ngx hgl)⟩,⟨dbk,s,k8 _ _ hbkx hob7,hst8.at⟩,[],k8 _ _ nrx hrl7,rfl,fun i a r e=>by simp at e⟩
variable (pz:AX K Z.bI "Works.__init__" js i9 v9 uq)(wZ:aH P w K mg base (CXf P w) 3 v9 uq i9 (uP K Z))
def yI (Z:Adr)(K:PySem.W.Frag)(H:Hp)(w bk rl:Addr)(g:Cfg)(n0:bg)(rs:List Row)(d:Dd)(Q:VK)(E:XK):Prop:=
 (300<=rs.length->∀H',av H H'->E (.ref Z.eX) none H')/\(rs.length < 300->∀H',aB rl H H'->WAt (clZ Z) K H' w bk rl g n0 (rs++[zr g n0 rs d])->Q (.int (dz rs+xw g (ak n0 rs) d)) H')
noncomputable def si (K:PySem.W.Frag)(Z:Adr):Sp:=fun vs H Q E=>∃(w bk rl:Addr) (g:Cfg) (n0:bg) (rs:List Row) (dd s:Addr) (tk:Int) (dv:List V) (n:bg),vs=[.ref w,.ref dd,.int tk,.ref s]/\WAt (clZ Z) K H w bk rl g n0 rs/\SqT K H dd dv/\fL (clZ Z) K H rl g s n/\g.ks.length=n.ws.length/\(300<=rs.length->∀H',av H H'->E (.ref Z.eX) none H')/\(rs.length < 300->∀H',aB rl H H'->WAt (clZ Z) K H' w bk rl g n0 (rs++[⟨dz rs,dz rs+tk,dv,iV g n,n⟩])->Q (.int (dz rs+tk)) H')
include pd wI cT fj iO mR in
theorem AH {f:Addr}{fd:FuncData}(F:Fun K "write" "Works.write" ik f fd)(T:Txt K mg Z):aH P w K mg base (CXf P w) 3 f fd gW (si K Z):=by
 refine F.okF zH (fun vs H Q E h=>?_) (fun cdv A outer s H vs Q E hr h=>?_)
 ·obtain ⟨w,bk,rl,g,n0,rs,dd,s0,tk,dv,n,rfl,hW,hD,hS,hl,q1,q2⟩:=h
  rfl
 ·obtain ⟨w,bk,rl,g,n0,rs,dd,s0,tk,dv,n,rfl,hW,hD,hS,hl,q1,q2⟩:=h
  refine seg 1 (aj (aw (ba (pv 0) T.aG iO.M mR hr.dn iO.b .nil aO))) fun zt1 zh1=>?_
  k_all
  intro ze1
  refine ⟨_,ag (bK (bz (aK (pv 0) (by rfl)) T.bD pd.M wI hr.dn pd.b .nil bS (ae (pv 1) (ae (pv 2) (ae (bz (pv 0) T.aG cT.M fj hr.dn cT.b .nil aO (ae (pv 3) af)) (ae (pv 3) af)))))) zh1,?_⟩
  k_all
  obtain ⟨⟨dx,dl,gl,hob,hdl,hgl,n1,n2⟩,hB⟩:=id hW
  obtain ⟨⟨db,f0,hbo,hF⟩,as,hrl,hR⟩:=id hB
  k_mem
  refine ⟨_,_,_,hob,T.aG,T.br,_,rfl,?_⟩
  k_mem
  refine ⟨_,_,hbo,rfl,_,_,hob,rfl,_,_,_,_,_,_,_,_,rfl,hW,hS,hl,fun H1 s1=>?_⟩
  k_mem
  refine ⟨bk,rl,dd,s0,g,n0,n,rs,tk,iV g n,dv,rfl,hB.same s1,s1.tup hD,hS.same s1,fun h=>q1 h H1 s1,fun h H2 k2 hB2=>?_⟩
  k_mem
  have k1:L2.aB rl H H2:=(aB.of s1).trans k2
  have hW2:WAt (clZ Z) K H2 w bk rl g n0 _:=(hW.same s1).keep k2 (s1 _ _ hrl) hB2
  obtain ⟨dx2,_,_,hob2,_⟩:=id hW2.ob
  k_upd
  refine ⟨_,_,hob2,rfl,_,_,_,_,_,_,rfl,hW2,?_⟩
  rw [xv]
  k_upd
  exact q2 h H2 k1 hW2
variable (bc:bG K Z.bI "write" "Works.write" ik gW t8 rH)(bP:aH P w K mg base (CXf P w) 3 t8 rH gW (si K Z))
noncomputable def ky (K:PySem.W.Frag)(Z:Adr):Sp:=fun vs H Q _=>∃(w bk rl:Addr) (g:Cfg) (n0:bg) (rs:List Row) (pl:Int),vs=[.ref w,.int pl]/\WAt (clZ Z) K H w bk rl g n0 rs/\0 < g.ds.length/\∀p,H p=none->Q (.ref p) (upd H p (.tup [.int pl,.int (cQ g.ds - pl)]))
include cv fH in
theorem sj {f:Addr}{fd:FuncData}(F:Fun K "both_places" "Works.both_places" di f fd)(T:Txt K mg Z):aH P w K mg base CX0 3 f fd dh (ky K Z):=by
 refine F.ok qC (fun vs H Q E h=>?_) (fun cdv A outer s H vs Q E hr h=>?_)
 ·obtain ⟨w,bk,rl,g,n0,rs,pl,rfl,hW,hn,q⟩:=h
  rfl
 ·obtain ⟨w,bk,rl,g,n0,rs,pl,rfl,hW,hn,q⟩:=h
  refine ⟨_,aj (aw (bq (ae (pv 1) (ae (aF fH hr.dn (by rfl) cv.m cv.F.kp cv.b .nil aO (ae (aK (pv 0) (by rfl)) (ae (pv 1) af))) af)))),?_⟩
  k_all
  obtain ⟨⟨dx,dl,gl,hob,hdl,hgl,n1,n2⟩,hB⟩:=id hW
  obtain ⟨⟨db,f0,hbo,hF⟩,as,hrl,hR⟩:=id hB
  k_mem
  refine ⟨_,_,_,hob,T.aG,T.df,_,rfl,?_⟩
  k_mem
  refine ⟨_,_,_,rfl,SqL.of hdl,hn,?_⟩
  k_mem
  exact ⟨by decide,q⟩
variable (gM:bG K Z.bI "both_places" "Works.both_places" di dh kJ kv)(kM:aH P w K mg base CX0 3 kJ kv dh (ky K Z))
theorem Js {x y z i:Int}(h0:0<=i)(h2:i<=2):atI [V.int x,V.int y,V.int z] i=some (.int (if i=0 then x else if i=1 then y else z)):=by
 rcases (by omega:i=0\/i=1\/i=2) with rfl | rfl | rfl<;>rfl
noncomputable def AI (K:PySem.W.Frag)(Z:Adr):Sp:=fun vs H Q _=>∃(a:Addr) (ns:List Int),vs=[.ref a]/\SqL K H a (ns.map V.int)/\∀(p dl cl:Addr) (ds:List Int) (as:List Addr) (ls:List Cd) (slow fast:Int) (H':Hp),av H H'->H p=none->H dl=none->H cl=none->dl≠cl->H' p=some (.lst [.ref dl,.ref cl,.int slow,.int fast])->H' dl=some (.lst (ds.map V.int))->cM ds->H' cl=some (.lst (as.map V.ref))->dC cdV K H' as ls->ls.length=ds.length->(∀x∈ls,fR x)->(1<=slow/\slow<=fast/\fast<=500)->Q (.ref p) H'
include jG xO aR cJ ph AA sV CD in
theorem Hv {f:Addr}{fd:FuncData}(F:Fun K "_law_shaft" "_law_shaft" jP f fd)(T:Txt K mg Z):aH P w K mg base CX0 3 f fd nL (AI K Z):=by
 refine F.ok iD (fun vs H Q E h=>?_) (fun cdv A outer s H vs Q E hr h=>?_)
 ·obtain ⟨a,ns,rfl,hS,q⟩:=h
  rfl
 ·obtain ⟨a,ns,rfl,hS,q⟩:=h
  obtain ⟨t1,h1,k1⟩:∃t,PSs (vo CX0 P w K mg base ["_law_script","_law_depths_here","_law_codes_here","_law_cell","_law_slow","_law_fast"] "_law_shaft" (ao jP) f cdv A outer s H E).nox ((cy jP).drop 4) t/\∀(dl cl:Addr) (ds:List Int) (as:List Addr) (ls:List Cd) (c slow:Int) (H1:Hp),av H H1->H dl=none->H cl=none->dl≠cl->H1 dl=some (.lst (ds.map V.int))->cM ds->H1 cl=some (.lst (as.map V.ref))->dC cdV K H1 as ls->ls.length=ds.length->(∀x∈ls,fR x)->1<=slow->slow<=500->t ({nx:=fun _ H2=>Q .non H2,rt:=Q}:lr) [some (.ref a),some (.ref dl),some (.ref cl),some (.int c),some (.int slow),none] H1:=by
   refine ⟨_,ag (aY (az bM (aF cJ hr.dn (by rfl) aR.m aR.F.kp aR.b .nil aO (ae (pv 3) (ae ai (ae ai af)))) ai (aJ _)) (aj (aL (i:=4) iD.nd rfl orL ai)) (aD)) (ag (aL (i:=5) iD.nd rfl orL (au aI (bB (ae (pv 4) (ae ai (ae (aT cu (pv 4) (aF cJ hr.dn (by rfl) aR.m aR.F.kp aR.b .nil aO (ae (pv 3) (ae ai (ae (aT gJ ai (pv 4)) af))))) af)))) (aN (xl rfl) (by rfl) T.Lk GC (ae ai (ae (aF cJ hr.dn (by rfl) aR.m aR.F.kp aR.b .nil aO (ae (pv 3) (ae ai (ae ai af)))) af))))) (aj (aw (bB (ae (pv 1) (ae (pv 2) (ae (pv 4) (ae (pv 5) af)))))))),?_⟩
   intro dl cl ds as ls c slow H1 s1 fd fc ndc hdl hsh hcl hT hlen hg h1 h5
   k_all
   k_mem
   refine ⟨c,4,16,rfl,by omega,by omega,by omega,fun r4 h40 h41=>?_⟩
   k_mem
   split
   all_goals
    refine ⟨c,2,_,rfl,by omega,by omega,by omega,fun r2 h20 h21=>⟨by decide,fun p1 hp1=>⟨c,3,8,rfl,by omega,by omega,by omega,fun r3 h30 h31=>?_⟩⟩⟩
    k_mem
    refine ⟨_,SqL.of ah,_,Js (by split<;>omega) (by split<;>omega),by decide,fun p2 hp2=>?_⟩
    refine q p2 dl cl ds as ls _ _ _ (s1.trans (((av.refl H1).lay hp1).lay hp2)) (s1.free (upn hp2)) fd fc ndc ah (upo (upo hdl hp1) hp2) hsh (upo (upo hcl hp1) hp2) (hT.same (((av.refl H1).lay hp1).lay hp2)) hlen hg ⟨by omega,?_,?_⟩
    ·(repeat' split)<;>omega
    ·(repeat' split)<;>omega
  refine ⟨_,ag (aL (i:=1) iD.nd rfl orL (aF AA hr.dn (by rfl) ph.m ph.F.kp ph.b .nil aO (ae (aF xO hr.dn (by rfl) jG.m jG.F.kp jG.b .nil aO (ae (pv 0) (ae ai af))) af))) (ag (aL (i:=2) iD.nd rfl orL (aF CD hr.dn (by rfl) sV.m sV.F.kp sV.b .nil aO (ae (aF xO hr.dn (by rfl) jG.m jG.F.kp jG.b .nil aO (ae (pv 0) (ae ai af))) (ae (aN aE (by rfl) T.cA bF (ae (pv 1) af)) af)))) (ag (aL (i:=3) iD.nd rfl orL (aF xO hr.dn (by rfl) jG.m jG.F.kp jG.b .nil aO (ae (pv 0) (ae ai af)))) (ag (aL (i:=4) iD.nd rfl orL (aT cu ai (aF cJ hr.dn (by rfl) aR.m aR.F.kp aR.b .nil aO (ae (pv 3) (ae ai (ae (au aI (bB (ae ai (ae ai af))) (aF cJ hr.dn (by rfl) aR.m aR.F.kp aR.b .nil aO (ae (pv 3) (ae ai (ae ai af))))) af)))))) h1))),?_⟩
  k_all
  k_mem
  refine ⟨a,ns,1,rfl,hS,by omega,?_⟩
  k_mem
  refine ⟨_,rfl,fun dl ds H1 hdn s1 hdl hsh=>?_⟩
  have l2:=hsh.l2
  have l6:=hsh.l6
  k_mem
  refine ⟨a,ns,2,rfl,s1.seq hS,by omega,?_⟩
  k_mem
  refine ⟨_,.inl (SqL.of hdl),?_⟩
  rw [List.length_map]
  refine ⟨_,_,rfl,by omega,by omega,fun cl as ls H2 hcn s2 hcl hT hlen hg=>?_⟩
  have ndc:dl≠cl:=aq hdl hcn
  k_mem
  refine ⟨a,ns,3,rfl,(s1.trans s2).seq hS,by omega,?_⟩
  k_mem
  refine ⟨by decide,fun p hp=>⟨_,0,2,rfl,by omega,by omega,by omega,fun r0 h00 h01=>?_⟩⟩
  have e0:∃m:Int,(m=30\/m=500)/\atI [V.int 30,V.int 500] r0=some (.int m):=LS (x:=30) (y:=500) (by omega)
  obtain ⟨m,hm,em⟩:=e0
  k_mem
  refine ⟨_,SqL.of ah,_,em,_,1,m,rfl,by omega,by omega,by omega,fun r1 h10 h11=>?_⟩
  k_mem
  have sx:=(av.refl H2).lay (o:=HO.lst [V.int 30,V.int 500]) hp
  exact k1 dl cl ds as ls _ _ _ ((s1.trans s2).trans sx) hdn (s1.free hcn) ndc (sx _ _ (s2 _ _ hdl)) hsh (sx _ _ hcl) (hT.same sx) (by omega) hg (by omega) (by omega)
variable (sX:Def K mg "_law_shaft" jP nL Ck Ai)(CH:aH P w K mg base CX0 3 Ck Ai nL (AI K Z))
noncomputable def sk (K:PySem.W.Frag)(Z:Adr):Sp:=fun vs H Q _=>∃(p dl cl ll sl:Addr) (g:Cfg) (lds:List Ld) (n0:bg) (rs:List Row) (c:Int),vs=[.ref p,.ref sl,.int c]/\fh K H p dl cl ll g lds/\jL g/\eD g (ak n0 rs)/\(∃as:List Addr,H sl=some (.lst (as.map V.ref))/\gG (kP K H) as (pE n0 rs))/\(∀dd d H',av H H'->SqT K H' dd (ddV d)->yM d->dD g (ak n0 rs) d=none->Q (.ref dd) H')/\(rs≠[]->∀dd H',av H H'->SqT K H' dd [.str "take back"]->Q (.ref dd) H')
include gD oz gE oA in
theorem AJ {f:Addr}{fd:FuncData}(F:Fun K "_law_good_deed" "_law_good_deed" bW f fd)(T:Txt K mg Z):aH P w K mg base CX0 3 f fd g0 (sk K Z):=by
 refine F.ok jB (fun vs H Q E h=>?_) (fun cdv A outer s H vs Q E hr h=>?_)
 ·obtain ⟨p,dl,cl,ll,sl,g,lds,n0,rs,c,rfl,hP,hg,hn,⟨as,hsl,hA⟩,q,qb⟩:=h
  rfl
 ·obtain ⟨p,dl,cl,ll,sl,g,lds,n0,rs,c,rfl,hP,hg,hn,⟨as,hsl,hA⟩,q,qb⟩:=h
  obtain ⟨t4,h4,k4⟩:∃t,PSs (vo CX0 P w K mg base ["_law_setup_here","_law_states","_law_cell","_law_state","_law_rest","_law_level"] "_law_good_deed" (ao bW) f cdv A outer s H E).nox ((cy bW).drop 8) t/\∀(a:Addr) (lv:Int),kP K H a (ak n0 rs,dz rs)->0<=lv->lv < g.ds.length->t ({nx:=fun _ H2=>Q .non H2,rt:=Q}:lr) [some (.ref p),some (.ref sl),some (.int c),some (.ref a),some (.int (c / 12)),some (.int lv)] H:=by
   refine ⟨_,aj (aw (au aI (bB (ae (bq (ae aC (ae (pv 5) af))) (ae (bq (ae aC (ae (pv 5) af))) af))) (bC iH (by rfl) T.tM ng (ae (au ay (au ay (pv 3) ai) (pv 5)) af)))),?_⟩
   intro a lv hSt v0 v1
   obtain ⟨gt,lt,ht,dt,h1,h2,h3,h4,h5⟩:=hSt.un
   have gl:=hn.gl
   k_all
   k_mem
   refine ⟨by decide,fun p2 hp2=>⟨by decide,fun p3 hp3=>⟨by decide,fun p4 hp4=>?_⟩⟩⟩
   have f4:=(((av.refl H).lay (o:=HO.tup [V.str (Str.ofString "open"),V.int lv]) hp2).lay (o:=HO.tup [V.str (Str.ofString "shut"),V.int lv]) hp3).lay (o:=HO.lst [V.ref p2,V.ref p3]) hp4
   have e2:upd (upd (upd H p2 (HO.tup [V.str (Str.ofString "open"),V.int lv])) p3 (HO.tup [V.str (Str.ofString "shut"),V.int lv])) p4 (HO.lst [V.ref p2,V.ref p3]) p2=some (HO.tup [V.str (Str.ofString "open"),V.int lv]):=upo (upo ah hp3) hp4
   have e3:upd (upd (upd H p2 (HO.tup [V.str (Str.ofString "open"),V.int lv])) p3 (HO.tup [V.str (Str.ofString "shut"),V.int lv])) p4 (HO.lst [V.ref p2,V.ref p3]) p3=some (HO.tup [V.str (Str.ofString "shut"),V.int lv]):=upo ah hp4
   have e4:upd (upd (upd H p2 (HO.tup [V.str (Str.ofString "open"),V.int lv])) p3 (HO.tup [V.str (Str.ofString "shut"),V.int lv])) p4 (HO.lst [V.ref p2,V.ref p3]) p4=some (HO.lst [V.ref p2,V.ref p3]):=ah
   generalize upd (upd (upd H p2 (HO.tup [V.str (Str.ofString "open"),V.int lv])) p3 (HO.tup [V.str (Str.ofString "shut"),V.int lv])) p4 (HO.lst [V.ref p2,V.ref p3])=H3 at *
   k_upd
   refine ⟨_,f4.tup h1,_,rfl,?_⟩
   k_mem
   refine ⟨_,f4.tup h2,_,kB v0 (by omega),?_⟩
   k_mem
   refine ⟨_,SqL.of e4,_,BY,?_⟩
   by_cases hb:(ak n0 rs).gates.getD lv.toNat false=true
   ·rw [if_pos hb]
    k_upd
    exact q p3 (.sht lv) _ f4 (SqT.of e3) trivial (oR v0 v1 hb)
   ·rw [if_neg hb]
    k_upd
    exact q p2 (.opn lv) _ f4 (SqT.of e2) trivial (u6 v0 v1 (by simpa using hb))
  obtain ⟨t3,h3,k3⟩:∃t,PSs (vo CX0 P w K mg base ["_law_setup_here","_law_states","_law_cell","_law_state","_law_rest","_law_level"] "_law_good_deed" (ao bW) f cdv A outer s H E).nox ((cy bW).drop 7) t/\∀(a:Addr) (lv:Int),kP K H a (ak n0 rs,dz rs)->0<=lv->lv < g.ds.length->t ({nx:=fun _ H2=>Q .non H2,rt:=Q}:lr) [some (.ref p),some (.ref sl),some (.int c),some (.ref a),some (.int (c / 12)),some (.int lv)] H:=by
   refine ⟨_,ag (aY (oG (az bM (aT c9 (pv 2) ai) ai (aJ _)) (oG (az bM (aT c9 (pv 4) ai) ai (aJ _)) (mr (az Eh (aN aE (by rfl) T.cA bF (ae (pv 1) af)) ai (aJ _))))).pt (aj (aw (bq (ae aC af)))) (aD)) h4,?_⟩
   intro a lv hSt v0 v1
   obtain ⟨gt,lt,ht,dt,h1,h2,h3,h4,h5⟩:=hSt.un
   have hlen:=hA.1
   rw [BV] at hlen
   k_all
   k_mem
   split
   ·split
    ·k_upd
     refine ⟨_,.inl (SqL.of hsl),?_⟩
     rw [List.length_map]
     k_mem
     split
     ·rename_i hgt
      k_upd
      refine ⟨by decide,fun dd hdd=>?_⟩
      k_upd
      exact qb (fun z=>by rw [z] at hlen;simp only [List.length_nil] at hlen;omega) dd _ ((av.refl H).lay hdd) (SqT.of ah)
     ·exact k4 a lv hSt v0 v1
    ·exact k4 a lv hSt v0 v1
   ·exact k4 a lv hSt v0 v1
  obtain ⟨t2,h2,k2⟩:∃t,PSs (vo CX0 P w K mg base ["_law_setup_here","_law_states","_law_cell","_law_state","_law_rest","_law_level"] "_law_good_deed" (ao bW) f cdv A outer s H E).nox ((cy bW).drop 6) t/\∀(a:Addr) (lv:Int),kP K H a (ak n0 rs,dz rs)->0<=lv->lv < g.ds.length->t ({nx:=fun _ H2=>Q .non H2,rt:=Q}:lr) [some (.ref p),some (.ref sl),some (.int c),some (.ref a),some (.int (c / 12)),some (.int lv)] H:=by
   refine ⟨_,ag (aY (oG (az bM (aT c9 (pv 2) ai) ai (aJ _)) (mr (az bM (au ay (au ay (pv 3) ai) ai) aC (aJ _)))).pt (aj (aw (bq (ae aC (ae (aT cu ai (aT c9 (pv 4) ai)) af))))) (aD)) h3,?_⟩
   intro a lv hSt v0 v1
   obtain ⟨gt,lt,ht,dt,h1,h2,h3,h4,h5⟩:=hSt.un
   k_all
   k_mem
   split
   ·k_upd
    refine ⟨_,h1,_,rfl,?_⟩
    k_mem
    rcases Qm (ak n0 rs).e with ⟨l,rr,he⟩ | ⟨l,rr,he⟩ | ⟨w1,w2,w3,w4,he,na,nb⟩
    ·rw [he] at h4
     k_upd
     refine ⟨_,h4,_,rfl,?_⟩
     k_mem
     rw [if_pos rfl]
     k_upd
     refine ⟨by decide,fun dd hdd=>?_⟩
     k_upd
     exact q dd (.rept _) _ ((av.refl H).lay hdd) (SqT.of ah) trivial (xY he (by omega) (by omega))
    ·rw [he] at h4
     k_upd
     refine ⟨_,h4,_,rfl,?_⟩
     k_mem
     rw [if_neg (by decide)]
     exact k3 a lv hSt v0 v1
    ·rw [he] at h4
     k_upd
     refine ⟨_,h4,_,rfl,?_⟩
     k_mem
     rw [if_neg na]
     exact k3 a lv hSt v0 v1
   ·exact k3 a lv hSt v0 v1
  obtain ⟨t1,h1,k1⟩:∃t,PSs (vo CX0 P w K mg base ["_law_setup_here","_law_states","_law_cell","_law_state","_law_rest","_law_level"] "_law_good_deed" (ao bW) f cdv A outer s H E).nox ((cy bW).drop 5) t/\∀(a:Addr) (lv:Int),kP K H a (ak n0 rs,dz rs)->0<=lv->lv < g.ds.length->t ({nx:=fun _ H2=>Q .non H2,rt:=Q}:lr) [some (.ref p),some (.ref sl),some (.int c),some (.ref a),some (.int (c / 12)),some (.int lv)] H:=by
   refine ⟨_,ag (aY (oG (az bM (aT c9 (pv 2) ai) ai (aJ _)) (mr (az kO (pv 5) (au ay (pv 3) ai) (by rfl)))).pt (aj (aw (au aI (bB (ae (bq (ae aC (ae (pv 5) (ae (au ay (au aI (au aI (pv 0) ai) (pv 5)) (aT c9 (aT oH (pv 4) ai) ai)) af)))) (ae (bq (ae aC (ae (pv 5) af))) af))) (bC iH (by rfl) T.tM ng (ae (fK bM (aT c9 (pv 4) ai) ai (aJ _)) af))))) (aD)) h2,?_⟩
   intro a lv hSt v0 v1
   obtain ⟨gt,lt,ht,dt,h1,h2,h3,h4,h5⟩:=hSt.un
   obtain ⟨hp,hdl,⟨bs,hcl,hT⟩,_,_⟩:=id hP
   have gl:=hn.gl
   have fl:=hn.fl
   have ed:inV (V.int lv) ((dE (ak n0 rs).fs).map V.int)=(ak n0 rs).fs.getD lv.toNat false:=by
    rw [oM,Bool.eq_iff_iff,decide_eq_true_eq,nH]
    k_upd
    exact ⟨fun z=>z.2.2,fun z=>⟨v0,by omega,z⟩⟩
   k_all
   k_mem
   split
   ·k_upd
    refine ⟨_,h1,_,rfl,?_⟩
    k_mem
    refine ⟨_,.inr h5,rfl,by simp [cx],?_⟩
    rw [ed]
    k_mem
    split
    ·rename_i hf
     obtain ⟨ra,era,hra⟩:=vA hT v0 (by rw [hg.lc];exact v1)
     k_upd
     refine ⟨_,SqL.of hp,_,rfl,?_⟩
     k_mem
     refine ⟨_,SqL.of hcl,_,era,?_⟩
     k_mem
     refine ⟨_,hra,_,two_deep (by omega) (by omega),?_⟩
     generalize hcd:(if c / 12 / 6 % 2=0 then (iT g.ls lv).fst else (iT g.ls lv).snd)=cd
     have hcd':cd=(iT g.ls lv).1\/cd=(iT g.ls lv).2:=by
      rw [←hcd]
      k_upd
      split
      ·exact .inl rfl
      ·exact .inr rfl
     k_upd
     refine ⟨by decide,fun p2 hp2=>⟨by decide,fun p3 hp3=>⟨by decide,fun p4 hp4=>?_⟩⟩⟩
     have f4:=(((av.refl H).lay (o:=HO.tup [V.str (Str.ofString "ring"),V.int lv,V.int cd]) hp2).lay (o:=HO.tup [V.str (Str.ofString "fail"),V.int lv]) hp3).lay (o:=HO.lst [V.ref p2,V.ref p3]) hp4
     k_upd
     refine ⟨_,SqL.of ah,_,BY,?_⟩
     by_cases hb:c / 12 % 5=4
     ·rw [if_pos (decide_eq_true hb)]
      k_upd
      exact q p3 (.fail lv) _ f4 (SqT.of (upo ah hp4)) trivial (EM v0 v1 hf)
     ·rw [if_neg (by simpa using hb)]
      k_upd
      exact q p2 (.ring lv cd) _ f4 (SqT.of (upo (upo ah hp3) hp4)) trivial (xX v0 v1 hf hcd')
    ·exact k2 a lv hSt v0 v1
   ·exact k2 a lv hSt v0 v1
  refine seg 4 (ag (aY (az nC (aT c9 (pv 2) ai) ai (aJ _)) (aj (aw (aF oA hr.dn (by rfl) gE.m gE.F.kp gE.b .nil aO (ae (pv 0) (ae (pv 3) (ae (pv 4) af)))))) (aD)) h1) fun zt4 zh4=>?_
  k_all
  intro ze4
  refine seg 3 (ag (aY (az nC (aT c9 (pv 2) ai) ai (aJ _)) (aj (aw (aF oz hr.dn (by rfl) gD.m gD.F.kp gD.b .nil aO (ae (pv 0) (ae (pv 3) (ae (pv 4) af)))))) (aD)) zh4) fun zt3 zh3=>?_
  k_all
  intro ze3
  refine seg 2 (ag (aL (i:=5) jB.nd rfl orL (aT c9 (pv 4) (aN aE (by rfl) T.cA bF (ae (au aI (pv 0) ai) af)))) zh3) fun zt2 zh2=>?_
  k_all
  intro ze2
  refine seg 1 (ag (aL (i:=4) jB.nd rfl orL (aT oH (pv 2) ai)) zh2) fun zt1 zh1=>?_
  k_all
  intro ze1
  refine ⟨_,ag (aL (i:=3) jB.nd rfl orL (au aI (pv 1) (jZ fQ ai))) zh1,?_⟩
  k_all
  obtain ⟨as1,a,rfl,hSt⟩:=Dm hA
  obtain ⟨hp,hdl,_,_,_⟩:=id hP
  have l2:=hg.sh.l2
  k_mem
  refine ⟨_,SqL.of hsl,_,oQ,?_⟩
  k_mem
  refine ⟨_,SqL.of hp,_,rfl,?_⟩
  k_mem
  refine ⟨_,.inl (SqL.of hdl),by rw [List.length_map];omega,?_⟩
  rw [List.length_map]
  have v0:0<=c / 12 % (g.ds.length:Int):=Int.emod_nonneg _ (by omega)
  have v1:c / 12 % (g.ds.length:Int) < (g.ds.length:Int):=Int.emod_lt_of_pos _ (by omega)
  generalize c / 12 % (g.ds.length:Int)=lv at *
  k_mem
  split
  ·k_upd
   refine ⟨p,dl,cl,ll,a,g,lds,_,_,_,rfl,hP,hg,hn,hSt,fun dd d H1 s1 hd ok hr=>?_⟩
   k_upd
   exact q dd d H1 s1 hd ok hr
  k_upd
  split
  ·k_upd
   refine ⟨p,dl,cl,ll,a,g,lds,_,_,_,rfl,hP,hg,hn,hSt,fun dd d H1 s1 hd ok hr=>?_⟩
   k_upd
   exact q dd d H1 s1 hd ok hr
  exact k1 a lv hSt v0 v1
variable (jX:Def K mg "_law_good_deed" bW g0 t9 rJ)(uQ:aH P w K mg base CX0 3 t9 rJ g0 (sk K Z))
noncomputable def oC (K:PySem.W.Frag)(Z:Adr):Sp:=fun vs H Q _=>∃(s rl:Addr) (g:Cfg) (n:bg) (ys:List V),vs=[.ref s]/\fL (clZ Z) K H rl g s n/\H rl=some (.lst ys)/\g.ls.length<=1000/\∀(s':Addr) (A:SA) (H':Hp),av H H'->H s'=none->H A.ol=none->H A.b=none->H A.fl=none->H A.y=none->H A.wh=none->bt (clZ Z) K H' rl g s' A n->Q (.ref s') H'
include dQ iB sd yF pq wY in
theorem xR {f:Addr}{fd:FuncData}(F:Fun K "twin" "Standing.twin" fB f fd)(T:Txt K mg Z):aH P w K mg base CX0 4 f fd fu (oC K Z):=by
 refine F.ok xF (fun vs H Q E h=>?_) (fun cdv A outer s H vs Q E hr h=>?_)
 ·obtain ⟨s0,rl,g,n,ys,rfl,⟨A0,hA⟩,hrl,hls,q⟩:=h
  rfl
 ·obtain ⟨s0,rl,g,n,ys,rfl,⟨A0,hA⟩,hrl,hls,q⟩:=h
  refine ⟨_,aj (aw (mv dQ.M iB hr.dn (by rfl) T.zV dQ.b .nil aO (ae (aK (pv 0) (by rfl)) (ae (aK (pv 0) (by rfl)) (ae (ba (aK (pv 0) (by rfl)) T.bx pq.M wY hr.dn pq.b .nil aO) (ae (ba (aK (pv 0) (by rfl)) T.bV sd.M yF hr.dn sd.b .nil aO) af)))))),?_⟩
  k_all
  k_mem
  refine ⟨_,_,_,hA.ob,T.aP,T.c7,_,rfl,_,_,_,hA.ob,T.aP,T.cN,_,rfl,_,_,_,hA.ob,T.aP,T.cB,_,rfl,?_⟩
  k_mem
  obtain ⟨db,hbb⟩:=hA.be.ob
  obtain ⟨dy,hyb⟩:=hA.ya.ob
  k_upd
  refine ⟨_,_,hbb,rfl,_,_,_,_,_,_,_,rfl,hA.be,hls,fun b1 cs1 fl1 H1 hb1 hc1 hf1 s1 hB1=>?_⟩
  k_upd
  refine ⟨_,_,_,s1 _ _ hA.ob,T.aP,T.bX,_,rfl,?_⟩
  k_mem
  refine ⟨_,_,s1 _ _ hyb,rfl,_,_,_,_,_,_,rfl,hA.ya.same s1,fun y2 kn2 wh2 H2 hy2 hk2 hw2 nkw s2 hY2=>?_⟩
  refine fun x dx hx hdx nxd=>?_
  have s12:=s1.trans s2
  have hx':upd H2 dx (.own x) x=none:=by rw [aS (Ne.symm nxd)];exact hx
  k_upd
  refine ⟨x,dx,A0.ol,b1,y2,n.place,n.gates,rfl,ah,(((av.refl H2).lay hdx).lay hx').seq (SqL.of (s12 _ _ hA.go)),fun ol H3 hol kp hob3 hol3=>⟨rfl,?_⟩⟩
  have s3:=j1 hx hdx kp
  have holn:=iU hol
  obtain ⟨_,⟨as1,oc1,_⟩,of1,_⟩:=id hB1
  obtain ⟨_,okn2,owh2⟩:=id hY2
  have cs2:=s2 _ _ oc1
  have fl2:=s2 _ _ of1
  refine q x ⟨dx,ol,b1,cs1,fl1,A0.st,y2,kn2,wh2⟩ H3 (s12.trans s3) (s12.free hx) (s12.free holn) hb1 hf1 (s1.free hy2) (s1.free hw2) ⟨hob3,hol3,(hB1.same s2).same s3,hY2.same s3,⟨?_,?_,?_,?_,?_,?_,?_,?_,?_,?_,?_,?_,?_,?_,?_,?_⟩,⟨(hA.nn.same (s12.trans s3)).al,hA.nn.nr,?_,?_,?_,?_,?_⟩⟩
  ·exact (aq hrl (s12.free holn)).symm
  ·exact (aq hrl hc1).symm
  ·exact (aq hrl hf1).symm
  ·exact (aq hrl (s1.free hk2)).symm
  ·exact (aq hrl (s1.free hw2)).symm
  ·exact aq cs2 holn
  ·exact aq fl2 holn
  ·exact aq okn2 holn
  ·exact aq owh2 holn
  ·exact (aq fl2 holn).symm
  ·exact (aq of1 hk2).symm
  ·exact (aq of1 hw2).symm
  ·exact (aq owh2 holn).symm
  ·exact aq oc1 hw2
  ·exact aq of1 hw2
  ·exact nkw
  all_goals
   intro q hq
   obtain ⟨us,hu⟩:=hA.nn.al q hq
  ·exact (aq hu (s12.free holn)).symm
  ·exact (aq hu hc1).symm
  ·exact (aq hu hf1).symm
  ·exact (aq hu (s1.free hk2)).symm
  ·exact (aq hu (s1.free hw2)).symm
variable (aX:bG K Z.fE "twin" "Standing.twin" fB fu pI ow)(bA:aH P w K mg base CX0 4 pI ow fu (oC K Z))
noncomputable def so (K:PySem.W.Frag)(Z:Adr):Sp:=fun vs H Q _=>∃(w bk rl:Addr) (g:Cfg) (n0:bg) (rs:List Row),vs=[.ref w]/\WAt (clZ Z) K H w bk rl g n0 rs/\0 < g.ds.length/\∀p,H p=none->Q (.ref p) (upd H p (.tup [.int (ak n0 rs).place,.int (cQ g.ds - (ak n0 rs).place)]))
include ax aQ gM kM in
theorem AK {f:Addr}{fd:FuncData}(F:Fun K "cages" "Works.cages" ip f fd)(T:Txt K mg Z):aH P w K mg base CX0 4 f fd gY (so K Z):=by
 refine F.ok zJ (fun vs H Q E h=>?_) (fun cdv A outer s H vs Q E hr h=>?_)
 ·obtain ⟨w,bk,rl,g,n0,rs,rfl,hW,hn,q⟩:=h
  rfl
 ·obtain ⟨w,bk,rl,g,n0,rs,rfl,hW,hn,q⟩:=h
  refine ⟨_,aj (aw (bz (pv 0) T.aG gM.M kM hr.dn gM.b .nil aO (ae (aK (ba (aK (pv 0) (by rfl)) T.bD ax.M aQ hr.dn ax.b .nil aO) (by rfl)) af))),?_⟩
  k_all
  obtain ⟨⟨dx,dl,gl,hob,hdl,hgl,n1,n2⟩,hB⟩:=id hW
  obtain ⟨⟨db,f0,hbo,hF⟩,as,hrl,hR⟩:=id hB
  k_mem
  refine ⟨_,_,hob,rfl,_,_,_,hob,T.aG,T.br,_,rfl,?_⟩
  k_mem
  refine ⟨_,_,hbo,rfl,_,_,_,_,_,rfl,hB,fun s0 ⟨A,hA⟩=>?_⟩
  k_mem
  refine ⟨_,_,_,hA.ob,T.aP,T.c7,_,rfl,?_⟩
  k_upd
  exact ⟨_,_,_,_,_,_,_,rfl,hW,hn,q⟩
variable (fI:bG K Z.bI "cages" "Works.cages" ip gY ua rK)(jY:aH P w K mg base CX0 4 ua rK gY (so K Z))
noncomputable def mV (K:PySem.W.Frag)(Z:Adr):Sp:=fun vs H Q E=>∃(w bk rl:Addr) (g:Cfg) (n0:bg) (rs:List Row) (lv:Int),vs=[.ref w,.int lv]/\WAt (clZ Z) K H w bk rl g n0 rs/\(ak n0 rs).ws.length<=1000/\(0<=lv/\lv < g.ds.length->∀p H',H p=none->av H H'->H' p=some (.lst ((lB (ak n0 rs).ws lv).map V.int))->Q (.ref p) H')/\(¬(0<=lv/\lv < g.ds.length)->E (.ref Z.bf) none H)
include ax aQ kI pX in
theorem w6 {f:Addr}{fd:FuncData}(F:Fun K "at_level" "Works.at_level" eR f fd)(T:Txt K mg Z):aH P w K mg base (CXf P w) 4 f fd eM (mV K Z):=by
 refine F.okF vM (fun vs H Q E h=>?_) (fun cdv A outer s H vs Q E hr h=>?_)
 ·obtain ⟨w,bk,rl,g,n0,rs,lv,rfl,hW,hn,q1,q2⟩:=h
  rfl
 ·obtain ⟨w,bk,rl,g,n0,rs,lv,rfl,hW,hn,q1,q2⟩:=h
  refine ⟨_,aj (aw (bz (aK (ba (aK (pv 0) (by rfl)) T.bD ax.M aQ hr.dn ax.b .nil aO) (by rfl)) T.bV kI.M pX hr.dn kI.b .nil bS (ae (pv 1) af))),?_⟩
  k_all
  obtain ⟨⟨dx,dl,gl,hob,hdl,hgl,n1,n2⟩,hB⟩:=id hW
  obtain ⟨⟨db,f0,hbo,hF⟩,as,hrl,hR⟩:=id hB
  k_mem
  refine ⟨_,_,_,hob,T.aG,T.br,_,rfl,?_⟩
  k_mem
  refine ⟨_,_,hbo,rfl,_,_,_,_,_,rfl,hB,fun s0 ⟨A,hA⟩=>?_⟩
  k_mem
  refine ⟨_,_,_,hA.ob,T.aP,T.bX,_,rfl,?_⟩
  k_mem
  obtain ⟨dy,hyb⟩:=hA.ya.ob
  k_upd
  exact ⟨_,_,hyb,rfl,_,_,_,_,_,_,_,rfl,hA.ya,hn,q1,q2⟩
variable (jR:bG K Z.bI "at_level" "Works.at_level" eR eM om mL)(oE:aH P w K mg base (CXf P w) 4 om mL eM (mV K Z))
noncomputable def AL (K:PySem.W.Frag)(Z:Adr):Sp:=fun vs H Q _=>∃(a:Addr) (ns:List Int) (mo:Int),vs=[.ref a,.int mo]/\SqL K H a (ns.map V.int)/\0<=mo/\mo<=30/\∀(p dl cl ll:Addr) (ds:List Int) (ls:List Cd) (slow fast:Int) (lds:List Ld) (H':Hp),av H H'->H p=none->H dl=none->H cl=none->H ll=none->fh K H' p dl cl ll (iK ds ls slow fast lds fun _=>False) lds->cM ds->ls.length=ds.length->(∀x∈ls,fR x)->(1<=slow/\slow<=fast/\fast<=500)->(lds.length:Int)<=mo->(∀x∈lds,lz (ds.length:Nat) x/\GI x)->Q (.ref p) H'
include jG xO sW CF sX CH in
theorem Hw {f:Addr}{fd:FuncData}(F:Fun K "_law_setup" "_law_setup" nV f fd)(T:Txt K mg Z):aH P w K mg base CX0 4 f fd nM (AL K Z):=by
 refine F.ok lU (fun vs H Q E h=>?_) (fun cdv A outer s H vs Q E hr h=>?_)
 ·obtain ⟨a,ns,mo,rfl,hS,h0,h1,q⟩:=h
  rfl
 ·obtain ⟨a,ns,mo,rfl,hS,h0,h1,q⟩:=h
  refine seg 1 (aj (aw (bB (ae (pv 2) (ae (pv 3) (ae (pv 4) (ae (pv 5) (ae (aF CF hr.dn (by rfl) sW.m sW.F.kp sW.b .nil aO (ae (aF xO hr.dn (by rfl) jG.m jG.F.kp jG.b .nil aO (ae (pv 0) (ae ai af))) (ae (aN aE (by rfl) T.cA bF (ae (pv 2) af)) (ae (pv 1) af)))) af)))))))) fun zt1 zh1=>?_
  k_all
  intro ze1
  refine ⟨_,ag (lu (aF CH hr.dn (by rfl) sX.m sX.F.kp sX.b .nil aO (ae (pv 0) af)) (GL rfl (aV (aM (i:=2) lU.nd rfl orL) (aV (aM (i:=3) lU.nd rfl orL) (aV (aM (i:=4) lU.nd rfl orL) (aV (aM (i:=5) lU.nd rfl orL) fe)))))) zh1,?_⟩
  k_all
  k_mem
  refine ⟨a,ns,rfl,hS,fun p dl cl ds as ls slow fast H1 s1 hpn hdn hcn ndc hp hdl hsh hcl hT hlen hg hsp=>?_⟩
  have l2:=hsh.l2
  have l6:=hsh.l6
  k_mem
  refine ⟨_,SqL.of hp,rfl,?_⟩
  k_mem
  refine ⟨a,ns,4,rfl,s1.seq hS,by omega,?_⟩
  k_mem
  refine ⟨_,.inl (SqL.of hdl),?_⟩
  rw [List.length_map]
  k_upd
  refine ⟨_,_,_,rfl,by omega,h0,by omega,fun ll bs lds H2 hln s2 hll hT2 hlen2 hk=>?_⟩
  k_mem
  refine ⟨by decide,fun p5 hp5=>?_⟩
  have s3:=s2.lay (o:=HO.lst [V.ref dl,V.ref cl,V.int slow,V.int fast,V.ref ll]) hp5
  have s23:=(av.refl H2).lay (o:=HO.lst [V.ref dl,V.ref cl,V.int slow,V.int fast,V.ref ll]) hp5
  k_upd
  exact q p5 dl cl ll ds ls slow fast lds _ (s1.trans s3) (s1.free (s2.free hp5)) hdn hcn (s1.free hln) ⟨ah,s3 _ _ hdl,⟨as,s3 _ _ hcl,hT.same s3⟩,⟨bs,s23 _ _ hll,hT2.same s23⟩,rfl⟩ hsh hlen hg hsp hlen2 hk
variable (lj:Def K mg "_law_setup" nV nM Cm Aj)(sY:aH P w K mg base CX0 4 Cm Aj nM (AL K Z))
noncomputable def uR (K:PySem.W.Frag)(Z:Adr):Sp:=fun vs H Q E=>∃(w bk rl:Addr) (g:Cfg) (n0:bg) (rs:List Row) (lv s:Int),vs=[.ref w,.int lv,.int s]/\WAt (clZ Z) K H w bk rl g n0 rs/\g.ls.length<=1000/\g.ks.length=(ak n0 rs).ws.length/\
 (¬(0<=lv/\lv < g.ls.length)->∀H',av H H'->E (.ref Z.bf) none H')/\
 (0<=lv->lv < g.ls.length->(ak n0 rs).fs.getD lv.toNat false=true->∀H',av H H'->E (.ref Z.fD) none H')/\
 (0<=lv->lv < g.ls.length->(ak n0 rs).fs.getD lv.toNat false=false->¬(s=(iT g.ls lv).1\/s=(iT g.ls lv).2)->∀H',av H H'->E (.ref Z.jC) none H')/\
 (0<=lv->lv < g.ls.length->(ak n0 rs).fs.getD lv.toNat false=false->(s=(iT g.ls lv).1\/s=(iT g.ls lv).2)->yI Z K H w bk rl g n0 rs (.ring lv s) Q E)
include ax aQ pj wV bc bP aX bA in
theorem BB {f:Addr}{fd:FuncData}(F:Fun K "ring" "Works.ring" jt f fd)(T:Txt K mg Z):aH P w K mg base (CXf P w) 5 f fd ja (uR K Z):=by
 refine F.okF tK (fun vs H Q E h=>?_) (fun cdv A outer s H vs Q E hr h=>?_)
 ·obtain ⟨w,bk,rl,g,n0,rs,lv,s,rfl,hW,hls,hks,q1,q2,q3,q4⟩:=h
  rfl
 ·obtain ⟨w,bk,rl,g,n0,rs,lv,s,rfl,hW,hls,hks,q1,q2,q3,q4⟩:=h
  refine seg 2 (aj (aw (bz (pv 0) T.aG bc.M bP hr.dn bc.b .nil bS (ae (bq (ae aC (ae (pv 1) (ae (pv 2) af)))) (ae ai (ae (pv 3) af)))))) fun zt2 zh2=>?_
  k_all
  intro ze2
  refine seg 1 (ag (bK (bz (aK (pv 3) (by rfl)) T.bx pj.M wV hr.dn pj.b .nil bS (ae (pv 1) (ae (pv 2) af)))) zh2) fun zt1 zh1=>?_
  k_all
  intro ze1
  refine ⟨_,ag (aL (i:=3) tK.nd rfl orL (ba (ba (aK (pv 0) (by rfl)) T.bD ax.M aQ hr.dn ax.b .nil aO) T.aP aX.M bA hr.dn aX.b .nil aO)) zh1,?_⟩
  k_all
  obtain ⟨⟨dx,dl,gl,hob,hdl,hgl,n1,n2⟩,hB⟩:=id hW
  obtain ⟨⟨db,f0,hbo,hF⟩,as,hrl,hR⟩:=id hB
  k_mem
  refine ⟨_,_,_,hob,T.aG,T.br,_,rfl,?_⟩
  k_mem
  refine ⟨_,_,hbo,rfl,_,_,_,_,_,rfl,hB,fun s0 ⟨A0,hA0⟩=>?_⟩
  k_mem
  refine ⟨_,_,hA0.ob,rfl,_,_,_,_,_,rfl,hA0.at,hrl,hls,fun s1 A H1 e1 hs1 ho1 hb1 hf1 hy1 hw1 hA=>?_⟩
  have hW1:=hW.same e1
  have hob1:=e1 _ _ hob
  have hbo1:=e1 _ _ hbo
  have hrl1:=e1 _ _ hrl
  have hdl1:=e1 _ _ hdl
  k_mem
  refine ⟨_,_,_,hA.ob,T.aP,T.cB,_,rfl,?_⟩
  k_mem
  obtain ⟨db1,hbb⟩:=hA.be.ob
  k_upd
  refine ⟨_,_,hbb,rfl,_,_,_,_,_,_,_,_,_,rfl,hA.be,fun h=>q1 h _ e1,fun h h' h2=>q2 h h' h2 _ e1,fun h h' h2 h4=>q3 h h' h2 h4 _ e1,fun h h' h2 h4 st2 H2 k2 hB2=>?_⟩
  have h3:=q4 h h' h2 h4
  have e2:=e1.keeps k2 hb1
  have hA2:=hA.bells k2 hB2
  clear k2 hB2
  k_mem
  refine ⟨_,_,e2 _ _ hob,rfl,by decide,fun p hp=>?_⟩
  have e3:=e2.lay (o:=HO.tup [V.str (Str.ofString "ring"),V.int lv,V.int s]) hp
  have f3:=(av.refl H2).lay (o:=HO.tup [V.str (Str.ofString "ring"),V.int lv,V.int s]) hp
  k_upd
  refine ⟨_,_,_,_,_,_,p,s1,1,ddV (.ring lv s),dm g (ak n0 rs) (.ring lv s),rfl,hW.same e3,SqT.of (by rw [ah];rfl),?_,?_,fun h H' s'=>h3.1 h H' (e3.trans s'),fun h H' k hWn=>?_⟩
  ·exact (bt.at hA2).same f3
  ·rw [hks];first | rfl | simp only [dm,List.length_set]
  ·k_upd
   exact h3.2 h H' ((aB.of e3).trans k) hWn
variable (pA:bG K Z.bI "ring" "Works.ring" jt ja wa ur)(w8:aH P w K mg base (CXf P w) 5 wa ur ja (uR K Z))
noncomputable def pY (K:PySem.W.Frag)(Z:Adr):Sp:=fun vs H Q E=>∃(w bk rl:Addr) (g:Cfg) (n0:bg) (rs:List Row) (s:Int),vs=[.ref w,.int s]/\WAt (clZ Z) K H w bk rl g n0 rs/\g.ls.length<=1000/\g.ks.length=(ak n0 rs).ws.length/\
 ((∀l r,(ak n0 rs).e≠.wait l r)->∀H',av H H'->E (.ref Z.cP) none H')/\
 (∀l r,(ak n0 rs).e=.wait l r->¬(1<=s/\s<=9)->∀H',av H H'->E (.ref Z.jC) none H')/\
 (∀l r,(ak n0 rs).e=.wait l r->(1<=s/\s<=9)->(300<=rs.length->∀H',av H H'->E (.ref Z.eX) none H')/\(rs.length < 300->∀p H',aB rl H H'->WAt (clZ Z) K H' w bk rl g n0 (rs++[zr g n0 rs (.rept s)])->SqT K H' p [.bl (decide (s=r)),.int r,.int s]->Q (.ref p) H'))
include ax aQ l8 rX bc bP aX bA in
theorem yX {f:Addr}{fd:FuncData}(F:Fun K "repeat" "Works.repeat" gn f fd)(T:Txt K mg Z):aH P w K mg base (CXf P w) 5 f fd fX (pY K Z):=by
 refine F.okF kF (fun vs H Q E h=>?_) (fun cdv A outer s H vs Q E hr h=>?_)
 ·obtain ⟨w,bk,rl,g,n0,rs,s,rfl,hW,hls,hks,q1,q2,q3⟩:=h
  rfl
 ·obtain ⟨w,bk,rl,g,n0,rs,s,rfl,hW,hls,hks,q1,q2,q3⟩:=h
  refine seg 3 (aj (aw (pv 3))) fun zt3 zh3=>?_
  k_all
  intro ze3
  refine seg 2 (ag (bK (bz (pv 0) T.aG bc.M bP hr.dn bc.b .nil bS (ae (bq (ae aC (ae (pv 1) af))) (ae ai (ae (pv 2) af))))) zh3) fun zt2 zh2=>?_
  k_all
  intro ze2
  refine seg 1 (ag (aL (i:=3) kF.nd rfl orL (bz (aK (pv 2) (by rfl)) T.bx l8.M rX hr.dn l8.b .nil bS (ae (pv 1) af))) zh2) fun zt1 zh1=>?_
  k_all
  intro ze1
  refine ⟨_,ag (aL (i:=2) kF.nd rfl orL (ba (ba (aK (pv 0) (by rfl)) T.bD ax.M aQ hr.dn ax.b .nil aO) T.aP aX.M bA hr.dn aX.b .nil aO)) zh1,?_⟩
  k_all
  obtain ⟨⟨dx,dl,gl,hob,hdl,hgl,n1,n2⟩,hB⟩:=id hW
  obtain ⟨⟨db,f0,hbo,hF⟩,as,hrl,hR⟩:=id hB
  k_mem
  refine ⟨_,_,_,hob,T.aG,T.br,_,rfl,?_⟩
  k_mem
  refine ⟨_,_,hbo,rfl,_,_,_,_,_,rfl,hB,fun s0 ⟨A0,hA0⟩=>?_⟩
  k_mem
  refine ⟨_,_,hA0.ob,rfl,_,_,_,_,_,rfl,hA0.at,hrl,hls,fun s1 A H1 e1 hs1 ho1 hb1 hf1 hy1 hw1 hA=>?_⟩
  have hW1:=hW.same e1
  have hob1:=e1 _ _ hob
  have hbo1:=e1 _ _ hbo
  have hrl1:=e1 _ _ hrl
  have hdl1:=e1 _ _ hdl
  k_mem
  refine ⟨_,_,_,hA.ob,T.aP,T.cB,_,rfl,?_⟩
  k_mem
  obtain ⟨db1,hbb⟩:=hA.be.ob
  k_upd
  refine ⟨_,_,hbb,rfl,_,_,_,_,_,_,_,_,rfl,hA.be,fun h=>q1 h _ e1,fun l r h h'=>q2 l r h h' _ e1,fun l r h h' st2 p2 H2 hp2 k2 hB2 hT2=>?_⟩
  have h3:=q3 l r h h'
  have e2:=e1.keeps k2 hb1
  have hA2:bt (clZ Z) K H2 rl g s1 {A with st:=st2} (dm g (ak n0 rs) (.rept s)):=by
   have:=hA.bells k2 hB2
   have e0:dm g (ak n0 rs) (.rept s)={(ak n0 rs) with e:=(if s=r then Eng.armed l r else Eng.other l r s)}:=by
    show bg.mk _ _ _ (zq g (ak n0 rs) (.rept s)) _=_
    rw [show zq g (ak n0 rs) (.rept s)=(if s=r then Eng.armed l r else Eng.other l r s) from by simp only [zq,h]]
   rw [e0]
   exact this
  clear k2 hB2
  k_mem
  refine ⟨_,_,e2 _ _ hob,rfl,by decide,fun p hp=>?_⟩
  have e3:=e2.lay (o:=HO.tup [V.str (Str.ofString "repeat"),V.int s]) hp
  have f3:=(av.refl H2).lay (o:=HO.tup [V.str (Str.ofString "repeat"),V.int s]) hp
  k_upd
  refine ⟨_,_,_,_,_,_,p,s1,1,ddV (.rept s),dm g (ak n0 rs) (.rept s),rfl,hW.same e3,SqT.of (by rw [ah];rfl),?_,?_,fun h H' s'=>h3.1 h H' (e3.trans s'),fun h H' k hWn=>?_⟩
  ·exact (bt.at hA2).same f3
  ·rw [hks];first | rfl | simp only [dm,List.length_set]
  ·k_upd
   exact h3.2 h _ H' ((aB.of e3).trans k) hWn ((f3.tup hT2).keep k (e3 _ _ hrl))
variable (md:bG K Z.bI "repeat" "Works.repeat" gn fX rm pP)(sq:aH P w K mg base (CXf P w) 5 rm pP fX (pY K Z))
noncomputable def uS (K:PySem.W.Frag)(Z:Adr):Sp:=fun vs H Q E=>∃(w bk rl:Addr) (g:Cfg) (n0:bg) (rs:List Row) (lv:Int),vs=[.ref w,.int lv]/\WAt (clZ Z) K H w bk rl g n0 rs/\g.ls.length<=1000/\g.ks.length=(ak n0 rs).ws.length/\
 (¬(0<=lv/\lv < g.ls.length)->∀H',av H H'->E (.ref Z.bf) none H')/\
 (0<=lv->lv < g.ls.length->(ak n0 rs).fs.getD lv.toNat false=true->∀H',av H H'->E (.ref Z.dH) none H')/\
 (0<=lv->lv < g.ls.length->(ak n0 rs).fs.getD lv.toNat false=false->yI Z K H w bk rl g n0 rs (.fail lv) Q E)
include ax aQ pk wW bc bP aX bA in
theorem BC {f:Addr}{fd:FuncData}(F:Fun K "fail" "Works.fail" ju f fd)(T:Txt K mg Z):aH P w K mg base (CXf P w) 5 f fd jb (uS K Z):=by
 refine F.okF tL (fun vs H Q E h=>?_) (fun cdv A outer s H vs Q E hr h=>?_)
 ·obtain ⟨w,bk,rl,g,n0,rs,lv,rfl,hW,hls,hks,q1,q2,q3⟩:=h
  rfl
 ·obtain ⟨w,bk,rl,g,n0,rs,lv,rfl,hW,hls,hks,q1,q2,q3⟩:=h
  refine seg 2 (aj (aw (bz (pv 0) T.aG bc.M bP hr.dn bc.b .nil bS (ae (bq (ae aC (ae (pv 1) af))) (ae ai (ae (pv 2) af)))))) fun zt2 zh2=>?_
  k_all
  intro ze2
  refine seg 1 (ag (bK (bz (aK (pv 2) (by rfl)) T.bx pk.M wW hr.dn pk.b .nil bS (ae (pv 1) af))) zh2) fun zt1 zh1=>?_
  k_all
  intro ze1
  refine ⟨_,ag (aL (i:=2) tL.nd rfl orL (ba (ba (aK (pv 0) (by rfl)) T.bD ax.M aQ hr.dn ax.b .nil aO) T.aP aX.M bA hr.dn aX.b .nil aO)) zh1,?_⟩
  k_all
  obtain ⟨⟨dx,dl,gl,hob,hdl,hgl,n1,n2⟩,hB⟩:=id hW
  obtain ⟨⟨db,f0,hbo,hF⟩,as,hrl,hR⟩:=id hB
  k_mem
  refine ⟨_,_,_,hob,T.aG,T.br,_,rfl,?_⟩
  k_mem
  refine ⟨_,_,hbo,rfl,_,_,_,_,_,rfl,hB,fun s0 ⟨A0,hA0⟩=>?_⟩
  k_mem
  refine ⟨_,_,hA0.ob,rfl,_,_,_,_,_,rfl,hA0.at,hrl,hls,fun s1 A H1 e1 hs1 ho1 hb1 hf1 hy1 hw1 hA=>?_⟩
  have hW1:=hW.same e1
  have hob1:=e1 _ _ hob
  have hbo1:=e1 _ _ hbo
  have hrl1:=e1 _ _ hrl
  have hdl1:=e1 _ _ hdl
  k_mem
  refine ⟨_,_,_,hA.ob,T.aP,T.cB,_,rfl,?_⟩
  k_mem
  obtain ⟨db1,hbb⟩:=hA.be.ob
  k_upd
  refine ⟨_,_,hbb,rfl,_,_,_,_,_,_,_,_,rfl,hA.be,fun h=>q1 h _ e1,fun h h' h2=>q2 h h' h2 _ e1,fun h h' h2 H2 k2 hB2=>?_⟩
  have h3:=q3 h h' h2
  have e2:=e1.keeps k2 hf1
  have hA2:=hA.fail k2 hB2 (List.length_set ..)
  clear k2 hB2
  k_mem
  refine ⟨_,_,e2 _ _ hob,rfl,by decide,fun p hp=>?_⟩
  have e3:=e2.lay (o:=HO.tup [V.str (Str.ofString "fail"),V.int lv]) hp
  have f3:=(av.refl H2).lay (o:=HO.tup [V.str (Str.ofString "fail"),V.int lv]) hp
  k_upd
  refine ⟨_,_,_,_,_,_,p,s1,1,ddV (.fail lv),dm g (ak n0 rs) (.fail lv),rfl,hW.same e3,SqT.of (by rw [ah];rfl),?_,?_,fun h H' s'=>h3.1 h H' (e3.trans s'),fun h H' k hWn=>?_⟩
  ·exact (bt.at hA2).same f3
  ·rw [hks];first | rfl | simp only [dm,List.length_set]
  ·k_upd
   exact h3.2 h H' ((aB.of e3).trans k) hWn
variable (pB:bG K Z.bI "fail" "Works.fail" ju jb wc uu)(w9:aH P w K mg base (CXf P w) 5 wc uu jb (uS K Z))
noncomputable def me (K:PySem.W.Frag)(Z:Adr):Sp:=fun vs H Q E=>∃(w bk rl:Addr) (g:Cfg) (n0:bg) (rs:List Row) (wd:Str) (lv:Int) (b:Bool) (d:Dd),vs=[.ref w,.str wd,.int lv,.bl b]/\WAt (clZ Z) K H w bk rl g n0 rs/\g.ls.length<=1000/\g.ks.length=(ak n0 rs).ws.length/\(ak n0 rs).gates.length=g.ds.length/\((wd="open"/\b=true/\d=.opn lv)\/(wd="shut"/\b=false/\d=.sht lv))/\
 (¬(0<=lv/\lv < g.ds.length)->∀H',av H H'->E (.ref Z.bf) none H')/\
 (0<=lv->lv < g.ds.length->(ak n0 rs).gates.getD lv.toNat false=b->∀H',av H H'->E (.ref Z.dH) none H')/\
 (0<=lv->lv < g.ds.length->(ak n0 rs).gates.getD lv.toNat false=!b->yI Z K H w bk rl g n0 rs d Q E)
include ax aQ aU bO bc bP aX bA in
theorem vk {f:Addr}{fd:FuncData}(F:Fun K "turn_gate" "Works.turn_gate" eA f fd)(T:Txt K mg Z):aH P w K mg base (CXf P w) 5 f fd dZ (me K Z):=by
 refine F.okF lR (fun vs H Q E h=>?_) (fun cdv A outer s H vs Q E hr h=>?_)
 ·obtain ⟨w,bk,rl,g,n0,rs,wd,lv,b,d,rfl,hW,hls,hks,hgl2,hd,q1,q2,q3⟩:=h
  rfl
 ·obtain ⟨w,bk,rl,g,n0,rs,wd,lv,b,d,rfl,hW,hls,hks,hgl2,hd,q1,q2,q3⟩:=h
  refine seg 4 (aj (aw (bz (pv 0) T.aG bc.M bP hr.dn bc.b .nil bS (ae (bq (ae (pv 1) (ae (pv 2) af))) (ae ai (ae (pv 4) af)))))) fun zt4 zh4=>?_
  k_all
  intro ze4
  refine seg 3 (ag (lu (pv 3) (xj (aK (pv 4) (by rfl)) (pv 2) nD)) zh4) fun zt3 zh3=>?_
  k_all
  intro ze3
  refine seg 2 (ag (aY (az bM (au aI (aK (pv 4) (by rfl)) (pv 2)) (pv 3) (aJ _)) (aj (bH T.zZ (by rfl) T.zT (ae aC af))) (aD)) zh3) fun zt2 zh2=>?_
  k_all
  intro ze2
  refine seg 1 (ag (bK (aF bO hr.dn (by rfl) aU.m aU.F.kp aU.b .nil bS (ae (pv 2) (ae (aN aE (by rfl) T.cA bF (ae (aK (pv 0) (by rfl)) af)) af)))) zh2) fun zt1 zh1=>?_
  k_all
  intro ze1
  refine ⟨_,ag (aL (i:=4) lR.nd rfl orL (ba (ba (aK (pv 0) (by rfl)) T.bD ax.M aQ hr.dn ax.b .nil aO) T.aP aX.M bA hr.dn aX.b .nil aO)) zh1,?_⟩
  k_all
  obtain ⟨⟨dx,dl,gl,hob,hdl,hgl,n1,n2⟩,hB⟩:=id hW
  obtain ⟨⟨db,f0,hbo,hF⟩,as,hrl,hR⟩:=id hB
  k_mem
  refine ⟨_,_,_,hob,T.aG,T.br,_,rfl,?_⟩
  k_mem
  refine ⟨_,_,hbo,rfl,_,_,_,_,_,rfl,hB,fun s0 ⟨A0,hA0⟩=>?_⟩
  k_mem
  refine ⟨_,_,hA0.ob,rfl,_,_,_,_,_,rfl,hA0.at,hrl,hls,fun s1 A H1 e1 hs1 ho1 hb1 hf1 hy1 hw1 hA=>?_⟩
  have hW1:=hW.same e1
  have hob1:=e1 _ _ hob
  have hbo1:=e1 _ _ hbo
  have hrl1:=e1 _ _ hrl
  have hdl1:=e1 _ _ hdl
  k_mem
  refine ⟨_,_,_,hob1,T.aG,T.df,_,rfl,?_⟩
  k_mem
  refine ⟨_,.inl (SqL.of hdl1),_,_,rfl,?_⟩
  rw [List.length_map]
  k_upd
  refine ⟨fun hlv=>?_,fun h=>q1 h _ e1⟩
  k_mem
  refine ⟨_,_,_,hA.ob,T.aP,T.cN,_,rfl,?_⟩
  k_mem
  refine ⟨_,SqL.of hA.go,_,kB hlv.1 (by omega),?_⟩
  k_mem
  split
  ·rename_i h
   k_upd
   exact ⟨by decide,q2 hlv.1 hlv.2 h _ e1⟩
  ·rename_i h
   have h3:=q3 hlv.1 hlv.2 (by cases b<;>simpa using h)
   k_upd
   refine ⟨_,_,_,hA.ob,T.aP,T.cN,_,rfl,?_⟩
   k_mem
   refine ⟨_,hA.go,_,Dg hlv.1 (by rw [List.length_map];omega),?_⟩
   have e2:=e1.rewr (o:=HO.lst (((ak n0 rs).gates.map V.bl).set lv.toNat (V.bl b))) ho1
   have k2:L2.aB A.ol H1 (upd H1 A.ol (HO.lst (((ak n0 rs).gates.map V.bl).set lv.toNat (V.bl b)))):=(aB.of (av.refl H1)).put
   have hA2:=hA.gates k2 (gs:=(ak n0 rs).gates.set lv.toNat b) (by rw [ah,List.map_set])
   generalize upd H1 A.ol (HO.lst (((ak n0 rs).gates.map V.bl).set lv.toNat (V.bl b)))=H2 at *
   have hW2:=hW.same e2
   k_upd
   refine ⟨_,_,e2 _ _ hob,rfl,by decide,fun p hp=>?_⟩
   have e3:=e2.lay (o:=HO.tup [V.str wd,V.int lv]) hp
   have f3:=(av.refl H2).lay (o:=HO.tup [V.str wd,V.int lv]) hp
   k_upd
   refine ⟨_,_,_,_,_,_,p,s1,1,ddV d,dm g (ak n0 rs) d,rfl,hW.same e3,SqT.of ?_,?_,?_,fun h H' s'=>h3.1 h H' (e3.trans s'),fun h H' k hWn=>?_⟩
   ·rw [ah];rcases hd with ⟨rfl,_,rfl⟩ | ⟨rfl,_,rfl⟩<;>rfl
   ·refine (bt.at (A:=A) ?_).same f3
    rcases hd with ⟨_,rfl,rfl⟩ | ⟨_,rfl,rfl⟩<;>exact hA2
   ·rw [hks];rcases hd with ⟨_,rfl,rfl⟩ | ⟨_,rfl,rfl⟩<;>rfl
   ·have:=h3.2 h H' ((aB.of e3).trans k)
    rcases hd with ⟨_,rfl,rfl⟩ | ⟨_,rfl,rfl⟩<;>exact this hWn
variable (c8:bG K Z.bI "turn_gate" "Works.turn_gate" eA dZ mF lZ)(fN:aH P w K mg base (CXf P w) 5 mF lZ dZ (me K Z))
def MZ (w:Addr)(c lv:Int)(kd:Str)(s:Addr)(H:Hp)(gs:List Int)(gates:List Bool)(i:Nat)(σ:St)(H':Hp):Prop:=H'=H/\(∃t,σ=[some (.ref w),some (.int c),some (.int lv),some (.str kd),some (.ref s),t,none,none])/\∀j,j < i->∀x,gs[j]?=some x->gates.getD x.toNat false=false
noncomputable def uT (K:PySem.W.Frag)(Z:Adr):Sp:=fun vs H Q E=>∃(w bk rl:Addr) (g:Cfg) (n0:bg) (rs:List Row) (c lv:Int) (kd:Str),vs=[.ref w,.int c,.int lv,.str kd]/\WAt (clZ Z) K H w bk rl g n0 rs/\g.ls.length<=1000/\g.ks.length=(ak n0 rs).ws.length/\cM g.ds/\(ak n0 rs).gates.length=g.ds.length/\g.ls.length=g.ds.length/\1<=iV g (ak n0 rs)/\iV g (ak n0 rs)<=500/\(kd="men"\/kd="coal")/\
 (¬(0<=lv/\lv < g.ds.length)->∀H',av H H'->E (.ref Z.bf) none H')/\
 (0<=lv->lv < g.ds.length->lD g (ak n0 rs)=true->∀H',av H H'->E (.ref Z.gw) none H')/\
 (0<=lv->lv < g.ds.length->lD g (ak n0 rs)=false->(ak n0 rs).e≠.armed lv (dk g.ls lv kd)->∀H',av H H'->E (.ref Z.eU) none H')/\
 (0<=lv->lv < g.ds.length->lD g (ak n0 rs)=false->(ak n0 rs).e=.armed lv (dk g.ls lv kd)->yI Z K H w bk rl g n0 rs (.wind c lv kd) Q E)
include kY wD ax aQ aU bO cT fj se yG jW uO pw AG bc bP aX bA in
theorem BD {f:Addr}{fd:FuncData}(F:Fun K "wind" "Works.wind" jw f fd)(T:Txt K mg Z):aH P w K mg base (CXf P w) 5 f fd jd (uT K Z):=by
 refine F.okF ij (fun vs H Q E h=>?_) (fun cdv A outer s H vs Q E hr h=>?_)
 ·obtain ⟨w,bk,rl,g,n0,rs,c,lv,kd,rfl,hW,hls,hks,hsh,hgl2,hlc,hsp1,hsp5,hkd,q1,q2,q3,q4⟩:=h
  rfl
 ·obtain ⟨w,bk,rl,g,n0,rs,c,lv,kd,rfl,hW,hls,hks,hsh,hgl2,hlc,hsp1,hsp5,hkd,q1,q2,q3,q4⟩:=h
  refine seg 7 (aj (aw (bz (pv 0) T.aG bc.M bP hr.dn bc.b .nil bS (ae (bq (ae aC (ae (pv 1) (ae (pv 2) (ae (pv 3) af))))) (ae (pv 7) (ae (pv 4) af)))))) fun zt7 zh7=>?_
  k_all
  intro ze7
  refine seg 6 (ag (cW (pv 4) (pv 6) rfl) zh7) fun zt6 zh6=>?_
  k_all
  intro ze6
  refine seg 5 (ag (aL (i:=7) ij.nd rfl orL (aF wD hr.dn (by rfl) kY.m kY.F.kp kY.b .nil aO (ae (aN Ei (by rfl) T.NP JW (ae (aT gJ (pv 6) (aK (pv 4) (by rfl))) af)) (ae (bz (pv 0) T.aG cT.M fj hr.dn cT.b .nil aO (ae (pv 4) af)) af)))) zh6) fun zt5 zh5=>?_
  k_all
  intro ze5
  refine seg 4 (ag (aL (i:=6) ij.nd rfl orL (aF uO hr.dn (by rfl) jW.m jW.F.kp jW.b .nil aO (ae (aK (pv 0) (by rfl)) (ae (pv 1) (ae (pv 2) af))))) zh5) fun zt4 zh4=>?_
  k_all
  intro ze4
  refine seg 3 (ag (bK (bz (aK (pv 4) (by rfl)) T.bx se.M yG hr.dn se.b .nil bS (ae (pv 2) (ae (pv 3) af)))) zh4) fun zt3 zh3=>?_
  k_all
  intro ze3
  refine seg 2 (ag (eJ Dc rfl (gx (aF AG hr.dn (by rfl) pw.m pw.F.kp pw.b .nil aO (ae (aK (pv 0) (by rfl)) (ae (aK (pv 4) (by rfl)) af)))) (aM (i:=5) ij.nd rfl orL) (aj (aY (dj (au aI (aK (pv 4) (by rfl)) (pv 5))) (aj (bH T.Hk (by rfl) T.Hc (ae aC af))) (aD)))) zh3) fun zt2 zh2=>?_
  k_all
  intro ze2
  refine seg 1 (ag (bK (aF bO hr.dn (by rfl) aU.m aU.F.kp aU.b .nil bS (ae (pv 2) (ae (aN aE (by rfl) T.cA bF (ae (aK (pv 0) (by rfl)) af)) af)))) zh2) fun zt1 zh1=>?_
  k_all
  intro ze1
  refine ⟨_,ag (aL (i:=4) ij.nd rfl orL (ba (ba (aK (pv 0) (by rfl)) T.bD ax.M aQ hr.dn ax.b .nil aO) T.aP aX.M bA hr.dn aX.b .nil aO)) zh1,?_⟩
  k_all
  obtain ⟨⟨dx,dl,gl,hob,hdl,hgl,n1,n2⟩,hB⟩:=id hW
  obtain ⟨⟨db,f0,hbo,hF⟩,as,hrl,hR⟩:=id hB
  k_mem
  refine ⟨_,_,_,hob,T.aG,T.br,_,rfl,?_⟩
  k_mem
  refine ⟨_,_,hbo,rfl,_,_,_,_,_,rfl,hB,fun s0 ⟨A0,hA0⟩=>?_⟩
  k_mem
  refine ⟨_,_,hA0.ob,rfl,_,_,_,_,_,rfl,hA0.at,hrl,hls,fun s1 A H1 e1 hs1 ho1 hb1 hf1 hy1 hw1 hA=>?_⟩
  have hW1:=hW.same e1
  have hob1:=e1 _ _ hob
  have hbo1:=e1 _ _ hbo
  have hrl1:=e1 _ _ hrl
  have hdl1:=e1 _ _ hdl
  k_mem
  refine ⟨_,_,_,hob1,T.aG,T.df,_,rfl,?_⟩
  k_mem
  refine ⟨_,.inl (SqL.of hdl1),_,_,rfl,?_⟩
  rw [List.length_map]
  k_upd
  refine ⟨fun hlv=>?_,fun h=>q1 h _ e1⟩
  have l6:=hsh.l6
  k_mem
  refine ⟨_,_,_,hob1,T.aG,T.df,_,rfl,?_⟩
  k_upd
  refine ⟨_,_,_,hA.ob,T.aP,T.c7,_,rfl,?_⟩
  k_mem
  refine ⟨_,_,_,rfl,SqL.of hdl1,by omega,by omega,fun gb H2 hgb f2 hgb2=>?_⟩
  have e2:=e1.trans f2
  replace hA:=hA.same f2
  k_mem
  refine ⟨⟨_,SqL.of hgb2⟩,?_⟩
  have gr:∀x∈mz g.ds (ak n0 rs).place,0<=x/\x < g.ds.length:=fun x hx=>by
   unfold mz at hx
   rw [List.mem_map] at hx
   obtain ⟨i,hi,rfl⟩:=hx
   have:=List.mem_range.mp (List.mem_filter.mp hi).1
   omega
  k_upd
  refine lg ((mz g.ds (ak n0 rs).place).map V.int) (MZ w c lv kd s1 H2 (mz g.ds (ak n0 rs).place) (ak n0 rs).gates) ⟨rfl,⟨_,rfl⟩,fun j hj=>absurd hj (Nat.not_lt_zero _)⟩ ?_ ?_ ?_
  ·rintro i σ H' _ ⟨rfl,_⟩
   exact SqL.of hgb2
  ·rintro i x σ H' hx ⟨rfl,⟨t,rfl⟩,hj⟩
   obtain ⟨z,rfl,hz,hzm⟩:=oN hx
   have hzr:=gr z hzm
   k_mem
   refine ⟨_,_,_,hA.ob,T.aP,T.cN,_,rfl,?_⟩
   k_mem
   refine ⟨_,SqL.of hA.go,_,kB hzr.1 (by omega),?_⟩
   k_mem
   split
   ·rename_i hopen
    k_upd
    exact ⟨by decide,q2 hlv.1 hlv.2 (List.any_eq_true.mpr ⟨z,hzm,hopen⟩) _ e2⟩
   ·rename_i hopen
    k_upd
    refine ⟨rfl,⟨_,rfl⟩,fun j hj' y hy=>?_⟩
    by_cases e:j=i
    ·subst e
     rw [hz] at hy
     cases hy
     simpa using hopen
    ·exact hj j (by omega) y hy
  ·rintro σ H' ⟨rfl,⟨t,rfl⟩,hj⟩
   have hno:lD g (ak n0 rs)=false:=by
    unfold lD
    rw [List.any_eq_false]
    intro x hx
    obtain ⟨j,hjx⟩:=List.getElem?_of_mem hx
    rw [hj j (by rw [List.length_map];exact (List.getElem?_eq_some_iff.mp hjx).1) x hjx]
    exact Bool.false_ne_true
   k_mem
   refine ⟨_,_,_,hA.ob,T.aP,T.cB,_,rfl,?_⟩
   k_mem
   obtain ⟨db1,hbb⟩:=hA.be.ob
   k_upd
   refine ⟨_,_,hbb,rfl,_,_,_,_,_,_,_,_,_,rfl,hA.be,hkd,fun h=>absurd ⟨hlv.1,by omega⟩ h,fun _ _ h H' s'=>q3 hlv.1 hlv.2 hno h H' (e2.trans s'),fun _ _ harm st2 H3 k3 hB3=>?_⟩
   have h3:=q4 hlv.1 hlv.2 hno harm
   have e3:=e2.keeps k3 hb1
   have hA3:=hA.bells k3 hB3
   clear k3 hB3
   k_mem
   refine ⟨_,_,_,e3 _ _ hob,T.aG,T.df,_,rfl,?_⟩
   k_mem
   refine ⟨_,_,_,_,rfl,SqL.of (e3 _ _ hdl),hlv.1,hlv.2,?_⟩
   rw [show (if c=0 then g.ds.getD lv.toNat 0 else cQ g.ds - g.ds.getD lv.toNat 0)=kC g.ds c lv from rfl]
   k_mem
   refine ⟨_,_,_,hA3.ob,T.aP,T.c7,_,rfl,?_⟩
   k_mem
   refine ⟨_,_,e3 _ _ hob,rfl,_,_,_,_,_,_,_,_,rfl,hW.same e3,hA3.at,hks,fun H4 f4=>?_⟩
   have e4:=e3.trans f4
   replace hA3:=hA3.same f4
   have hspd:iV g {(ak n0 rs) with e:=Eng.used lv (dk g.ls lv kd)}=iV g (ak n0 rs):=rfl
   rw [hspd]
   k_upd
   refine ⟨_,_,rfl,by omega,Int.lt_of_le_of_lt hsp5 (by decide),?_⟩
   k_mem
   refine ⟨_,_,_,hA3.ob,T.aP,T.c7,by show 4 < 1000;decide,?_⟩
   have k5:L2.aB s1 H4 (upd H4 s1 (HO.ins (clZ Z).S A.dx (bL "place" (.int (kC g.ds c lv)) [("place",.int (ak n0 rs).place),("opened",.ref A.ol),("bells",.ref A.b),("yard",.ref A.y)]))):=(aB.of (av.refl H4)).put
   have e5:=e4.keeps k5 hs1
   have hA5:=hA3.placed k5 (pl:=kC g.ds c lv) (by rw [ah];rfl)
   clear hgb2 f2 f4
   generalize upd H4 s1 (HO.ins (clZ Z).S A.dx (bL "place" (.int (kC g.ds c lv)) [("place",.int (ak n0 rs).place),("opened",.ref A.ol),("bells",.ref A.b),("yard",.ref A.y)]))=H5 at *
   k_upd
   refine ⟨_,_,e5 _ _ hob,rfl,by decide,fun p hp=>?_⟩
   have e6:=e5.lay (o:=HO.tup [V.str (Str.ofString "wind"),V.int c,V.int lv,V.str kd]) hp
   have f6:=(av.refl H5).lay (o:=HO.tup [V.str (Str.ofString "wind"),V.int c,V.int lv,V.str kd]) hp
   k_upd
   refine ⟨_,_,_,_,_,_,p,s1,(xw g (ak n0 rs) (.wind c lv kd)),ddV (.wind c lv kd),dm g (ak n0 rs) (.wind c lv kd),rfl,hW.same e6,SqT.of (by rw [ah];rfl),?_,?_,fun h H' s'=>h3.1 h H' (e6.trans s'),fun h H' k hWn=>?_⟩
   ·exact (bt.at hA5).same f6
   ·rw [hks];first | rfl | simp only [dm,List.length_set]
   ·k_upd
    exact h3.2 h H' ((aB.of e6).trans k) hWn
variable (pC:bG K Z.bI "wind" "Works.wind" jw jd we uv)(xa:aH P w K mg base (CXf P w) 5 we uv jd (uT K Z))
theorem two_deepW {p q c:Int}(h0:0<=c)(h1:c < 2):atI [V.int p,V.int q] c=some (.int (if c=0 then p else q)):=by
 rcases (by omega:c=0\/c=1) with rfl | rfl<;>rfl
noncomputable def mW (K:PySem.W.Frag)(Z:Adr):Sp:=fun vs H Q _=>∃(w bk rl:Addr) (g:Cfg) (n0:bg) (rs:List Row) (c:Int),vs=[.ref w,.int c]/\WAt (clZ Z) K H w bk rl g n0 rs/\cM g.ds/\0<=c/\c < 2/\∀H',av H H'->Q (lvV (ck g.ds (ak n0 rs).place c)) H'
include o7 Al fI jY in
theorem xb {f:Addr}{fd:FuncData}(F:Fun K "level_of" "Works.level_of" eQ f fd)(T:Txt K mg Z):aH P w K mg base CX0 5 f fd eL (mW K Z):=by
 refine F.ok vL (fun vs H Q E h=>?_) (fun cdv A outer s H vs Q E hr h=>?_)
 ·obtain ⟨w,bk,rl,g,n0,rs,c,rfl,hW,hsh,h0,h1,q⟩:=h
  rfl
 ·obtain ⟨w,bk,rl,g,n0,rs,c,rfl,hW,hsh,h0,h1,q⟩:=h
  refine ⟨_,aj (aw (aF Al hr.dn (by rfl) o7.m o7.F.kp o7.b .nil aO (ae (aK (pv 0) (by rfl)) (ae (au ay (ba (pv 0) T.aG fI.M jY hr.dn fI.b .nil aO) (pv 1)) af)))),?_⟩
  k_all
  obtain ⟨⟨dx,dl,gl,hob,hdl,hgl,n1,n2⟩,hB⟩:=id hW
  obtain ⟨⟨db,f0,hbo,hF⟩,as,hrl,hR⟩:=id hB
  k_mem
  refine ⟨_,_,_,hob,T.aG,T.df,_,rfl,?_⟩
  k_mem
  refine ⟨_,_,hob,rfl,_,_,_,_,_,_,rfl,hW,by have:=hsh.l2;omega,fun p hp=>?_⟩
  have s1:=(av.refl H).lay (o:=HO.tup [.int (ak n0 rs).place,.int (cQ g.ds - (ak n0 rs).place)]) hp
  k_mem
  refine ⟨_,SqT.of ah,_,two_deepW h0 h1,?_⟩
  have l6:=hsh.l6
  k_upd
  refine ⟨_,_,_,rfl,SqL.of (s1 _ _ hdl),by omega,fun i hi e=>?_,fun hne=>?_⟩
  ·have q':=q _ s1
   rw [show ck g.ds (ak n0 rs).place c=some (i:Int) from by rw [ck];split<;>rename_i hc<;>(first | rw [if_pos hc] at e | rw [if_neg hc] at e)<;>exact lA hsh hi e] at q'
   k_upd
   exact q'
  ·have q':=q _ s1
   rw [show ck g.ds (ak n0 rs).place c=none from by rw [ck];split<;>rename_i hc<;>refine Et fun i hi=>?_<;>have:=hne i hi<;>(first | rw [if_pos hc] at this | rw [if_neg hc] at this)<;>exact this] at q'
   k_upd
   exact q'
variable (dB:bG K Z.bI "level_of" "Works.level_of" eQ eL oo mM)(gF:aH P w K mg base CX0 5 oo mM eL (mW K Z))
noncomputable def xc (K:PySem.W.Frag):Nat->Sp
 | 0=>fun _ _ _ _=>False
 | n+1=>fun vs H Q _=>∃(x y:V) (d:Dt),vs=[x,y]/\Rep K H n x d/\Rep K H n y d/\∀H',av H H'->Q (.bl true) H'
noncomputable def CI (K:PySem.W.Frag)(Z:Adr):Sp:=xc K 5
def IB (x y:V)(H:Hp)(_:Nat)(σ:St)(H':Hp):Prop:=av H H'/\∃t,σ=[some x,some y,none,t]
theorem Jt {v:V}{T:String}(h:zm v=some T):(["list","tuple"].any (En T))=false:=by
 cases v<;>simp only [zm,Option.some.injEq,reduceCtorEq] at h<;>subst h<;>decide
theorem FP {v:V}(h:cx v=true):∃T,zm v=some T:=by
 cases v<;>simp only [cx,reduceCtorEq,Bool.false_eq_true] at h<;>exact ⟨_,rfl⟩
theorem Ju {v:V}(h:cx v=true):AU v v=true:=by
 cases v<;>simp only [cx,reduceCtorEq,Bool.false_eq_true] at h<;>rfl
theorem FQ {f:Addr}{fd:FuncData}(F:Fun K "_law_same" "_law_same" ku f fd)(T:Txt K mg Z)(bQ:Def K mg "_law_same" ku ["_law_found","_law_due"] f fd){n:Nat}
  (fG:aH P w K mg base CX0 n f fd ["_law_found","_law_due"] (xc K n)):aH P w K mg base CX0 (n+1) f fd ["_law_found","_law_due"] (xc K (n+1)):=by
 refine F.ok xH (fun vs H Q E h=>?_) (fun cdv A outer s H vs Q E hr h=>?_)
 ·obtain ⟨x,y,d,rfl,_⟩:=h
  rfl
 ·obtain ⟨x,y,d,rfl,hx,hy,q⟩:=h
  refine ⟨_,ag (aY (eZ (dj (aN xp (by rfl) T.cj bN (ae (pv 1) (ae (bq (ae (ix (v:=.ty "list") (by rfl) T.fJ dJ rfl) (ae (ix (v:=.ty "tuple") (by rfl) T.vQ ql rfl) af))) af))))) (ag (aL (i:=2) xH.nd rfl orL (fK bM (aN xp (by rfl) T.cj bN (ae (pv 0) (ae (bq (ae (ix (v:=.ty "int") (by rfl) T.tM ng rfl) (ae (ix (v:=.ty "str") (by rfl) T.NQ JX rfl) af))) af))) (aN xp (by rfl) T.cj bN (ae (pv 1) (ae (bq (ae (ix (v:=.ty "int") (by rfl) T.tM ng rfl) (ae (ix (v:=.ty "str") (by rfl) T.NQ JX rfl) af))) af))) (aJ _))) (aj (aw (CP (pv 2) (CP (fK bM (aN lh (by rfl) T.cj bN (ae (pv 0) (ae (ix (v:=.ty "bool") (by rfl) T.Lj HW rfl) af))) (aN lh (by rfl) T.cj bN (ae (pv 1) (ae (ix (v:=.ty "bool") (by rfl) T.Lj HW rfl) af))) (aJ _)) (Gh (fK bM (pv 0) (pv 1) (aJ _)))))))) (aD)) (ag (aY (az tE (aN lh (by rfl) T.cj bN (ae (pv 0) (ae (ix (v:=.ty "list") (by rfl) T.fJ dJ rfl) af))) (aN lh (by rfl) T.cj bN (ae (pv 1) (ae (ix (v:=.ty "list") (by rfl) T.fJ dJ rfl) af))) (aJ _)) (aj (aw iF)) (aD)) (ag (aY (qf (az tE (aN lh (by rfl) T.cj bN (ae (pv 0) (ae (ix (v:=.ty "tuple") (by rfl) T.vQ ql rfl) af))) (aN lh (by rfl) T.cj bN (ae (pv 1) (ae (ix (v:=.ty "tuple") (by rfl) T.vQ ql rfl) af))) (aJ _)) (mZ (az tE (aN aE (by rfl) T.cA bF (ae (pv 0) af)) (aN aE (by rfl) T.cA bF (ae (pv 1) af)) (aJ _)))).pt (aj (aw iF)) (aD)) (ag (eJ PassesOwn.never rfl (cC (by rfl) T.cU (ae (aN aE (by rfl) T.cA bF (ae (pv 1) af)) af)) (aM (i:=3) xH.nd rfl orL) (aj (aY (eZ (dj (aF fG hr (by rfl) bQ.m bQ.F.kp bQ.b .nil aO (ae (au JQ (pv 0) (pv 3)) (ae (au JQ (pv 1) (pv 3)) af))))) (aj (aw iF)) (aD)))) (aj (aw iF))))),?_⟩
  k_all
  k_mem
  refine ⟨by decide,fun tp htp=>?_⟩
  have s1:=(av.refl H).lay (o:=HO.tup [V.ty "list",V.ty "tuple"]) htp
  have ht1:upd H tp (HO.tup [V.ty "list",V.ty "tuple"]) tp=some (HO.tup (["list","tuple"].map V.ty)):=ah
  generalize upd H tp (HO.tup [V.ty "list",V.ty "tuple"])=H1 at *
  cases hx with
  | @flat _ v hv=>
   cases hy with
   | flat _=>
    obtain ⟨T0,hT⟩:=FP hv
    refine ⟨_,tp,["list","tuple"],T0,rfl,SqT.of ht1,.inl hT,by decide,?_⟩
    rw [Jt hT]
    k_mem
    refine ⟨by decide,fun p1 hp1=>⟨_,p1,["int","str"],T0,rfl,SqT.of ah,.inl hT,by decide,?_⟩⟩
    refine ⟨by decide,fun p2 hp2=>⟨_,p2,["int","str"],T0,rfl,SqT.of ah,.inl hT,by decide,?_⟩⟩
    k_mem
    rw [if_pos rfl]
    refine ⟨_,"bool",T0,rfl,.inl hT,by decide,_,"bool",T0,rfl,.inl hT,by decide,?_⟩
    k_mem
    rw [if_pos rfl]
    refine Dp.mp ⟨Ju hv,?_⟩
    rw [decide_eq_true rfl]
    exact q _ ((s1.lay hp1).lay hp2)
  | @lst m a xs ds hs hb hl hrx=>
   cases hy with
   | @lst _ b ys _ hs' hb' hl' hry=>
    have ha1:=s1.seq hs
    have hb1:=s1.seq hs'
    refine ⟨.ref b,tp,["list","tuple"],"list",rfl,SqT.of ht1,.inr (.inl ⟨b,ys,rfl,hb1,rfl⟩),by decide,?_⟩
    rw [show (["list","tuple"].any (En "list"))=true from by decide]
    k_mem
    refine ⟨.ref a,"list","list",rfl,.inr (.inl ⟨a,xs,rfl,ha1,rfl⟩),by decide,.ref b,"list","list",rfl,.inr (.inl ⟨b,ys,rfl,hb1,rfl⟩),by decide,?_⟩
    k_mem
    refine ⟨.ref a,"tuple","list",rfl,.inr (.inl ⟨a,xs,rfl,ha1,rfl⟩),by decide,.ref b,"tuple","list",rfl,.inr (.inl ⟨b,ys,rfl,hb1,rfl⟩),by decide,?_⟩
    k_mem
    refine ⟨xs,.inl ha1,ys,.inl hb1,?_⟩
    rw [if_neg (by omega)]
    refine ⟨ys,.inl hb1,by omega,by omega,?_⟩
    refine cR (IB (.ref a) (.ref b) H1) ⟨av.refl _,_,rfl⟩ ?_ ?_
    ·rintro i σ H2 hi ⟨s2,t,rfl⟩
     have hi1:i < xs.length:=by omega
     have hi2:i < ys.length:=by omega
     have hi3:i < ds.length:=by omega
     have ex:xs[i]?=some xs[i]:=List.getElem?_eq_getElem hi1
     have ey:ys[i]?=some ys[i]:=List.getElem?_eq_getElem hi2
     have ed:ds[i]?=some ds[i]:=List.getElem?_eq_getElem hi3
     k_mem
     rw [Int.zero_add]
     refine .inl ⟨a,xs,_,_,rfl,rfl,s2.seq ha1,qp ex,.inl ⟨b,ys,_,_,rfl,rfl,s2.seq hb1,qp ey,?_⟩⟩
     refine ⟨_,_,ds[i],rfl,(hrx i _ _ ex ed).same (s1.trans s2),(hry i _ _ ey ed).same (s1.trans s2),fun H3 s3=>?_⟩
     k_mem
     exact ⟨s2.trans s3,_,rfl⟩
    ·rintro σ H2 ⟨s2,t,rfl⟩
     k_mem
     exact q _ (s1.trans s2)
  | @tup m a xs ds hs hb hl hrx=>
   cases hy with
   | @tup _ b ys _ hs' hb' hl' hry=>
    have ha1:=s1.tup hs
    have hb1:=s1.tup hs'
    refine ⟨.ref b,tp,["list","tuple"],"tuple",rfl,SqT.of ht1,.inr (.inr ⟨b,ys,rfl,hb1,rfl⟩),by decide,?_⟩
    rw [show (["list","tuple"].any (En "tuple"))=true from by decide]
    k_mem
    refine ⟨.ref a,"list","tuple",rfl,.inr (.inr ⟨a,xs,rfl,ha1,rfl⟩),by decide,.ref b,"list","tuple",rfl,.inr (.inr ⟨b,ys,rfl,hb1,rfl⟩),by decide,?_⟩
    k_mem
    refine ⟨.ref a,"tuple","tuple",rfl,.inr (.inr ⟨a,xs,rfl,ha1,rfl⟩),by decide,.ref b,"tuple","tuple",rfl,.inr (.inr ⟨b,ys,rfl,hb1,rfl⟩),by decide,?_⟩
    k_mem
    refine ⟨xs,.inr ha1,ys,.inr hb1,?_⟩
    rw [if_neg (by omega)]
    refine ⟨ys,.inr hb1,by omega,by omega,?_⟩
    refine cR (IB (.ref a) (.ref b) H1) ⟨av.refl _,_,rfl⟩ ?_ ?_
    ·rintro i σ H2 hi ⟨s2,t,rfl⟩
     have hi1:i < xs.length:=by omega
     have hi2:i < ys.length:=by omega
     have hi3:i < ds.length:=by omega
     have ex:xs[i]?=some xs[i]:=List.getElem?_eq_getElem hi1
     have ey:ys[i]?=some ys[i]:=List.getElem?_eq_getElem hi2
     have ed:ds[i]?=some ds[i]:=List.getElem?_eq_getElem hi3
     k_mem
     rw [Int.zero_add]
     refine .inr (.inl ⟨a,xs,_,_,rfl,rfl,s2.tup ha1,qp ex,.inr (.inl ⟨b,ys,_,_,rfl,rfl,s2.tup hb1,qp ey,?_⟩)⟩)
     refine ⟨_,_,ds[i],rfl,(hrx i _ _ ex ed).same (s1.trans s2),(hry i _ _ ey ed).same (s1.trans s2),fun H3 s3=>?_⟩
     k_mem
     exact ⟨s2.trans s3,_,rfl⟩
    ·rintro σ H2 ⟨s2,t,rfl⟩
     k_mem
     exact q _ (s1.trans s2)
theorem Jv {f:Addr}{fd:FuncData}(F:Fun K "_law_same" "_law_same" ku f fd)(T:Txt K mg Z)(bQ:Def K mg "_law_same" ku ["_law_found","_law_due"] f fd):aH P w K mg base CX0 5 f fd ["_law_found","_law_due"] (CI K Z):=by
 have h:∀n,aH P w K mg base CX0 n f fd ["_law_found","_law_due"] (xc K n):=by
  intro n
  induction n with
  | zero=>exact Ke
  | succ n ih=>exact FQ F T bQ ih
 exact h 5
variable (bQ:Def K mg "_law_same" ku vH Fz Cq)(fG:aH P w K mg base CX0 5 Fz Cq vH (CI K Z))
noncomputable def CJ (K:PySem.W.Frag)(Z:Adr):Sp:=fun vs H Q _=>∃(p dl cl ll:Addr) (ds:List Int) (ls:List Cd) (slow fast:Int) (lds:List Ld) (N0:Addr->Prop),vs=[.ref p]/\fh K H p dl cl ll (iK ds ls slow fast lds N0) lds/\cM ds/\ls.length=ds.length/\(∀x∈ls,fR x)/\(1<=slow/\slow<=fast/\fast<=500)/\lds.length<=30/\(∀x∈lds,lz (ds.length:Nat) x)/\∀(w bk rl:Addr) (N:Addr->Prop) (H':Hp),av H H'->H rl=none->H w=none->WAt (clZ Z) K H' w bk rl (iK ds ls slow fast lds N) (jM ds ls lds) []->Q (.ref w) H'
include pz wZ in
theorem Jw {f:Addr}{fd:FuncData}(F:Fun K "_law_made" "_law_made" qF f fd)(T:Txt K mg Z):aH P w K mg base (CXf P w) 5 f fd qv (CJ K Z):=by
 refine F.okF iL (fun vs H Q E h=>?_) (fun cdv A outer s H vs Q E hr h=>?_)
 ·obtain ⟨p,dl,cl,ll,ds,ls,slow,fast,lds,N0,rfl,hP,hsh,hlen,hg,hsp,h30,hld,q⟩:=h
  rfl
 ·obtain ⟨p,dl,cl,ll,ds,ls,slow,fast,lds,N0,rfl,hP,hsh,hlen,hg,hsp,h30,hld,q⟩:=h
  refine seg 6 (aj (aw (pv 7))) fun zt6 zh6=>?_
  k_all
  intro ze6
  refine seg 5 (ag (bK (zj PySem.F.plainAttrs_list PySem.F.slot_list_clear PySem.F.type_list_clear El (au aI (pv 6) ai))) zh6) fun zt5 zh5=>?_
  k_all
  intro ze5
  refine seg 4 (ag (bK (zj PySem.F.plainAttrs_list PySem.F.slot_list_clear PySem.F.type_list_clear El (au aI (pv 6) ai))) zh5) fun zt4 zh4=>?_
  k_all
  intro ze4
  refine seg 3 (ag (lu ai (xj (au aI (pv 6) ai) (jZ fQ ai) nD)) zh4) fun zt3 zh3=>?_
  k_all
  intro ze3
  refine seg 2 (ag (aL (i:=7) iL.nd rfl orL (mv pz.M wZ hr.dn (by rfl) T.MQ pz.b .nil bS (ae (au aI (pv 6) ai) (ae (au aI (pv 6) ai) (ae (pv 3) (ae (pv 4) (ae (au aI (pv 6) ai) af))))))) zh3) fun zt2 zh2=>?_
  k_all
  intro ze2
  refine seg 1 (ag (aL (i:=6) iL.nd rfl orL (bB (ae (bC cf (by rfl) T.fJ dJ (ae (pv 1) af)) (ae (bC cf (by rfl) T.fJ dJ (ae (pv 2) af)) (ae (bC cf (by rfl) T.fJ dJ (ae (pv 5) af)) af))))) zh2) fun zt1 zh1=>?_
  k_all
  intro ze1
  refine ⟨_,ag (lu (pv 0) (GL rfl (aV (aM (i:=1) iL.nd rfl orL) (aV (aM (i:=2) iL.nd rfl orL) (aV (aM (i:=3) iL.nd rfl orL) (aV (aM (i:=4) iL.nd rfl orL) (aV (aM (i:=5) iL.nd rfl orL) fe))))))) zh1,?_⟩
  k_all
  obtain ⟨hp,hdl,⟨as,hcl,hT⟩,⟨bs,hll,hT2⟩,_⟩:=id hP
  replace hdl:H dl=some (HO.lst (ds.map V.int)):=hdl
  replace hp:H p=some (HO.lst [V.ref dl,V.ref cl,V.int slow,V.int fast,V.ref ll]):=hp
  replace hT:dC cdV K H as ls:=hT
  have l2:=hsh.l2
  have l6:=hsh.l6
  k_mem
  refine ⟨_,SqL.of hp,rfl,?_⟩
  k_mem
  refine ⟨_,.inl (SqL.of hdl),fun p1 hp1=>⟨_,.inl (SqL.of (upo hcl hp1)),fun p2 hp2=>⟨_,.inl (SqL.of (upo (upo hll hp1) hp2)),fun p3 hp3=>⟨by decide,fun h hh=>?_⟩⟩⟩⟩
  have s2:=(((((av.refl H).lay (o:=HO.lst (ds.map V.int)) hp1).lay (o:=HO.lst (as.map V.ref)) hp2).lay (o:=HO.lst (bs.map V.ref)) hp3).lay (o:=HO.lst [V.ref p1,V.ref p2,V.ref p3]) hh)
  have q1:upd (upd (upd (upd H p1 (HO.lst (ds.map V.int))) p2 (HO.lst (as.map V.ref))) p3 (HO.lst (bs.map V.ref))) h (HO.lst [V.ref p1,V.ref p2,V.ref p3]) p1=some (HO.lst (ds.map V.int)):=upo (upo (upo ah hp2) hp3) hh
  have q2:upd (upd (upd (upd H p1 (HO.lst (ds.map V.int))) p2 (HO.lst (as.map V.ref))) p3 (HO.lst (bs.map V.ref))) h (HO.lst [V.ref p1,V.ref p2,V.ref p3]) p2=some (HO.lst (as.map V.ref)):=upo (upo ah hp3) hh
  have q3:upd (upd (upd (upd H p1 (HO.lst (ds.map V.int))) p2 (HO.lst (as.map V.ref))) p3 (HO.lst (bs.map V.ref))) h (HO.lst [V.ref p1,V.ref p2,V.ref p3]) p3=some (HO.lst (bs.map V.ref)):=upo ah hh
  have q4:upd (upd (upd (upd H p1 (HO.lst (ds.map V.int))) p2 (HO.lst (as.map V.ref))) p3 (HO.lst (bs.map V.ref))) h (HO.lst [V.ref p1,V.ref p2,V.ref p3]) h=some (HO.lst [V.ref p1,V.ref p2,V.ref p3]):=ah
  have f1:=hp1
  have f2:=upn hp2
  have f3:=upn (upn hp3)
  have n12:p1≠p2:=aq ah hp2
  have n13:p1≠p3:=aq (upo ah hp2) hp3
  have n23:p2≠p3:=aq ah hp3
  have nh1:p1≠h:=aq (upo (upo ah hp2) hp3) hh
  have nh2:p2≠h:=aq (upo ah hp3) hh
  have nh3:p3≠h:=aq ah hh
  generalize upd (upd (upd (upd H p1 (HO.lst (ds.map V.int))) p2 (HO.lst (as.map V.ref))) p3 (HO.lst (bs.map V.ref))) h (HO.lst [V.ref p1,V.ref p2,V.ref p3])=H2 at *
  k_upd
  refine ⟨_,SqL.of q4,_,rfl,_,SqL.of q4,_,rfl,_,SqL.of q4,_,rfl,?_⟩
  refine fun x dx hx hdx nxd=>?_
  have hx':upd H2 dx (.own x) x=none:=by rw [aS (Ne.symm nxd)];exact hx
  have sx:=((av.refl H2).lay (o:=HO.own x) hdx).lay (o:=HO.ins Z.bI dx []) hx'
  k_upd
  refine ⟨x,dx,p1,p2,p3,ds,ls,lds,slow,fast,fun z=>z=p1\/z=p2\/z=p3,rfl,ah,sx.seq (SqL.of q1),⟨as,sx.seq (SqL.of q2),(hT.same s2).same sx⟩,⟨bs,sx.seq (SqL.of q3),(hT2.same s2).same sx⟩,by omega,by omega,by omega,?_,fun h=>absurd hsh h,fun _ h=>absurd ⟨by omega,hg⟩ h,fun _ _ h=>absurd hsp h,fun _ _ _ h=>absurd ⟨h30,hld⟩ h,fun _ _ _ _ bk rl H3 kx hrl hW=>⟨rfl,?_⟩⟩
  ·rintro z (rfl | rfl | rfl)
   ·k_upd
    exact ⟨_,sx _ _ q1⟩
   ·k_upd
    exact ⟨_,sx _ _ q2⟩
   ·k_upd
    exact ⟨_,sx _ _ q3⟩
  have s3:=j1 hx hdx kx
  have frl:H2 rl=none:=iU hrl
  clear kx hrl sx
  k_mem
  refine ⟨_,SqL.of (s3 _ _ q4),_,rfl,_,s3 _ _ q1,ds.length - 1,by rw [List.length_map];exact OD (by omega),?_⟩
  have k4:L2.aB p1 H3 (upd H3 p1 (HO.lst ((ds.map V.int).set (ds.length - 1) (V.int 777)))):=(aB.of (av.refl H3)).put
  have e4:upd H3 p1 (HO.lst ((ds.map V.int).set (ds.length - 1) (V.int 777))) p1=some (HO.lst ((ds.map V.int).set (ds.length - 1) (V.int 777))):=ah
  generalize upd H3 p1 (HO.lst ((ds.map V.int).set (ds.length - 1) (V.int 777)))=H4 at *
  have hW4:=hW.own (.inl rfl) k4 e4
  have s4:av H H4:=(s2.trans s3).keeps k4 f1
  have r2:=k4 _ _ n12.symm (s3 _ _ q2)
  have r3:=k4 _ _ n13.symm (s3 _ _ q3)
  have r4:=k4 _ _ nh1.symm (s3 _ _ q4)
  k_mem
  refine ⟨_,SqL.of r4,_,rfl,.inl ⟨rfl,_,SqL.of r2⟩,?_⟩
  k_mem
  refine ⟨_,r2,?_⟩
  have k5:L2.aB p2 H4 (upd H4 p2 (HO.lst [])):=(aB.of (av.refl H4)).put
  have e5:upd H4 p2 (HO.lst []) p2=some (HO.lst []):=ah
  generalize upd H4 p2 (HO.lst [])=H5 at *
  have hW5:=hW4.own (.inr (.inl rfl)) k5 e5
  have s5:av H H5:=s4.keeps k5 f2
  have u3:=k5 _ _ n23.symm r3
  have u4:=k5 _ _ nh2.symm r4
  k_mem
  refine ⟨_,SqL.of u4,_,rfl,.inl ⟨rfl,_,SqL.of u3⟩,?_⟩
  k_mem
  refine ⟨_,u3,?_⟩
  have k6:L2.aB p3 H5 (upd H5 p3 (HO.lst [])):=(aB.of (av.refl H5)).put
  have e6:upd H5 p3 (HO.lst []) p3=some (HO.lst []):=ah
  have hW6:=hW5.own (.inr (.inr rfl)) k6 e6
  k_upd
  exact q x bk rl _ _ (s5.keeps k6 f3) (s2.free frl) (s2.free hx) hW6
variable (oF:Def K mg "_law_made" qF qv FA Cr)(xf:aH P w K mg base (CXf P w) 5 FA Cr qv (CJ K Z))
noncomputable def mf (K:PySem.W.Frag)(Z:Adr):Sp:=fun vs H Q E=>∃(w bk rl:Addr) (g:Cfg) (n0:bg) (rs:List Row) (lv:Int),vs=[.ref w,.int lv]/\WAt (clZ Z) K H w bk rl g n0 rs/\g.ls.length<=1000/\g.ks.length=(ak n0 rs).ws.length/\(ak n0 rs).gates.length=g.ds.length/\
 (¬(0<=lv/\lv < g.ds.length)->∀H',av H H'->E (.ref Z.bf) none H')/\
 (0<=lv->lv < g.ds.length->(ak n0 rs).gates.getD lv.toNat false=true->∀H',av H H'->E (.ref Z.dH) none H')/\
 (0<=lv->lv < g.ds.length->(ak n0 rs).gates.getD lv.toNat false=false->yI Z K H w bk rl g n0 rs (.opn lv) Q E)
include c8 fN in
theorem vm {f:Addr}{fd:FuncData}(F:Fun K "open_gate" "Works.open_gate" eo f fd)(T:Txt K mg Z):aH P w K mg base (CXf P w) 6 f fd dX (mf K Z):=by
 refine F.okF u7 (fun vs H Q E h=>?_) (fun cdv A outer s H vs Q E hr h=>?_)
 ·obtain ⟨w,bk,rl,g,n0,rs,lv,rfl,hW,hls,hks,hgl2,q1,q2,q3⟩:=h
  rfl
 ·obtain ⟨w,bk,rl,g,n0,rs,lv,rfl,hW,hls,hks,hgl2,q1,q2,q3⟩:=h
  refine ⟨_,aj (aw (bz (pv 0) T.aG c8.M fN hr.dn c8.b .nil bS (ae aC (ae (pv 1) (ae iF af))))),?_⟩
  k_all
  obtain ⟨dx,dl,gl,hob,_⟩:=id hW.ob
  k_mem
  exact ⟨_,_,hob,rfl,_,_,_,_,_,_,_,_,_,_,rfl,hW,hls,hks,hgl2,.inl ⟨rfl,rfl,rfl⟩,q1,q2,q3⟩
variable (jI:bG K Z.bI "open_gate" "Works.open_gate" eo dX mG l3)(mX:aH P w K mg base (CXf P w) 6 mG l3 dX (mf K Z))
noncomputable def mh (K:PySem.W.Frag)(Z:Adr):Sp:=fun vs H Q E=>∃(w bk rl:Addr) (g:Cfg) (n0:bg) (rs:List Row) (lv:Int),vs=[.ref w,.int lv]/\WAt (clZ Z) K H w bk rl g n0 rs/\g.ls.length<=1000/\g.ks.length=(ak n0 rs).ws.length/\(ak n0 rs).gates.length=g.ds.length/\
 (¬(0<=lv/\lv < g.ds.length)->∀H',av H H'->E (.ref Z.bf) none H')/\
 (0<=lv->lv < g.ds.length->(ak n0 rs).gates.getD lv.toNat false=false->∀H',av H H'->E (.ref Z.dH) none H')/\
 (0<=lv->lv < g.ds.length->(ak n0 rs).gates.getD lv.toNat false=true->yI Z K H w bk rl g n0 rs (.sht lv) Q E)
include c8 fN in
theorem vn {f:Addr}{fd:FuncData}(F:Fun K "shut_gate" "Works.shut_gate" et f fd)(T:Txt K mg Z):aH P w K mg base (CXf P w) 6 f fd dY (mh K Z):=by
 refine F.okF u9 (fun vs H Q E h=>?_) (fun cdv A outer s H vs Q E hr h=>?_)
 ·obtain ⟨w,bk,rl,g,n0,rs,lv,rfl,hW,hls,hks,hgl2,q1,q2,q3⟩:=h
  rfl
 ·obtain ⟨w,bk,rl,g,n0,rs,lv,rfl,hW,hls,hks,hgl2,q1,q2,q3⟩:=h
  refine ⟨_,aj (aw (bz (pv 0) T.aG c8.M fN hr.dn c8.b .nil bS (ae aC (ae (pv 1) (ae iF af))))),?_⟩
  k_all
  obtain ⟨dx,dl,gl,hob,_⟩:=id hW.ob
  k_mem
  exact ⟨_,_,hob,rfl,_,_,_,_,_,_,_,_,_,_,rfl,hW,hls,hks,hgl2,.inr ⟨rfl,rfl,rfl⟩,q1,q2,q3⟩
variable (jJ:bG K Z.bI "shut_gate" "Works.shut_gate" et dY mH l4)(mY:aH P w K mg base (CXf P w) 6 mH l4 dY (mh K Z))
noncomputable def uU (K:PySem.W.Frag)(Z:Adr):Sp:=fun vs H Q E=>∃(w bk rl:Addr) (g:Cfg) (n0:bg) (rs:List Row) (k c:Int),vs=[.ref w,.int k,.int c]/\WAt (clZ Z) K H w bk rl g n0 rs/\g.ls.length<=1000/\g.ks.length=(ak n0 rs).ws.length/\cM g.ds/\(ak n0 rs).gates.length=g.ds.length/\g.goals.length=(ak n0 rs).ws.length/\0<=c/\c < 2/\
 (¬(0<=k/\k < (ak n0 rs).ws.length)->∀H',av H H'->E (.ref Z.aW) none H')/\
 (0<=k->k < (ak n0 rs).ws.length->(∀l,ck g.ds (ak n0 rs).place c=some l->(ak n0 rs).ws.getD k.toNat 0≠l)->∀H',av H H'->E (.ref Z.bu) none H')/\
 (∀l,0<=k->k < (ak n0 rs).ws.length->ck g.ds (ak n0 rs).place c=some l->(ak n0 rs).ws.getD k.toNat 0=l->10+c∈(ak n0 rs).ws->∀H',av H H'->E (.ref Z.bh) none H')/\
 (∀l,0<=k->k < (ak n0 rs).ws.length->ck g.ds (ak n0 rs).place c=some l->(ak n0 rs).ws.getD k.toNat 0=l->¬10+c∈(ak n0 rs).ws->(ak n0 rs).gates.getD l.toNat false=false->∀H',av H H'->E (.ref Z.bw) none H')/\
 (∀l,0<=k->k < (ak n0 rs).ws.length->ck g.ds (ak n0 rs).place c=some l->(ak n0 rs).ws.getD k.toNat 0=l->¬10+c∈(ak n0 rs).ws->(ak n0 rs).gates.getD l.toNat false=true->yI Z K H w bk rl g n0 rs (.load k c) Q E)
include gA kU ax aQ eC kZ bY cV r9 yD bc bP aX bA dB gF in
theorem BE {f:Addr}{fd:FuncData}(F:Fun K "load" "Works.load" jv f fd)(T:Txt K mg Z):aH P w K mg base (CXf P w) 6 f fd jc (uU K Z):=by
 refine F.okF nv (fun vs H Q E h=>?_) (fun cdv A outer s H vs Q E hr h=>?_)
 ·obtain ⟨w,bk,rl,g,n0,rs,k,c,rfl,hW,hls,hks,hsh,hgl2,hgo,h0,h1,q1,q2,q3,q4,q5⟩:=h
  rfl
 ·obtain ⟨w,bk,rl,g,n0,rs,k,c,rfl,hW,hls,hks,hsh,hgl2,hgo,h0,h1,q1,q2,q3,q4,q5⟩:=h
  refine seg 6 (aj (aw (bz (pv 0) T.aG bc.M bP hr.dn bc.b .nil bS (ae (bq (ae aC (ae (pv 1) (ae (pv 2) af)))) (ae ai (ae (pv 3) af)))))) fun zt6 zh6=>?_
  k_all
  intro ze6
  refine seg 5 (ag (bK (bz (pv 0) T.aG bY.M cV hr.dn bY.b .nil bS (ae (pv 4) af))) zh6) fun zt5 zh5=>?_
  k_all
  intro ze5
  refine seg 4 (ag (bK (bz (aK (pv 3) (by rfl)) T.bV r9.M yD hr.dn r9.b .nil bS (ae (pv 1) (ae (pv 2) af)))) zh5) fun zt4 zh4=>?_
  k_all
  intro ze4
  refine seg 3 (ag (aY (qf (az CS (pv 4) fO (aJ _)) (mZ (az tE (au aI (ba (aK (pv 3) (by rfl)) T.bV gA.M kU hr.dn gA.b .nil aO) (pv 1)) (pv 4) (aJ _)))).pt (aj (bH T.vf (by rfl) T.oV (ae aC af))) (aD)) zh4) fun zt3 zh3=>?_
  k_all
  intro ze3
  refine seg 2 (ag (aL (i:=4) nv.nd rfl orL (bz (pv 0) T.aG dB.M gF hr.dn dB.b .nil aO (ae (pv 2) af))) zh3) fun zt2 zh2=>?_
  k_all
  intro ze2
  refine seg 1 (ag (bK (aF kZ hr.dn (by rfl) eC.m eC.F.kp eC.b .nil bS (ae (pv 1) (ae (aN aE (by rfl) T.cA bF (ae (aK (pv 0) (by rfl)) af)) af)))) zh2) fun zt1 zh1=>?_
  k_all
  intro ze1
  refine ⟨_,ag (aL (i:=3) nv.nd rfl orL (ba (ba (aK (pv 0) (by rfl)) T.bD ax.M aQ hr.dn ax.b .nil aO) T.aP aX.M bA hr.dn aX.b .nil aO)) zh1,?_⟩
  k_all
  obtain ⟨⟨dx,dl,gl,hob,hdl,hgl,n1,n2⟩,hB⟩:=id hW
  obtain ⟨⟨db,f0,hbo,hF⟩,as,hrl,hR⟩:=id hB
  k_mem
  refine ⟨_,_,_,hob,T.aG,T.br,_,rfl,?_⟩
  k_mem
  refine ⟨_,_,hbo,rfl,_,_,_,_,_,rfl,hB,fun s0 ⟨A0,hA0⟩=>?_⟩
  k_mem
  refine ⟨_,_,hA0.ob,rfl,_,_,_,_,_,rfl,hA0.at,hrl,hls,fun s1 A H1 e1 hs1 ho1 hb1 hf1 hy1 hw1 hA=>?_⟩
  have hW1:=hW.same e1
  have hob1:=e1 _ _ hob
  have hbo1:=e1 _ _ hbo
  have hrl1:=e1 _ _ hrl
  have hdl1:=e1 _ _ hdl
  k_mem
  refine ⟨_,_,_,hob1,T.aG,T.qO,_,rfl,?_⟩
  k_mem
  refine ⟨_,.inl (SqL.of (e1 _ _ hgl)),_,_,rfl,?_⟩
  rw [List.length_map,hgo]
  k_upd
  refine ⟨fun hk=>?_,fun h=>q1 h _ e1⟩
  k_mem
  refine ⟨_,_,hob1,rfl,_,_,_,_,_,_,_,rfl,hW1,hsh,h0,h1,fun H2 f2=>?_⟩
  have e2:=e1.trans f2
  replace hA:=hA.same f2
  k_mem
  cases hc:ck g.ds (ak n0 rs).place c with
  | none=>
   rw [if_pos (show lvV none=V.non from rfl)]
   k_upd
   exact ⟨by decide,q2 hk.1 hk.2 (fun l e=>by rw [hc] at e;cases e) _ e2⟩
  | some l=>
   obtain ⟨l0,l1,_⟩:=fg hc
   have l6:=hsh.l6
   k_upd
   rw [if_neg (show ¬(lvV (some l)=V.non) from fun z=>V.noConfusion z)]
   k_upd
   refine ⟨_,_,_,hA.ob,T.aP,T.bX,_,rfl,?_⟩
   k_mem
   obtain ⟨dy,hyb⟩:=hA.ya.ob
   k_upd
   refine ⟨_,_,hyb,rfl,_,_,_,_,_,_,rfl,hA.ya,fun p hp=>?_⟩
   have e3:=e2.lay (o:=HO.lst ((ak n0 rs).ws.map V.int)) hp
   have f3:=(av.refl H2).lay (o:=HO.lst ((ak n0 rs).ws.map V.int)) hp
   have hq3:upd H2 p (HO.lst ((ak n0 rs).ws.map V.int)) p=some (HO.lst ((ak n0 rs).ws.map V.int)):=ah
   replace hA:=hA.same f3
   generalize upd H2 p (HO.lst ((ak n0 rs).ws.map V.int))=H3 at *
   k_mem
   refine ⟨_,SqL.of hq3,_,dS hk.1 hk.2,?_⟩
   simp only [lvV]
   k_mem
   split
   ·rename_i hne
    k_upd
    exact ⟨by decide,q2 hk.1 hk.2 (fun l' e=>by rw [hc] at e;cases e;exact hne) _ e3⟩
   ·rename_i hne
    have heq:(ak n0 rs).ws.getD k.toNat 0=l:=Decidable.not_not.mp hne
    k_upd
    refine ⟨_,_,_,hA.ob,T.aP,T.bX,_,rfl,?_⟩
    k_mem
    obtain ⟨dy,hyb⟩:=hA.ya.ob
    k_upd
    refine ⟨_,_,hyb,rfl,_,_,_,_,_,_,_,_,rfl,hA.ya,h0,h1,fun h=>absurd hk h,fun _ _ h=>by omega,fun _ _ _ h H' s'=>q3 l hk.1 hk.2 hc heq h H' (e3.trans s'),fun _ _ _ hni H4 k4 hw4=>?_⟩
    have e4:=e3.keeps k4 hw1
    have hA4:=hA.spots k4 hw4
    clear k4 hw4
    k_mem
    refine ⟨_,_,e4 _ _ hob,rfl,_,_,_,_,_,_,_,rfl,hW.same e4,l0,by omega,fun hg=>?_,fun hg=>q4 l hk.1 hk.2 hc heq hni hg _ e4⟩
    have h3:=q5 l hk.1 hk.2 hc heq hni hg
    k_mem
    refine ⟨_,_,e4 _ _ hob,rfl,by decide,fun p hp=>?_⟩
    have e5:=e4.lay (o:=HO.tup [V.str (Str.ofString "load"),V.int k,V.int c]) hp
    have f5:=(av.refl H4).lay (o:=HO.tup [V.str (Str.ofString "load"),V.int k,V.int c]) hp
    k_upd
    refine ⟨_,_,_,_,_,_,p,s1,1,ddV (.load k c),dm g (ak n0 rs) (.load k c),rfl,hW.same e5,SqT.of (by rw [ah];rfl),?_,?_,fun h H' s'=>h3.1 h H' (e5.trans s'),fun h H' k9 hWn=>?_⟩
    ·exact (bt.at hA4).same f5
    ·rw [hks];first | rfl | simp only [dm,List.length_set]
    ·k_upd
     exact h3.2 h H' ((aB.of e5).trans k9) hWn
variable (pD:bG K Z.bI "load" "Works.load" jv jc wg uw)(xg:aH P w K mg base (CXf P w) 6 wg uw jc (uU K Z))
noncomputable def pZ (K:PySem.W.Frag)(Z:Adr):Sp:=fun vs H Q E=>∃(w bk rl:Addr) (g:Cfg) (n0:bg) (rs:List Row) (c:Int),vs=[.ref w,.int c]/\WAt (clZ Z) K H w bk rl g n0 rs/\g.ls.length<=1000/\g.ks.length=(ak n0 rs).ws.length/\cM g.ds/\(ak n0 rs).gates.length=g.ds.length/\0<=c/\c < 2/\
 (¬10+c∈(ak n0 rs).ws->∀H',av H H'->E (.ref Z.bj) none H')/\
 (10+c∈(ak n0 rs).ws->ck g.ds (ak n0 rs).place c=none->∀H',av H H'->E (.ref Z.bu) none H')/\
 (∀l,10+c∈(ak n0 rs).ws->ck g.ds (ak n0 rs).place c=some l->(ak n0 rs).gates.getD l.toNat false=false->∀H',av H H'->E (.ref Z.bw) none H')/\
 (∀l,10+c∈(ak n0 rs).ws->ck g.ds (ak n0 rs).place c=some l->(ak n0 rs).gates.getD l.toNat false=true->yI Z K H w bk rl g n0 rs (.unload c) Q E)
include bU cY ax aQ bY cV vj AE bc bP aX bA dB gF in
theorem yY {f:Addr}{fd:FuncData}(F:Fun K "unload" "Works.unload" gp f fd)(T:Txt K mg Z):aH P w K mg base (CXf P w) 6 f fd fY (pZ K Z):=by
 refine F.okF kG (fun vs H Q E h=>?_) (fun cdv A outer s H vs Q E hr h=>?_)
 ·obtain ⟨w,bk,rl,g,n0,rs,c,rfl,hW,hls,hks,hsh,hgl2,h0,h1,q1,q2,q3,q4⟩:=h
  rfl
 ·obtain ⟨w,bk,rl,g,n0,rs,c,rfl,hW,hls,hks,hsh,hgl2,h0,h1,q1,q2,q3,q4⟩:=h
  refine seg 6 (aj (aw (bz (pv 0) T.aG bc.M bP hr.dn bc.b .nil bS (ae (bq (ae aC (ae (pv 1) af))) (ae ai (ae (pv 2) af)))))) fun zt6 zh6=>?_
  k_all
  intro ze6
  refine seg 5 (ag (bK (bz (aK (pv 2) (by rfl)) T.bV vj.M AE hr.dn vj.b .nil bS (ae (pv 1) (ae (pv 3) af)))) zh6) fun zt5 zh5=>?_
  k_all
  intro ze5
  refine seg 4 (ag (bK (bz (pv 0) T.aG bY.M cV hr.dn bY.b .nil bS (ae (pv 3) af))) zh5) fun zt4 zh4=>?_
  k_all
  intro ze4
  refine seg 3 (ag (aY (az CS (pv 3) fO (aJ _)) (aj (bH T.vf (by rfl) T.oV (ae aC af))) (aD)) zh4) fun zt3 zh3=>?_
  k_all
  intro ze3
  refine seg 2 (ag (aL (i:=3) kG.nd rfl orL (bz (pv 0) T.aG dB.M gF hr.dn dB.b .nil aO (ae (pv 1) af))) zh3) fun zt2 zh2=>?_
  k_all
  intro ze2
  refine seg 1 (ag (aY (az CS (bz (aK (pv 2) (by rfl)) T.bV bU.M cY hr.dn bU.b .nil aO (ae (pv 1) af)) fO (aJ _)) (aj (bH T.yh (by rfl) T.qM (ae aC af))) (aD)) zh2) fun zt1 zh1=>?_
  k_all
  intro ze1
  refine ⟨_,ag (aL (i:=2) kG.nd rfl orL (ba (ba (aK (pv 0) (by rfl)) T.bD ax.M aQ hr.dn ax.b .nil aO) T.aP aX.M bA hr.dn aX.b .nil aO)) zh1,?_⟩
  k_all
  obtain ⟨⟨dx,dl,gl,hob,hdl,hgl,n1,n2⟩,hB⟩:=id hW
  obtain ⟨⟨db,f0,hbo,hF⟩,as,hrl,hR⟩:=id hB
  k_mem
  refine ⟨_,_,_,hob,T.aG,T.br,_,rfl,?_⟩
  k_mem
  refine ⟨_,_,hbo,rfl,_,_,_,_,_,rfl,hB,fun s0 ⟨A0,hA0⟩=>?_⟩
  k_mem
  refine ⟨_,_,hA0.ob,rfl,_,_,_,_,_,rfl,hA0.at,hrl,hls,fun s1 A H1 e1 hs1 ho1 hb1 hf1 hy1 hw1 hA=>?_⟩
  have hW1:=hW.same e1
  have hob1:=e1 _ _ hob
  have hbo1:=e1 _ _ hbo
  have hrl1:=e1 _ _ hrl
  have hdl1:=e1 _ _ hdl
  k_mem
  refine ⟨_,_,_,hA.ob,T.aP,T.bX,_,rfl,?_⟩
  k_mem
  obtain ⟨dy,hyb⟩:=hA.ya.ob
  k_upd
  refine ⟨_,_,hyb,rfl,_,_,_,_,_,_,_,rfl,hA.ya,h0,h1,fun H2 f2=>?_⟩
  have e2:=e1.trans f2
  replace hA:=hA.same f2
  k_mem
  by_cases hm:10+c∈(ak n0 rs).ws
  ·rw [inC,if_pos hm]
   k_upd
   rw [if_neg (show ¬(V.int _=V.non) from fun z=>V.noConfusion z)]
   k_mem
   refine ⟨_,_,e2 _ _ hob,rfl,_,_,_,_,_,_,_,rfl,hW.same e2,hsh,h0,h1,fun H3 f3=>?_⟩
   have e3:=e2.trans f3
   replace hA:=hA.same f3
   k_mem
   cases hc:ck g.ds (ak n0 rs).place c with
   | none=>
    rw [if_pos (show lvV none=V.non from rfl)]
    k_upd
    exact ⟨by decide,q2 hm hc _ e3⟩
   | some l=>
    obtain ⟨l0,l1,_⟩:=fg hc
    k_upd
    rw [if_neg (show ¬(lvV (some l)=V.non) from fun z=>V.noConfusion z)]
    k_mem
    refine ⟨_,_,e3 _ _ hob,rfl,_,_,_,_,_,_,_,rfl,hW.same e3,l0,by omega,fun hg=>?_,fun hg=>q3 l hm hc hg _ e3⟩
    have h3:=q4 l hm hc hg
    k_mem
    refine ⟨_,_,_,hA.ob,T.aP,T.bX,_,rfl,?_⟩
    k_mem
    obtain ⟨dy,hyb⟩:=hA.ya.ob
    k_upd
    refine ⟨_,_,hyb,rfl,_,_,_,_,_,_,_,_,rfl,hA.ya,h0,h1,fun h=>absurd ⟨l0,l1⟩ h,fun _ _ h=>absurd hm h,fun _ _ _ H4 k4 hw4=>?_⟩
    have e4:=e3.keeps k4 hw1
    have hA4:bt (clZ Z) K H4 rl g s1 A (dm g (ak n0 rs) (.unload c)):=by
     have:=hA.spots k4 hw4
     simp only [dm,hc,Option.getD_some]
     exact this
    clear k4 hw4
    k_mem
    refine ⟨_,_,e4 _ _ hob,rfl,by decide,fun p hp=>?_⟩
    have e5:=e4.lay (o:=HO.tup [V.str (Str.ofString "unload"),V.int c]) hp
    have f5:=(av.refl H4).lay (o:=HO.tup [V.str (Str.ofString "unload"),V.int c]) hp
    k_upd
    refine ⟨_,_,_,_,_,_,p,s1,1,ddV (.unload c),dm g (ak n0 rs) (.unload c),rfl,hW.same e5,SqT.of (by rw [ah];rfl),?_,?_,fun h H' s'=>h3.1 h H' (e5.trans s'),fun h H' k hWn=>?_⟩
    ·exact (bt.at hA4).same f5
    ·rw [hks];first | rfl | simp only [dm,List.length_set]
    ·k_upd
     exact h3.2 h H' ((aB.of e5).trans k) hWn
  ·rw [inC,if_neg hm]
   k_upd
   rw [if_pos rfl]
   k_upd
   exact ⟨by decide,q1 hm _ e2⟩
variable (mi:bG K Z.bI "unload" "Works.unload" gp fY rn pQ)(sr:aH P w K mg base (CXf P w) 6 rn pQ fY (pZ K Z))
noncomputable def Lx (g:Cfg)(n:bg)(t:Int):List Dt:=[.flat (.int t),.tup ((oO n.e).map Dt.flat),.lst ((n.gates.map V.bl).map Dt.flat),.lst (((dE n.fs).map V.int).map Dt.flat),.tup ([V.int n.place,V.int (cQ g.ds - n.place)].map Dt.flat),.lst ((n.ws.map V.int).map Dt.flat)]
noncomputable def NU (ws:List Int):Dt:=.lst [.flat (inC ws 0),.flat (inC ws 1)]
def M0 (H:Hp)(held:Addr)(ws:List Int)(a0 a1 a2 a3 a4 a5 a6 a7 a8 a9:V)(i:Nat)(σ:St)(H':Hp):Prop:=aB held H H'/\(∃x0 x1,H' held=some (.lst [x0,x1])/\HV ws i 0 x0/\HV ws i 1 x1)/\∃t,σ=[some a0,some a1,some a2,some a3,some a4,some a5,some a6,some a7,some a8,some a9,some (.ref held),t,none,none,none]
noncomputable def CK (K:PySem.W.Frag)(Z:Adr):Sp:=fun vs H Q E=>∃(H0:Hp) (wk bk rl p dl cl ll sl wl:Addr) (g:Cfg) (lds:List Ld) (n0:bg) (rs:List Row),vs=[.ref wk,.ref p,.ref sl,.ref wl]/\nq (clZ Z) K H0 H p dl cl ll wk bk rl sl wl g lds n0 rs/\rs.length<=300/\∀H',av H H'->Q (.bl true) H'
include iO mR pe wK ma rZ pf wL nz uJ nA uK fF kH fI jY jR oE bQ fG in
theorem Jx {f:Addr}{fd:FuncData}(F:Fun K "_law_view" "_law_view" jA f fd)(T:Txt K mg Z):aH P w K mg base (CXf P w) 6 f fd qA (CK K Z):=by
 refine F.okF dP (fun vs H Q E h=>?_) (fun cdv A outer s H vs Q E hr h=>?_)
 ·obtain ⟨H0,wk,bk,rl,p,dl,cl,ll,sl,wl,g,lds,n0,rs,rfl,hX,h300,q⟩:=h
  rfl
 ·obtain ⟨H0,wk,bk,rl,p,dl,cl,ll,sl,wl,g,lds,n0,rs,rfl,hX,h300,q⟩:=h
  obtain ⟨t2,h2,k2⟩:∃t,PSs (cxF P w K mg base ["_law_works","_law_setup_here","_law_states","_law_rows","_law_place","_law_gates","_law_lying","_law_heard_here","_law_dead","_law_clock","_law_held","_law_k","_law_waits","_law_due","_law_found"] "_law_view" (ao jA) f cdv A outer s H E) ((cy jA).drop 5) t/\∀(gt lt ht dt held waits due:Addr) (kk:Option V) (dv:List V) (H1:Hp),av H H1->SqT K H1 gt ((ak n0 rs).gates.map V.bl)->H1 due=some (.lst dv)->dv.length=6->kQ K H1 3 dv (Lx g (ak n0 rs) (dz rs))->Rep K H1 3 (.ref held) (NU (ak n0 rs).ws)->Rep K H1 3 (.ref waits) (GW (ak n0 rs).ws g.ds.length)->t ({nx:=fun _ H2=>Q .non H2,rt:=Q}:lr) [some (.ref wk),some (.ref p),some (.ref sl),some (.ref wl),some (.int (ak n0 rs).place),some (.ref gt),some (.ref lt),some (.ref ht),some (.ref dt),some (.int (dz rs)),some (.ref held),kk,some (.ref waits),some (.ref due),none] H1:=by
   refine seg 3 (aj (aw (aF fG hr.dn (by rfl) bQ.m bQ.F.kp bQ.b .nil aO (ae (aT uY (pv 14) (bB (ae (ba (pv 0) T.aG pe.M wK hr.dn pe.b .nil aO) af))) (ae (aT uY (pv 13) (bB (ae (pv 10) (ae (pv 12) (ae (pv 3) af))))) af))))) fun zt3 zh3=>?_
   k_all
   intro ze3
   refine seg 2 (ag (bK (vv PySem.F.plainAttrs_list PySem.F.slot_list_append PySem.F.type_list_append iJ (pv 14) (ae (nF ["_law_at_here","_law_works"] [none,some 0] (cC (by rfl) T.cU (ae (aN aE (by rfl) T.cA bF (ae (pv 5) af)) af)) (fun _ _ _ _=>(aM (i:=0) (show (["_law_at_here","_law_works"]:List Str).Nodup by decide +kernel) rfl orL)) (fun _ _ _ _=>jS) (fun _ _ _ _=>(bz (pv 1) T.aG jR.M oE.calm0 hr.dn jR.b .nil aO (ae (pv 0) af)))) af))) zh3) fun zt2 zh2=>?_
   k_all
   intro ze2
   refine seg 1 (ag (bK (vv PySem.F.plainAttrs_list PySem.F.slot_list_append PySem.F.type_list_append iJ (pv 14) (ae (bB (ae (bz (pv 0) T.aG fF.M kH hr.dn fF.b .nil aO (ae ai af)) (ae (bz (pv 0) T.aG fF.M kH hr.dn fF.b .nil aO (ae ai af)) af))) af))) zh2) fun zt1 zh1=>?_
   k_all
   intro ze1
   refine ⟨_,ag (aL (i:=14) dP.nd rfl orL (bB (ae (ba (pv 0) T.aG iO.M mR hr.dn iO.b .nil aO) (ae (ba (pv 0) T.aG ma.M rZ hr.dn ma.b .nil aO) (ae (ba (pv 0) T.aG nz.M uJ hr.dn nz.b .nil aO) (ae (ba (pv 0) T.aG pf.M wL hr.dn pf.b .nil aO) (ae (ba (pv 0) T.aG fI.M jY hr.dn fI.b .nil aO) (ae (ba (pv 0) T.aG nA.M uK hr.dn nA.b .nil aO) af)))))))) zh1,?_⟩
   intro gt lt ht dt held waits due kk dv H1 s1 hgt hdue hdv hrep hheld hwaits
   have hW:=(hX.same s1).da.wk
   have hg:=hX.cg
   have hn:=hX.snap
   have gl:=hn.gl
   have wl':=hn.wl
   have k30:=hg.k30
   have l6:=hg.sh.l6
   have l2:=hg.sh.l2
   have fl:=hn.fl
   obtain ⟨⟨dx,dl',gl',hob,_⟩,_⟩:=id hW
   k_all
   k_mem
   refine ⟨_,_,hob,rfl,_,_,_,_,_,_,rfl,hW,?_⟩
   k_mem
   refine ⟨_,_,hob,rfl,_,_,_,_,_,_,rfl,hW,fun st hst=>?_⟩
   k_mem
   refine ⟨_,_,hob,rfl,_,_,_,_,_,_,rfl,hW,fun p1 hp1=>?_⟩
   (generalize hE:upd H1 p1 _=H2 at *;have s2:=p6 hE hp1;have e1:=jN hE;clear hE)
   k_mem
   refine ⟨_,_,s2 _ _ hob,rfl,_,_,_,_,_,_,rfl,hW.same s2,by omega,fun p2 H3 hp2 s3 e2=>?_⟩
   have s13:=s2.trans s3
   k_mem
   refine ⟨_,_,s13 _ _ hob,rfl,_,_,_,_,_,_,rfl,hW.same s13,by omega,fun p3 hp3=>?_⟩
   (generalize hE:upd H3 p3 _=H4 at *;have s4:=p6 hE hp3;have e3:=jN hE;clear hE)
   have s14:=s13.trans s4
   k_mem
   refine ⟨_,_,s14 _ _ hob,rfl,_,_,_,_,_,_,rfl,hW.same s14,fun p4 hp4=>?_⟩
   (generalize hE:upd H4 p4 _=H5 at *;have s5:=p6 hE hp4;have e4:=jN hE;clear hE)
   have s15:=s14.trans s5
   have hf6:kQ K H5 3 [.int (dz rs),.ref st,.ref p1,.ref p2,.ref p3,.ref p4] (Lx g (ak n0 rs) (dz rs)):=
    .cons (.flat rfl) (.cons (gy (s15.tup hst) (by rw [Es];decide) (xt _)) (.cons (BU (SqL.of (((s3.trans s4).trans s5) _ _ e1)) (by omega)) (.cons (qr (SqL.of ((s4.trans s5) _ _ e2)) (by have:=xB (ak n0 rs).fs;omega)) (.cons (gy (SqT.of (s5 _ _ e3)) (by show 2<=100000;decide) (ES rfl rfl)) (.cons (qr (SqL.of e4) (by omega)) .nil)))))
   k_mem
   refine ⟨by decide,fun fo hfo=>?_⟩
   (generalize hE:upd H5 fo _=H6 at *;have s6:=p6 hE hfo;have e6:=jN hE;clear hE)
   have s16:=s15.trans s6
   k_upd
   refine ⟨.inl ⟨rfl,_,SqL.of e6⟩,?_⟩
   k_upd
   refine ⟨_,_,s16 _ _ hob,rfl,_,_,_,_,_,_,_,rfl,hW.same s16,by omega,by omega,fun H7 s7=>?_⟩
   have s17:=s16.trans s7
   k_mem
   refine ⟨_,_,s17 _ _ hob,rfl,_,_,_,_,_,_,_,rfl,hW.same s17,by omega,by omega,fun H8 s8=>?_⟩
   have s18:=s17.trans s8
   k_mem
   refine ⟨by decide,fun ic hic=>?_⟩
   (generalize hE:upd H8 ic _=H9 at *;have s9:=p6 hE hic;have e9:=jN hE;clear hE)
   have s19:=s18.trans s9
   k_upd
   refine ⟨_,((s7.trans s8).trans s9) _ _ e6,by show 6 < sizeLine;decide,?_⟩
   have k10:L2.aB fo H9 (upd H9 fo (HO.lst ([V.int (dz rs),V.ref st,V.ref p1,V.ref p2,V.ref p3,V.ref p4]++[V.ref ic]))):=(aB.of (av.refl H9)).put
   have e10:upd H9 fo (HO.lst ([V.int (dz rs),V.ref st,V.ref p1,V.ref p2,V.ref p3,V.ref p4]++[V.ref ic])) fo=some (HO.lst [V.int (dz rs),V.ref st,V.ref p1,V.ref p2,V.ref p3,V.ref p4,V.ref ic]):=ah
   have ffo:H5 fo=none:=hfo
   generalize upd H9 fo (HO.lst ([V.int (dz rs),V.ref st,V.ref p1,V.ref p2,V.ref p3,V.ref p4]++[V.ref ic]))=H10 at *
   have nic:ic≠fo:=fun z=>by
    have:=(s7.trans s8) _ _ e6
    rw [←z,hic] at this
    cases this
   have s5A:av H5 H10:=(((s6.trans s7).trans s8).trans s9).keeps k10 ffo
   have s1A:av H1 H10:=s15.trans s5A
   have eicA:H10 ic=some (HO.lst [inC (ak n0 rs).ws 0,inC (ak n0 rs).ws 1]):=k10 _ _ nic e9
   k_mem
   refine ⟨.inl ⟨rfl,_,SqL.of e10⟩,?_⟩
   k_upd
   refine ⟨_,.inr (s1A.tup hgt),by omega,by rw [List.length_map];omega,?_⟩
   rw [List.length_map,Int.toNat_natCast,gl]
   refine vz (fun i acc H'=>av H10 H'/\∃as:List Addr,acc=as.map V.ref/\fM H' (ak n0 rs).ws as i/\∀a∈as,H10 a=none) ⟨av.refl _,[],rfl,fM.nil,fun a h=>by cases h⟩ rfl ?_ ?_
   ·rintro i acc H' hi ⟨sx,as,rfl,hws,hfr⟩
    k_upd
    refine ⟨by rw [List.length_map,hws.1,sizeLine_eq];omega,fun N hN=>?_⟩
    have s1x:=s1A.trans sx
    k_mem
    refine ⟨_,_,s1x _ _ hob,rfl,_,_,_,_,_,_,_,rfl,hW.same s1x,by omega,fun _ pp H'' hpp sy epp=>?_,fun z=>absurd ⟨by omega,by omega⟩ z⟩
    refine hN _ _ ⟨sx.trans sy,as++[pp],by rw [List.map_append];rfl,(hws.same sy).push (by rw [Int.zero_add] at epp;exact epp),fun a ha=>?_⟩
    rcases List.mem_append.mp ha with ha | ha
    ·exact hfr a ha
    ·rw [List.mem_singleton] at ha
     rw [ha]
     exact sx.free hpp
   rintro acc HA ⟨sx,as,rfl,hws,hfr⟩ al hal
   (generalize hE:upd HA al _=HB at *;have sy:=p6 hE hal;have eal:=jN hE;clear hE)
   have sAB:=sx.trans sy
   k_mem
   refine ⟨_,sAB _ _ e10,by show 7 < sizeLine;decide,?_⟩
   have k11:L2.aB fo HB (upd HB fo (HO.lst ([V.int (dz rs),V.ref st,V.ref p1,V.ref p2,V.ref p3,V.ref p4,V.ref ic]++[V.ref al]))):=(aB.of (av.refl HB)).put
   have e11:upd HB fo (HO.lst ([V.int (dz rs),V.ref st,V.ref p1,V.ref p2,V.ref p3,V.ref p4,V.ref ic]++[V.ref al])) fo=some (HO.lst [V.int (dz rs),V.ref st,V.ref p1,V.ref p2,V.ref p3,V.ref p4,V.ref ic,V.ref al]):=ah
   generalize upd HB fo (HO.lst ([V.int (dz rs),V.ref st,V.ref p1,V.ref p2,V.ref p3,V.ref p4,V.ref ic]++[V.ref al]))=HC at *
   have s5C:av H5 HC:=(s5A.trans sAB).keeps k11 ffo
   have s1C:av H1 HC:=s15.trans s5C
   have eicC:=k11 _ _ nic (sAB _ _ eicA)
   have ealC:=k11 _ _ (fun z=>by have:=sx _ _ e10;rw [←z,hal] at this;cases this) eal
   have hwsC:fM HC (ak n0 rs).ws as g.ds.length:=⟨hws.1,fun j a e=>k11 _ _ (fun z=>by
    have:=hfr a (List.mem_of_getElem? e)
    rw [z,e10] at this
    cases this) (sy _ _ (hws.2 j a e))⟩
   have hWC:=hW.same s1C
   have hX1:=hX.same s1
   obtain ⟨bs,hwl,hB⟩:=hX1.da.ro
   k_mem
   refine ⟨_,_,s1C _ _ hob,rfl,_,_,_,_,_,_,rfl,hWC,by omega,fun bp bas HD hbp sD ebp hbt=>?_⟩
   k_mem
   refine ⟨by decide,fun l1 hl1=>?_⟩
   (generalize hE:upd HD l1 _=HE at *;have sE:=p6 hE hl1;have eE:=jN hE;clear hE)
   have sCE:=sD.trans sE
   have s1E:=s1C.trans sCE
   k_upd
   refine ⟨_,sCE _ _ e11,_,eE,by show 9<=sizeLine;decide,fun fo2 hfo2=>?_⟩
   have sF:=(av.refl HE).lay (o:=HO.lst ([V.int (dz rs),V.ref st,V.ref p1,V.ref p2,V.ref p3,V.ref p4,V.ref ic,V.ref al]++[V.ref bp])) hfo2
   have eF:upd HE fo2 (HO.lst ([V.int (dz rs),V.ref st,V.ref p1,V.ref p2,V.ref p3,V.ref p4,V.ref ic,V.ref al]++[V.ref bp])) fo2=some (HO.lst [V.int (dz rs),V.ref st,V.ref p1,V.ref p2,V.ref p3,V.ref p4,V.ref ic,V.ref al,V.ref bp]):=ah
   generalize upd HE fo2 (HO.lst ([V.int (dz rs),V.ref st,V.ref p1,V.ref p2,V.ref p3,V.ref p4,V.ref ic,V.ref al]++[V.ref bp]))=HF at *
   have s1F:=s1E.trans sF
   k_upd
   refine ⟨by decide,fun l2 hl2=>?_⟩
   (generalize hE:upd HF l2 _=HG at *;have sG:=p6 hE hl2;have eG:=jN hE;clear hE)
   have s1G:=s1F.trans sG
   k_upd
   refine ⟨_,s1G _ _ hdue,_,eG,by rw [hdv];show 9<=sizeLine;decide,fun du2 hdu2=>?_⟩
   (generalize hE:upd HG du2 _=HH at *;have sH:=p6 hE hdu2;have eH:=jN hE;clear hE)
   have s1H:=s1G.trans sH
   have sEH:=(sF.trans sG).trans sH
   have hdeeds:=hX.da.run.deeds
   k_upd
   refine ⟨_,_,.lst (Lx g (ak n0 rs) (dz rs)++[NU (ak n0 rs).ws,GW (ak n0 rs).ws g.ds.length,Nt rs]),rfl,?_,?_,fun HI sI=>q HI ((s1.trans s1H).trans sI)⟩
   ·refine kQ.rep (xs:=[V.int (dz rs),V.ref st,V.ref p1,V.ref p2,V.ref p3,V.ref p4]++[V.ref ic,V.ref al,V.ref bp]) ((hf6.same (((s5C.trans sCE).trans sEH))).append (.cons ?_ (.cons ?_ (.cons ?_ .nil)))) (SqL.of ((sG.trans sH) _ _ eF)) (by show 9<=100000;decide)
    ·exact Eu (SqL.of ((sCE.trans sEH) _ _ eicC)) (.flat (vG _ _)) (.flat (vG _ _))
    ·exact B0 (SqL.of ((sCE.trans sEH) _ _ ealC)) (hwsC.same (sCE.trans sEH)) (by omega) (by omega)
    ·exact EH (SqL.of ((sE.trans sEH) _ _ ebp)) (hbt.same (sE.trans sEH)) hdeeds (by omega)
   ·refine kQ.rep ((hrep.same s1H).append (.cons (hheld.same s1H) (.cons (hwaits.same s1H) (.cons ?_ .nil)))) (SqL.of eH) (by rw [List.length_append,hdv];show 9<=100000;decide)
    exact EH (SqL.of (s1H _ _ hwl)) (hB.same s1H) hdeeds (by omega)
  obtain ⟨t1,h1,k1⟩:∃t,PSs (cxF P w K mg base ["_law_works","_law_setup_here","_law_states","_law_rows","_law_place","_law_gates","_law_lying","_law_heard_here","_law_dead","_law_clock","_law_held","_law_k","_law_waits","_law_due","_law_found"] "_law_view" (ao jA) f cdv A outer s H E) ((cy jA).drop 3) t/\∀(gt lt ht dt held:Addr) (kk:Option V) (H1:Hp),av H H1->SqT K H1 gt ((ak n0 rs).gates.map V.bl)->H1 lt=some (.tup ((ak n0 rs).ws.map V.int))->SqT K H1 ht (oO (ak n0 rs).e)->SqT K H1 dt ((dE (ak n0 rs).fs).map V.int)->H1 held=some (.lst [inC (ak n0 rs).ws 0,inC (ak n0 rs).ws 1])->t ({nx:=fun _ H2=>Q .non H2,rt:=Q}:lr) [some (.ref wk),some (.ref p),some (.ref sl),some (.ref wl),some (.int (ak n0 rs).place),some (.ref gt),some (.ref lt),some (.ref ht),some (.ref dt),some (.int (dz rs)),some (.ref held),kk,none,none,none] H1:=by
   refine seg 1 (ag (aL (i:=13) dP.nd rfl orL (bB (ae (pv 9) (ae (pv 7) (ae (bC cf (by rfl) T.fJ dJ (ae (pv 5) af)) (ae (bC cf (by rfl) T.fJ dJ (ae (pv 8) af)) (ae (bq (ae (pv 4) (ae (aT gJ (au aI (au aI (pv 1) ai) (jZ fQ ai)) (pv 4)) af))) (ae (bC cf (by rfl) T.fJ dJ (ae (pv 6) af)) af)))))))) h2) fun zt1 zh1=>?_
   k_all
   intro ze1
   refine ⟨_,ag (OU ["_law_at_here","_law_lying"] "_law_at_here" [none,some 6] (iy:=12) dP.nd rfl rfl (cC (by rfl) T.cU (ae (aN aE (by rfl) T.cA bF (ae (pv 5) af)) af)) (fun _ _ _ _=>(aM (i:=0) (show (["_law_at_here","_law_lying"]:List Str).Nodup by decide +kernel) rfl (Or.inr rfl))) (fun _ _ _ _=>jS) (fun _ _ _ _=>(nF ["_law_k","_law_lying","_law_at_here"] [none,some 1,some 0] (cC (by rfl) T.cU (ae (aN (show iG _ (.builtin "len") (fun xs H Q=>∃p ys,xs=[.ref p]/\(SqL K H p ys\/SqT K H p ys)/\Q (.int ys.length) H) from aE) (by rfl) T.cA bF (ae (pv 1) af)) af)) (fun _ _ _ _=>(aM (i:=0) (show (["_law_k","_law_lying","_law_at_here"]:List Str).Nodup by decide +kernel) rfl orL)) (fun _ _ _ _=>(oI (az bM (au (show IxR _ (Ek K) from ay) (pv 1) (pv 0)) (pv 2) (aJ _)))) (fun _ _ _ _=>(pv 0))))) zh1,?_⟩
   intro gt lt ht dt held kk H1 s1 h2 h3 h4 h5 hheld
   have hg:=hX.cg
   have hn:=hX.snap
   have gl:=hn.gl
   have wl':=hn.wl
   have k30:=hg.k30
   have l6:=hg.sh.l6
   have l2:=hg.sh.l2
   have fl:=hn.fl
   have hP:=hX.setup.same s1
   k_all
   k_mem
   refine ⟨_,.inr h2,by omega,by rw [List.length_map];omega,?_⟩
   rw [List.length_map,Int.toNat_natCast,gl]
   refine vz (fun i acc H'=>av H1 H'/\∃as:List Addr,acc=as.map V.ref/\fM H' (ak n0 rs).ws as i) ⟨av.refl _,[],rfl,fM.nil⟩ rfl ?_ ?_
   ·rintro i acc H' hi ⟨sx,as,rfl,hws⟩
    k_upd
    refine ⟨by rw [List.length_map,hws.1,sizeLine_eq];omega,fun N hN=>?_⟩
    k_mem
    refine ⟨_,.inr (SqT.of (sx _ _ h3)),by omega,by rw [List.length_map];omega,?_⟩
    rw [List.length_map,Int.toNat_natCast]
    refine fm (fun j=>decide ((ak n0 rs).ws.getD j 0=(i:Int))) (fun (j:Nat)=>.int (j:Int)) (by rw [sizeLine_eq];omega) rfl (fun j hj N hN=>?_) (fun j hj _ N hN=>?_) fun lv hlv=>?_
    ·k_mem
     k_upd
     refine ⟨_,SqT.of (sx _ _ h3),_,by rw [Int.zero_add];exact j0 hj,?_⟩
     k_mem
     rw [Int.zero_add]
     by_cases e:(ak n0 rs).ws.getD j 0=(i:Int)
     ·rw [if_pos e];rw [decide_eq_true e] at hN;exact hN
     ·rw [if_neg e];rw [decide_eq_false e] at hN;exact hN
    ·k_mem
     rw [Int.zero_add]
     exact hN
    ·refine hN _ _ ⟨sx.lay hlv,as++[lv],by rw [List.map_append];rfl,(hws.same ((av.refl H').lay hlv)).push ?_⟩
     rw [ah]
     unfold lB AY
     rw [List.map_map];rfl
   rintro acc H2 ⟨sx,as,rfl,hws⟩ wt hwt
   have s3:=sx.lay (o:=HO.lst (as.map V.ref)) hwt
   (generalize hE:upd H2 wt _=H3 at *;have f3:=p6 hE hwt;have ewt:=jN hE;clear hE)
   have s13:=s1.trans s3
   k_mem
   refine ⟨_,.inr (s3.tup h2),fun p1 hp1=>?_⟩
   (generalize hE:upd H3 p1 _=H4 at *;have f4:=p6 hE hp1;have e4:=jN hE;clear hE)
   k_upd
   refine ⟨_,.inr ((s3.trans f4).tup h5),fun p2 hp2=>?_⟩
   (generalize hE:upd H4 p2 _=H5 at *;have f5:=p6 hE hp2;have e5:=jN hE;clear hE)
   have s15:=(s3.trans f4).trans f5
   k_upd
   refine ⟨_,SqL.of (s15 _ _ hP.ob),_,rfl,?_⟩
   k_mem
   refine ⟨_,SqL.of (s15 _ _ hP.od),_,GF (by omega),?_⟩
   k_mem
   refine ⟨by decide,fun p3 hp3=>?_⟩
   (generalize hE:upd H5 p3 _=H6 at *;have f6:=p6 hE hp3;have e6:=jN hE;clear hE)
   have s16:=s15.trans f6
   k_upd
   refine ⟨_,.inr (SqT.of (s16 _ _ h3)),fun p4 hp4=>?_⟩
   (generalize hE:upd H6 p4 _=H7 at *;have f7:=p6 hE hp4;have e7:=jN hE;clear hE)
   have s17:=s16.trans f7
   k_upd
   refine ⟨by decide,fun du hdu=>?_⟩
   (generalize hE:upd H7 du _=H8 at *;have f8:=p6 hE hdu;have e8:=jN hE;clear hE)
   have s18:=s17.trans f8
   refine k2 gt lt ht dt held wt du kk _ H8 (s1.trans s18) (s18.tup h2) e8 rfl ?_ ?_ ?_
   ·exact .cons (.flat rfl) (.cons (gy (s18.tup h4) (by rw [Es];decide) (xt _)) (.cons (BU (SqL.of ((((f5.trans f6).trans f7).trans f8) _ _ e4)) (by omega)) (.cons (qr (SqL.of (((f6.trans f7).trans f8) _ _ e5)) (by have:=xB (ak n0 rs).fs;omega)) (.cons (gy (SqT.of ((f7.trans f8) _ _ e6)) (by show 2<=100000;decide) (ES rfl rfl)) (.cons (qr (SqL.of (f8 _ _ e7)) (by omega)) .nil)))))
   ·exact Eu (SqL.of (s18 _ _ hheld)) (.flat (vG _ _)) (.flat (vG _ _))
   ·have f38:=(((f4.trans f5).trans f6).trans f7).trans f8
    exact B0 (SqL.of (f38 _ _ ewt)) ((hws.same f3).same f38) (by omega) (by omega)
  refine seg 2 (ag (eJ Dc rfl (cC (by rfl) T.cU (ae (aN aE (by rfl) T.cA bF (ae (pv 6) af)) af)) (aM (i:=11) dP.nd rfl orL) (aj (aY (az ze (au ay (pv 6) (pv 11)) ai (aJ _)) (aj (lu (pv 11) (xj (pv 10) (aT gJ (au ay (pv 6) (pv 11)) ai) nD))) (aD)))) h1) fun zt2 zh2=>?_
  k_all
  intro ze2
  refine seg 1 (ag (aL (i:=10) dP.nd rfl orL (bB (ae fO (ae fO af)))) zh2) fun zt1 zh1=>?_
  k_all
  intro ze1
  refine ⟨_,ag (lu (au aI (pv 2) (jZ fQ ai)) (kA rfl (aV (aM (i:=4) dP.nd rfl orL) (aV (aM (i:=5) dP.nd rfl orL) (aV (aM (i:=6) dP.nd rfl (Or.inr rfl)) (aV (aM (i:=7) dP.nd rfl orL) (aV (aM (i:=8) dP.nd rfl orL) (aV (aM (i:=9) dP.nd rfl orL) fe)))))))) zh1,?_⟩
  k_all
  obtain ⟨hW,⟨as,hsl,hA⟩,⟨bs,hwl,hB⟩,hNs,hNw,hne,hrun⟩:=id hX.da
  have hg:=hX.cg
  have hn:=hX.snap
  have wl':=hn.wl
  have k30:=hg.k30
  have l6:=hg.sh.l6
  obtain ⟨as1,a,rfl,hSt⟩:=Dm hA
  obtain ⟨gt,lt,ht,dt,h1,h2,h3,h4,h5⟩:=hSt.un
  k_mem
  refine ⟨_,SqL.of hsl,_,oQ,?_⟩
  k_mem
  refine ⟨_,h1,rfl,?_⟩
  k_mem
  refine ⟨by decide,fun held hheld=>?_⟩
  (generalize hE:upd H held _=H1 at *;have f1:=p6 hE hheld;have e1:=jN hE;clear hE)
  k_upd
  refine ⟨_,.inr (SqT.of (f1 _ _ h3)),by omega,by rw [List.length_map];omega,?_⟩
  rw [List.length_map,Int.toNat_natCast]
  k_upd
  refine cR (M0 H1 held (ak n0 rs).ws (.ref wk) (.ref p) (.ref sl) (.ref wl) (.int (ak n0 rs).place) (.ref gt) (.ref lt) (.ref ht) (.ref dt) (.int (dz rs))) ⟨aB.of (av.refl _),⟨_,_,e1,HV.nil,HV.nil⟩,_,rfl⟩ ?_ ?_
  ·rintro i σ H2 hi ⟨k2,⟨x0,x1,ex,v0,v1⟩,t,rfl⟩
   have hlt:=f1.keeps k2 hheld _ _ h3
   have hwr:=hn.wr _ (dw hi)
   k_mem
   refine ⟨_,SqT.of hlt,_,by rw [Int.zero_add];exact j0 hi,?_⟩
   k_mem
   split
   ·rename_i h10
    k_upd
    refine ⟨_,SqT.of hlt,_,by rw [Int.zero_add];exact j0 hi,?_⟩
    k_mem
    rcases (by omega:(ak n0 rs).ws.getD i 0=10\/(ak n0 rs).ws.getD i 0=11) with e | e
    ·rw [e]
     k_upd
     refine ⟨_,ex,0,rfl,?_⟩
     rw [Int.zero_add]
     k_upd
     exact ⟨k2.put,⟨_,_,ah,HV.yes (by rw [e];rfl),v1.no (by rw [e];decide)⟩,_,rfl⟩
    ·rw [e]
     k_upd
     refine ⟨_,ex,1,rfl,?_⟩
     rw [Int.zero_add]
     k_upd
     exact ⟨k2.put,⟨_,_,ah,v0.no (by rw [e];decide),HV.yes (by rw [e];rfl)⟩,_,rfl⟩
   ·rename_i h10
    k_upd
    exact ⟨k2,⟨_,_,ex,v0.no (by omega),v1.no (by omega)⟩,_,rfl⟩
  ·rintro σ H2 ⟨k2,⟨x0,x1,ex,v0,v1⟩,t,rfl⟩
   have s2:=f1.keeps k2 hheld
   rw [v0.all hn (by omega),v1.all hn (by omega)] at ex
   exact k1 gt lt ht dt held t H2 s2 (s2.tup h2) (s2 _ _ h3) (s2.tup h4) (s2.tup h5) ex
variable (jK:Def K mg "_law_view" jA qA FC Cs)(sv:aH P w K mg base (CXf P w) 6 FC Cs qA (CK K Z))
noncomputable def xS (Z:Adr):Rw->Addr
 | .lv=>Z.bf
 | .db=>Z.fD
 | .nc=>Z.jC
 | .nr=>Z.cP
 | .ch=>Z.dH
 | .na=>Z.eU
 | .ul=>Z.aW
 | .nt=>Z.bu
 | .ct=>Z.bh
 | .gs=>Z.bw
 | .ce=>Z.bj
 | .go=>Z.gw
noncomputable def CL (K:PySem.W.Frag)(Z:Adr):Sp:=fun vs H Q E=>∃(w bk rl dd:Addr) (g:Cfg) (n0:bg) (rs:List Row),vs=[.ref w,.ref dd]/\WAt (clZ Z) K H w bk rl g n0 rs/\jL g/\eD g (ak n0 rs)/\rs.length < 300/\
 ((∃d,SqT K H dd (ddV d)/\yM d/\(∀r,dD g (ak n0 rs) d=some r->∀H',av H H'->E (.ref (xS Z r)) none H')/\(dD g (ak n0 rs) d=none->∀v H',aB rl H H'->WAt (clZ Z) K H' w bk rl g n0 (rs++[zr g n0 rs d])->A2 K H' (ak n0 rs) (dz rs+xw g (ak n0 rs) d) d v->Q v H'))\/
  (SqT K H dd [.str "take back"]/\∃rs' r,rs=rs'++[r]/\∀p H',aB rl H H'->WAt (clZ Z) K H' w bk rl g n0 rs'->SqT K H' p r.deed->Q (.ref p) H'))
include jH mQ pA w8 md sq pB w9 pC xa jI mX jJ mY pD xg mi sr in
theorem Jy {f:Addr}{fd:FuncData}(F:Fun K "_law_call" "_law_call" qI f fd)(T:Txt K mg Z):aH P w K mg base (CXf P w) 7 f fd qz (CL K Z):=by
 refine F.okF Jl (fun vs H Q E h=>?_) (fun cdv A outer s H vs Q E hr h=>?_)
 ·obtain ⟨w,bk,rl,dd,g,n0,rs,rfl,hW,hg,hn,h300,hc⟩:=h
  rfl
 ·obtain ⟨w,bk,rl,dd,g,n0,rs,rfl,hW,hg,hn,h300,hc⟩:=h
  refine seg 8 (aj (aw (ba (pv 0) T.aG jH.M mQ hr.dn jH.b .nil bS))) fun zt8 zh8=>?_
  k_all
  intro ze8
  refine seg 7 (ag (aY (az bM (au ay (pv 1) ai) aC (aJ _)) (aj (aw (bz (pv 0) T.aG pB.M w9 hr.dn pB.b .nil bS (ae (au ay (pv 1) ai) af)))) (aD)) zh8) fun zt7 zh7=>?_
  k_all
  intro ze7
  refine seg 6 (ag (aY (az bM (au ay (pv 1) ai) aC (aJ _)) (aj (aw (bz (pv 0) T.aG pC.M xa hr.dn pC.b .nil bS (ae (au ay (pv 1) ai) (ae (au ay (pv 1) ai) (ae (au ay (pv 1) ai) af)))))) (aD)) zh7) fun zt6 zh6=>?_
  k_all
  intro ze6
  refine seg 5 (ag (aY (az bM (au ay (pv 1) ai) aC (aJ _)) (aj (aw (bz (pv 0) T.aG mi.M sr hr.dn mi.b .nil bS (ae (au ay (pv 1) ai) af)))) (aD)) zh6) fun zt5 zh5=>?_
  k_all
  intro ze5
  refine seg 4 (ag (aY (az bM (au ay (pv 1) ai) aC (aJ _)) (aj (aw (bz (pv 0) T.aG pD.M xg hr.dn pD.b .nil bS (ae (au ay (pv 1) ai) (ae (au ay (pv 1) ai) af))))) (aD)) zh5) fun zt4 zh4=>?_
  k_all
  intro ze4
  refine seg 3 (ag (aY (az bM (au ay (pv 1) ai) aC (aJ _)) (aj (aw (bz (pv 0) T.aG jJ.M mY hr.dn jJ.b .nil bS (ae (au ay (pv 1) ai) af)))) (aD)) zh4) fun zt3 zh3=>?_
  k_all
  intro ze3
  refine seg 2 (ag (aY (az bM (au ay (pv 1) ai) aC (aJ _)) (aj (aw (bz (pv 0) T.aG jI.M mX hr.dn jI.b .nil bS (ae (au ay (pv 1) ai) af)))) (aD)) zh3) fun zt2 zh2=>?_
  k_all
  intro ze2
  refine seg 1 (ag (aY (az bM (au ay (pv 1) ai) aC (aJ _)) (aj (aw (bz (pv 0) T.aG md.M sq hr.dn md.b .nil bS (ae (au ay (pv 1) ai) af)))) (aD)) zh2) fun zt1 zh1=>?_
  k_all
  intro ze1
  refine ⟨_,ag (aY (az bM (au ay (pv 1) ai) aC (aJ _)) (aj (aw (bz (pv 0) T.aG pA.M w8 hr.dn pA.b .nil bS (ae (au ay (pv 1) ai) (ae (au ay (pv 1) ai) af))))) (aD)) zh1,?_⟩
  k_all
  obtain ⟨⟨dx,dl,gl,hob,hdl,hgl,n1,n2⟩,hB⟩:=id hW
  have l2:=hg.sh.l2
  have l6:=hg.sh.l6
  have lc:=hg.lc
  have wl:=hn.wl
  have gk:=hg.gk
  have full:¬300<=rs.length:=by omega
  k_mem
  rcases hc with ⟨d,hD,ok,qe,q⟩ | ⟨hD,rs2,r,rfl,q⟩
  rotate_left
  ·k_upd
   refine ⟨_,hD,_,rfl,?_⟩
   k_mem
   rw [if_neg (by decide)]
   k_upd
   refine ⟨_,hD,_,rfl,?_⟩
   k_mem
   rw [if_neg (by decide)]
   k_upd
   refine ⟨_,hD,_,rfl,?_⟩
   k_mem
   rw [if_neg (by decide)]
   k_upd
   refine ⟨_,hD,_,rfl,?_⟩
   k_mem
   rw [if_neg (by decide)]
   k_upd
   refine ⟨_,hD,_,rfl,?_⟩
   k_mem
   rw [if_neg (by decide)]
   k_upd
   refine ⟨_,hD,_,rfl,?_⟩
   k_mem
   rw [if_neg (by decide)]
   k_upd
   refine ⟨_,hD,_,rfl,?_⟩
   k_mem
   rw [if_neg (by decide)]
   k_upd
   refine ⟨_,hD,_,rfl,?_⟩
   k_mem
   rw [if_neg (by decide)]
   k_upd
   exact ⟨_,_,hob,rfl,_,_,_,_,_,_,rfl,hW,fun z=>by simp at z,fun rs3 r3 e p H2 k hW2 hp=>by obtain ⟨rfl,rfl⟩:=EG e;exact q p H2 k hW2 hp⟩
  ·cases d with
   | ring l s=>
    refine ⟨_,hD,_,rfl,?_⟩
    k_mem
    rw [if_pos rfl]
    k_upd
    refine ⟨_,_,hob,rfl,_,hD,_,rfl,_,hD,_,rfl,?_⟩
    k_mem
    refine ⟨_,_,_,_,_,_,_,_,rfl,hW,by omega,wl.symm,fun h H2 s2=>qe .lv ?_ H2 s2,fun h h' h3 H2 s2=>qe .db ?_ H2 s2,fun h h' h3 h4 H2 s2=>qe .nc ?_ H2 s2,fun h h' h3 h4=>⟨fun z=>absurd z full,fun _ H2 k2 hW2=>q ?_ _ H2 k2 hW2 rfl⟩⟩
    ·rw [lc] at h
     exact if_pos h
    ·rw [lc] at h'
     exact (if_neg (fun z=>z ⟨h,h'⟩)).trans (if_pos h3)
    ·rw [lc] at h'
     exact (if_neg (fun z=>z ⟨h,h'⟩)).trans ((if_neg (by rw [h3];exact Bool.false_ne_true)).trans (if_neg h4))
    ·rw [lc] at h'
     exact (if_neg (fun z=>z ⟨h,h'⟩)).trans ((if_neg (by rw [h3];exact Bool.false_ne_true)).trans (if_pos h4))
   | rept s=>
    refine ⟨_,hD,_,rfl,?_⟩
    k_mem
    rw [if_neg (by decide)]
    k_upd
    refine ⟨_,hD,_,rfl,?_⟩
    k_mem
    rw [if_pos rfl]
    k_upd
    refine ⟨_,_,hob,rfl,_,hD,_,rfl,?_⟩
    k_mem
    refine ⟨_,_,_,_,_,_,_,rfl,hW,by omega,wl.symm,fun h H2 s2=>qe .nr ?_ H2 s2,fun l r e h H2 s2=>qe .nc ?_ H2 s2,fun l r e h=>⟨fun z=>absurd z full,fun _ p H2 k2 hW2 hT=>q ?_ _ H2 k2 hW2 ⟨p,l,r,rfl,e,hT⟩⟩⟩
    ·simp only [dD]
    ·simp only [dD,e];exact if_neg h
    ·simp only [dD,e];exact if_pos h
   | opn l=>
    refine ⟨_,hD,_,rfl,?_⟩
    k_mem
    rw [if_neg (by decide)]
    k_upd
    refine ⟨_,hD,_,rfl,?_⟩
    k_mem
    rw [if_neg (by decide)]
    k_upd
    refine ⟨_,hD,_,rfl,?_⟩
    k_mem
    rw [if_pos rfl]
    k_upd
    refine ⟨_,_,hob,rfl,_,hD,_,rfl,?_⟩
    k_mem
    refine ⟨_,_,_,_,_,_,_,rfl,hW,by omega,wl.symm,hn.gl,fun h H2 s2=>qe .lv (if_pos h) H2 s2,fun h h' h3 H2 s2=>qe .ch ((if_neg (fun z=>z ⟨h,h'⟩)).trans (if_pos h3)) H2 s2,fun h h' h3=>⟨fun z=>absurd z full,fun _ H2 k2 hW2=>q ((if_neg (fun z=>z ⟨h,h'⟩)).trans (if_neg (by rw [h3];decide))) _ H2 k2 hW2 rfl⟩⟩
   | sht l=>
    refine ⟨_,hD,_,rfl,?_⟩
    k_mem
    rw [if_neg (by decide)]
    k_upd
    refine ⟨_,hD,_,rfl,?_⟩
    k_mem
    rw [if_neg (by decide)]
    k_upd
    refine ⟨_,hD,_,rfl,?_⟩
    k_mem
    rw [if_neg (by decide)]
    k_upd
    refine ⟨_,hD,_,rfl,?_⟩
    k_mem
    rw [if_pos rfl]
    k_upd
    refine ⟨_,_,hob,rfl,_,hD,_,rfl,?_⟩
    k_mem
    refine ⟨_,_,_,_,_,_,_,rfl,hW,by omega,wl.symm,hn.gl,fun h H2 s2=>qe .lv (if_pos h) H2 s2,fun h h' h3 H2 s2=>qe .ch ((if_neg (fun z=>z ⟨h,h'⟩)).trans (if_pos h3)) H2 s2,fun h h' h3=>⟨fun z=>absurd z full,fun _ H2 k2 hW2=>q ((if_neg (fun z=>z ⟨h,h'⟩)).trans (if_neg (by rw [h3];decide))) _ H2 k2 hW2 rfl⟩⟩
   | load k c=>
    refine ⟨_,hD,_,rfl,?_⟩
    k_mem
    rw [if_neg (by decide)]
    k_upd
    refine ⟨_,hD,_,rfl,?_⟩
    k_mem
    rw [if_neg (by decide)]
    k_upd
    refine ⟨_,hD,_,rfl,?_⟩
    k_mem
    rw [if_neg (by decide)]
    k_upd
    refine ⟨_,hD,_,rfl,?_⟩
    k_mem
    rw [if_neg (by decide)]
    k_upd
    refine ⟨_,hD,_,rfl,?_⟩
    k_mem
    rw [if_pos rfl]
    k_upd
    refine ⟨_,_,hob,rfl,_,hD,_,rfl,_,hD,_,rfl,?_⟩
    k_mem
    refine ⟨_,_,_,_,_,_,_,_,rfl,hW,by omega,wl.symm,hg.sh,hn.gl,by omega,ok.1,ok.2,fun h H2 s2=>qe .ul (if_pos h) H2 s2,fun h h' h3 H2 s2=>qe .nt ?_ H2 s2,fun l h h' hl h3 h4 H2 s2=>qe .ct ?_ H2 s2,fun l h h' hl h3 h4 h5 H2 s2=>qe .gs ?_ H2 s2,fun l h h' hl h3 h4 h5=>⟨fun z=>absurd z full,fun _ H2 k2 hW2=>q ?_ _ H2 k2 hW2 rfl⟩⟩
    ·refine (if_neg (fun z=>z ⟨h,h'⟩)).trans ?_
     cases hl:ck g.ds (ak n0 rs).place c with
     | none=>rfl
     | some l=>exact if_pos (h3 l hl)
    ·refine (if_neg (fun z=>z ⟨h,h'⟩)).trans ?_
     rw [hl]
     exact (if_neg (fun z=>z h3)).trans (if_pos h4)
    ·refine (if_neg (fun z=>z ⟨h,h'⟩)).trans ?_
     rw [hl]
     exact (if_neg (fun z=>z h3)).trans ((if_neg h4).trans (if_neg (by rw [h5];exact Bool.false_ne_true)))
    ·refine (if_neg (fun z=>z ⟨h,h'⟩)).trans ?_
     rw [hl]
     exact (if_neg (fun z=>z h3)).trans ((if_neg h4).trans (if_pos h5))
   | unload c=>
    refine ⟨_,hD,_,rfl,?_⟩
    k_mem
    rw [if_neg (by decide)]
    k_upd
    refine ⟨_,hD,_,rfl,?_⟩
    k_mem
    rw [if_neg (by decide)]
    k_upd
    refine ⟨_,hD,_,rfl,?_⟩
    k_mem
    rw [if_neg (by decide)]
    k_upd
    refine ⟨_,hD,_,rfl,?_⟩
    k_mem
    rw [if_neg (by decide)]
    k_upd
    refine ⟨_,hD,_,rfl,?_⟩
    k_mem
    rw [if_neg (by decide)]
    k_upd
    refine ⟨_,hD,_,rfl,?_⟩
    k_mem
    rw [if_pos rfl]
    k_upd
    refine ⟨_,_,hob,rfl,_,hD,_,rfl,?_⟩
    k_mem
    refine ⟨_,_,_,_,_,_,_,rfl,hW,by omega,wl.symm,hg.sh,hn.gl,ok.1,ok.2,fun h H2 s2=>qe .ce (if_pos h) H2 s2,fun h hl H2 s2=>qe .nt ?_ H2 s2,fun l h hl h3 H2 s2=>qe .gs ?_ H2 s2,fun l h hl h3=>⟨fun z=>absurd z full,fun _ H2 k2 hW2=>q ?_ _ H2 k2 hW2 rfl⟩⟩
    ·refine (if_neg (fun z=>z h)).trans ?_
     simp only [hl]
    ·refine (if_neg (fun z=>z h)).trans ?_
     rw [hl]
     exact if_neg (by rw [h3];exact Bool.false_ne_true)
    ·refine (if_neg (fun z=>z h)).trans ?_
     rw [hl]
     exact if_pos h3
   | wind c l k=>
    refine ⟨_,hD,_,rfl,?_⟩
    k_mem
    rw [if_neg (by decide)]
    k_upd
    refine ⟨_,hD,_,rfl,?_⟩
    k_mem
    rw [if_neg (by decide)]
    k_upd
    refine ⟨_,hD,_,rfl,?_⟩
    k_mem
    rw [if_neg (by decide)]
    k_upd
    refine ⟨_,hD,_,rfl,?_⟩
    k_mem
    rw [if_neg (by decide)]
    k_upd
    refine ⟨_,hD,_,rfl,?_⟩
    k_mem
    rw [if_neg (by decide)]
    k_upd
    refine ⟨_,hD,_,rfl,?_⟩
    k_mem
    rw [if_neg (by decide)]
    k_upd
    refine ⟨_,hD,_,rfl,?_⟩
    k_mem
    rw [if_pos rfl]
    have sp:=hg.speed (ak n0 rs)
    k_upd
    refine ⟨_,_,hob,rfl,_,hD,_,rfl,_,hD,_,rfl,_,hD,_,rfl,?_⟩
    k_mem
    refine ⟨_,_,_,_,_,_,_,_,_,rfl,hW,by omega,wl.symm,hg.sh,hn.gl,lc,sp.1,sp.2,ok.2,fun h H2 s2=>qe .lv (if_pos h) H2 s2,fun h h' h3 H2 s2=>qe .go ((if_neg (fun z=>z ⟨h,h'⟩)).trans (if_pos h3)) H2 s2,fun h h' h3 h4 H2 s2=>qe .na ((if_neg (fun z=>z ⟨h,h'⟩)).trans ((if_neg (by rw [h3];exact Bool.false_ne_true)).trans (if_neg h4))) H2 s2,fun h h' h3 h4=>⟨fun z=>absurd z full,fun _ H2 k2 hW2=>q ((if_neg (fun z=>z ⟨h,h'⟩)).trans ((if_neg (by rw [h3];exact Bool.false_ne_true)).trans (if_pos h4))) _ H2 k2 hW2 rfl⟩⟩
   | fail l=>
    refine ⟨_,hD,_,rfl,?_⟩
    k_mem
    rw [if_neg (by decide)]
    k_upd
    refine ⟨_,hD,_,rfl,?_⟩
    k_mem
    rw [if_neg (by decide)]
    k_upd
    refine ⟨_,hD,_,rfl,?_⟩
    k_mem
    rw [if_neg (by decide)]
    k_upd
    refine ⟨_,hD,_,rfl,?_⟩
    k_mem
    rw [if_neg (by decide)]
    k_upd
    refine ⟨_,hD,_,rfl,?_⟩
    k_mem
    rw [if_neg (by decide)]
    k_upd
    refine ⟨_,hD,_,rfl,?_⟩
    k_mem
    rw [if_neg (by decide)]
    k_upd
    refine ⟨_,hD,_,rfl,?_⟩
    k_mem
    rw [if_neg (by decide)]
    k_upd
    refine ⟨_,hD,_,rfl,?_⟩
    k_mem
    rw [if_pos rfl]
    k_upd
    refine ⟨_,_,hob,rfl,_,hD,_,rfl,?_⟩
    k_mem
    refine ⟨_,_,_,_,_,_,_,rfl,hW,by omega,wl.symm,fun h H2 s2=>qe .lv ?_ H2 s2,fun h h' h3 H2 s2=>qe .ch ?_ H2 s2,fun h h' h3=>⟨fun z=>absurd z full,fun _ H2 k2 hW2=>q ?_ _ H2 k2 hW2 rfl⟩⟩
    ·rw [lc] at h
     exact if_pos h
    ·rw [lc] at h'
     exact (if_neg (fun z=>z ⟨h,h'⟩)).trans (if_pos h3)
    ·rw [lc] at h'
     exact (if_neg (fun z=>z ⟨h,h'⟩)).trans (if_neg (by rw [h3];exact Bool.false_ne_true))
variable (kz:Def K mg "_law_call" qI qz FD Ct)(xh:aH P w K mg base (CXf P w) 7 FD Ct qz (CL K Z))
noncomputable def CM (K:PySem.W.Frag)(Z:Adr):Sp:=fun vs H Q E=>∃(H0:Hp) (w bk rl p dl cl ll sl wl dd:Addr) (g:Cfg) (lds:List Ld) (n0:bg) (rs:List Row),vs=[.ref w,.ref p,.ref sl,.ref wl,.ref dd]/\nq (clZ Z) K H0 H p dl cl ll w bk rl sl wl g lds n0 rs/\rs.length < 300/\
 ((∃d,SqT K H dd (ddV d)/\yM d/\dD g (ak n0 rs) d=none/\∀H',cb rl sl wl H H'->nq (clZ Z) K H0 H' p dl cl ll w bk rl sl wl g lds n0 (rs++[zr g n0 rs d])->Q (.bl true) H')\/
  (SqT K H dd [.str "take back"]/\∃rs' r,rs=rs'++[r]/\∀H',cb rl sl wl H H'->nq (clZ Z) K H0 H' p dl cl ll w bk rl sl wl g lds n0 rs'->Q (.bl true) H'))
include wN FL bQ fG kz xh in
theorem Jz {f:Addr}{fd:FuncData}(F:Fun K "_law_done" "_law_done" qJ f fd)(T:Txt K mg Z):aH P w K mg base (CXf P w) 8 f fd qB (CM K Z):=by
 refine F.okF xI (fun vs H Q E h=>?_) (fun cdv A outer s H vs Q E hr h=>?_)
 ·obtain ⟨H0,w,bk,rl,p,dl,cl,ll,sl,wl,dd,g,lds,n0,rs,rfl,hX,h300,hc⟩:=h
  rfl
 ·obtain ⟨H0,w,bk,rl,p,dl,cl,ll,sl,wl,dd,g,lds,n0,rs,rfl,hX,h300,hc⟩:=h
  refine seg 6 (aj (aw (aF fG hr.dn (by rfl) bQ.m bQ.F.kp bQ.b .nil aO (ae (pv 5) (ae (au ay (au aI (pv 2) (jZ fQ ai)) ai) af))))) fun zt6 zh6=>?_
  k_all
  intro ze6
  refine seg 5 (ag (aY (az bM (au ay (pv 4) ai) aC (aJ _)) (aj (aw (aF fG hr.dn (by rfl) bQ.m bQ.F.kp bQ.b .nil aO (ae (pv 5) (ae (bq (ae (fK bM (au ay (pv 4) ai) (au ay (pv 6) ai) (aJ _)) (ae (au ay (pv 6) ai) (ae (au ay (pv 4) ai) af)))) af))))) (aD)) zh6) fun zt5 zh5=>?_
  k_all
  intro ze5
  refine seg 4 (ag (bK (vv PySem.F.plainAttrs_list PySem.F.slot_list_append PySem.F.type_list_append iJ (pv 3) (ae (bq (ae (au ay (au aI (pv 2) (jZ fQ ai)) ai) (ae (au ay (au aI (pv 2) (jZ fQ ai)) ai) (ae (pv 4) af)))) af))) zh5) fun zt4 zh4=>?_
  k_all
  intro ze4
  refine seg 3 (ag (bK (vv PySem.F.plainAttrs_list PySem.F.slot_list_append PySem.F.type_list_append iJ (pv 2) (ae (aF FL hr.dn (by rfl) wN.m wN.F.kp wN.b .nil aO (ae (pv 1) (ae (au aI (pv 2) (jZ fQ ai)) (ae (pv 4) af)))) af))) zh4) fun zt3 zh3=>?_
  k_all
  intro ze3
  refine seg 2 (ag (aL (i:=6) xI.nd rfl orL (au ay (au aI (pv 2) (jZ fQ ai)) ai)) zh3) fun zt2 zh2=>?_
  k_all
  intro ze2
  refine seg 1 (ag (aY (az bM (au ay (pv 4) ai) aC (aJ _)) (ag (bK (zj PySem.F.plainAttrs_list PySem.F.slot_list_pop PySem.F.type_list_pop Gz (pv 2))) (aj (aw (aF fG hr.dn (by rfl) bQ.m bQ.F.kp bQ.b .nil aO (ae (pv 5) (ae (au ay (zj PySem.F.plainAttrs_list PySem.F.slot_list_pop PySem.F.type_list_pop Gz (pv 3)) ai) af)))))) (aD)) zh2) fun zt1 zh1=>?_
  k_all
  intro ze1
  refine ⟨_,ag (aL (i:=5) xI.nd rfl orL (aF xh hr.dn (by rfl) kz.m kz.F.kp kz.b .nil bS (ae (pv 0) (ae (pv 4) af)))) zh1,?_⟩
  k_all
  obtain ⟨hW,⟨as,hsl,hA⟩,⟨bs,hwl,hB⟩,hNs,hNw,hne,hrun⟩:=id hX.da
  have hg:=hX.cg
  have hn:=hX.snap
  obtain ⟨rr,hrl⟩:=hW.rows
  have nrs:rl≠sl:=hW.off sl hNs
  have nrw:rl≠wl:=hW.off wl hNw
  k_mem
  rcases hc with ⟨d,hD,ok,hrf,q⟩ | ⟨hD,rs2,r,rfl,q⟩
  ·k_upd
   refine ⟨w,bk,rl,dd,g,n0,rs,rfl,hW,hg,hn,h300,.inl ⟨d,hD,ok,fun r e=>(by rw [hrf] at e;cases e),fun _ v H1 k1 hW1 ans=>?_⟩⟩
   have hD1:=hD.keep k1 hrl
   have hsl1:=k1 _ _ nrs.symm hsl
   have hwl1:=k1 _ _ nrw.symm hwl
   have hA1:gG (kP K H1) as (pE n0 rs):=hA.imp fun a x h=>h.keep k1 hrl
   have hB1:dN K H1 bs rs:=hB.keep k1 hrl
   have sa1:av H0 H1:=hX.sa.keeps k1 hX.fr
   obtain ⟨as1,a,rfl,hSt⟩:=Dm hA1
   obtain ⟨gt,lt,ht,dt,h1,h2,h3,h4,h5⟩:=hSt.un
   obtain ⟨w0,ew0,nw0⟩:=MJ d
   have hal:=hA1.1
   have hbl:=hB1.1
   rw [BV,List.length_append,List.length_singleton] at hal
   k_mem
   refine ⟨_,hD1,_,ew0,?_⟩
   k_mem
   rw [if_neg nw0]
   k_upd
   refine ⟨_,SqL.of hsl1,_,oQ,?_⟩
   k_mem
   refine ⟨_,h1,_,rfl,?_⟩
   k_mem
   refine ⟨.inl ⟨rfl,_,SqL.of hsl1⟩,_,SqL.of hsl1,_,oQ,?_⟩
   k_mem
   refine ⟨p,dl,cl,ll,a,dd,g,lds,ak n0 rs,dz rs,d,rfl,hX.su.same sa1,hg,hn,hSt,hD1,ok,hrf,fun b H2 s2 hb=>?_⟩
   k_mem
   refine ⟨_,s2 _ _ hsl1,dO (by rw [List.length_map,List.length_append,List.length_singleton];omega),?_⟩
   have k3:L2.aB sl H2 (upd H2 sl (HO.lst (List.map V.ref (as1++[a])++[V.ref b]))):=(aB.of (av.refl H2)).put
   have e3:upd H2 sl (HO.lst (List.map V.ref (as1++[a])++[V.ref b])) sl=some (HO.lst ((as1++[a]++[b]).map V.ref)):=by rw [ah];simp
   generalize upd H2 sl (HO.lst (List.map V.ref (as1++[a])++[V.ref b]))=H3 at *
   have hW3:=(hW1.same s2).own hNs k3 e3
   have hwl3:=k3 _ _ hne.symm (s2 _ _ hwl1)
   have hb3:=hb.keep k3 (s2 _ _ hsl1)
   have h13:=(s2.tup h1).keep k3 (s2 _ _ hsl1)
   obtain ⟨gt2,lt2,ht2,dt2,hb31,_⟩:=hb3.un
   k_mem
   refine ⟨.inl ⟨rfl,_,SqL.of hwl3⟩,_,SqL.of e3,_,ML,?_⟩
   k_mem
   refine ⟨_,h13,_,rfl,_,SqL.of e3,_,oQ,?_⟩
   k_mem
   refine ⟨_,hb31,_,rfl,by decide,fun tp htp=>?_⟩
   (generalize hE:upd H3 tp _=H4 at *;have f4:=p6 hE htp;have e4:=jN hE;clear hE)
   k_upd
   refine ⟨_,f4 _ _ hwl3,dO (by rw [List.length_map];omega),?_⟩
   have k5:L2.aB wl H4 (upd H4 wl (HO.lst (List.map V.ref bs++[V.ref tp]))):=(aB.of (av.refl H4)).put
   have e5:upd H4 wl (HO.lst (List.map V.ref bs++[V.ref tp])) wl=some (HO.lst ((bs++[tp]).map V.ref)):=by rw [ah];simp
   generalize upd H4 wl (HO.lst (List.map V.ref bs++[V.ref tp]))=H5 at *
   have hwl4:=f4 _ _ hwl3
   have hW5:=(hW3.same f4).own hNw k5 e5
   have hD5:SqT K H5 dd (ddV d):=(f4.tup ((s2.tup hD1).keep k3 (s2 _ _ hsl1))).keep k5 hwl4
   have hsl5:=k5 _ _ hne (f4 _ _ e3)
   have h45:SqT K H5 ht (oO (ak n0 rs).e):=(f4.tup ((s2.tup h4).keep k3 (s2 _ _ hsl1))).keep k5 hwl4
   have hb51:=(f4.tup hb31).keep k5 hwl4
   have K05:cb rl sl wl H H5:=((((cb.a k1).trans (cb.of s2)).trans (cb.b k3)).trans (cb.of f4)).trans (cb.c k5)
   have hX5:nq (clZ Z) K H0 H5 p dl cl ll w bk rl sl wl g lds n0 (rs++[zr g n0 rs d]):=hX.to K05 ⟨hW5,⟨as1++[a]++[b],hsl5,?_⟩,⟨bs++[tp],e5,?_⟩,hNs,hNw,hne,.snoc hrun ok hrf⟩
   rotate_left
   ·rw [uZ]
    exact gG.push (hA1.imp fun a x h=>(((h.same s2).keep k3 (s2 _ _ hsl1)).same f4).keep k5 hwl4) ((hb3.same f4).keep k5 hwl4)
   ·exact ((((hB1.same s2).keep k3 (s2 _ _ hsl1)).same f4).keep k5 hwl4).push ⟨dd,(SqT.of e4).keep k5 hwl4,hD5⟩
   have ans5:A2 K H5 (ak n0 rs) (dz rs+xw g (ak n0 rs) d) d v:=(((ans.same s2).keep k3 (s2 _ _ hsl1)).same f4).keep k5 hwl4
   have qq:∀H',av H5 H'->Q (.bl true) H':=fun H' s=>q H' (K05.trans (cb.of s)) (hX5.same s)
   clear hX5 K05 hW5 hW3 hW1 hsl1 hwl1 hA1 hB1 sa1 h13 hb31 hb3 hwl3 k3 f4 k5 hD1
   k_mem
   by_cases hr:∃s,d=.rept s
   ·obtain ⟨s,rfl⟩:=hr
    obtain ⟨pa,l,r,rfl,he,hpa⟩:=ans5
    rw [he] at h45
    k_upd
    refine ⟨_,hD5,_,rfl,?_⟩
    k_mem
    rw [if_pos rfl]
    k_upd
    refine ⟨_,hD5,_,rfl,_,h45,_,rfl,?_⟩
    k_mem
    refine ⟨_,h45,_,rfl,_,hD5,_,rfl,by decide,fun tq htq=>?_⟩
    have f6:=(av.refl H5).lay (o:=HO.tup [V.bl (decide (s=r)),V.int r,V.int s]) htq
    k_upd
    refine ⟨_,_,_,rfl,gy (f6.tup hpa) (by show 3<=100000;decide) ?_,gy (SqT.of ah) (by show 3<=100000;decide) ?_,fun H' s'=>qq H' (f6.trans s')⟩
    all_goals
     intro x hx
     simp only [List.mem_cons,List.not_mem_nil,or_false] at hx
     rcases hx with rfl | rfl | rfl<;>rfl
   ·obtain ⟨w1,ew1,nw1⟩:=MK (d:=d) fun s e=>hr ⟨s,e⟩
    have ev:=ans5.int fun s e=>hr ⟨s,e⟩
    subst ev
    k_upd
    refine ⟨_,hD5,_,ew1,?_⟩
    k_mem
    rw [if_neg nw1]
    k_upd
    refine ⟨_,SqL.of hsl5,_,oQ,?_⟩
    k_mem
    refine ⟨_,hb51,_,rfl,?_⟩
    k_mem
    exact ⟨_,_,_,rfl,.flat rfl,.flat rfl,qq⟩
  ·k_upd
   refine ⟨w,bk,rl,dd,g,n0,rs2++[r],rfl,hW,hg,hn,h300,.inr ⟨hD,rs2,r,rfl,fun pp H1 k1 hW1 hpp=>?_⟩⟩
   have hD1:=hD.keep k1 hrl
   have hsl1:=k1 _ _ nrs.symm hsl
   have hwl1:=k1 _ _ nrw.symm hwl
   have hA1:gG (kP K H1) as (pE n0 (rs2++[r])):=hA.imp fun a x h=>h.keep k1 hrl
   have hB1:dN K H1 bs (rs2++[r]):=hB.keep k1 hrl
   rw [uZ] at hA1
   obtain ⟨as1,a,rfl,hA2,_⟩:=hA1.last
   obtain ⟨bs1,b,rfl,hB2,dd2,hb1,hb2⟩:=hB1.last
   obtain ⟨dr,hdr⟩:=hrun.deeds r (by simp)
   k_mem
   refine ⟨_,hD1,_,rfl,?_⟩
   k_mem
   rw [if_pos rfl]
   k_upd
   refine ⟨.inl ⟨rfl,_,SqL.of hsl1⟩,_,hsl1,.ref a,by simp,?_⟩
   have k3:L2.aB sl H1 (upd H1 sl (HO.lst (List.map V.ref (as1++[a])).dropLast)):=(aB.of (av.refl H1)).put
   have e3:upd H1 sl (HO.lst (List.map V.ref (as1++[a])).dropLast) sl=some (HO.lst (as1.map V.ref)):=by rw [ah];simp
   generalize upd H1 sl (HO.lst (List.map V.ref (as1++[a])).dropLast)=H3 at *
   have hwl3:=k3 _ _ hne.symm hwl1
   k_mem
   refine ⟨.inl ⟨rfl,_,SqL.of hwl3⟩,_,hwl3,.ref b,by simp,?_⟩
   have k5:L2.aB wl H3 (upd H3 wl (HO.lst (List.map V.ref (bs1++[b])).dropLast)):=(aB.of (av.refl H3)).put
   have e5:upd H3 wl (HO.lst (List.map V.ref (bs1++[b])).dropLast) wl=some (HO.lst (bs1.map V.ref)):=by rw [ah];simp
   generalize upd H3 wl (HO.lst (List.map V.ref (bs1++[b])).dropLast)=H5 at *
   have K05:cb rl sl wl H H5:=((cb.a k1).trans (cb.b k3)).trans (cb.c k5)
   have hX5:nq (clZ Z) K H0 H5 p dl cl ll w bk rl sl wl g lds n0 rs2:=hX.to K05 ⟨(hW1.own hNs k3 e3).own hNw k5 e5,⟨as1,k5 _ _ hne e3,hA2.imp fun a x h=>(h.keep k3 hsl1).keep k5 hwl3⟩,⟨bs1,e5,(hB2.keep k3 hsl1).keep k5 hwl3⟩,hNs,hNw,hne,hrun.inv.1⟩
   have lenr:=Ig dr
   k_mem
   refine ⟨_,(hb1.keep k3 hsl1).keep k5 hwl3,_,rfl,?_⟩
   k_mem
   refine ⟨_,_,_,rfl,gy ((hpp.keep k3 hsl1).keep k5 hwl3) (by rw [hdr];omega) (by rw [hdr];exact zp dr),gy ((hb2.keep k3 hsl1).keep k5 hwl3) (by rw [hdr];omega) (by rw [hdr];exact zp dr),fun H' s=>q H' (K05.trans (cb.of s)) (hX5.same s)⟩
variable (eY:Def K mg "_law_done" qJ qB FE Cu)(mj:aH P w K mg base (CXf P w) 8 FE Cu qB (CM K Z))
noncomputable def IC (K:PySem.W.Frag)(Z:Adr):Sp:=fun vs H Q E=>∃(w bk rl dd:Addr) (g:Cfg) (n0:bg) (rs:List Row) (d:Dd) (r:Rw),vs=[.ref w,.ref dd]/\WAt (clZ Z) K H w bk rl g n0 rs/\jL g/\eD g (ak n0 rs)/\rs.length < 300/\SqT K H dd (ddV d)/\yM d/\dD g (ak n0 rs) d=some r/\(r=.ul\/r=.nt\/r=.ct\/r=.gs\/r=.ce)/\∀p p2 H',av H H'->H' p=some (.lst [.bl false,.ref p2])->H' p2=some (.lst [.str (rwS r)])->Q (.ref p) H'
include kz xh in
theorem M1 {f:Addr}{fd:FuncData}(F:Fun K "_law_do" "_law_do" zP f fd)(T:Txt K mg Z):aH P w K mg base CX0 8 f fd zA (IC K Z):=by
 refine F.ok sP (fun vs H Q E h=>?_) (fun cdv A outer s H vs Q E hr h=>?_)
 ·obtain ⟨wk,bk,rl,dd,g,n0,rs,d,r,rfl,hW,hg,hn,h300,hD,ok,hrf,hrr,q⟩:=h
  rfl
 ·obtain ⟨wk,bk,rl,dd,g,n0,rs,d,r,rfl,hW,hg,hn,h300,hD,ok,hrf,hrr,q⟩:=h
  refine seg 3 (aj (aw (bB (ae iF (ae (nF ["_law_k","_law_names","_law_hit"] [none,some 4,some 2] (cC (by rfl) T.cU (ae (aN aE (by rfl) T.cA bF (ae (pv 4) af)) af)) (fun _ _ _ _=>(aM (i:=0) (show (["_law_k","_law_names","_law_hit"]:List Str).Nodup by decide +kernel) rfl orL)) (fun _ _ _ _=>(oI (dj (au (show IxR _ (IM K) from aI) (pv 2) (pv 0))))) (fun _ _ _ _=>(au (show IxR _ (IM K) from aI) (pv 1) (pv 0)))) af))))) fun zt3 zh3=>?_
  k_all
  intro ze3
  refine seg 2 (ag (aL (i:=4) sP.nd rfl (Or.inr rfl) (bB (ae aC (ae aC (ae aC (ae aC (ae aC af))))))) zh3) fun zt2 zh2=>?_
  k_all
  intro ze2
  refine seg 1 (ag (Ol (i:=3) rfl rfl (fun _ _=>aj (aw (bB (ae iF (ae (J4 xh hr.dn (by rfl) kz.m kz.F.kp kz.b .nil (ae (pv 0) (ae (pv 1) af))) af))))) (fun _=>ag (aL (i:=2) sP.nd rfl (Or.inr rfl) (bB (ae (aN (show iG _ (.builtin "isinstance") (GH K) from qm) (by rfl) T.cj bN (ae (pv 3) (ae (sC (v:=.ref Z.aW) (by rfl) T.tN rfl) af))) (ae (aN (show iG _ (.builtin "isinstance") (GH K) from qm) (by rfl) T.cj bN (ae (pv 3) (ae (sC (v:=.ref Z.bu) (by rfl) T.oV rfl) af))) (ae (aN (show iG _ (.builtin "isinstance") (GH K) from qm) (by rfl) T.cj bN (ae (pv 3) (ae (sC (v:=.ref Z.bh) (by rfl) T.yg rfl) af))) af))))) (aj (aL (i:=2) sP.nd rfl (Or.inr rfl) (aT uY (pv 2) (bB (ae (aN (show iG _ (.builtin "isinstance") (GH K) from qm) (by rfl) T.cj bN (ae (pv 3) (ae (sC (v:=.ref Z.bw) (by rfl) T.zU rfl) af))) (ae (aN (show iG _ (.builtin "isinstance") (GH K) from qm) (by rfl) T.cj bN (ae (pv 3) (ae (sC (v:=.ref Z.bj) (by rfl) T.qM rfl) af))) af))))))) sP.nd rfl rfl (by rfl) T.EX) zh2) fun zt1 zh1=>?_
  k_all
  intro ze1
  refine ⟨_,ag (aL (i:=2) sP.nd rfl (Or.inr rfl) (bB af)) zh1,?_⟩
  k_all
  k_mem
  refine ⟨by decide,fun h0 hh0=>?_⟩
  have s1:=(av.refl H).lay (o:=HO.lst []) hh0
  generalize upd H h0 (HO.lst [])=H1 at *
  k_mem
  have hx:PySem.W.exmOne K (.ref (xS Z r)) (.ref Z.cq)=some true/\ExI K (xS Z r)/\PySem.W.kitOne K (.ref (xS Z r)) (.ref Z.aW)=some (decide (r=.ul))/\PySem.W.kitOne K (.ref (xS Z r)) (.ref Z.bu)=some (decide (r=.nt))/\PySem.W.kitOne K (.ref (xS Z r)) (.ref Z.bh)=some (decide (r=.ct))/\PySem.W.kitOne K (.ref (xS Z r)) (.ref Z.bw)=some (decide (r=.gs))/\PySem.W.kitOne K (.ref (xS Z r)) (.ref Z.bj)=some (decide (r=.ce)):=by
   rcases hrr with rfl | rfl | rfl | rfl | rfl
   ·k_upd
    exact ⟨T.n6,T.Bl,T.mn,T.oW,T.n8,T.oX,T.n9⟩
   ·k_upd
    exact ⟨T.qP,T.Hd,T.oY,T.tj,T.qQ,T.tu,T.qR⟩
   ·k_upd
    exact ⟨T.p7,T.E3,T.oa,T.qS,T.p8,T.qT,T.p9⟩
   ·k_upd
    exact ⟨T.qX,T.Hm,T.oZ,T.tw,T.qY,T.tx,T.qZ⟩
   ·k_upd
    exact ⟨T.qa,T.E4,T.og,T.qU,T.qc,T.qV,T.qd⟩
  obtain ⟨x0,x1,x2,x3,x4,x5,x6⟩:=hx
  k_upd
  refine ⟨wk,bk,rl,dd,g,n0,rs,rfl,hW.same s1,hg,hn,h300,.inl ⟨d,s1.tup hD,ok,fun r' e H2 s2=>?_,fun e=>(by rw [hrf] at e;cases e)⟩⟩
  rw [hrf] at e
  cases e
  k_upd
  refine ⟨x0,fun y hy=>?_⟩
  have s3:=(s1.trans s2).lay (o:=De y (.ref (xS Z r))) hy
  refine Kd ah x1 x2 qo (Kd ah x1 x3 qo (Kd ah x1 x4 qo ⟨by decide,fun p1 hp1=>?_⟩))
  have s4:=s3.lay (o:=HO.lst [V.bl (decide (r=.ul)),V.bl (decide (r=.nt)),V.bl (decide (r=.ct))]) hp1
  have e4:upd (upd H2 y (De y (.ref (xS Z r)))) p1 (HO.lst [V.bl (decide (r=.ul)),V.bl (decide (r=.nt)),V.bl (decide (r=.ct))]) p1=some (HO.lst [V.bl (decide (r=.ul)),V.bl (decide (r=.nt)),V.bl (decide (r=.ct))]):=ah
  have ey:upd (upd H2 y (De y (.ref (xS Z r)))) p1 (HO.lst [V.bl (decide (r=.ul)),V.bl (decide (r=.nt)),V.bl (decide (r=.ct))]) y=some (De y (.ref (xS Z r))):=upo ah hp1
  generalize upd (upd H2 y (De y (.ref (xS Z r)))) p1 (HO.lst [V.bl (decide (r=.ul)),V.bl (decide (r=.nt)),V.bl (decide (r=.ct))])=H3 at *
  refine Kd ey x1 x5 qo (Kd ey x1 x6 qo ⟨by decide,fun p2 hp2=>⟨_,upo e4 hp2,_,ah,by show 5<=sizeLine;decide,fun p3 hp3=>?_⟩⟩)
  have s5:=(s4.lay (o:=HO.lst [V.bl (decide (r=.gs)),V.bl (decide (r=.ce))]) hp2).lay (o:=HO.lst ([V.bl (decide (r=.ul)),V.bl (decide (r=.nt)),V.bl (decide (r=.ct))]++[V.bl (decide (r=.gs)),V.bl (decide (r=.ce))])) hp3
  have e5:upd (upd H3 p2 (HO.lst [V.bl (decide (r=.gs)),V.bl (decide (r=.ce))])) p3 (HO.lst ([V.bl (decide (r=.ul)),V.bl (decide (r=.nt)),V.bl (decide (r=.ct))]++[V.bl (decide (r=.gs)),V.bl (decide (r=.ce))])) p3=some (HO.lst ([decide (r=.ul),decide (r=.nt),decide (r=.ct),decide (r=.gs),decide (r=.ce)].map V.bl)):=ah
  generalize upd (upd H3 p2 (HO.lst [V.bl (decide (r=.gs)),V.bl (decide (r=.ce))])) p3 (HO.lst ([V.bl (decide (r=.ul)),V.bl (decide (r=.nt)),V.bl (decide (r=.ct))]++[V.bl (decide (r=.gs)),V.bl (decide (r=.ce))]))=H4 at *
  k_mem
  refine ⟨by decide,fun p4 hp4=>?_⟩
  have s6:=s5.lay (o:=HO.lst [V.str (Str.ofString "UnknownLoad"),V.str (Str.ofString "NotThere"),V.str (Str.ofString "CageTaken"),V.str (Str.ofString "GateShut"),V.str (Str.ofString "CageEmpty")]) hp4
  have e6:upd H4 p4 (HO.lst [V.str (Str.ofString "UnknownLoad"),V.str (Str.ofString "NotThere"),V.str (Str.ofString "CageTaken"),V.str (Str.ofString "GateShut"),V.str (Str.ofString "CageEmpty")]) p4=some (HO.lst ((["UnknownLoad","NotThere","CageTaken","GateShut","CageEmpty"]:List Str).map V.str)):=ah
  have e7:=upo (o:=HO.lst [V.str (Str.ofString "UnknownLoad"),V.str (Str.ofString "NotThere"),V.str (Str.ofString "CageTaken"),V.str (Str.ofString "GateShut"),V.str (Str.ofString "CageEmpty")]) e5 hp4
  generalize upd H4 p4 (HO.lst [V.str (Str.ofString "UnknownLoad"),V.str (Str.ofString "NotThere"),V.str (Str.ofString "CageTaken"),V.str (Str.ofString "GateShut"),V.str (Str.ofString "CageEmpty")])=H5 at *
  k_upd
  refine ⟨_,.inl (SqL.of e6),by decide,by decide,?_⟩
  refine fm (fun j=>[decide (r=.ul),decide (r=.nt),decide (r=.ct),decide (r=.gs),decide (r=.ce)].getD j false) (fun (j:Nat)=>.str ((["UnknownLoad","NotThere","CageTaken","GateShut","CageEmpty"]:List Str).getD j "")) (by rw [sizeLine_eq];decide) rfl (fun j hj N hN=>?_) (fun j hj _ N hN=>?_) fun lv hlv=>?_
  ·k_mem
   k_upd
   refine ⟨_,SqL.of e7,_,kB (by omega) (by show 0+(j:Int) < ((5:Nat):Int);have:j < 5:=hj;omega),?_⟩
   k_mem
   rw [Int.zero_add,Int.toNat_natCast]
   exact hN
  ·have hj5:j < 5:=hj
   k_mem
   refine ⟨_,SqL.of e6,_,?_,hN⟩
   rcases (by omega:j=0\/j=1\/j=2\/j=3\/j=4) with rfl | rfl | rfl | rfl | rfl<;>rfl
  k_mem
  refine ⟨by decide,fun p5 hp5=>?_⟩
  refine q p5 lv _ ((s6.lay hlv).lay hp5) ah ?_
  rw [upo ah hp5]
  rcases hrr with rfl | rfl | rfl | rfl | rfl<;>rfl
variable (xT:Def K mg "_law_do" zP zA Lq Iy)(DW:aH P w K mg base CX0 8 Lq Iy zA (IC K Z))
def O8 (Z:Adr)(K:PySem.W.Frag)(H0 H:Hp)(p dl cl ll w bk rl sl wl a:Addr)(g:Cfg)(lds:List Ld)(n0:bg)(b e:Int)(i:Nat)(σ:St)(H':Hp):Prop:=∃rs,cb rl sl wl H H'/\nq (clZ Z) K H0 H' p dl cl ll w bk rl sl wl g lds n0 rs/\rs.length<=i/\∃t u,σ=[some (.ref w),some (.ref p),some (.ref a),some (.int b),some (.int e),some (.ref sl),some (.ref wl),t,u]
noncomputable def FR (K:PySem.W.Frag)(Z:Adr):Sp:=fun vs H Q E=>∃(H0:Hp) (w bk rl p dl cl ll a:Addr) (ds:List Int) (ls:List Cd) (slow fast:Int) (lds:List Ld) (N:Addr->Prop) (ns:List Int) (b e:Int),vs=[.ref w,.ref p,.ref a,.int b,.int e]/\BZ ds ls slow fast lds/\fh K H0 p dl cl ll (iK ds ls slow fast lds N) lds/\av H0 H/\H0 rl=none/\SqL K H0 a (ns.map V.int)/\ns.length<=63/\0<=b/\b<=1000/\0<=e/\e<=1000/\WAt (clZ Z) K H w bk rl (iK ds ls slow fast lds N) (jM ds ls lds) []/\
 ∀(lp sl wl:Addr) (N':Addr->Prop) (rs:List Row) (H':Hp),H lp=none->lp≠rl->aB rl H H'->nq (clZ Z) K H0 H' p dl cl ll w bk rl sl wl (iK ds ls slow fast lds N') lds (jM ds ls lds) rs->rs.length<=63->H' lp=some (.lst [.ref sl,.ref wl])->Q (.ref lp) H'
include sQ Cw sT CB jX uQ eY mj in
theorem Ly {f:Addr}{fd:FuncData}(F:Fun K "_law_day" "_law_day" vN f fd)(T:Txt K mg Z):aH P w K mg base (CXf P w) 9 f fd vI (FR K Z):=by
 refine F.okF qK (fun vs H Q E h=>?_) (fun cdv A outer s H vs Q E hr h=>?_)
 ·obtain ⟨H0,w,bk,rl,p,dl,cl,ll,a,ds,ls,slow,fast,lds,N,ns,b,e,rfl,hU,hP,sa,fr,hS,h63,b0,b1,e0,e1,hW,q⟩:=h
  rfl
 ·obtain ⟨H0,w,bk,rl,p,dl,cl,ll,a,ds,ls,slow,fast,lds,N,ns,b,e,rfl,hU,hP,sa,fr,hS,h63,b0,b1,e0,e1,hW,q⟩:=h
  refine seg 3 (aj (aw (bB (ae (pv 5) (ae (pv 6) af))))) fun zt3 zh3=>?_
  k_all
  intro ze3
  refine seg 2 (ag (eJ Dc rfl (BF (by rfl) T.cU (ae (pv 3) (ae (aN (xl rfl) (by rfl) T.Lk GC (ae (pv 4) (ae (aN aE (by rfl) T.cA bF (ae (pv 2) af)) af))) af))) (aM (i:=7) qK.nd rfl orL) (ag (aL (i:=8) qK.nd rfl orL (aF uQ hr.dn (by rfl) jX.m jX.F.kp jX.b .nil aO (ae (pv 1) (ae (pv 5) (ae (aF Cw hr.dn (by rfl) sQ.m sQ.F.kp sQ.b .nil aO (ae (pv 2) (ae (pv 7) af))) af))))) (aj (aY (eZ (dj (aF mj hr.dn (by rfl) eY.m eY.F.kp eY.b .nil bS (ae (pv 0) (ae (pv 1) (ae (pv 5) (ae (pv 6) (ae (pv 8) af)))))))) (aj (aw (bB af))) (aD))))) zh3) fun zt2 zh2=>?_
  k_all
  intro ze2
  refine seg 1 (ag (aL (i:=6) qK.nd rfl orL (bB af)) zh2) fun zt1 zh1=>?_
  k_all
  intro ze1
  refine ⟨_,ag (aL (i:=5) qK.nd rfl orL (bB (ae (aF CB hr.dn (by rfl) sT.m sT.F.kp sT.b .nil aO (ae (pv 1) af)) af))) zh1,?_⟩
  k_all
  have l2:=hU.sh.l2
  have l6:=hU.sh.l6
  k_mem
  refine ⟨p,dl,cl,ll,ds,ls,slow,fast,lds,N,rfl,hP.same sa,l2,l6,hU.l30,fun st H1 s1 hst=>?_⟩
  k_mem
  refine ⟨by decide,fun sl hsl=>?_⟩
  have f2:=(av.refl H1).lay (o:=HO.lst [V.ref st]) hsl
  have e2:upd H1 sl (HO.lst [V.ref st]) sl=some (HO.lst [V.ref st]):=ah
  have hWa:=(hW.same s1).grow hsl f2 e2
  generalize upd H1 sl (HO.lst [V.ref st])=H2 at *
  k_upd
  refine ⟨by decide,fun wl hwl=>?_⟩
  have f3:=(av.refl H2).lay (o:=HO.lst []) hwl
  have e3:upd H2 wl (HO.lst []) wl=some (HO.lst []):=ah
  have nsw:sl≠wl:=aq e2 hwl
  have hWb:=hWa.grow hwl f3 e3
  generalize upd H2 wl (HO.lst [])=H3 at *
  have s03:=(s1.trans f2).trans f3
  have hsl0:H sl=none:=s1.free hsl
  have hwl0:H wl=none:=(s1.trans f2).free hwl
  obtain ⟨rr,hrl⟩:=hW.rows
  have hX:nq (clZ Z) K H0 H3 p dl cl ll w bk rl sl wl (iK ds ls slow fast lds fun q=>(N q\/q=sl)\/q=wl) lds (jM ds ls lds) []:=⟨⟨hP.ob,hP.od,hP.oc,hP.ol,hP.ek⟩,sa.trans s03,fr,sa.free hsl0,sa.free hwl0,⟨hWb,⟨[st],f3 _ _ e2,gG.nil.push ((hst.same f2).same f3)⟩,⟨[],e3,dN.nil⟩,.inl (.inr rfl),.inr rfl,nsw,.nil⟩,hU.cfg _,hU.snap _⟩
  clear hWa hWb hst
  k_mem
  refine ⟨_,.inl ((sa.trans s03).seq hS),?_⟩
  rw [List.length_map]
  k_mem
  have hj:(if (ns.length:Int) < e then (ns.length:Int) else e)<=ns.length:=by split<;>omega
  have hj1:(if (ns.length:Int) < e then (ns.length:Int) else e)<=1000:=by split<;>omega
  have hj0:0<=(if (ns.length:Int) < e then (ns.length:Int) else e):=by split<;>omega
  generalize (if (ns.length:Int) < e then (ns.length:Int) else e)=j at *
  k_upd
  refine ⟨⟨by omega,by omega,by omega,by omega⟩,?_⟩
  k_upd
  refine cR (O8 Z K H0 H3 p dl cl ll w bk rl sl wl a (iK ds ls slow fast lds fun q=>(N q\/q=sl)\/q=wl) lds (jM ds ls lds) b e) ⟨[],cb.of (av.refl _),hX,Nat.le_refl _,_,_,rfl⟩ ?_ ?_
  ·rintro i σ H4 hi ⟨rs,k4,hX4,hlen,t,u,rfl⟩
   obtain ⟨as,hsl4,hA4⟩:=hX4.da.st
   k_mem
   refine ⟨a,ns,b+(i:Int),rfl,hX4.sa.seq hS,by omega,by omega,fun c=>?_⟩
   k_mem
   refine ⟨p,dl,cl,ll,sl,_,lds,_,rs,c,rfl,hX4.setup,hX4.cg,hX4.snap,⟨as,hsl4,hA4⟩,fun dd d H5 s5 hd ok hr=>?_,fun hrs dd H5 s5 hd=>?_⟩
   ·k_mem
    k_upd
    refine ⟨H0,w,bk,rl,p,dl,cl,ll,sl,wl,dd,_,lds,_,rs,rfl,hX4.same s5,by omega,.inl ⟨d,hd,ok,hr,fun H6 k6 hX6=>?_⟩⟩
    k_mem
    exact ⟨_,(k4.trans (cb.of s5)).trans k6,hX6,by rw [List.length_append,List.length_singleton];omega,_,_,rfl⟩
   ·obtain ⟨rs2,r,rfl⟩:∃rs2 r,rs=rs2++[r]:=by
     rcases dU rs with z | z
     ·exact absurd z hrs
     ·exact z
    k_mem
    refine ⟨H0,w,bk,rl,p,dl,cl,ll,sl,wl,dd,_,lds,_,rs2++[r],rfl,hX4.same s5,by omega,.inr ⟨hd,rs2,r,rfl,fun H6 k6 hX6=>?_⟩⟩
    k_mem
    exact ⟨_,(k4.trans (cb.of s5)).trans k6,hX6,by rw [List.length_append,List.length_singleton] at hlen;omega,_,_,rfl⟩
  ·rintro σ H4 ⟨rs,k4,hX4,hlen,t,u,rfl⟩
   k_mem
   refine ⟨by decide,fun lp hlp=>?_⟩
   have f5:=(av.refl H4).lay (o:=HO.lst [V.ref sl,V.ref wl]) hlp
   have k04:L2.aB rl H H4:=fun d o n e=>k4 d o n (aq e hsl0) (aq e hwl0) (s03 d o e)
   have nlr:lp≠rl:=fun z=>by
    obtain ⟨r2,hr2⟩:=hX4.da.wk.rows
    rw [z,hr2] at hlp
    cases hlp
   k_upd
   exact q lp sl wl _ rs _ (k04.free nlr hlp) nlr (k04.trans (aB.of f5)) (hX4.same f5) (by omega) ah
variable (sZ:Def K mg "_law_day" vN vI Iu FF)(zc:aH P w K mg base (CXf P w) 9 Iu FF vI (FR K Z))
def LU (d:Dd):Prop:=yM d/\((∃c,d=.unload c)\/∃k c,d=.load k c)
theorem Lz {g:Cfg}{n:bg}{d:Dd}{r:Rw}(h:(∃c,d=.unload c)\/∃k c,d=.load k c)(e:dD g n d=some r):r=.ul\/r=.nt\/r=.ct\/r=.gs\/r=.ce:=by
 rcases h with ⟨c,rfl⟩ | ⟨k,c,rfl⟩
 ·simp only [dD] at e
  split at e
  ·cases e;simp
  ·split at e
   ·cases e;simp
   ·split at e
    ·cases e
    ·cases e;simp
 ·simp only [dD] at e
  split at e
  ·cases e;simp
  ·split at e
   ·cases e;simp
   ·split at e
    ·cases e;simp
    ·split at e
     ·cases e;simp
     ·split at e
      ·cases e
      ·cases e;simp
theorem O9 {r:Rw}(h:r=.ul\/r=.nt\/r=.ct\/r=.gs\/r=.ce):¬rwS r="":=by
 rcases h with rfl | rfl | rfl | rfl | rfl<;>decide
def QS (K:PySem.W.Frag)(Hb H:Hp)(x0 x1 x2 x3 x4 x5:V)(i:Nat)(σ:St)(H':Hp):Prop:=av H H'/\∃(al:Addr) (as:List Addr) (ds:List Dd) (t:Option V),σ=[some x0,some x1,some x2,some x3,some x4,some x5,some (.ref al),t,none,none]/\Hb al=none/\H' al=some (.lst (as.map V.ref))/\ER K H' as ds/\as.length=2+2 * i/\∀d∈ds,LU d
def QT (Z:Adr)(K:PySem.W.Frag)(H0 H:Hp)(p dl cl ll w bk rl sl wl:Addr)(g:Cfg)(lds:List Ld)(n0:bg)(rs:List Row)(x0 x3 x6:V)(x7:Option V)(_:Nat)(σ:St)(H':Hp):Prop:=cb rl sl wl H H'/\nq (clZ Z) K H0 H' p dl cl ll w bk rl sl wl g lds n0 rs/\∃t u,σ=[some x0,some (.ref p),some (.ref w),some x3,some (.ref sl),some (.ref wl),some x6,x7,t,u]
noncomputable def AM (K:PySem.W.Frag)(Z:Adr):Sp:=fun vs H Q _=>∃(a:Addr) (ns:List Int),vs=[.ref a]/\SqL K H a (ns.map V.int)/\ns.length<=63/\∀H',Q (.bl true) H'
include dA gC lj sY bQ fG oF xf jK sv eY mj xT DW sZ zc in
theorem Pa {f:Addr}{fd:FuncData}(F:Fun K "law" "law" vO f fd)(T:Txt K mg Z):aH P w K mg base (CXf P w) 10 f fd Li (AM K Z):=by
 refine F.okF lV (fun vs H Q E h=>?_) (fun cdv A outer s H vs Q E hr h=>?_)
 ·obtain ⟨a,ns,rfl,hS,hn,q⟩:=h
  rfl
 ·obtain ⟨a,ns,rfl,hS,hn,q⟩:=h
  obtain ⟨t1,h1,k1⟩:∃t,PSs (cxF P w K mg base ["_law_script","_law_setup_here","_law_works","_law_played","_law_states","_law_rows","_law_asked","_law_number","_law_deed","_law_word"] "law" (ao vO) f cdv A outer s H E) ((cy vO).drop 7) t/\∀(H0:Hp) (wk bk rl p dl cl ll sl wl lp al:Addr) (g:Cfg) (lds:List Ld) (n0:bg) (rs:List Row) (nb:Option V) (as:List Addr) (ds:List Dd) (H1:Hp),nq (clZ Z) K H0 H1 p dl cl ll wk bk rl sl wl g lds n0 rs->rs.length<=63->H1 al=some (.lst (as.map V.ref))->al≠rl->al≠sl->al≠wl->ER K H1 as ds->(∀d∈ds,LU d)->t ({nx:=fun _ H2=>Q .non H2,rt:=Q}:lr) [some (.ref a),some (.ref p),some (.ref wk),some (.ref lp),some (.ref sl),some (.ref wl),some (.ref al),nb,none,none] H1:=by
   refine seg 1 (aj (aw (aF sv hr.dn (by rfl) jK.m jK.F.kp jK.b .nil bS (ae (pv 2) (ae (pv 1) (ae (pv 4) (ae (pv 5) af))))))) fun zt1 zh1=>?_
   k_all
   intro ze1
   refine ⟨_,ag (eJ Dc rfl (gx (pv 6)) (aM (i:=8) lV.nd rfl orL) (ag (aL (i:=9) lV.nd rfl orL (aF gC hr.dn (by rfl) dA.m dA.F.kp dA.b .nil aO (ae (pv 1) (ae (au aI (pv 4) (jZ fQ ai)) (ae (pv 8) af))))) (aj (aY (az tE (pv 9) aC (aJ _)) (aj (aY (eZ (dj (aF fG hr.dn (by rfl) bQ.m bQ.F.kp bQ.b .nil aO (ae (aF DW hr.dn (by rfl) xT.m xT.F.kp xT.b .nil aO (ae (pv 2) (ae (pv 8) af))) (ae (bB (ae iF (ae (bB (ae (pv 9) af)) af))) af))))) (aj (aw iF)) (aD))) (ag (aY (eZ (dj (aF mj hr.dn (by rfl) eY.m eY.F.kp eY.b .nil bS (ae (pv 2) (ae (pv 1) (ae (pv 4) (ae (pv 5) (ae (pv 8) af)))))))) (aj (aw iF)) (aD)) (ag (aY (eZ (dj (aF sv hr.dn (by rfl) jK.m jK.F.kp jK.b .nil bS (ae (pv 2) (ae (pv 1) (ae (pv 4) (ae (pv 5) af))))))) (aj (aw iF)) (aD)) (aj (aY (eZ (dj (aF mj hr.dn (by rfl) eY.m eY.F.kp eY.b .nil bS (ae (pv 2) (ae (pv 1) (ae (pv 4) (ae (pv 5) (ae (bq (ae aC af)) af)))))))) (aj (aw iF)) (aD))))))))) zh1,?_⟩
   intro H0 wk bk rl p dl cl ll sl wl lp al g lds n0 rs nb as ds H1 hX h63 hal n1 n2 n3 hds hlu
   k_all
   k_mem
   refine ⟨⟨_,SqL.of hal⟩,?_⟩
   k_upd
   refine lg (as.map V.ref) (QT Z K H0 H1 p dl cl ll wk bk rl sl wl g lds n0 rs (.ref a) (.ref lp) (.ref al) nb) ⟨cb.of (av.refl _),hX,_,_,rfl⟩ (fun i σ H' _ hI=>SqL.of (hI.1 _ _ n1 n2 n3 hal)) ?_ ?_
   ·rintro i x σ H2 hx ⟨k2,hX2,t,u,rfl⟩
    rw [List.getElem?_map] at hx
    cases ea:as[i]? with
    | none=>rw [ea] at hx;cases hx
    | some dd=>
     rw [ea] at hx
     cases hx
     have hi:=(List.getElem?_eq_some_iff.mp ea).1
     have ed:ds[i]?=some (ds[i]'(by rw [←hds.1];exact hi)):=List.getElem?_eq_getElem (by rw [←hds.1];exact hi)
     generalize ds[i]'(by rw [←hds.1];exact hi)=d at ed
     have hd1:=hds.2 i dd d ea ed
     obtain ⟨ok,hl⟩:=hlu d (List.mem_of_getElem? ed)
     obtain ⟨rr,hrl⟩:=hX.da.wk.rows
     obtain ⟨as2,hsl2,hA2⟩:=hX2.da.st
     obtain ⟨as3,st,rfl,hSt⟩:=Dm hA2
     have hd2:SqT K H2 dd (ddV d):=by
      rcases hd1 with (h | ⟨o,h⟩) | h
      ·obtain ⟨_,⟨bs,hsl,_⟩,⟨cs,hwl,_⟩,_⟩:=id hX.da
       exact .inl (.inl (k2 _ _ (fun z=>by rw [z,hrl] at h;cases h) (fun z=>by rw [z,hsl] at h;cases h) (fun z=>by rw [z,hwl] at h;cases h) h))
      ·obtain ⟨_,⟨bs,hsl,_⟩,⟨cs,hwl,_⟩,_⟩:=id hX.da
       exact .inl (.inr ⟨o,k2 _ _ (fun z=>by rw [z,hrl] at h;cases h) (fun z=>by rw [z,hsl] at h;cases h) (fun z=>by rw [z,hwl] at h;cases h) h⟩)
      ·exact .inr h
     k_mem
     refine ⟨_,SqL.of hsl2,_,oQ,?_⟩
     k_mem
     refine ⟨p,dl,cl,ll,st,dd,g,lds,ak n0 rs,dz rs,d,rfl,hX2.setup,hX2.cg,hX2.snap,hSt,hd2,ok,hl,fun H3 s3=>?_⟩
     k_mem
     have hX3:=hX2.same s3
     cases hrf:dD g (ak n0 rs) d with
     | some r=>
      have h5:=Lz hl hrf
      k_upd
      rw [if_pos (show ¬MX (some r)=Str.ofString "" from O9 h5)]
      k_upd
      refine ⟨wk,bk,rl,dd,g,n0,rs,d,r,rfl,hX3.da.wk,hX3.cg,hX3.snap,by omega,s3.tup hd2,ok,hrf,h5,fun p1 p2 H4 s4 e1 e2=>?_⟩
      k_mem
      refine ⟨by decide,fun p3 hp3=>⟨by decide,fun p4 hp4=>?_⟩⟩
      have f5:=((av.refl H4).lay (o:=HO.lst [V.str (MX (some r))]) hp3).lay (o:=HO.lst [V.bl false,V.ref p3]) hp4
      k_upd
      refine ⟨_,_,.lst [.flat (.bl false),.lst [.flat (.str (rwS r))]],rfl,?_,?_,fun H6 s6=>?_⟩
      ·exact kQ.rep (.cons (.flat rfl) (.cons (kQ.rep (.cons (.flat rfl) .nil) (SqL.of (f5 _ _ e2)) (by show 1<=100000;decide)) .nil)) (SqL.of (f5 _ _ e1)) (by show 2<=100000;decide)
      ·exact kQ.rep (.cons (.flat rfl) (.cons (kQ.rep (.cons (.flat rfl) .nil) (SqL.of (upo ah hp4)) (by show 1<=100000;decide)) .nil)) (SqL.of ah) (by show 2<=100000;decide)
      k_mem
      have s26:=(((s3.trans s4).trans f5).trans s6)
      k_upd
      exact ⟨k2.trans (cb.of s26),hX2.same s26,_,_,rfl⟩
     | none=>
      rw [if_neg (show ¬¬MX none=Str.ofString "" from fun z=>z rfl)]
      k_upd
      refine ⟨H0,wk,bk,rl,p,dl,cl,ll,sl,wl,dd,g,lds,n0,rs,rfl,hX3,by omega,.inl ⟨d,s3.tup hd2,ok,hrf,fun H4 k4 hX4=>?_⟩⟩
      k_mem
      refine ⟨H0,wk,bk,rl,p,dl,cl,ll,sl,wl,g,lds,n0,_,rfl,hX4,by rw [List.length_append,List.length_singleton];omega,fun H5 s5=>?_⟩
      k_mem
      refine ⟨by decide,fun tb htb=>?_⟩
      have f6:=(av.refl H5).lay (o:=HO.tup [V.str (Str.ofString "take back")]) htb
      k_upd
      refine ⟨H0,wk,bk,rl,p,dl,cl,ll,sl,wl,tb,g,lds,n0,_,rfl,(hX4.same s5).same f6,by rw [List.length_append,List.length_singleton];omega,.inr ⟨SqT.of ah,rs,_,rfl,fun H7 k7 hX7=>?_⟩⟩
      k_mem
      exact ⟨(((k2.trans (cb.of s3)).trans k4).trans (cb.of (s5.trans f6))).trans k7,hX7,_,_,rfl⟩
   ·rintro σ H2 ⟨k2,hX2,t,u,rfl⟩
    k_mem
    exact ⟨H0,wk,bk,rl,p,dl,cl,ll,sl,wl,g,lds,n0,rs,rfl,hX2,by omega,fun H3 _=>q H3⟩
  refine seg 6 (ag (eJ Dc rfl (gx (aT uY (bC (zo rfl) (by rfl) T.fJ dJ (ae (bC Di (by rfl) T.cU JY (ae (jZ fQ ai) (ae (aT cu (aN aE (by rfl) T.cA bF (ae (au aI (pv 1) ai) af)) ai) af))) af)) (bB (ae (aT N6 ai ai) af)))) (aM (i:=7) lV.nd rfl orL) (aj (aL (i:=6) lV.nd rfl orL (aT uY (pv 6) (bB (ae (bq (ae aC (ae (pv 7) (ae ai af)))) (ae (bq (ae aC (ae (pv 7) (ae ai af)))) af))))))) h1) fun zt6 zh6=>?_
  k_all
  intro ze6
  refine seg 5 (ag (aL (i:=6) lV.nd rfl orL (bB (ae (bq (ae aC (ae ai af))) (ae (bq (ae aC (ae ai af))) af)))) zh6) fun zt5 zh5=>?_
  k_all
  intro ze5
  refine seg 4 (ag (lu (pv 3) (GL rfl (aV (aM (i:=4) lV.nd rfl orL) (aV (aM (i:=5) lV.nd rfl orL) fe)))) zh5) fun zt4 zh4=>?_
  k_all
  intro ze4
  refine seg 3 (ag (aY (az (OV hr.units0) (pv 3) (bB af) (aJ _)) (aj (aw iF)) (aD)) zh4) fun zt3 zh3=>?_
  k_all
  intro ze3
  refine seg 2 (ag (aL (i:=3) lV.nd rfl orL (aF zc hr.dn (by rfl) sZ.m sZ.F.kp sZ.b .nil bS (ae (pv 2) (ae (pv 1) (ae (pv 0) (ae ai (ae ai af))))))) zh3) fun zt2 zh2=>?_
  k_all
  intro ze2
  refine seg 1 (ag (aL (i:=2) lV.nd rfl orL (aF xf hr.dn (by rfl) oF.m oF.F.kp oF.b .nil bS (ae (pv 1) af))) zh2) fun zt1 zh1=>?_
  k_all
  intro ze1
  refine ⟨_,ag (aL (i:=1) lV.nd rfl orL (aF sY hr.dn (by rfl) lj.m lj.F.kp lj.b .nil aO (ae (pv 0) (ae ai af)))) zh1,?_⟩
  k_all
  k_mem
  refine ⟨a,ns,30,rfl,hS,by omega,by omega,fun p dl cl ll ds ls slow fast lds H1 s1 fp fdl fcl fll hP hsh hlen hgd hsp hlm hld=>?_⟩
  have hU:BZ ds ls slow fast lds:=⟨hsh,hlen,hgd,hsp,by omega,fun x hx=>(hld x hx).1⟩
  k_mem
  refine ⟨p,dl,cl,ll,ds,ls,slow,fast,lds,_,rfl,hP,hsh,hlen,hgd,hsp,hU.l30,hU.gl,fun wk bk rl N H2 s2 frl fwk hW=>?_⟩
  k_mem
  refine ⟨H1,wk,bk,rl,p,dl,cl,ll,a,ds,ls,slow,fast,lds,N,ns,5,45,rfl,hU,⟨hP.ob,hP.od,hP.oc,hP.ol,hP.ek⟩,s2,frl,s1.seq hS,hn,by omega,by omega,by omega,by omega,hW,fun lp sl wl N' rs H3 flp nlp k3 hX h63 hlp=>?_⟩
  k_mem
  refine ⟨by decide,fun p0 hp0=>?_⟩
  have f4:=(av.refl H3).lay (o:=HO.lst []) hp0
  have e4:upd H3 p0 (HO.lst []) p0=some (HO.lst []):=ah
  generalize upd H3 p0 (HO.lst [])=H4 at *
  k_upd
  refine ⟨_,SqL.of (f4 _ _ hlp),_,SqL.of e4,by show (2:Nat)≠0;decide,?_⟩
  k_mem
  refine ⟨_,SqL.of (f4 _ _ hlp),rfl,?_⟩
  k_mem
  replace hX:=hX.same f4
  obtain ⟨hp,hdl,_,⟨bl,hll,hT2⟩,_⟩:=id hX.setup
  have hbl:=hT2.1
  have l30:=hU.l30
  k_upd
  refine ⟨by decide,fun q1 hq1=>⟨by decide,fun q2 hq2=>⟨by decide,fun q3 hq3=>?_⟩⟩⟩
  have s5:=(((av.refl H4).lay (o:=HO.tup [V.str (Str.ofString "unload"),V.int 0]) hq1).lay (o:=HO.tup [V.str (Str.ofString "unload"),V.int 1]) hq2).lay (o:=HO.lst [V.ref q1,V.ref q2]) hq3
  have g1:upd (upd (upd H4 q1 (HO.tup [V.str (Str.ofString "unload"),V.int 0])) q2 (HO.tup [V.str (Str.ofString "unload"),V.int 1])) q3 (HO.lst [V.ref q1,V.ref q2]) q1=some (HO.tup [V.str (Str.ofString "unload"),V.int 0]):=upo (upo ah hq2) hq3
  have g2:upd (upd (upd H4 q1 (HO.tup [V.str (Str.ofString "unload"),V.int 0])) q2 (HO.tup [V.str (Str.ofString "unload"),V.int 1])) q3 (HO.lst [V.ref q1,V.ref q2]) q2=some (HO.tup [V.str (Str.ofString "unload"),V.int 1]):=upo ah hq3
  have g3:upd (upd (upd H4 q1 (HO.tup [V.str (Str.ofString "unload"),V.int 0])) q2 (HO.tup [V.str (Str.ofString "unload"),V.int 1])) q3 (HO.lst [V.ref q1,V.ref q2]) q3=some (HO.lst [V.ref q1,V.ref q2]):=ah
  have f3:H4 q3=none:=upn (upn hq3)
  generalize upd (upd (upd H4 q1 (HO.tup [V.str (Str.ofString "unload"),V.int 0])) q2 (HO.tup [V.str (Str.ofString "unload"),V.int 1])) q3 (HO.lst [V.ref q1,V.ref q2])=H5 at *
  k_upd
  refine ⟨_,SqL.of (s5 _ _ hp),_,rfl,?_⟩
  k_mem
  refine ⟨_,.inl (SqL.of (s5 _ _ hll)),?_⟩
  rw [List.length_map]
  k_upd
  refine ⟨-1,_,rfl,fun r1 hr1=>⟨r1,-1,bl.length+2,rfl,?_,by omega,by decide,by decide,fun r2 hr2=>?_⟩⟩
  ·rw [ah];congr 2;omega
  have s6:=(s5.lay (o:=HO.rng (-1) ((bl.length:Int)+1)) hr1).lay (o:=HO.lst (((List.range (bl.length+2)).map fun (i:Nat)=>-1+(i:Int)).map V.int)) hr2
  have g6:upd (upd H5 r1 (HO.rng (-1) ((bl.length:Int)+1))) r2 (HO.lst (((List.range (bl.length+2)).map fun (i:Nat)=>-1+(i:Int)).map V.int)) r2=some (HO.lst (((List.range (bl.length+2)).map fun (i:Nat)=>-1+(i:Int)).map V.int)):=ah
  have g31:=((av.refl H5).lay (o:=HO.rng (-1) ((bl.length:Int)+1)) hr1).lay (o:=HO.lst (((List.range (bl.length+2)).map fun (i:Nat)=>-1+(i:Int)).map V.int)) hr2
  generalize upd (upd H5 r1 (HO.rng (-1) ((bl.length:Int)+1))) r2 (HO.lst (((List.range (bl.length+2)).map fun (i:Nat)=>-1+(i:Int)).map V.int))=H6 at *
  k_upd
  refine ⟨⟨by decide,by decide,by decide⟩,by decide,fun r3 hr3=>?_⟩
  k_upd
  refine ⟨_,upo g6 hr3,_,ah,by rw [List.length_map,List.length_map,List.length_range,sizeLine_eq];simp only [List.length_cons,List.length_nil];omega,fun r4 hr4=>?_⟩
  have g7:upd (upd H6 r3 (HO.lst [V.int 1000000000000000000000000000000])) r4 (HO.lst (List.map V.int (List.map (fun (i:Nat)=>-1+(i:Int)) (List.range (bl.length+2)))++[V.int 1000000000000000000000000000000])) r4=some (HO.lst ((((List.range (bl.length+2)).map fun (i:Nat)=>-1+(i:Int))++[1000000000000000000000000000000]).map V.int)):=by rw [ah,List.map_append];rfl
  have f7:=((av.refl H6).lay (o:=HO.lst [V.int 1000000000000000000000000000000]) hr3).lay (o:=HO.lst (List.map V.int (List.map (fun (i:Nat)=>-1+(i:Int)) (List.range (bl.length+2)))++[V.int 1000000000000000000000000000000])) hr4
  generalize upd (upd H6 r3 (HO.lst [V.int 1000000000000000000000000000000])) r4 (HO.lst (List.map V.int (List.map (fun (i:Nat)=>-1+(i:Int)) (List.range (bl.length+2)))++[V.int 1000000000000000000000000000000]))=H7 at *
  have hlen7:((((List.range (bl.length+2)).map fun (i:Nat)=>-1+(i:Int))++[1000000000000000000000000000000]).map V.int).length=bl.length+3:=by simp
  generalize (((List.range (bl.length+2)).map fun (i:Nat)=>-1+(i:Int))++[1000000000000000000000000000000])=zs at *
  have s57:=g31.trans f7
  have s47:=s6.trans f7
  k_upd
  refine ⟨⟨_,SqL.of g7⟩,?_⟩
  k_upd
  refine lg (zs.map V.int) (QS K H4 H7 (.ref a) (.ref p) (.ref wk) (.ref lp) (.ref sl) (.ref wl)) ⟨av.refl _,q3,[q1,q2],[.unload 0,.unload 1],_,rfl,f3,s57 _ _ g3,?_,rfl,?_⟩ (fun i σ H' _ hI=>SqL.of (hI.1 _ _ g7)) ?_ ?_
  ·exact gG.push (P:=fun a d=>SqT K H7 a (ddV d)) (as:=[q1]) (xs:=[.unload 0]) (gG.push (P:=fun a d=>SqT K H7 a (ddV d)) (as:=[]) (xs:=[]) gG.nil (SqT.of (s57 _ _ g1))) (SqT.of (s57 _ _ g2))
  ·intro d hd
   simp only [List.mem_cons,List.not_mem_nil,or_false] at hd
   rcases hd with rfl | rfl
   ·k_upd
    exact ⟨⟨by decide,by decide⟩,.inl ⟨_,rfl⟩⟩
   ·k_upd
    exact ⟨⟨by decide,by decide⟩,.inl ⟨_,rfl⟩⟩
  ·rintro i x σ H8 hx ⟨s8,al,as,ds1,t,rfl,fal,hal,hds,hlen,hlu⟩
   have hi:=(List.getElem?_eq_some_iff.mp hx).1
   rw [List.getElem?_map] at hx
   cases ez:zs[i]? with
   | none=>rw [ez] at hx;cases hx
   | some z=>
    rw [ez] at hx
    cases hx
    k_mem
    refine ⟨by decide,fun q4 hq4=>⟨by decide,fun q5 hq5=>⟨by decide,fun q6 hq6=>?_⟩⟩⟩
    have s9:=(((av.refl H8).lay (o:=HO.tup [V.str (Str.ofString "load"),V.int z,V.int 0]) hq4).lay (o:=HO.tup [V.str (Str.ofString "load"),V.int z,V.int 1]) hq5).lay (o:=HO.lst [V.ref q4,V.ref q5]) hq6
    have j4:upd (upd (upd H8 q4 (HO.tup [V.str (Str.ofString "load"),V.int z,V.int 0])) q5 (HO.tup [V.str (Str.ofString "load"),V.int z,V.int 1])) q6 (HO.lst [V.ref q4,V.ref q5]) q4=some (HO.tup (ddV (.load z 0))):=upo (upo ah hq5) hq6
    have j5:upd (upd (upd H8 q4 (HO.tup [V.str (Str.ofString "load"),V.int z,V.int 0])) q5 (HO.tup [V.str (Str.ofString "load"),V.int z,V.int 1])) q6 (HO.lst [V.ref q4,V.ref q5]) q5=some (HO.tup (ddV (.load z 1))):=upo ah hq6
    have j6:upd (upd (upd H8 q4 (HO.tup [V.str (Str.ofString "load"),V.int z,V.int 0])) q5 (HO.tup [V.str (Str.ofString "load"),V.int z,V.int 1])) q6 (HO.lst [V.ref q4,V.ref q5]) q6=some (HO.lst [V.ref q4,V.ref q5]):=ah
    generalize upd (upd (upd H8 q4 (HO.tup [V.str (Str.ofString "load"),V.int z,V.int 0])) q5 (HO.tup [V.str (Str.ofString "load"),V.int z,V.int 1])) q6 (HO.lst [V.ref q4,V.ref q5])=H9 at *
    k_upd
    refine ⟨_,s9 _ _ hal,_,j6,by rw [List.length_map,hlen,sizeLine_eq];simp only [List.length_cons,List.length_nil];omega,fun q7 hq7=>?_⟩
    have s10:=(av.refl H9).lay (o:=HO.lst (as.map V.ref++[V.ref q4,V.ref q5])) hq7
    k_upd
    refine ⟨(s8.trans s9).trans s10,q7,as++[q4]++[q5],ds1++[.load z 0]++[.load z 1],_,rfl,((s47.trans s8).trans s9).free hq7,by rw [ah];simp,?_,by simp only [List.length_append,List.length_singleton,hlen];omega,?_⟩
    ·exact (((hds.same s9).same s10).push (SqT.of (s10 _ _ j4))).push (SqT.of (s10 _ _ j5))
    ·intro d hd
     rw [List.mem_append,List.mem_append,List.mem_singleton,List.mem_singleton] at hd
     rcases hd with (hd | rfl) | rfl
     ·exact hlu d hd
     ·k_upd
      exact ⟨⟨by decide,by decide⟩,.inr ⟨_,_,rfl⟩⟩
     ·k_upd
      exact ⟨⟨by decide,by decide⟩,.inr ⟨_,_,rfl⟩⟩
  ·rintro σ H8 ⟨s8,al,as,ds1,t,rfl,fal,hal,hds,hlen,hlu⟩
   obtain ⟨rr,hrl⟩:=hX.da.wk.rows
   obtain ⟨_,⟨b1,hsl,_⟩,⟨c1,hwl,_⟩,_⟩:=id hX.da
   exact k1 H1 wk bk rl p dl cl ll sl wl lp al _ lds _ rs t as ds1 H8 (hX.same (s47.trans s8)) h63 hal (aq hrl fal).symm (aq hsl fal).symm (aq hwl fal).symm hds hlu
include dA gC lj sY bQ fG oF xf jK sv eY mj xT DW sZ zc in
theorem Pb {f:Addr}{fd:FuncData}(F:Fun K "law" "law" vO f fd)(T:Txt K mg Z):aH P w K mg base CX0 10 f fd Li (AM K Z):=(Pa dA gC lj sY bQ fG oF xf jK sv eY mj xT DW sZ zc F T).calm fun vs H Q E h=>h
end
theorem Pc {l:PySem.W.OpenLaw}{w:World}{K:PySem.W.Frag}{h:Heap}{mg:Str->Option Value}{fa:Addr}(X:K.In h)(G:h.Ns mainGlobals mg)(hfa:mg "law"=some (.ref fa)){C0 C1 C2 C3 C4 C5 C6 C7 C8 C9 C10 C11 C12 C13 C14 C15 C16 C17 C18 C19 C20 C21 C22 C23:Addr}{ta_KINDS:Addr}{tk_KINDS_0 tk_KINDS_1:Tok}{tn_KINDS:Nat}{ts_KINDS:Array (Option Value)}{ta_CAGE_SPOTS:Addr}{tk_CAGE_SPOTS_0 tk_CAGE_SPOTS_1:Tok}{to_CAGE_SPOTS:Option Addr}{tn_CAGE_SPOTS:Nat}{ts_CAGE_SPOTS:Array (Option Value)}(fx:NT K C0 C1 C2 C3 C4 C5 C6 C7 C8 C9 C10 C11 C12 C13 C14 C15 C16 C17 C18 C19 C20 C21 C22 C23 ta_KINDS tk_KINDS_0 tk_KINDS_1 tn_KINDS ts_KINDS ta_CAGE_SPOTS tk_CAGE_SPOTS_0 tk_CAGE_SPOTS_1 to_CAGE_SPOTS tn_CAGE_SPOTS ts_CAGE_SPOTS)
 : ∃Z:Adr,∃fd:FuncData,(∀(s:Shared) (v:Value),BindsTo s fd ⟨[v],[]⟩ [("_law_script",v)])/\∀base:Heap,K.In base->base.Ns mainGlobals mg->aH l.prog w K mg base CX0 10 fa fd ["_law_script"] (AM K Z):=by
 obtain ⟨z_len,z_list,z_enumerate,z_zip,z_range,z_abs,z_isinstance,z_tuple,z_int,z_str,z_bool,z_min,z_sorted,m0,m1,m2,m3,m4,m5,m6,m7,m8,m9,m10,m11,m12,m13,m14,m15,m16,m17,m18,m19,m20,m21,m22,m23,n_MOST_LOADS,n_FEWEST_STROKES,n_MOST_STROKES,n_FEWEST_LEVELS,n_MOST_LEVELS,n_GREATEST_DEPTH,n_GREATEST_SPEED,n_MOST_DEEDS,n_KINDS,lt_KINDS,n_CAGE_SPOTS,lt_CAGE_SPOTS,cl19,na19_kinds,na19_where,na19_many,cl20,na20_codes,na20_failed,na20_state,cl21,na21_place,na21_opened,na21_bells,na21_yard,cl22,na22_first,na22_most,na22_rows,cl23,na23_depths,na23_slow,na23_fast,na23_goals,na23_log,l0,x0,x1,x2,x3,x4,x5,x6,x7,x8,x9,x10,x11,x12,x13,x14,x15,x16,x17,e0_CageError,k0_UnknownLoad,k0_NotThere,k0_CageTaken,k0_GateShut,k0_CageEmpty,e1_CageError,k1_UnknownLoad,k1_NotThere,k1_CageTaken,k1_GateShut,k1_CageEmpty,e2_CageError,k2_UnknownLoad,k2_NotThere,k2_CageTaken,k2_GateShut,k2_CageEmpty,e3_CageError,k3_UnknownLoad,k3_NotThere,k3_CageTaken,k3_GateShut,k3_CageEmpty,e4_CageError,k4_UnknownLoad,k4_NotThere,k4_CageTaken,k4_GateShut,k4_CageEmpty,e5_CageError,k5_UnknownLoad,k5_NotThere,k5_CageTaken,k5_GateShut,k5_CageEmpty,e6_CageError,k6_UnknownLoad,k6_NotThere,k6_CageTaken,k6_GateShut,k6_CageEmpty,e7_CageError,k7_UnknownLoad,k7_NotThere,k7_CageTaken,k7_GateShut,k7_CageEmpty,e8_CageError,k8_UnknownLoad,k8_NotThere,k8_CageTaken,k8_GateShut,k8_CageEmpty,e9_CageError,k9_UnknownLoad,k9_NotThere,k9_CageTaken,k9_GateShut,k9_CageEmpty,e10_CageError,k10_UnknownLoad,k10_NotThere,k10_CageTaken,k10_GateShut,k10_CageEmpty,e11_CageError,k11_UnknownLoad,k11_NotThere,k11_CageTaken,k11_GateShut,k11_CageEmpty,e12_CageError,k12_UnknownLoad,k12_NotThere,k12_CageTaken,k12_GateShut,k12_CageEmpty,e13_CageError,k13_UnknownLoad,k13_NotThere,k13_CageTaken,k13_GateShut,k13_CageEmpty,e14_CageError,k14_UnknownLoad,k14_NotThere,k14_CageTaken,k14_GateShut,k14_CageEmpty,e15_CageError,k15_UnknownLoad,k15_NotThere,k15_CageTaken,k15_GateShut,k15_CageEmpty,e16_CageError,k16_UnknownLoad,k16_NotThere,k16_CageTaken,k16_GateShut,k16_CageEmpty,e17_CageError,k17_UnknownLoad,k17_NotThere,k17_CageTaken,k17_GateShut,k17_CageEmpty,d0,d1,d2,d3,d4,d5,d6,d7,d8,d9,d10,d11,d12,d13,d14,d15,d16,d17,d18,d19,d20,d21,d22,d23,d24,d25,d26,d27,d28,d29,d30,d31,d32,d33,d34,d35,d36,d37,d38,d39,d40,d41,d42,d43,d44,d45,d46,d47,d48,d49,d50,d51,d52,d53,d54,d55,d56,d57,d58,d59,d60,d61,d62,d63,d64,d65,d66,d67,d68,d69,d70,d71,d72,d73,d74,d75,d76,d77,d78,d79,d80,d81,d82,d83,d84,d85,d86,d87,d88,d89⟩:=fx
 obtain ⟨f0,_,b0,F0⟩:=d0
 obtain ⟨f1,_,b1,F1⟩:=d1
 obtain ⟨f2,_,b2,F2⟩:=d2
 obtain ⟨f3,_,b3,F3⟩:=d3
 obtain ⟨f4,_,b4,F4⟩:=d4
 obtain ⟨f5,_,b5,F5⟩:=d5
 obtain ⟨f6,_,b6,F6⟩:=d6
 obtain ⟨f7,_,b7,F7⟩:=d7
 obtain ⟨f8,_,b8,F8⟩:=d8
 obtain ⟨f9,_,b9,F9⟩:=d9
 obtain ⟨f10,_,b10,F10⟩:=d10
 obtain ⟨f11,_,b11,F11⟩:=d11
 obtain ⟨f12,_,b12,F12⟩:=d12
 obtain ⟨f13,_,b13,F13⟩:=d13
 obtain ⟨f14,_,b14,F14⟩:=d14
 obtain ⟨f15,_,b15,F15⟩:=d15
 obtain ⟨f16,_,b16,F16⟩:=d16
 obtain ⟨f17,_,b17,F17⟩:=d17
 obtain ⟨f18,_,b18,F18⟩:=d18
 obtain ⟨f19,_,b19,F19⟩:=d19
 obtain ⟨f20,_,b20,F20⟩:=d20
 obtain ⟨f21,_,b21,F21⟩:=d21
 obtain ⟨f22,_,b22,F22⟩:=d22
 obtain ⟨f23,_,b23,F23⟩:=d23
 obtain ⟨f24,_,b24,F24⟩:=d24
 obtain ⟨f25,_,b25,F25⟩:=d25
 obtain ⟨f26,_,b26,F26⟩:=d26
 obtain ⟨f27,_,b27,F27⟩:=d27
 obtain ⟨f28,_,b28,F28⟩:=d28
 obtain ⟨f29,_,b29,F29⟩:=d29
 obtain ⟨f30,_,b30,F30⟩:=d30
 obtain ⟨f31,_,b31,F31⟩:=d31
 obtain ⟨f32,_,b32,F32⟩:=d32
 obtain ⟨f33,_,b33,F33⟩:=d33
 obtain ⟨f34,_,b34,F34⟩:=d34
 obtain ⟨f35,_,b35,F35⟩:=d35
 obtain ⟨f36,_,b36,F36⟩:=d36
 obtain ⟨f37,_,b37,F37⟩:=d37
 obtain ⟨f38,_,b38,F38⟩:=d38
 obtain ⟨f39,_,b39,F39⟩:=d39
 obtain ⟨f40,_,b40,F40⟩:=d40
 obtain ⟨f41,_,b41,F41⟩:=d41
 obtain ⟨f42,_,b42,F42⟩:=d42
 obtain ⟨f43,_,b43,F43⟩:=d43
 obtain ⟨f44,_,b44,F44⟩:=d44
 obtain ⟨f45,_,b45,F45⟩:=d45
 obtain ⟨f46,_,b46,F46⟩:=d46
 obtain ⟨f47,_,b47,F47⟩:=d47
 obtain ⟨f48,_,b48,F48⟩:=d48
 obtain ⟨f49,_,b49,F49⟩:=d49
 obtain ⟨f50,_,b50,F50⟩:=d50
 obtain ⟨f51,_,b51,F51⟩:=d51
 obtain ⟨f52,_,b52,F52⟩:=d52
 obtain ⟨f53,_,b53,F53⟩:=d53
 obtain ⟨f54,_,b54,F54⟩:=d54
 obtain ⟨f55,_,b55,F55⟩:=d55
 obtain ⟨f56,_,b56,F56⟩:=d56
 obtain ⟨f57,_,b57,F57⟩:=d57
 obtain ⟨f58,_,b58,F58⟩:=d58
 obtain ⟨f59,_,b59,F59⟩:=d59
 obtain ⟨f60,_,b60,F60⟩:=d60
 obtain ⟨f61,_,b61,F61⟩:=d61
 obtain ⟨f62,_,b62,F62⟩:=d62
 obtain ⟨f63,_,b63,F63⟩:=d63
 obtain ⟨f64,_,b64,F64⟩:=d64
 obtain ⟨f65,_,b65,F65⟩:=d65
 obtain ⟨f66,_,b66,F66⟩:=d66
 obtain ⟨f67,_,b67,F67⟩:=d67
 obtain ⟨f68,_,b68,F68⟩:=d68
 obtain ⟨f69,_,b69,F69⟩:=d69
 obtain ⟨f70,_,b70,F70⟩:=d70
 obtain ⟨f71,_,b71,F71⟩:=d71
 obtain ⟨f72,_,b72,F72⟩:=d72
 obtain ⟨f73,_,b73,F73⟩:=d73
 obtain ⟨f74,_,b74,F74⟩:=d74
 obtain ⟨f75,_,b75,F75⟩:=d75
 obtain ⟨f76,_,b76,F76⟩:=d76
 obtain ⟨f77,_,b77,F77⟩:=d77
 obtain ⟨f78,_,b78,F78⟩:=d78
 obtain ⟨f79,_,b79,F79⟩:=d79
 obtain ⟨f80,_,b80,F80⟩:=d80
 obtain ⟨f81,_,b81,F81⟩:=d81
 obtain ⟨f82,_,b82,F82⟩:=d82
 obtain ⟨f83,_,b83,F83⟩:=d83
 obtain ⟨f84,_,b84,F84⟩:=d84
 obtain ⟨f85,_,b85,F85⟩:=d85
 obtain ⟨f86,_,b86,F86⟩:=d86
 obtain ⟨f87,_,b87,F87⟩:=d87
 obtain ⟨f88,_,b88,F88⟩:=d88
 obtain ⟨f89,_,b89,F89⟩:=d89
 have e:=hfa.symm.trans (PySem.W.mg_of X G b89)
 cases e
 obtain ⟨oc,od,kV,dc,pm,an,cd,ct,sl,rfl,ll,cc⟩:=F89.ex
 let Z:Adr:=⟨C0,C1,C2,C3,C4,C5,C6,C7,C8,C9,C10,C11,C12,C13,C14,C15,C16,C17,C18,C19,C20,C21,C22,C23,ta_KINDS,ta_CAGE_SPOTS⟩
 have T:Txt K mg Z:=⟨PySem.W.mg_none_of X G z_len,PySem.W.mg_none_of X G z_list,PySem.W.mg_none_of X G z_enumerate,PySem.W.mg_none_of X G z_zip,PySem.W.mg_none_of X G z_range,PySem.W.mg_none_of X G z_abs,PySem.W.mg_none_of X G z_isinstance,PySem.W.mg_none_of X G z_tuple,PySem.W.mg_none_of X G z_int,PySem.W.mg_none_of X G z_str,PySem.W.mg_none_of X G z_bool,PySem.W.mg_none_of X G z_min,PySem.W.mg_none_of X G z_sorted,KI.txt X G n_MOST_LOADS,KI.txt X G n_FEWEST_STROKES,KI.txt X G n_MOST_STROKES,KI.txt X G n_FEWEST_LEVELS,KI.txt X G n_MOST_LEVELS,KI.txt X G n_GREATEST_DEPTH,KI.txt X G n_GREATEST_SPEED,KI.txt X G n_MOST_DEEDS,⟨_,PySem.W.mg_of X G n_KINDS,rfl⟩,fun H=>.inr ⟨_,_,_,lt_KINDS,rfl,rfl,(by show 2<=sizeLine;decide),.cons ⟨_,rfl⟩ (.cons ⟨_,rfl⟩ .nil)⟩,⟨_,lt_KINDS,rfl,rfl⟩,⟨_,PySem.W.mg_of X G n_CAGE_SPOTS,rfl⟩,fun H=>.inr ⟨_,_,_,lt_CAGE_SPOTS,rfl,rfl,(by show 2<=sizeLine;decide),.cons ⟨_,rfl⟩ (.cons ⟨_,rfl⟩ .nil)⟩,PySem.W.mg_of X G m0,PySem.W.mg_of X G m1,PySem.W.mg_of X G m2,PySem.W.mg_of X G m3,PySem.W.mg_of X G m4,PySem.W.mg_of X G m5,PySem.W.mg_of X G m6,PySem.W.mg_of X G m7,PySem.W.mg_of X G m8,PySem.W.mg_of X G m9,PySem.W.mg_of X G m10,PySem.W.mg_of X G m11,PySem.W.mg_of X G m12,PySem.W.mg_of X G m13,PySem.W.mg_of X G m14,PySem.W.mg_of X G m15,PySem.W.mg_of X G m16,PySem.W.mg_of X G m17,PySem.W.mg_of X G m18,PySem.W.mg_of X G m19,PySem.W.mg_of X G m20,PySem.W.mg_of X G m21,PySem.W.mg_of X G m22,PySem.W.mg_of X G m23,cl19,na19_kinds,na19_where,na19_many,cl20,na20_codes,na20_failed,na20_state,cl21,na21_place,na21_opened,na21_bells,na21_yard,cl22,na22_first,na22_most,na22_rows,cl23,na23_depths,na23_slow,na23_fast,na23_goals,na23_log,(x0 l0).ex,x0 l0,e0_CageError,k0_UnknownLoad,k0_NotThere,k0_CageTaken,k0_GateShut,k0_CageEmpty,(x1 l0).ex,x1 l0,e1_CageError,k1_UnknownLoad,k1_NotThere,k1_CageTaken,k1_GateShut,k1_CageEmpty,(x2 l0).ex,x2 l0,e2_CageError,k2_UnknownLoad,k2_NotThere,k2_CageTaken,k2_GateShut,k2_CageEmpty,(x3 l0).ex,x3 l0,e3_CageError,k3_UnknownLoad,k3_NotThere,k3_CageTaken,k3_GateShut,k3_CageEmpty,(x4 l0).ex,x4 l0,e4_CageError,k4_UnknownLoad,k4_NotThere,k4_CageTaken,k4_GateShut,k4_CageEmpty,(x5 l0).ex,x5 l0,e5_CageError,k5_UnknownLoad,k5_NotThere,k5_CageTaken,k5_GateShut,k5_CageEmpty,(x6 l0).ex,x6 l0,e6_CageError,k6_UnknownLoad,k6_NotThere,k6_CageTaken,k6_GateShut,k6_CageEmpty,(x7 l0).ex,x7 l0,e7_CageError,k7_UnknownLoad,k7_NotThere,k7_CageTaken,k7_GateShut,k7_CageEmpty,(x8 l0).ex,x8 l0,e8_CageError,k8_UnknownLoad,k8_NotThere,k8_CageTaken,k8_GateShut,k8_CageEmpty,(x9 l0).ex,x9 l0,e9_CageError,k9_UnknownLoad,k9_NotThere,k9_CageTaken,k9_GateShut,k9_CageEmpty,(x10 l0).ex,x10 l0,e10_CageError,k10_UnknownLoad,k10_NotThere,k10_CageTaken,k10_GateShut,k10_CageEmpty,(x11 l0).ex,x11 l0,e11_CageError,k11_UnknownLoad,k11_NotThere,k11_CageTaken,k11_GateShut,k11_CageEmpty,(x12 l0).ex,x12 l0,e12_CageError,k12_UnknownLoad,k12_NotThere,k12_CageTaken,k12_GateShut,k12_CageEmpty,(x13 l0).ex,x13 l0,e13_CageError,k13_UnknownLoad,k13_NotThere,k13_CageTaken,k13_GateShut,k13_CageEmpty,(x14 l0).ex,x14 l0,e14_CageError,k14_UnknownLoad,k14_NotThere,k14_CageTaken,k14_GateShut,k14_CageEmpty,(x15 l0).ex,x15 l0,e15_CageError,k15_UnknownLoad,k15_NotThere,k15_CageTaken,k15_GateShut,k15_CageEmpty,(x16 l0).ex,x16 l0,e16_CageError,k16_UnknownLoad,k16_NotThere,k16_CageTaken,k16_GateShut,k16_CageEmpty,(x17 l0).ex,x17 l0,e17_CageError,k17_UnknownLoad,k17_NotThere,k17_CageTaken,k17_GateShut,k17_CageEmpty⟩
 have D0:Def K mg "is_known" lK lE f0 _:=⟨PySem.W.mg_of X G b0,F0,F0.b2⟩
 have D1:Def K mg "check_level" g8 gO f1 _:=⟨PySem.W.mg_of X G b1,F1,F1.b2⟩
 have D2:Def K mg "check_load" jg iW f2 _:=⟨PySem.W.mg_of X G b2,F2,F2.b2⟩
 have D3:Def K mg "check_loads" g9 gP f3 _:=⟨PySem.W.mg_of X G b3,F3,F3.b2⟩
 have D4:AX K C19 "Yard.__init__" ki j8 f4 _:=⟨b4,F4,F4.b3⟩
 have D5:bG K C19 "into" "Yard.into" kj j9 f5 _:=⟨b5,F5,F5.b3⟩
 have D6:bG K C19 "out" "Yard.out" lL lF f6 _:=⟨b6,F6,F6.b3⟩
 have D7:bG K C19 "spots" "Yard.spots" ji iX f7 _:=⟨b7,F7,F7.b1⟩
 have D8:bG K C19 "in_cage" "Yard.in_cage" gf fS f8 _:=⟨b8,F8,F8.b2⟩
 have D9:bG K C19 "at_level" "Yard.at_level" fz fq f9 _:=⟨b9,F9,F9.b2⟩
 have D10:bG K C19 "men_aboard" "Yard.men_aboard" en dW f10 _:=⟨b10,F10,F10.b1⟩
 have D11:bG K C19 "twin" "Yard.twin" kl ka f11 _:=⟨b11,F11,F11.b1⟩
 have D12:Def K mg "are_strokes" hG gQ f12 _:=⟨PySem.W.mg_of X G b12,F12,F12.b1⟩
 have D13:Def K mg "check_codes" hJ gR f13 _:=⟨PySem.W.mg_of X G b13,F13,F13.b2⟩
 have D14:AX K C20 "Bells.__init__" jj iY f14 _:=⟨b14,F14,F14.b2⟩
 have D15:bG K C20 "ring" "Bells.ring" jk iZ f15 _:=⟨b15,F15,F15.b3⟩
 have D16:bG K C20 "repeat" "Bells.repeat" gg fT f16 _:=⟨b16,F16,F16.b2⟩
 have D17:bG K C20 "engine" "Bells.engine" gh fU f17 _:=⟨b17,F17,F17.b1⟩
 have D18:bG K C20 "fail" "Bells.fail" jl i3 f18 _:=⟨b18,F18,F18.b2⟩
 have D19:bG K C20 "dead" "Bells.dead" jm i4 f19 _:=⟨b19,F19,F19.b1⟩
 have D20:bG K C20 "use" "Bells.use" km kb f20 _:=⟨b20,F20,F20.b3⟩
 have D21:bG K C20 "twin" "Bells.twin" jn i5 f21 _:=⟨b21,F21,F21.b1⟩
 have D22:Def K mg "check_depths" gj fV f22 _:=⟨PySem.W.mg_of X G b22,F22,F22.b1⟩
 have D23:Def K mg "drum_whole" jo i6 f23 _:=⟨PySem.W.mg_of X G b23,F23,F23.b1⟩
 have D24:Def K mg "other_place" hV gS f24 _:=⟨PySem.W.mg_of X G b24,F24,F24.b2⟩
 have D25:Def K mg "level_at" lO lG f25 _:=⟨PySem.W.mg_of X G b25,F25,F25.b2⟩
 have D26:Def K mg "wound_place" hZ gT f26 _:=⟨PySem.W.mg_of X G b26,F26,F26.b3⟩
 have D27:Def K mg "gates_by" lP lH f27 _:=⟨PySem.W.mg_of X G b27,F27,F27.b2⟩
 have D28:Def K mg "check_speeds" gm fW f28 _:=⟨PySem.W.mg_of X G b28,F28,F28.b2⟩
 have D29:Def K mg "wind_ticks" jq i7 f29 _:=⟨PySem.W.mg_of X G b29,F29,F29.b2⟩
 have D30:AX K C21 "Standing.__init__" fA ft f30 _:=⟨b30,F30,F30.b5⟩
 have D31:bG K C21 "twin" "Standing.twin" fB fu f31 _:=⟨b31,F31,F31.b1⟩
 have D32:AX K C22 "Book.__init__" ko ke f32 _:=⟨b32,F32,F32.b3⟩
 have D33:bG K C22 "write" "Book.write" jr i8 f33 _:=⟨b33,F33,F33.b5⟩
 have D34:bG K C22 "strike" "Book.strike" ie gU f34 _:=⟨b34,F34,F34.b1⟩
 have D35:bG K C22 "now" "Book.now" lQ lI f35 _:=⟨b35,F35,F35.b1⟩
 have D36:bG K C22 "latest" "Book.latest" ig gV f36 _:=⟨b36,F36,F36.b1⟩
 have D37:bG K C22 "told" "Book.told" kq kg f37 _:=⟨b37,F37,F37.b1⟩
 have D38:AX K C23 "Works.__init__" js i9 f38 _:=⟨b38,F38,F38.b6⟩
 have D39:bG K C23 "ring" "Works.ring" jt ja f39 _:=⟨b39,F39,F39.b3⟩
 have D40:bG K C23 "repeat" "Works.repeat" gn fX f40 _:=⟨b40,F40,F40.b2⟩
 have D41:bG K C23 "fail" "Works.fail" ju jb f41 _:=⟨b41,F41,F41.b2⟩
 have D42:bG K C23 "open_gate" "Works.open_gate" eo dX f42 _:=⟨b42,F42,F42.b2⟩
 have D43:bG K C23 "shut_gate" "Works.shut_gate" et dY f43 _:=⟨b43,F43,F43.b2⟩
 have D44:bG K C23 "turn_gate" "Works.turn_gate" eA dZ f44 _:=⟨b44,F44,F44.b4⟩
 have D45:bG K C23 "load" "Works.load" jv jc f45 _:=⟨b45,F45,F45.b3⟩
 have D46:bG K C23 "unload" "Works.unload" gp fY f46 _:=⟨b46,F46,F46.b2⟩
 have D47:bG K C23 "wind" "Works.wind" jw jd f47 _:=⟨b47,F47,F47.b4⟩
 have D48:bG K C23 "take_back" "Works.take_back" eB eh f48 _:=⟨b48,F48,F48.b1⟩
 have D49:bG K C23 "write" "Works.write" ik gW f49 _:=⟨b49,F49,F49.b4⟩
 have D50:bG K C23 "speed_with" "Works.speed_with" dG dF f50 _:=⟨b50,F50,F50.b2⟩
 have D51:bG K C23 "level_of" "Works.level_of" eQ eL f51 _:=⟨b51,F51,F51.b2⟩
 have D52:bG K C23 "refuse_shut_gate" "Works.refuse_shut_gate" cG cF f52 _:=⟨b52,F52,F52.b2⟩
 have D53:bG K C23 "now" "Works.now" kr kh f53 _:=⟨b53,F53,F53.b1⟩
 have D54:bG K C23 "book" "Works.book" jx je f54 _:=⟨b54,F54,F54.b1⟩
 have D55:bG K C23 "engine" "Works.engine" gq fZ f55 _:=⟨b55,F55,F55.b1⟩
 have D56:bG K C23 "dead" "Works.dead" jy jf f56 _:=⟨b56,F56,F56.b1⟩
 have D57:bG K C23 "gates" "Works.gates" il gX f57 _:=⟨b57,F57,F57.b1⟩
 have D58:bG K C23 "cages" "Works.cages" ip gY f58 _:=⟨b58,F58,F58.b1⟩
 have D59:bG K C23 "both_places" "Works.both_places" di dh f59 _:=⟨b59,F59,F59.b2⟩
 have D60:bG K C23 "spots" "Works.spots" iq gZ f60 _:=⟨b60,F60,F60.b1⟩
 have D61:bG K C23 "in_cage" "Works.in_cage" fC fv f61 _:=⟨b61,F61,F61.b2⟩
 have D62:bG K C23 "at_level" "Works.at_level" eR eM f62 _:=⟨b62,F62,F62.b2⟩
 have D63:Def K mg "_law_at" zL zy f63 _:=⟨PySem.W.mg_of X G b63,F63,F63.b2⟩
 have D64:Def K mg "_law_draw" qD qu f64 _:=⟨PySem.W.mg_of X G b64,F64,F64.b3⟩
 have D65:Def K mg "_law_mixed" nS nI f65 _:=⟨PySem.W.mg_of X G b65,F65,F65.b2⟩
 have D66:Def K mg "_law_same" ku vH f66 _:=⟨PySem.W.mg_of X G b66,F66,F66.b2⟩
 have D67:Def K mg "_law_depths" lS lJ f67 _:=⟨PySem.W.mg_of X G b67,F67,F67.b1⟩
 have D68:Def K mg "_law_codes" nT nJ f68 _:=⟨PySem.W.mg_of X G b68,F68,F68.b2⟩
 have D69:Def K mg "_law_loads" nU nK f69 _:=⟨PySem.W.mg_of X G b69,F69,F69.b3⟩
 have D70:Def K mg "_law_shaft" jP nL f70 _:=⟨PySem.W.mg_of X G b70,F70,F70.b1⟩
 have D71:Def K mg "_law_setup" nV nM f71 _:=⟨PySem.W.mg_of X G b71,F71,F71.b2⟩
 have D72:Def K mg "_law_made" qF qv f72 _:=⟨PySem.W.mg_of X G b72,F72,F72.b1⟩
 have D73:Def K mg "_law_by" zM zz f73 _:=⟨PySem.W.mg_of X G b73,F73,F73.b3⟩
 have D74:Def K mg "_law_swap" qG qw f74 _:=⟨PySem.W.mg_of X G b74,F74,F74.b3⟩
 have D75:Def K mg "_law_lasts" nW nN f75 _:=⟨PySem.W.mg_of X G b75,F75,F75.b2⟩
 have D76:Def K mg "_law_speed" nX nO f76 _:=⟨PySem.W.mg_of X G b76,F76,F76.b2⟩
 have D77:Def K mg "_law_first" nY nP f77 _:=⟨PySem.W.mg_of X G b77,F77,F77.b1⟩
 have D78:Def K mg "_law_load_refusal" eS eN f78 _:=⟨PySem.W.mg_of X G b78,F78,F78.b3⟩
 have D79:Def K mg "_law_heard" nZ nQ f79 _:=⟨PySem.W.mg_of X G b79,F79,F79.b2⟩
 have D80:Def K mg "_law_next" qH qx f80 _:=⟨PySem.W.mg_of X G b80,F80,F80.b3⟩
 have D81:Def K mg "_law_call" qI qz f81 _:=⟨PySem.W.mg_of X G b81,F81,F81.b2⟩
 have D82:Def K mg "_law_view" jA qA f82 _:=⟨PySem.W.mg_of X G b82,F82,F82.b4⟩
 have D83:Def K mg "_law_towards_wind" eT eO f83 _:=⟨PySem.W.mg_of X G b83,F83,F83.b3⟩
 have D84:Def K mg "_law_towards_load" cS eP f84 _:=⟨PySem.W.mg_of X G b84,F84,F84.b3⟩
 have D85:Def K mg "_law_good_deed" bW g0 f85 _:=⟨PySem.W.mg_of X G b85,F85,F85.b3⟩
 have D86:Def K mg "_law_done" qJ qB f86 _:=⟨PySem.W.mg_of X G b86,F86,F86.b5⟩
 have D87:Def K mg "_law_day" vN vI f87 _:=⟨PySem.W.mg_of X G b87,F87,F87.b5⟩
 have D88:Def K mg "_law_do" zP zA f88 _:=⟨PySem.W.mg_of X G b88,F88,F88.b2⟩
 refine ⟨Z,PySem.W.fnOf "law" "law" (ff vO) (cy vO) (ao vO) .none kV dc pm an cd ct,fun s v=>.of_eq rfl,fun base _ _=>?_⟩
 have G0:=FG (P:=l.prog) (w:=w) (base:=base) F0 T
 have G4:=DP (P:=l.prog) (w:=w) (base:=base) F4 T
 have G7:=Bo (P:=l.prog) (w:=w) (base:=base) F7 T
 have G8:=yR (P:=l.prog) (w:=w) (base:=base) F8 T
 have G10:=vh (P:=l.prog) (w:=w) (base:=base) F10 T
 have G12:=Ak (P:=l.prog) (w:=w) (base:=base) F12 T
 have G14:=Bp (P:=l.prog) (w:=w) (base:=base) F14 T
 have G17:=yS (P:=l.prog) (w:=w) (base:=base) F17 T
 have G19:=Bq (P:=l.prog) (w:=w) (base:=base) F19 T
 have G22:=yT (P:=l.prog) (w:=w) (base:=base) F22 T
 have G23:=Br (P:=l.prog) (w:=w) (base:=base) F23 T
 have G25:=FH (P:=l.prog) (w:=w) (base:=base) F25 T
 have G28:=yU (P:=l.prog) (w:=w) (base:=base) F28 T
 have G29:=Bs (P:=l.prog) (w:=w) (base:=base) F29 T
 have G30:=xN (P:=l.prog) (w:=w) (base:=base) F30 T
 have G32:=DQ (P:=l.prog) (w:=w) (base:=base) F32 T
 have G34:=Am (P:=l.prog) (w:=w) (base:=base) F34 T
 have G35:=FI (P:=l.prog) (w:=w) (base:=base) F35 T
 have G36:=An (P:=l.prog) (w:=w) (base:=base) F36 T
 have G37:=DR (P:=l.prog) (w:=w) (base:=base) F37 T
 have G63:=MS (P:=l.prog) (w:=w) (base:=base) F63 T
 have G64:=Jm (P:=l.prog) (w:=w) (base:=base) F64 T
 have G65:=Hn (P:=l.prog) (w:=w) (base:=base) F65 T
 have G73:=MU (P:=l.prog) (w:=w) (base:=base) F73 T
 have G74:=Jn (P:=l.prog) (w:=w) (base:=base) F74 T
 have G75:=Ho (P:=l.prog) (w:=w) (base:=base) F75 T
 have G76:=Hq (P:=l.prog) (w:=w) (base:=base) F76 T
 have G77:=Hr (P:=l.prog) (w:=w) (base:=base) F77 T
 have G79:=Hs (P:=l.prog) (w:=w) (base:=base) F79 T
 have G1:=Au (P:=l.prog) (w:=w) (base:=base) D0 G0 F1 T
 have G2:=Bt (P:=l.prog) (w:=w) (base:=base) D0 G0 F2 T
 have G3:=Av (P:=l.prog) (w:=w) (base:=base) D0 G0 F3 T
 have G13:=Aw (P:=l.prog) (w:=w) (base:=base) D12 G12 F13 T
 have G16:=yV (P:=l.prog) (w:=w) (base:=base) D12 G12 F16 T
 have G24:=Ax (P:=l.prog) (w:=w) (base:=base) D23 G23 F24 T
 have G33:=Bu (P:=l.prog) (w:=w) (base:=base) D35 G35 F33 T
 have G48:=vi (P:=l.prog) (w:=w) (base:=base) D34 G34 F48 T
 have G50:=tD (P:=l.prog) (w:=w) (base:=base) D10 G10 F50 T
 have G52:=mq (P:=l.prog) (w:=w) (base:=base) D36 G36 F52 T
 have G53:=DS (P:=l.prog) (w:=w) (base:=base) D35 G35 F53 T
 have G54:=Bv (P:=l.prog) (w:=w) (base:=base) D37 G37 F54 T
 have G55:=yW (P:=l.prog) (w:=w) (base:=base) D17 G17 D36 G36 F55 T
 have G56:=Bw (P:=l.prog) (w:=w) (base:=base) D19 G19 D36 G36 F56 T
 have G57:=Ay (P:=l.prog) (w:=w) (base:=base) D36 G36 F57 T
 have G60:=Az (P:=l.prog) (w:=w) (base:=base) D7 G7 D36 G36 F60 T
 have G61:=xP (P:=l.prog) (w:=w) (base:=base) D8 G8 D36 G36 F61 T
 have G67:=FK (P:=l.prog) (w:=w) (base:=base) D64 G64 F67 T
 have G68:=Ht (P:=l.prog) (w:=w) (base:=base) D64 G64 F68 T
 have G69:=Hu (P:=l.prog) (w:=w) (base:=base) D64 G64 F69 T
 have G78:=wM (P:=l.prog) (w:=w) (base:=base) D73 G73 F78 T
 have G80:=Jr (P:=l.prog) (w:=w) (base:=base) D73 G73 D74 G74 D75 G75 D76 G76 D79 G79 F80 T
 have G83:=wO (P:=l.prog) (w:=w) (base:=base) D73 G73 F83 T
 have G84:=wQ (P:=l.prog) (w:=w) (base:=base) D73 G73 F84 T
 have G5:=DT (P:=l.prog) (w:=w) (base:=base) D8 G8 D2 G2 F5 T
 have G6:=FN (P:=l.prog) (w:=w) (base:=base) D8 G8 D1 G1 F6 T
 have G9:=xQ (P:=l.prog) (w:=w) (base:=base) D1 G1 F9 T
 have G11:=DU (P:=l.prog) (w:=w) (base:=base) D4 G4 F11 T
 have G15:=Bx (P:=l.prog) (w:=w) (base:=base) D1 G1 F15 T
 have G18:=By (P:=l.prog) (w:=w) (base:=base) D1 G1 F18 T
 have G20:=DV (P:=l.prog) (w:=w) (base:=base) D1 G1 F20 T
 have G21:=Bz (P:=l.prog) (w:=w) (base:=base) D14 G14 F21 T
 have G26:=AF (P:=l.prog) (w:=w) (base:=base) D24 G24 F26 T
 have G27:=FO (P:=l.prog) (w:=w) (base:=base) D24 G24 F27 T
 have G38:=BA (P:=l.prog) (w:=w) (base:=base) D4 G4 D14 G14 D22 G22 D28 G28 D30 G30 D32 G32 D3 G3 D13 G13 F38 T
 have G49:=AH (P:=l.prog) (w:=w) (base:=base) D33 G33 D50 G50 D53 G53 F49 T
 have G59:=sj (P:=l.prog) (w:=w) (base:=base) D24 G24 F59 T
 have G70:=Hv (P:=l.prog) (w:=w) (base:=base) D63 G63 D64 G64 D67 G67 D68 G68 F70 T
 have G85:=AJ (P:=l.prog) (w:=w) (base:=base) D83 G83 D84 G84 F85 T
 have G31:=xR (P:=l.prog) (w:=w) (base:=base) D30 G30 D11 G11 D21 G21 F31 T
 have G58:=AK (P:=l.prog) (w:=w) (base:=base) D36 G36 D59 G59 F58 T
 have G62:=w6 (P:=l.prog) (w:=w) (base:=base) D36 G36 D9 G9 F62 T
 have G71:=Hw (P:=l.prog) (w:=w) (base:=base) D63 G63 D69 G69 D70 G70 F71 T
 have G39:=BB (P:=l.prog) (w:=w) (base:=base) D36 G36 D15 G15 D49 G49 D31 G31 F39 T
 have G40:=yX (P:=l.prog) (w:=w) (base:=base) D36 G36 D16 G16 D49 G49 D31 G31 F40 T
 have G41:=BC (P:=l.prog) (w:=w) (base:=base) D36 G36 D18 G18 D49 G49 D31 G31 F41 T
 have G44:=vk (P:=l.prog) (w:=w) (base:=base) D36 G36 D1 G1 D49 G49 D31 G31 F44 T
 have G47:=BD (P:=l.prog) (w:=w) (base:=base) D29 G29 D36 G36 D1 G1 D50 G50 D20 G20 D26 G26 D27 G27 D49 G49 D31 G31 F47 T
 have G51:=xb (P:=l.prog) (w:=w) (base:=base) D25 G25 D58 G58 F51 T
 have G66:=Jv (P:=l.prog) (w:=w) (base:=base) (Z:=Z) F66 T D66
 have G72:=Jw (P:=l.prog) (w:=w) (base:=base) D38 G38 F72 T
 have G42:=vm (P:=l.prog) (w:=w) (base:=base) D44 G44 F42 T
 have G43:=vn (P:=l.prog) (w:=w) (base:=base) D44 G44 F43 T
 have G45:=BE (P:=l.prog) (w:=w) (base:=base) D7 G7 D36 G36 D2 G2 D52 G52 D5 G5 D49 G49 D31 G31 D51 G51 F45 T
 have G46:=yY (P:=l.prog) (w:=w) (base:=base) D8 G8 D36 G36 D52 G52 D6 G6 D49 G49 D31 G31 D51 G51 F46 T
 have G82:=Jx (P:=l.prog) (w:=w) (base:=base) D53 G53 D54 G54 D55 G55 D56 G56 D57 G57 D60 G60 D61 G61 D58 G58 D62 G62 D66 G66 F82 T
 have G81:=Jy (P:=l.prog) (w:=w) (base:=base) D48 G48 D39 G39 D40 G40 D41 G41 D47 G47 D42 G42 D43 G43 D45 G45 D46 G46 F81 T
 have G86:=Jz (P:=l.prog) (w:=w) (base:=base) D80 G80 D66 G66 D81 G81 F86 T
 have G88:=M1 (P:=l.prog) (w:=w) (base:=base) D81 G81 F88 T
 have G87:=Ly (P:=l.prog) (w:=w) (base:=base) D65 G65 D77 G77 D85 G85 D86 G86 F87 T
 exact Pb D78 G78 D71 G71 D66 G66 D72 G72 D82 G82 D86 G86 D88 G88 D87 G87 F89 T
theorem JA {K:PySem.W.Frag}{Z:Adr}{H:Hp}{a:Addr}{ns:List Int}(hl:ns.length<=63)(hS:SqL K H a (ns.map V.int)){Q:VK}{E:XK}(q:∀H',Q (.bl true) H'):AM K Z [.ref a] H Q E:=⟨a,ns,rfl,hS,hl,q⟩
noncomputable def SPl (K:PySem.W.Frag):Sp:=fun vs H Q _=>∃(a:Addr) (ns:List Int),vs=[.ref a]/\SqL K H a (ns.map V.int)/\ns.length<=63/\∀H',Q (.bl true) H'
theorem QU {l:PySem.W.OpenLaw}{q:Program}{loose:List Str}{XP:(Str->Option Value)->Heap->Prop}{YP:World->Heap->Prop}{d:DefRec}{K:Params->PySem.W.Frag}(hn:l.most=some 63)(hdf:d.params.defaults=[])
  (hY:∀(w:World) (h:Heap),YP w h->(K w.params).In h)
  (F:∀(w:World) (mg:Str->Option Value) (fa:Addr) (h:Heap),(K w.params).In h->h.Ns mainGlobals mg->mg d.name=some (.ref fa)->
   ∃Z:Adr,∃fd:FuncData,(∀(s:Shared) (u:Value),BindsTo s fd ⟨[u],[]⟩ [("_law_script",u)])/\∀base:Heap,(K w.params).In base->base.Ns mainGlobals mg->aH l.prog w (K w.params) mg base CX0 10 fa fd ["_law_script"] (AM (K w.params) Z)) :
  PySem.W.WalkO q loose XP YP l.row.toRowW d [] (fun f vs=>PySem.call f vs):=
 L2.LO (n:=63) (k:=10) (x:="_law_script") (CX:=fun _=>CX0) (sp:=fun w=>SPl (K w.params)) hn (by decide) hdf ⟨rfl,by decide,by decide⟩ hY
  (fun w mg fa h a b c=>let ⟨Z,fd,b1,b2⟩:=F w mg fa h a b c;⟨fd,b1,fun base x y=>(b2 base x y).imp fun vs H Q E ⟨a,ns,e,hS,hl,q⟩=>by subst e;exact JA hl hS q⟩) (fun _ _ a ns hl _ hS=>⟨a,ns,rfl,hS,hl,fun _=>rfl⟩) fun _ _ _ _ _ z=>z
end K25
local macro_rules | `(tactic| walk_at "n_is") => `(tactic| (delta L2.NI; k_is))
local macro_rules | `(tactic| walk_at "a_is") => `(tactic| (delta L2.bE; k_is))
local macro_rules | `(tactic| walk_at "i_is") => `(tactic| (apply L2.KI.mk; k_is))
local macro_rules | `(tactic| walk_at "c_is") => `(tactic| (apply L2.Cls.mk; iterate 4 k_is))
local macro_rules | `(tactic| walk_at "o_is") => `(tactic| (apply L2.C0I.mk; k_is; exact rfl; k_is; exact rfl; exact rfl))
local macro_rules | `(tactic| walk_at "x_is") => `(tactic| (apply L2.XI.mk; k_is; k_is; exact rfl; exact rfl; k_is; k_is))
local macro_rules | `(tactic| walk_at "d_is") => `(tactic| (apply L2.DI.mk; iterate 4 k_is))
local macro_rules | `(tactic| walk_at "e_is") => `(tactic| (apply L2.MI.mk; iterate 5 k_is))
local macro_rules | `(tactic| walk_at "t_is") => `(tactic| (apply L2.II.mk; iterate 7 k_is))
open PySem PySem.W PyProof.Rows
set_option maxRecDepth 100000 in
set_option maxHeartbeats 0 in
theorem PySem.Challenge.cw_cagebells_k25_in_and_out_holds : PySem.Challenge.rw_cagebells_k25_in_and_out.Holds := by
 refine hd ?_
 k_fill
 refine K25.QU (l:=PySem.Challenge.rw_cagebells_k25_in_and_out) rfl rfl (fun w h Y=>PySem.W.kIn_of Y) ?F
 case F=>
  intro w mg fa h KX G hmg
  apply K25.Pc KX G hmg
  apply K25.NT.mk
  iterate 13 k_is
  iterate 24 walk_at "n_is"
  iterate 8 walk_at "i_is"
  iterate 4 k_is
  walk_at "c_is"
  iterate 3 walk_at "a_is"
  walk_at "c_is"
  iterate 3 walk_at "a_is"
  walk_at "c_is"
  iterate 4 walk_at "a_is"
  walk_at "c_is"
  iterate 3 walk_at "a_is"
  walk_at "c_is"
  iterate 5 walk_at "a_is"
  walk_at "o_is"
  iterate 18 walk_at "x_is"
  kts_exm
  iterate 5 kit_is
  kts_exm
  iterate 5 kit_is
  kts_exm
  iterate 5 kit_is
  kts_exm
  iterate 5 kit_is
  kts_exm
  iterate 5 kit_is
  kts_exm
  iterate 5 kit_is
  kts_exm
  iterate 5 kit_is
  kts_exm
  iterate 5 kit_is
  kts_exm
  iterate 5 kit_is
  kts_exm
  iterate 5 kit_is
  kts_exm
  iterate 5 kit_is
  kts_exm
  iterate 5 kit_is
  kts_exm
  iterate 5 kit_is
  kts_exm
  iterate 5 kit_is
  kts_exm
  iterate 5 kit_is
  kts_exm
  iterate 5 kit_is
  kts_exm
  iterate 5 kit_is
  kts_exm
  iterate 5 kit_is
  iterate 4 walk_at "d_is"
  walk_at "t_is"
  iterate 7 walk_at "e_is"
  iterate 2 walk_at "d_is"
  walk_at "t_is"
  iterate 7 walk_at "e_is"
  iterate 8 walk_at "d_is"
  walk_at "t_is"
  walk_at "e_is"
  walk_at "t_is"
  iterate 5 walk_at "e_is"
  walk_at "t_is"
  iterate 24 walk_at "e_is"
  iterate 27 walk_at "d_is"
