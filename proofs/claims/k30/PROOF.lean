import PyProof.Rows.All
import OpenK.KLine
import KE.RegKIsAll
import KE.RegKTryMore
import Lean
import PyProof.EqAt
import PyProof.EqKinds
import PyProof.TupleCall
import KE.KTupSum
import KE.KItem
import PySem.Challenge.RW_cagebells_k30_no_such_tick
set_option Elab.async false
set_option linter.all false
set_option maxRecDepth 100000
set_option compiler.extract_closed false
namespace PySem.W.Fast
noncomputable abbrev T:=True
theorem t:T:=⟨⟩
theorem tw861502493610598483:T:=t
theorem tw12974166477565149219:T:=t
theorem tw7284635932349711089:T:=t
theorem tw6845741732454156280:T:=t
theorem tw4974531191953752259:T:=t
theorem tw2259873961697373779:T:=t
theorem tw15222733579145042411:T:=t
theorem tw16272201073344114210:T:=t
theorem tw902994901803671562:T:=t
theorem tw7774113678449685934:T:=t
theorem tw14820581166966647791:T:=t
theorem tw8574918690776348908:T:=t
theorem tw6723712322338870927:T:=t
theorem tw17499200519749734940:T:=t
theorem tw972515320050062624:T:=t
theorem tw1180504863943622396:T:=t
theorem tw664398029645352804:T:=t
theorem tw3244086316793181374:T:=t
theorem tw10971829966401845888:T:=t
theorem tw9721000390032803332:T:=t
theorem tw18017129668781235815:T:=t
theorem tw17723881924890802966:T:=t
theorem tw9084383144594877151:T:=t
theorem tw9023412946914863120:T:=t
theorem tw6605169337270321112:T:=t
theorem tw15892216977243462883:T:=t
theorem tw15018716904364860632:T:=t
theorem tw14565471765716263578:T:=t
theorem tw12145756527313086355:T:=t
theorem tw5748170370737335489:T:=t
theorem tw3719891259706897012:T:=t
theorem tw15279809834360698895:T:=t
theorem tw18352723725473834589:T:=t
theorem tw431221854992830470:T:=t
theorem tw11863963456291920697:T:=t
theorem tw6518526374211677884:T:=t
theorem tw3507769193172341495:T:=t
theorem tw10146569101766770184:T:=t
theorem tw6973427100653255629:T:=t
theorem tw11589282660436910429:T:=t
theorem tw17680797132471856694:T:=t
theorem tw9385439782273163706:T:=t
theorem tw17137270108147033825:T:=t
theorem tw5278154662435632464:T:=t
theorem tw9381626543082597023:T:=t
theorem tw8392358500681263680:T:=t
theorem tw211337195705725219:T:=t
theorem tw14454166528178196959:T:=t
theorem tw7256139644542635133:T:=t
theorem tw11076892268299887525:T:=t
theorem tw14859695947638507448:T:=t
theorem tw11391576665641698813:T:=t
theorem tw6248682570935725439:T:=t
theorem tw11153475782318119604:T:=t
theorem tw12528533614272120300:T:=t
theorem tw6594970650091316094:T:=t
theorem tw13385558918117058561:T:=t
theorem tw561727478393794602:T:=t
theorem tw2983127059725616120:T:=t
theorem tw18390781665105648280:T:=t
theorem tw13205091638197436094:T:=t
theorem tw10368827614151553891:T:=t
theorem tw14334995849660946996:T:=t
theorem tw18183970276198133131:T:=t
theorem tw8498532028676091811:T:=t
theorem tw10741264400317747893:T:=t
theorem tw18293242582946804979:T:=t
theorem tw8413399678365625193:T:=t
theorem tw12461081396071149458:T:=t
theorem tw3208522521903949160:T:=t
theorem tw7985883749528016586:T:=t
theorem tw5812350808301622050:T:=t
theorem tw14540961386073393648:T:=t
theorem tw13539809779269347639:T:=t
theorem tw16506471722634982818:T:=t
theorem tw11024694936033576346:T:=t
theorem tw10470340158578859262:T:=t
theorem tw4102176305081739490:T:=t
theorem tw2597523674469684444:T:=t
theorem tw10550934584343373414:T:=t
theorem tw4449799235075362730:T:=t
theorem tw7764699552788554220:T:=t
theorem tw7926090574327391632:T:=t
theorem tw2527701527901579348:T:=t
theorem tw8428246938381088814:T:=t
theorem tw15805137534098808535:T:=t
theorem tw8431482922422412695:T:=t
theorem tw7353485770183898095:T:=t
theorem tw9818998656811842119:T:=t
theorem tw7900394595670775223:T:=t
theorem tw7484994123860896570:T:=t
theorem tw4470585836733325578:T:=t
theorem tw6880980288501444468:T:=t
theorem tw17713387462200973399:T:=t
theorem tw13851515409511356469:T:=t
theorem tw7607420049574824106:T:=t
theorem tw1420270799746587975:T:=t
theorem tw11009225556382593827:T:=t
theorem tw12528221419883600679:T:=t
theorem tw2875624504187281209:T:=t
theorem tw2870957612703475602:T:=t
theorem tw10149570385669482864:T:=t
theorem tw16746677531222629524:T:=t
theorem tw15699961213505342161:T:=t
theorem tw9719393640593047967:T:=t
theorem tw18127189064453720709:T:=t
theorem tw3971525946579005399:T:=t
theorem tw726351398001015727:T:=t
theorem tw1045582712504079209:T:=t
theorem tw8546256303203405941:T:=t
theorem tw5205737364524765896:T:=t
theorem tw16765560720781731146:T:=t
theorem tw11373181179767321252:T:=t
theorem tw17890440400047909864:T:=t
theorem tw14801369171006070438:T:=t
theorem tw6094820017090691545:T:=t
theorem tw12477129341811645039:T:=t
theorem tw16103829930404553856:T:=t
theorem tw12091442091272426231:T:=t
theorem tw2216542800690825051:T:=t
theorem tw578191462805490351:T:=t
theorem tw10624116801336726872:T:=t
theorem tw16086907953836968628:T:=t
theorem tw12064304430848566033:T:=t
theorem tw761803264340522177:T:=t
theorem tw7777189000029798807:T:=t
theorem tw14321067358777074657:T:=t
theorem tw727924238349540522:T:=t
theorem tw5459702643516471331:T:=t
theorem tw15138174406397646402:T:=t
theorem tw2483321941437592071:T:=t
theorem tw376983999666122830:T:=t
theorem tw2333105410213810865:T:=t
theorem tw13257414776242894994:T:=t
theorem tw555815775780349263:T:=t
theorem tw12524954882073270795:T:=t
theorem tw15171223727094530161:T:=t
theorem tw17871049288011112270:T:=t
theorem tw10886659093417053267:T:=t
theorem tw3997487885647526937:T:=t
theorem tw13037224057902187189:T:=t
theorem tw18220031379085947620:T:=t
theorem tw10956520680868813917:T:=t
theorem tw14958820412457663293:T:=t
theorem tw8191318114535113306:T:=t
theorem tw14081431093454284249:T:=t
theorem tw8151759404152838978:T:=t
theorem tw7372170664606466022:T:=t
theorem tw9388066449989048879:T:=t
theorem tw12393862125047025020:T:=t
theorem tw15685335758407661847:T:=t
theorem tw13669536469129627823:T:=t
theorem tw261171577418715137:T:=t
theorem tw15771247859494662083:T:=t
theorem tw17163426234232328066:T:=t
theorem tw12750670339961964742:T:=t
theorem tw15227483606004533461:T:=t
theorem tw5920806927976990809:T:=t
theorem tw5874822333441161849:T:=t
theorem tw16212330677787901120:T:=t
theorem tw5037459499596335280:T:=t
theorem tw8622715204490130888:T:=t
theorem tw5171440476677080432:T:=t
theorem tw17577329170770402720:T:=t
theorem tw13468011388731342839:T:=t
theorem tw13631397514672939371:T:=t
theorem tw16422413458241162112:T:=t
theorem tw3945831679567021610:T:=t
theorem tw16822532161544500889:T:=t
theorem tw1866716027138748530:T:=t
theorem tw3099597729799864441:T:=t
theorem tw1158361714356455011:T:=t
theorem tw14592624751514493413:T:=t
theorem tw5816495043963226922:T:=t
theorem tw15577281813014381367:T:=t
theorem tw18003772858949239459:T:=t
theorem tw7374399212775623666:T:=t
theorem tw15401437161963490237:T:=t
theorem tw4483904966330829159:T:=t
theorem tw11513857634932158529:T:=t
theorem tw16766484511958638138:T:=t
theorem tw7212858340449540239:T:=t
theorem tw1401067106901849026:T:=t
theorem tw6751970477201280107:T:=t
theorem tw17558320327384617127:T:=t
theorem tw10539347186207431242:T:=t
theorem tw8535803893964050539:T:=t
theorem tw17339309145561079191:T:=t
theorem tw11481637867367846703:T:=t
theorem tw17518593693041627797:T:=t
theorem tw13164499291161521807:T:=t
theorem tw247591363613054380:T:=t
theorem tw6030501089693204938:T:=t
theorem tw17267597263503486738:T:=t
theorem tw14577027041581768965:T:=t
theorem tw17916429707943930468:T:=t
theorem tw17397653436517662659:T:=t
theorem tw5008408621672944243:T:=t
theorem tw9646623106273453227:T:=t
theorem tw9630203353718772412:T:=t
theorem tw6128106870883400570:T:=t
theorem tw8044325682031459534:T:=t
theorem tw8432719020341155521:T:=t
theorem tw7921390202802761869:T:=t
theorem tw12147665669636231765:T:=t
theorem tw11853640710764476214:T:=t
theorem tw14553807712399142462:T:=t
theorem tw4026147355466621588:T:=t
theorem tw17271881437230615512:T:=t
theorem tw4773484457636388862:T:=t
theorem tw6044648929357246223:T:=t
theorem tw13557862171009465336:T:=t
theorem tw14520296925931582552:T:=t
theorem tw7164969610272591079:T:=t
theorem tw11692469974320434101:T:=t
theorem tw9830187390996839088:T:=t
theorem tw3374319085511977134:T:=t
theorem tw8318101203651539667:T:=t
theorem tw11512705759438076691:T:=t
theorem tw15418674001244492974:T:=t
theorem tw4091352561680426876:T:=t
theorem tw1599053048872161195:T:=t
theorem tw8916268530333523031:T:=t
theorem tw17261404542052806724:T:=t
theorem tw1683588176727124409:T:=t
theorem tw1630143524128594353:T:=t
theorem tw4309217394794523951:T:=t
theorem tw2228412568605170491:T:=t
theorem tw12330612334027959195:T:=t
theorem tw7220529860990300233:T:=t
theorem tw16116027297012810434:T:=t
theorem tw11408881796089955267:T:=t
theorem tw14710976976299594304:T:=t
theorem tw3671519592330383864:T:=t
theorem tw2087409540819079288:T:=t
theorem tw1467881925912835984:T:=t
theorem tw7046044490832178742:T:=t
theorem tw10186303709888756887:T:=t
theorem tw599730875272715187:T:=t
theorem tw3520257249291928256:T:=t
theorem tw7611196895359807804:T:=t
theorem tw12298192366917762067:T:=t
theorem tw16140922888777852060:T:=t
theorem tw16101134707931498060:T:=t
theorem tw1342123614928995077:T:=t
theorem tw7943549864190904611:T:=t
theorem tw14847308668706973960:T:=t
theorem tw2546767868308347339:T:=t
theorem tw547895379624588593:T:=t
theorem tw14727194681476072466:T:=t
theorem tw8356303796347215682:T:=t
theorem tw4859391219904099992:T:=t
theorem tw16583815154217966991:T:=t
theorem tw18441984877410159329:T:=t
theorem tw9947508896943372755:T:=t
theorem tw1062514266329012355:T:=t
theorem tw15540911362017771936:T:=t
theorem tw14173793092197918974:T:=t
theorem tw17614877247268290040:T:=t
theorem tw8278001386518606062:T:=t
theorem tw5522115075389312692:T:=t
theorem tw16902085369446701243:T:=t
theorem tw15166322114958858414:T:=t
theorem tw6128145076113358165:T:=t
theorem tw8297923619242306668:T:=t
theorem tw12858089460409395330:T:=t
theorem tw360634875079729221:T:=t
theorem tw1891733041441978011:T:=t
theorem tw6631347999910079877:T:=t
theorem tw12715800853834201459:T:=t
theorem tw2213964242967304950:T:=t
theorem tw10228342955482612591:T:=t
theorem tw17852080271459398996:T:=t
theorem tw5694767641087392711:T:=t
theorem tw16309811473084048462:T:=t
theorem tw14261769069557060686:T:=t
theorem tw7478123994339007903:T:=t
theorem tw10576836333797772347:T:=t
theorem tw11525993766095887173:T:=t
theorem tw8565224436197482051:T:=t
theorem tw9676783613728631035:T:=t
theorem tw4490611911172417597:T:=t
theorem tw8915285831880473931:T:=t
theorem tw3303267245142563540:T:=t
theorem tw16721508838639397229:T:=t
theorem tw16217903435359918192:T:=t
theorem tw14811107726043686439:T:=t
theorem tw5000232492035539693:T:=t
theorem tw15831126876759372255:T:=t
theorem tw5953359166732830163:T:=t
theorem tw4600438763894957952:T:=t
theorem tw7485256538410118956:T:=t
theorem tw9223045988441327695:T:=t
theorem tw3676754643040562684:T:=t
theorem tw577049184839899653:T:=t
theorem tw11095110211248682772:T:=t
theorem tw5515903443438498500:T:=t
theorem tw7882045510503734624:T:=t
theorem tw1484650774730072618:T:=t
theorem tw17963105932079019327:T:=t
theorem tw8222940686941784037:T:=t
theorem tw2741014181512449073:T:=t
theorem tw9317495090193701157:T:=t
theorem tw11153126096140912846:T:=t
theorem tw14479964200598819128:T:=t
theorem tw17659185236578331656:T:=t
theorem tw3846801734645722302:T:=t
theorem tw12076989928817844590:T:=t
theorem tw10085292869130188298:T:=t
theorem tw18383651708701053236:T:=t
theorem tw6278996535519779258:T:=t
theorem tw11107512795663914464:T:=t
theorem tw14715273107921467267:T:=t
theorem tw1956775160557780875:T:=t
theorem tw16728255500844073214:T:=t
theorem tw13394580363473044415:T:=t
theorem tw9757595895972200118:T:=t
theorem tw2466311954974566718:T:=t
theorem tw2399617604181995578:T:=t
theorem tw2925816871977632210:T:=t
theorem tw5662061979359257339:T:=t
theorem tw6607644564249050058:T:=t
theorem tw3778530596728393105:T:=t
theorem tw14196522196718054806:T:=t
theorem tw17877845533520812795:T:=t
theorem tw17360015989920007124:T:=t
theorem tw8924819469995637033:T:=t
theorem tw4884199854448574:T:=t
theorem tw3075201292733833056:T:=t
theorem tw15142666989864626641:T:=t
theorem tw16035376269474964883:T:=t
theorem tw8185545411690514434:T:=t
theorem tw12717557048674177747:T:=t
theorem tw11219443903484984970:T:=t
theorem tw8833496514701923757:T:=t
theorem tw15326580083554890809:T:=t
theorem tw12315944733273679750:T:=t
theorem tw4858918184162951299:T:=t
theorem tw17184031218471190783:T:=t
theorem tw6557801498797044033:T:=t
theorem tw1941844328875101383:T:=t
theorem tw1835071406663858368:T:=t
theorem tw1378205811072252300:T:=t
theorem tw8752102160057688731:T:=t
theorem tw17678831435119133177:T:=t
theorem tw5610444585433571239:T:=t
theorem tw11402884983299125971:T:=t
theorem tw10297410513487048360:T:=t
theorem tw7001957589650049515:T:=t
theorem tw11859619671507778021:T:=t
theorem tw11033627544408312984:T:=t
theorem tw3953844824629472508:T:=t
theorem tw14849461344987154502:T:=t
theorem tw10341888390210383824:T:=t
theorem tw10295913840692754127:T:=t
theorem tw14811890972901180937:T:=t
theorem tw15590096980072825465:T:=t
theorem tw4766597723019941021:T:=t
theorem tw9530734954097333506:T:=t
theorem tw5221592684559293012:T:=t
theorem tw1607123104830579860:T:=t
theorem tw6945566481307383155:T:=t
theorem tw4189273013823423559:T:=t
theorem tw18073898193381586223:T:=t
theorem tw12441744018607269044:T:=t
theorem tw7151132215420815488:T:=t
theorem tw9869809959619462935:T:=t
theorem tw5322009542560784348:T:=t
theorem tw1125065396945160393:T:=t
theorem tw17691633702590694504:T:=t
theorem tw12884060626414724322:T:=t
theorem tw11911167908941700269:T:=t
theorem tw885948055608056263:T:=t
theorem tw17346623794827051843:T:=t
theorem tw699815216081779126:T:=t
theorem tw9104974531708491489:T:=t
theorem tw1887573119177674980:T:=t
theorem tw15214748959534726111:T:=t
theorem tw7538781388859322016:T:=t
theorem tw14647417624928369756:T:=t
theorem tw12132732476715806282:T:=t
theorem tw8319933024895762948:T:=t
theorem tw1932759071263863916:T:=t
theorem tw18124618509676941091:T:=t
theorem tw13069393092227542028:T:=t
theorem tw11368310244458860372:T:=t
theorem tw10236332898609347644:T:=t
theorem tw17823556299335049440:T:=t
theorem tw4607425872040536859:T:=t
theorem tw987426779421491659:T:=t
theorem tw9959121941294770655:T:=t
theorem tw5285915839522022235:T:=t
theorem tw14294133066467233204:T:=t
theorem tw7091221385724896812:T:=t
theorem tw6084841979344569690:T:=t
theorem tw11063759124802658401:T:=t
theorem tw8212203176049278890:T:=t
theorem tw11212356425047092601:T:=t
theorem tw16864618592142003386:T:=t
theorem tw12250869413391326473:T:=t
theorem tw3335794202401238526:T:=t
theorem tw8521684928402303493:T:=t
theorem tw6329614223026926184:T:=t
theorem tw4267111383703672358:T:=t
theorem tw1848955828906020544:T:=t
theorem tw10395332584310045583:T:=t
theorem tw14332157829676619468:T:=t
theorem tw2983494736656345032:T:=t
theorem tw1405720946626083897:T:=t
theorem tw11449968299874610285:T:=t
theorem tw3726453103677007866:T:=t
theorem tw2167315655227761912:T:=t
theorem tw16522183678017940807:T:=t
theorem tw15932183184989994656:T:=t
theorem tw2781441929908095834:T:=t
theorem tw1998347030407657756:T:=t
theorem tw12627051441459223148:T:=t
theorem tw11267315532378154396:T:=t
theorem tw17883462748017686043:T:=t
theorem tw16859961878692490766:T:=t
theorem tw15593559885672580101:T:=t
theorem tw13053394406489344094:T:=t
theorem tw4408816720484365081:T:=t
theorem tw6327569006664949090:T:=t
theorem tw16260866306193365299:T:=t
theorem tw5086489192560080304:T:=t
theorem tw15418378422589880096:T:=t
theorem tw14391293386007564604:T:=t
theorem tw4333590680753393835:T:=t
theorem tw9404705873571188630:T:=t
theorem tw3851428956369438258:T:=t
theorem tw12091130801917272685:T:=t
theorem tw8166255043249204926:T:=t
theorem tw4524658085876675188:T:=t
theorem tw206757683497733573:T:=t
theorem tw1986786360949550309:T:=t
theorem tw15012102849882553082:T:=t
theorem tw14260533273033392520:T:=t
theorem tw13142635158332540280:T:=t
theorem tw17082689572870858151:T:=t
theorem tw3438699932752214802:T:=t
theorem tw8833860146974802555:T:=t
theorem tw4561898282857576226:T:=t
theorem tw17980500129456985241:T:=t
theorem tw17348111734160510231:T:=t
theorem tw14903569129155370506:T:=t
theorem tw13813618637161013713:T:=t
theorem tw2595618661548880785:T:=t
theorem tw17658959251048325594:T:=t
theorem tw16998588944726240723:T:=t
theorem tw8996207646774452837:T:=t
theorem tw15627779663793561183:T:=t
theorem tw6508132753307246276:T:=t
theorem tw7770478706760583155:T:=t
theorem tw2046362190076281809:T:=t
theorem tw15481805183316651443:T:=t
theorem tw4944497897694004105:T:=t
theorem tw4704452742865826424:T:=t
theorem tw3992765435912101610:T:=t
theorem tw6060609690816243450:T:=t
theorem tw14782954611325821827:T:=t
theorem tw6046103115902281144:T:=t
theorem tw506581581156960101:T:=t
theorem tw14341141199694864594:T:=t
theorem tw4545961482378311905:T:=t
theorem tw6828597562223498359:T:=t
theorem tw4565167180653195659:T:=t
theorem tw4313010194945074917:T:=t
theorem tw15763482434359817770:T:=t
theorem tw16232239604740543338:T:=t
theorem tw3456351732281881909:T:=t
theorem tw9215358943560890414:T:=t
theorem tw12843764043397292189:T:=t
theorem tw9553971096990549364:T:=t
theorem tw7766106395892283477:T:=t
theorem tw2931988195819169919:T:=t
theorem tw11280630913190679075:T:=t
theorem tw5462360663327728810:T:=t
theorem tw3433779192033484610:T:=t
theorem tw10052031235695348791:T:=t
theorem tw3592811809046731828:T:=t
theorem tw12099505692703838030:T:=t
theorem tw10026605065719503897:T:=t
theorem tw2576523973992343609:T:=t
theorem tw6191700953566675008:T:=t
theorem tw12549542988036985293:T:=t
theorem tw12669407529647801677:T:=t
theorem tw4290864757253303354:T:=t
theorem tw12151077715039277381:T:=t
theorem tw3328118118096588273:T:=t
theorem tw13215348057498601715:T:=t
theorem tw12773500944031208451:T:=t
theorem tw11263768400469242888:T:=t
theorem tw8185220541750880888:T:=t
theorem tw17862349074038704544:T:=t
theorem tw542563422162235373:T:=t
theorem tw7350462372000428638:T:=t
theorem tw8840235324560252208:T:=t
theorem tw5233118043267047457:T:=t
theorem tw15702583709834301711:T:=t
theorem tw10611411778653204182:T:=t
theorem tw7231845647793152400:T:=t
theorem tw10988764466652934233:T:=t
theorem tw16132249320637822498:T:=t
theorem tw10799429511968010386:T:=t
theorem tw6829468419937405859:T:=t
theorem tw13851971633180934007:T:=t
theorem tw5306753302271460952:T:=t
theorem tw2768188642542392010:T:=t
theorem tw1537541725227008683:T:=t
theorem tw13367274342830030513:T:=t
theorem tw5226586810942512283:T:=t
theorem tw16925712312323332580:T:=t
theorem tw12550775161083096063:T:=t
theorem tw12020253756985099128:T:=t
theorem tw17508347553164502932:T:=t
theorem tw9969077435446430640:T:=t
theorem tw3500664145855060485:T:=t
theorem tw2480015634913765671:T:=t
theorem tw17216001249096748393:T:=t
theorem tw1142673529048489019:T:=t
theorem tw14689541978594310382:T:=t
theorem tw11120740854625124088:T:=t
theorem tw640624198105042115:T:=t
theorem tw1835201335921387983:T:=t
theorem tw15792790952358468732:T:=t
theorem tw1474264761786122189:T:=t
theorem tw5832146486336120021:T:=t
theorem tw17694573340227235524:T:=t
theorem tw9931937742245647033:T:=t
theorem tw17079817176256170043:T:=t
theorem tw14746253646979254834:T:=t
theorem tw6984818610989830729:T:=t
theorem tw7828442866392281868:T:=t
theorem tw15621116118777243554:T:=t
theorem tw5649666937502919571:T:=t
theorem tw14995258362815363992:T:=t
theorem tw2259672571474061568:T:=t
theorem tw4993863958327201973:T:=t
theorem tw2641800013201688601:T:=t
theorem tw16947231599799070506:T:=t
theorem tw2894314189432023629:T:=t
theorem tw2132029292895624192:T:=t
theorem tw10479991185640055810:T:=t
theorem tw14170518179582410385:T:=t
theorem tw12542895121996172375:T:=t
theorem tw11837218909656210887:T:=t
theorem tw4413860948169739490:T:=t
theorem tw13073492499399858440:T:=t
theorem tw15554417296805563061:T:=t
theorem tw13160504802963445071:T:=t
theorem tw14560624547652848805:T:=t
theorem tw1205604411410820431:T:=t
theorem tw11207431853666184334:T:=t
theorem tw2997480634906808460:T:=t
theorem tw727553628536289456:T:=t
theorem tw5010956058597451964:T:=t
theorem tw14202271707224943307:T:=t
theorem tw3344036261162260069:T:=t
theorem tw9679390387850249182:T:=t
theorem tw8122695690928665766:T:=t
theorem tw16691165463884887630:T:=t
theorem tw3328811466098603303:T:=t
theorem tw11757307120078846540:T:=t
theorem tw15910123707662034135:T:=t
theorem tw14934011241717051027:T:=t
theorem tw3277229846650655979:T:=t
theorem tw17472340661787783526:T:=t
theorem tw15267169705364848929:T:=t
theorem tw13313058339493701161:T:=t
theorem tw5711038861398032994:T:=t
theorem tw10387345722656961088:T:=t
theorem tw10312438410070409164:T:=t
theorem tw4971374062829452455:T:=t
theorem tw2868442198168577507:T:=t
theorem tw11401859456886640639:T:=t
theorem tw306047672372848657:T:=t
theorem tw8047209995159408440:T:=t
theorem tw16797375974695604193:T:=t
theorem tw258204147387103276:T:=t
theorem tw15733337929971156237:T:=t
theorem tw4938610541543285704:T:=t
theorem tw17510684818845775701:T:=t
theorem tw13861322856664149509:T:=t
theorem tw10510019762269167821:T:=t
theorem tw977512076041815475:T:=t
theorem tw8171798328758944481:T:=t
theorem tw2275282789119773048:T:=t
theorem tw1956260828630720203:T:=t
theorem tw8006371003960147343:T:=t
theorem tw16753820520455620202:T:=t
theorem tw14845619989558847073:T:=t
theorem tw4683681711962371626:T:=t
theorem tw18101783494082082527:T:=t
theorem tw4334401890000744311:T:=t
theorem tw12747814925858328940:T:=t
theorem tw609457278022895560:T:=t
theorem tw12138319994727072339:T:=t
theorem tw12954591660760965231:T:=t
theorem tw12125097214300078407:T:=t
theorem tw5845002605336314091:T:=t
theorem tw15978794797337165890:T:=t
theorem tw11151835277377553703:T:=t
theorem tw12182174808115992843:T:=t
theorem tw11078473246598507814:T:=t
theorem tw16670193898709178398:T:=t
theorem tw4211115844707057057:T:=t
theorem tw2424988045566436242:T:=t
theorem tw13956191218907399338:T:=t
theorem tw15764947353670896545:T:=t
theorem tw10293081186089767411:T:=t
theorem tw7007286002206832825:T:=t
theorem tw3308634892276815127:T:=t
theorem tw12670982853097334264:T:=t
theorem tw8865387616306378214:T:=t
theorem tw9536688357841153863:T:=t
theorem tw8219003486749837733:T:=t
theorem tw7424060955962978353:T:=t
theorem tw651700358538967526:T:=t
theorem tw6188973233030003785:T:=t
theorem tw4548300405975405348:T:=t
theorem tw4436474186459923750:T:=t
theorem tw3641951560692057861:T:=t
theorem tw3042748168174471775:T:=t
theorem tw1864683662541468164:T:=t
theorem tw17760279517084355780:T:=t
theorem tw17590705303994421779:T:=t
theorem tw17318462890700432884:T:=t
theorem tw14827714588952709054:T:=t
theorem tw14760874974797668852:T:=t
theorem tw13855379610559885079:T:=t
theorem tw13257283266767686631:T:=t
theorem tw1205274952441263945:T:=t
theorem tw3985964047577975286:T:=t
theorem tw13462424878891718212:T:=t
theorem tw12960429369202013873:T:=t
theorem tw11564986514327137767:T:=t
theorem tw10164718903369591474:T:=t
theorem tw9461873434466728008:T:=t
theorem tw86012387029904805:T:=t
end PySem.W.Fast
section
open PySem PySem.W PyProof.Rows
set_option maxHeartbeats 0 in
open_top hd for PySem.Challenge.rw_cagebells_k30_no_such_tick
end
set_option Elab.async false
set_option linter.all false
set_option maxRecDepth 100000
namespace L2
open PySem PySem.Spec PyProof.Rows
noncomputable abbrev Key:=Sum Int Str
noncomputable def NN:Key->Value->Bool
 | .inl k,v=>Value.isInt k v
 | .inr x,v=>Value.isStrOf x v
noncomputable def Rq (w:World):Key->Int
 | .inl k=>hashInt k
 | .inr x=>hashStr w x
theorem eh:∀{k:Key} {v:Value},NN k v=true->(∃i t,k=Sum.inl i/\v=Value.int i t)\/(∃x t,k=Sum.inr x/\v=Value.str x t)
 | .inl i,v,h=>by
  obtain ⟨t,e⟩:=Value.isInt_shape (k:=i) (v:=v) h
  exact .inl ⟨i,t,rfl,e⟩
 | .inr x,v,h=>by
  obtain ⟨t,e⟩:=Value.isStrOf_shape (x:=x) (v:=v) h
  exact .inr ⟨x,t,rfl,e⟩
theorem OJ (a b:Int):decide ((Sum.inl a:Key)=Sum.inl b)=(a == b):=by
 by_cases e:a=b
 ·subst e;simp
 ·have h:¬(Sum.inl a:Key)=Sum.inl b:=fun q=>e (Sum.inl.inj q)
  rw [decide_eq_false h]
  exact (beq_eq_false_iff_ne.mpr e).symm
theorem OK (a b:Str):decide ((Sum.inr a:Key)=Sum.inr b)=decide (a=b):=by
 by_cases e:a=b
 ·subst e;simp
 ·have h:¬(Sum.inr a:Key)=Sum.inr b:=fun q=>e (Sum.inr.inj q)
  rw [decide_eq_false h,decide_eq_false e]
theorem OL (a:Int)(b:Str):decide ((Sum.inl a:Key)=Sum.inr b)=false:=decide_eq_false (fun q=>nomatch q)
theorem OM (a:Str)(b:Int):decide ((Sum.inr a:Key)=Sum.inl b)=false:=decide_eq_false (fun q=>nomatch q)
noncomputable def DT (prog:Program)(w:World):PySem.KeyKind prog w Key where
 is:=NN
 hash:=Rq w
 inj:=fun v a b ha hb=>by
  rcases eh ha with ⟨i,t,rfl,rfl⟩ | ⟨x,t,rfl,rfl⟩
  ·rcases eh hb with ⟨j,u,rfl,e⟩ | ⟨y,u,rfl,e⟩
   ·injection e with e1 _;rw [e1]
   ·exact nomatch e
  ·rcases eh hb with ⟨j,u,rfl,e⟩ | ⟨y,u,rfl,e⟩
   ·exact nomatch e
   ·injection e with e1 _;rw [e1]
 byValue:=fun k v h=>by
  rcases eh h with ⟨i,t,rfl,rfl⟩ | ⟨x,t,rfl,rfl⟩<;>rfl
 pyHash:=fun hv h=>by
  rcases eh hv with ⟨i,t,rfl,rfl⟩ | ⟨x,t,rfl,rfl⟩
  ·exact wpAny_pyHash_int h
  ·exact wpAny_pyHash_str h
 eqBool:=fun hu hv h=>by
  rcases eh hu with ⟨i,t,rfl,rfl⟩ | ⟨x,t,rfl,rfl⟩
  ·rcases eh hv with ⟨j,u,rfl,rfl⟩ | ⟨y,u,rfl,rfl⟩
   ·rw [OJ] at h;exact wpAny_eqBool_int h
   ·rw [OL] at h;exact SeqAt.EqAt.int_str i t y u _ _ _ _ h
  ·rcases eh hv with ⟨j,u,rfl,rfl⟩ | ⟨y,u,rfl,rfl⟩
   ·rw [OM] at h;exact SeqAt.EqAt.str_int x t j u _ _ _ _ h
   ·rw [OK] at h;exact wpAny_eqBool_str h
 «strs»:=fun k x t v h=>by
  rcases eh h with ⟨i,u,rfl,e⟩ | ⟨y,u,rfl,e⟩
  ·exact nomatch e
  ·injection e with e1 _
   subst e1
   cases v<;>rfl
inductive V where
 | non | bl (b:Bool) | int (i:Int) | str (x:Str) | byt (b:Array UInt8) | flt (b:UInt64) | ref (a:Addr) | ty (n:String)
 deriving DecidableEq
noncomputable def cq:V->Value->Prop
 | .non,u=>u=Value.none
 | .bl b,u=>u=Value.bool b
 | .int i,u=>∃t,u=Value.int i t
 | .str x,u=>∃t,u=Value.str x t
 | .byt b,u=>∃t,u=Value.bytes b t
 | .flt b,u=>∃t,u=Value.float b t
 | .ref a,u=>u=Value.ref a
 | .ty n,u=>u=Value.type n
noncomputable abbrev bJ:List V->List Value->Prop:=Paired cq
theorem bJ.length {xs:List V}{us:List Value}(r:bJ xs us):xs.length=us.length:=Paired.length r
theorem bJ.get:∀{xs:List V} {us:List Value} {i:Nat} {x:V},bJ xs us->xs[i]?=some x->∃u,us[i]?=some u/\cq x u
 | _,_,_,_,.nil,e=>by simp at e
 | _,_,0,_,.cons r _,e=>by simp at e;subst e;exact ⟨_,rfl,r⟩
 | _,_,i+1,x,.cons _ t,e=>by
  obtain ⟨u,h1,h2⟩:=bJ.get (i:=i) (x:=x) t (by simpa using e)
  exact ⟨u,by simpa using h1,h2⟩
theorem bJ.set {x:V}{u:Value}(r:cq x u):∀{xs:List V} {us:List Value} (i:Nat),bJ xs us->bJ (xs.set i x) (us.set i u)
 | _,_,_,.nil=>.nil
 | _,_,0,.cons _ t=>.cons r t
 | _,_,i+1,.cons q t=>.cons q (bJ.set r i t)
theorem bJ.append:∀{xs ys:List V} {us ws:List Value},bJ xs us->bJ ys ws->bJ (xs++ys) (us++ws)
 | _,_,_,_,.nil,s=>s
 | _,_,_,_,.cons r t,s=>.cons r (bJ.append t s)
theorem bJ.take:∀{xs:List V} {us:List Value} (n:Nat),bJ xs us->bJ (xs.take n) (us.take n)
 | _,_,0,_=>.nil
 | _,_,_+1,.nil=>.nil
 | _,_,n+1,.cons r t=>.cons r (bJ.take n t)
theorem bJ.drop:∀{xs:List V} {us:List Value} (n:Nat),bJ xs us->bJ (xs.drop n) (us.drop n)
 | _,_,0,r=>r
 | _,_,_+1,.nil=>.nil
 | _,_,n+1,.cons _ t=>bJ.drop n t
noncomputable def BA:Option V->Option Value->Prop
 | some v,some u=>cq v u
 | none,none=>True
 | _,_=>False
noncomputable def KV {κ:Type}:List (κ×V)->List (κ×Value)->Prop:=Paired fun (p:κ×V) (q:κ×Value)=>p.1=q.1/\cq p.2 q.2
noncomputable def kV:Key->V
 | .inl i=>.int i
 | .inr x=>.str x
inductive HO where
 | lst (xs:List V)
 | tup (xs:List V)
 | dK (kvs:List (Key×V)) | dT (kvs:List (List Key×V))
 | set (S:Int->Bool) (n:Nat)
 | ins (C dx:Addr) (fs:List (Str×V))
 | own (x:Addr)
 | xd (fs:List (Str×V))
 | met (f x:Addr)
 | rng (lo hi:Int)
 | frz (o:Obj) (u:HO)
 | tbl (ps:Array Value)
 | ext (φ:Heap->Prop)
noncomputable abbrev Hp:=Addr->Option HO
noncomputable def upd (H:Hp)(a:Addr)(o:HO):Hp:=fun b=>if b=a then some o else H b
theorem ai {H:Hp}{a:Addr}{o:HO}:upd H a o a=some o:=by unfold upd;rw [if_pos rfl]
theorem aV {H:Hp}{a b:Addr}{o:HO}(h:b≠a):upd H a o b=H b:=by unfold upd;rw [if_neg h]
theorem Mg {H:Hp}{a:Addr}{o u:HO}:upd (upd H a o) a u=upd H a u:=by
 funext b;unfold upd;split<;>rfl
theorem aq {H:Hp}{a b:Addr}{o:HO}(h:H a=some o)(h':H b=none):a≠b:=by
 intro e;subst e;rw [h] at h';cases h'
def lZ (h:Heap)(a:Addr)(items:Array Value):Prop:=∃o,h.get? a=some o/\(o.cls=.type "tuple"/\∃n,o.data=.seq items n)/\o.dict=none
theorem lZ.tup {h:Heap}{a:Addr}{items:Array Value}(x:lZ h a items):IsTup h a items:=let ⟨o,e,c,_⟩:=x;⟨o,e,c⟩
theorem lZ.lt {h:Heap}{a:Addr}{items:Array Value}(x:lZ h a items):a < h.objs.size:=let ⟨_,e,_⟩:=x;Heap.lt_size e
theorem lZ.new (h:Heap)(items:Array Value):lZ (h.push {cls:=.type "tuple",data:=.seq items}) h.objs.size items:=⟨_,Heap.get?_push_size _ rfl,⟨rfl,_,rfl⟩,rfl⟩
section
variable (P:Program)(w:World)
noncomputable def gj (H:Hp)(h:Heap)(a:Addr):HO->Prop
 | .lst xs=>xs.length<=sizeLine/\∃(its:List Value) (n:Nat),bJ xs its/\h.get? a=some {cls:=.type "list",data:=.seq its.toArray n}
 | .tup xs=>xs.length<=sizeLine/\∃its:List Value,bJ xs its/\lZ h a its.toArray
 | .dK kvs=>kvs.length<=sizeLine/\(a == sysModules)=false/\∃vs,KV kvs vs/\h.DictOf (DT P w) a vs
 | .dT kvs=>kvs.length<=sizeLine/\(a == sysModules)=false/\∃xs:List (List Key×Addr×Value),
   Paired (fun (p:List Key×V) (q:List Key×Addr×Value)=>p.1=q.1/\H q.2.1=some (.tup (p.1.map kV))/\cq p.2 q.2.2) kvs xs/\
   ∃o es ep,h.get? a=some o/\o.ExactDict/\o.data=.dict es ep/\es.toList=xs.map (entryOfKey (tupleKind (DT P w)))/\(xs.map (·.1)).Nodup
 | .set S n=>h.SetOf (intKind P w) a S n
 | .ins C dx fs=>H dx=some (.own a)/\fs.length<=1000/\dx≠a/\h.get? a=some (PySem.W.instObj C dx)/\
   ∃mA,h.Ns1 dx mA/\(∀f,BA (fs.lookup f) (mA f))/\PySem.Within mA (fs.map (·.1))
 | .own _=>∃o,h.get? a=some o
 | .xd fs=>∃mA,h.Ns1 a mA/\∀f,BA (fs.lookup f) (mA f)
 | .rng lo hi=>∃t u v,h.get? a=some {cls:=.type "range",data:=.fields #[.int lo t,.int hi u,.int 1 v]}
 | .frz o u=>h.get? a=some o/\gj H h a u
 | .tbl ps=>h.get? a=some {cls:=.none,data:=.fields ps}
 | .met f x=>h.get? a=some (PySem.W.methodObj (.ref f) (.ref x))
 | .ext φ=>φ h/\(∃o,h.get? a=some o)/\∀h1 h2:Heap,φ h1->(∀o,h1.get? a=some o->h2.get? a=some o)->φ h2
def HOk (H:Hp)(h:Heap):Prop:=∀a o,H a=some o->gj P w H h a o
end
section
variable {P:Program}{w:World}{H H':Hp}{h h':Heap}{a:Addr}{o:HO}
theorem gj.lt (x:gj P w H h a o):a < h.objs.size:=by
 cases o with
 | lst xs=>obtain ⟨_,_,_,_,e⟩:=x;exact Heap.lt_size e
 | tup xs=>obtain ⟨_,_,_,p⟩:=x;exact p.lt
 | dK kvs=>obtain ⟨_,_,_,_,o,_,_,e,_⟩:=x;exact Heap.lt_size e
 | dT kvs=>obtain ⟨_,_,_,_,o,_,_,e,_⟩:=x;exact Heap.lt_size e
 | set S n=>obtain ⟨o,_,_,_,e,_⟩:=x;exact Heap.lt_size e
 | ins C dx fs=>obtain ⟨_,_,_,e,_⟩:=x;exact Heap.lt_size e
 | own y=>obtain ⟨_,e⟩:=x;exact Heap.lt_size e
 | xd fs=>obtain ⟨_,⟨_,_,_,e,_⟩,_⟩:=x;exact Heap.lt_size e
 | rng lo hi=>obtain ⟨_,_,_,e⟩:=x;exact Heap.lt_size e
 | frz ob u=>obtain ⟨e,_⟩:=x;exact Heap.lt_size e
 | tbl ps=>exact Heap.lt_size (show h.get? a=some _ from x)
 | met f y=>exact Heap.lt_size (show h.get? a=some _ from x)
 | ext φ=>obtain ⟨_,⟨_,e⟩,_⟩:=x;exact Heap.lt_size e
theorem Paired.mapP {α β:Type}{F G:α->β->Prop}:∀{l₁:List α} {l₂:List β},Paired F l₁ l₂->(∀a b,F a b->G a b)->Paired G l₁ l₂
 | _,_,.nil,_=>.nil
 | _,_,.cons r t,f=>.cons (f _ _ r) (Paired.mapP t f)
theorem gj.stay (x:gj P w H h a o)(k:∀b u,(b=a\/H b=some (.own a))->h.get? b=some u->h'.get? b=some u)
  (ho:∀b,H b=some (.own a)->H' b=some (.own a)) (ht:∀b xs,H b=some (.tup xs)->H' b=some (.tup xs)):gj P w H' h' a o:=by
 induction o with
 | lst xs=>obtain ⟨z,its,n,r,e⟩:=x;exact ⟨z,its,n,r,k _ _ (.inl rfl) e⟩
 | tup xs=>obtain ⟨z,its,r,ob,e,c⟩:=x;exact ⟨z,its,r,ob,k _ _ (.inl rfl) e,c⟩
 | dK kvs=>obtain ⟨z,y,vs,r,ob,es,ep,e,c⟩:=x;exact ⟨z,y,vs,r,ob,es,ep,k _ _ (.inl rfl) e,c⟩
 | dT kvs=>
  obtain ⟨z,y,xs,r,ob,es,ep,e,c⟩:=x
  exact ⟨z,y,xs,Paired.mapP r fun p q z=>⟨z.1,ht _ _ z.2.1,z.2.2⟩,ob,es,ep,k _ _ (.inl rfl) e,c⟩
 | set S n=>obtain ⟨ob,es,ep,t,e,c⟩:=x;exact ⟨ob,es,ep,t,k _ _ (.inl rfl) e,c⟩
 | ins C dx fs=>
  obtain ⟨d,z,ne,e,mA,⟨od,es,ep,e2,c⟩,r⟩:=x
  exact ⟨ho _ d,z,ne,k _ _ (.inl rfl) e,mA,⟨od,es,ep,k _ _ (.inr d) e2,c⟩,r⟩
 | own y=>obtain ⟨ob,e⟩:=x;exact ⟨ob,k _ _ (.inl rfl) e⟩
 | xd fs=>obtain ⟨mA,⟨od,es,ep,e,c⟩,r⟩:=x;exact ⟨mA,⟨od,es,ep,k _ _ (.inl rfl) e,c⟩,r⟩
 | rng lo hi=>obtain ⟨t,u,v,e⟩:=x;exact ⟨t,u,v,k _ _ (.inl rfl) e⟩
 | frz ob u ih=>obtain ⟨e,q⟩:=x;exact ⟨k _ _ (.inl rfl) e,ih q⟩
 | tbl ps=>
  have e:h.get? a=some {cls:=.none,data:=.fields ps}:=x
  show h'.get? a=some {cls:=.none,data:=.fields ps}
  exact k a _ (.inl rfl) e
 | met f y=>
  have e:h.get? a=some (PySem.W.methodObj (.ref f) (.ref y)):=x
  show h'.get? a=some (PySem.W.methodObj (.ref f) (.ref y))
  exact k a _ (.inl rfl) e
 | ext φ=>obtain ⟨p,⟨o,e⟩,st⟩:=x;exact ⟨st _ _ p fun o q=>k _ _ (.inl rfl) q,⟨o,k _ _ (.inl rfl) e⟩,st⟩
theorem HOk.lt (x:HOk P w H h)(e:H a=some o):a < h.objs.size:=(x a o e).lt
theorem HOk.fresh (x:HOk P w H h)(e:h.objs.size<=a):H a=none:=by
 cases q:H a with
 | none=>rfl
 | some u=>exact absurd (Nat.lt_of_lt_of_le (x.lt q) e) (Nat.lt_irrefl _)
theorem HOk.kept (x:HOk P w H h)(k:∀b u,h.get? b=some u->h'.get? b=some u):HOk P w H h':=fun a o e=>
 (x a o e).stay (fun b u _ q=>k b u q) (fun _ q=>q) fun _ _ q=>q
theorem HOk.laid (x:HOk P w H h)(k:∀b u,h.get? b=some u->h'.get? b=some u)(hp:h.objs.size<=a)(new:gj P w (upd H a o) h' a o):HOk P w (upd H a o) h':=fun b u e=>by
 have hn:=x.fresh hp
 by_cases hb:b=a
 ·subst hb;rw [ai] at e;cases e;exact new
 ·rw [aV hb] at e
  exact (x b u e).stay (fun c v _ q=>k c v q) (fun c q=>by rw [aV (aq q hn)];exact q) fun c xs q=>by rw [aV (aq q hn)];exact q
end
def Rd (H:Hp)(a:Addr)(u:HO):Prop:=H a=some u\/∃o,H a=some (.frz o u)
theorem Rd.ok {P:Program}{w:World}{H:Hp}{h:Heap}{a:Addr}{u:HO}(r:Rd H a u)(x:HOk P w H h):gj P w H h a u:=by
 rcases r with r | ⟨o,r⟩
 ·exact x a u r
 ·obtain ⟨_,q⟩:=x a _ r
  exact q
noncomputable def Mut:Option HO->Prop
 | some (.lst _)=>True
 | some (.dK _)=>True
 | some (.dT _)=>True
 | some (.set _ _)=>True
 | some (.ins _ _ _)=>True
 | some (.ext _)=>True
 | _=>False
section
variable {P:Program}{w:World}{H:Hp}{h h':Heap}{x e:Addr}{o':HO}
theorem HOk.write (ok:HOk P w H h)(mu:Mut (H x))(he:e=x\/H e=some (.own x))(k:∀b u,b≠e->h.get? b=some u->h'.get? b=some u)(heo:∃u,h'.get? e=some u)
  (new:gj P w (upd H x o') h' x o'):HOk P w (upd H x o') h':=fun b u q=>by
 have nown:∀c y,H c=some (.own y)->c≠x:=fun c y r z=>by subst z;rw [r] at mu;exact mu
 have ntup:∀c xs,H c=some (.tup xs)->c≠x:=fun c xs r z=>by subst z;rw [r] at mu;exact mu
 by_cases hb:b=x
 ·subst hb;rw [ai] at q;cases q;exact new
 ·rw [aV hb] at q
  by_cases hbe:b=e
  ·have q':H b=some (.own x):=by
    rcases he with z | z
    ·exact absurd (hbe.trans z) hb
    ·rw [hbe];exact z
   rw [q] at q';cases q'
   obtain ⟨v,hv⟩:=heo
   exact ⟨v,by rw [hbe];exact hv⟩
  ·refine (ok b u q).stay (fun c v hc r=>k c v ?_ r) (fun c r=>by rw [aV (nown c b r)];exact r) fun c xs r=>by rw [aV (ntup c xs r)];exact r
   rcases hc with rfl | hc
   ·exact hbe
   ·rintro rfl
    rcases he with z | z
    ·exact nown c b hc z
    ·rw [hc] at z;cases z;exact hb rfl
end
structure Un (fs ex:List Addr)(H H':Hp)(h h':Heap):Prop where
 keep:∀b o,h.get? b=some o->H b=none->b∉fs->b∉ex->h'.get? b=some o
 slot:∀b o,h.get? b=some o->H b=none->b∈fs->b∉ex->∃sl,h'.get? b=some {o with slots:=sl}
 free:∀b o,h.get? b=some o->H b=none->b∉ex->H' b=none
 there:∀b o,h.get? b=some o->b∉ex->∃o',h'.get? b=some o'
 tups:∀b xs,H b=some (.tup xs)->H' b=some (.tup xs)
 frzs:∀b o u,H b=some (.frz o u)->H' b=some (.frz o u)
 tbls:∀b ps,H b=some (.tbl ps)->∃more,H' b=some (.tbl (ps++more))
section
variable {fs fs' ex ex':List Addr}{H H1 H2:Hp}{h h1 h2 h':Heap}{a x e:Addr}{o:HO}
theorem Un.any (u:Un fs ex H H1 h h1){b:Addr}{ob:Obj}(q:h.get? b=some ob)(n:H b=none)(hx:b∉ex):∃sl,h1.get? b=some {ob with slots:=sl}:=by
 by_cases hb:b∈fs
 ·exact u.slot b ob q n hb hx
 ·exact ⟨ob.slots,u.keep b ob q n hb hx⟩
theorem Un.kept (k:∀b u,h.get? b=some u->h'.get? b=some u):Un fs ex H H h h':=
 ⟨fun b ob q _ _ _=>k b ob q,fun b ob q _ _ _=>⟨ob.slots,k b ob q⟩,fun _ _ _ n _=>n,fun b ob q _=>⟨ob,k b ob q⟩,fun _ _ q=>q,fun _ _ _ q=>q,fun _ ps q=>⟨#[],by rw [q];simp⟩⟩
theorem Un.refl:Un fs ex H H h h:=Un.kept fun _ _ q=>q
theorem Un.laid (k:∀b u,h.get? b=some u->h'.get? b=some u)(hp:h.objs.size<=a)(hn:H a=none):Un fs ex H (upd H a o) h h' where
 keep:=fun b u q _ _ _=>k b u q
 slot:=fun b u q _ _ _=>⟨u.slots,k b u q⟩
 free:=fun b u q n _=>by rw [aV (Nat.ne_of_lt (Nat.lt_of_lt_of_le (Heap.lt_size q) hp))];exact n
 there:=fun b u q _=>⟨u,k b u q⟩
 tups:=fun b xs q=>by rw [aV (aq q hn)];exact q
 frzs:=fun b u xs q=>by rw [aV (aq q hn)];exact q
 tbls:=fun b ps q=>⟨#[],by rw [aV (aq q hn),q];simp⟩
theorem Un.write (mu:Mut (H x))(he:e=x\/H e=some (.own x))(k:∀b u,b≠e->h.get? b=some u->h'.get? b=some u)(heo:∃u,h'.get? e=some u):Un fs ex H (upd H x o) h h':=by
 have hx:∀b,H b=none->b≠x:=fun b n z=>by subst z;rw [n] at mu;exact mu
 have hb:∀b,H b=none->b≠e:=fun b n z=>by
  subst z
  rcases he with r | r
  ·exact hx b n r
  ·rw [n] at r;cases r
 have hm:∀b u,H b=some u->¬Mut (some u)->b≠x:=fun b u q nm z=>by subst z;rw [q] at mu;exact nm mu
 refine ⟨fun b u q n _ _=>k b u (hb b n) q,fun b u q n _ _=>⟨u.slots,k b u (hb b n) q⟩,fun b u q n _=>by rw [aV (hx b n)];exact n,fun b u q _=>?_,
  fun b xs q=>by rw [aV (hm b _ q fun z=>z)];exact q,fun b u xs q=>by rw [aV (hm b _ q fun z=>z)];exact q,fun b ps q=>⟨#[],by rw [aV (hm b _ q fun z=>z),q];simp⟩⟩
 by_cases hbe:b=e
 ·subst hbe;exact heo
 ·exact ⟨u,k b u hbe q⟩
end
noncomputable def trk (h:Heap)(H:Hp):List Addr:=(List.range h.objs.size).filter fun a=>(H a).isSome
noncomputable def DU (h:Heap)(H:Hp):Heap:=PySem.W.hideAll h (trk h H)
theorem Jj (h:Heap)(H:Hp):(DU h H).objs.size=h.objs.size:=PySem.W.hideAll_size _ _
theorem Kf {h:Heap}{H:Hp}{b:Addr}{o:Obj}(e:h.get? b=some o)(n:H b=none):(DU h H).get? b=some o:=
 PySem.W.hideAll_get _ e fun hm=>by
  have q:(H b).isSome=true:=(List.mem_filter.mp hm).2
  rw [n] at q;simp at q
theorem Mh {h:Heap}{H:Hp}{b:Addr}{o:Obj}(e:(DU h H).get? b=some o):h.get? b=some o/\H b=none:=by
 have e':h.get? b=some o:=PySem.W.of_hideAll (trk h H) e
 refine ⟨e',?_⟩
 cases q:H b with
 | none=>rfl
 | some x=>
  have hm:b∈trk h H:=List.mem_filter.mpr ⟨List.mem_range.mpr (Heap.lt_size e'),by simp [q]⟩
  have z:(DU h H).get? b=none:=PySem.W.hideAll_none (trk h H) hm
  rw [z] at e;cases e
noncomputable def vO (g h:Heap)(L:Addr):List (Addr×Obj):=(List.range h.objs.size).filterMap fun a=>if a=L\/(g.get? a).isSome=true then none else (h.get? a).map fun o=>(a,o)
theorem EZ {g h:Heap}{L a:Addr}{o:Obj}(h1:a≠L)(h2:g.get? a=none)(h3:h.get? a=some o):(a,o)∈vO g h L:=
 List.mem_filterMap.mpr ⟨a,List.mem_range.mpr (Heap.lt_size h3),by simp [h1,h2,h3]⟩
theorem zT {g h:Heap}{L:Addr}{p:Addr×Obj}(hp:p∈vO g h L):p.1≠L/\g.get? p.1=none/\h.get? p.1=some p.2:=by
 obtain ⟨b,_,e⟩:=List.mem_filterMap.mp hp
 split at e
 ·cases e
 ·rename_i hn
  cases q:h.get? b with
  | none=>rw [q] at e;simp at e
  | some u=>
   rw [q] at e
   simp only [Option.map_some,Option.some.injEq] at e
   subst e
   refine ⟨fun z=>hn (.inl z),?_,q⟩
   show g.get? b=none
   cases r:g.get? b with
   | none=>rfl
   | some v=>exact (hn (.inr (by simp [r]))).elim
noncomputable def BB (g h:Heap)(L d:Addr):List (Addr×Obj):=(vO g h L).filter fun p=>decide (p.1≠d)
theorem Kg {g h:Heap}{L:Addr}:News g L h (vO g h L):=fun p hp=>let ⟨a,b,c⟩:=zT hp;⟨c,a,b⟩
structure Mod (K:PySem.W.Frag)(mg:Str->Option Value)(base:Heap):Prop where
 kin:K.In base
 glob:base.Ns mainGlobals mg
 blt:∃mb,base.Ns builtinsNs mb/\∀x:Str,x≠"__name__"->mb x=bootBuiltins x
 nolimit:base.NoLimit
structure Cx where
 prog:Program
 w:World
 K:PySem.W.Frag
 mg:Str->Option Value
 base:Heap
 A:Around
 N:List Str
 s₀:Shared
 H₀:Hp
 env:Env
 outer:List Env
 stack:List Env
 ex:List Addr
 fn:Str->Bool
 calm:Bool
 pn:List (Addr×Obj)
 xe:Value->Shared->Prop
noncomputable def frs (l:List Env):List Addr:=l.filterMap (·.frame)
noncomputable abbrev Cx.fs (X:Cx):List Addr:=frs X.outer
def Vis (sc:Scope)(x:Str):Prop:=sc.names.lookup x=some .local\/sc.names.lookup x=some .cell\/sc.names.lookup x=some .free
def Loc (sc:Scope)(x:Str):Prop:=sc.names.lookup x=some .local\/sc.names.lookup x=some .cell
def Rr (env:Env)(h:Heap)(m:Str->Option Value)(x:Str)(u:Value):Prop:=
 (env.kindOf x=some .local/\m x=some u)\/((env.kindOf x=some .cell\/env.kindOf x=some .free)/\∃c,env.cells.lookup x=some c/\h.IsCell c (some u))
structure Cx.Ok (X:Cx):Prop where
 mod:Mod X.K X.mg X.base
 kind:X.env.scope.kind=.function
 glob:X.env.globals=mainGlobals
 blt:X.env.builtins=builtinsNs
 above:X.s₀.heap.objs.size<=X.env.locals
 inj:∀x y c,X.env.cells.lookup x=some c->X.env.cells.lookup y=some c->x=y
 has:∀x,(X.env.kindOf x=some .cell\/X.env.kindOf x=some .free)->∃c,X.env.cells.lookup x=some c
 cab:∀x c,X.fn x=true->X.env.cells.lookup x=some c->X.s₀.heap.objs.size<=c
 hd:X.calm=true->X.A.handled=none
 frames:X.A.frames=some X.stack
 stk:X.stack=X.outer\/(X.stack=X.env::X.outer/\X.env.frame=some X.env.locals)
 exf:∀b∈X.ex,b≠X.env.locals/\∀x c,X.env.cells.lookup x=some c->c≠b
 bs:∀b o,X.base.get? b=some o->X.s₀.heap.get? b=some o/\X.H₀ b=none
 bsz:X.base.objs.size<=X.s₀.heap.objs.size
 noex:∀b o,X.base.get? b=some o->b∉X.ex
 exfs:∀b∈X.ex,b∉X.fs
 funs:X.s₀.heap.FunFrames X.base X.outer
 frf:∀b∈X.fs,X.H₀ b=none
structure Inv (X:Cx)(pins:List (Addr×Obj))(σ:List (Option V))(H:Hp)(s:Shared):Prop where
 ok:X.Ok
 os:s.os=X.s₀.os
 bare:AllBare s.gens
 base:Un X.fs X.ex X.H₀ H X.s₀.heap s.heap
 loc:∃m,s.heap.Ns X.env.locals m/\∀(i:Nat) (x:Str) (v:V),X.N[i]?=some x->σ[i]?=some (some v)->Vis X.env.scope x->∃u,cq v u/\Rr X.env s.heap m x u
 cell:∀x c,X.env.cells.lookup x=some c->∃v,s.heap.IsCell c v
 free:H X.env.locals=none
 freeC:∀x c,X.env.cells.lookup x=some c->H c=none
 pin:∀p∈X.pn++pins,s.heap.get? p.1=some p.2/\H p.1=none/\p.1≠X.env.locals/\p.1∉X.fs/\∀v,p.2.data≠.cell v
 hok:HOk X.prog X.w H s.heap
 len:σ.length=X.N.length
section
variable {X:Cx}{pins:List (Addr×Obj)}{σ:List (Option V)}{H H':Hp}{s:Shared}{h':Heap}
theorem Cx.Ok.nofr (ok:X.Ok){b:Addr}{o:Obj}(e:X.base.get? b=some o):b∉X.fs:=fun hb=>by
 have:=(ok.funs.mem hb).1
 rw [e] at this;cases this
theorem Inv.bs (I:Inv X pins σ H s):∀b o,X.base.get? b=some o->s.heap.get? b=some o/\H b=none:=fun b o e=>
 ⟨I.base.keep b o (I.ok.bs b o e).1 (I.ok.bs b o e).2 (I.ok.nofr e) (I.ok.noex b o e),I.base.free b o (I.ok.bs b o e).1 (I.ok.bs b o e).2 (I.ok.noex b o e)⟩
theorem Inv.bk (I:Inv X pins σ H s):∀b o,X.base.get? b=some o->s.heap.get? b=some o:=fun b o e=>(I.bs b o e).1
theorem Inv.mod (I:Inv X pins σ H s):Mod X.K X.mg X.base:=I.ok.mod
theorem Inv.kIn (I:Inv X pins σ H s):X.K.In s.heap:=I.ok.mod.kin.keeps I.bk
theorem Inv.fr (I:Inv X pins σ H s):∃m,Fr X.base X.env.locals s.heap m:=
 let ⟨m,hn,_⟩:=I.loc
 ⟨m,hn,I.bk,Nat.le_trans I.ok.bsz I.ok.above⟩
theorem Inv.lt (I:Inv X pins σ H s):X.env.locals < s.heap.objs.size:=let ⟨_,hn,_⟩:=I.loc;hn.lt
theorem Inv.sz (I:Inv X pins σ H s):X.s₀.heap.objs.size<=s.heap.objs.size:=Nat.le_trans I.ok.above (Nat.le_of_lt I.lt)
theorem Inv.nofs (I:Inv X pins σ H s){a:Addr}(h:s.heap.objs.size<=a):a∉X.fs:=fun hb=>by
 obtain ⟨_,o,ho,_⟩:=I.ok.funs.mem hb
 exact absurd (Nat.lt_of_lt_of_le (Heap.lt_size ho) (Nat.le_trans I.sz h)) (Nat.lt_irrefl _)
theorem Inv.cne (I:Inv X pins σ H s):∀x c,X.env.cells.lookup x=some c->c≠X.env.locals:=fun x c e z=>by
 obtain ⟨v,o,ho,hd⟩:=I.cell x c e
 obtain ⟨m,⟨o',es,ep,ho',hd',_⟩,_⟩:=I.loc
 rw [z,ho'] at ho;cases ho;rw [hd'] at hd;cases hd
theorem Inv.funs (I:Inv X pins σ H s):s.heap.FunFrames X.base X.outer:=by
 have all:∀(l:List Env),(∀b∈frs l,b∈X.fs)->X.s₀.heap.FunFrames X.base l->s.heap.FunFrames X.base l:=by
  intro l
  induction l with
  | nil=>intro _ _;trivial
  | cons env r ih=>
   intro hs hl
   obtain ⟨hk,⟨L,o,hf,hn,ho,hd⟩,hr⟩:=hl
   have hL:L∈X.fs:=hs L (by unfold frs;rw [List.filterMap_cons,hf];exact List.mem_cons_self)
   obtain ⟨sl,e⟩:=I.base.slot L o ho (I.ok.frf L hL) hL fun z=>I.ok.exfs L z hL
   exact ⟨hk,⟨L,_,hf,hn,e,hd⟩,ih (fun b hb=>hs b (by unfold frs;rw [List.filterMap_cons,hf];exact List.mem_cons_of_mem _ hb)) hr⟩
 exact all X.outer (fun _ hb=>hb) I.ok.funs
theorem Inv.stack (I:Inv X pins σ H s):s.heap.FunFrames X.base X.stack:=by
 rcases I.ok.stk with e | ⟨e,hf⟩
 ·rw [e];exact I.funs
 ·rw [e]
  obtain ⟨m,hn,_⟩:=I.loc
  refine .cons (by rw [I.ok.kind];decide) hf hn ?_ I.funs
  exact Heap.get?_none_of_le (Nat.le_trans I.ok.bsz I.ok.above)
theorem Inv.stkSub (I:Inv X pins σ H s):∀b∈frs X.stack,b∈X.env.locals::X.fs:=fun b hb=>by
 rcases I.ok.stk with e | ⟨e,hf⟩
 ·rw [e] at hb;exact List.mem_cons_of_mem _ hb
 ·rw [e] at hb
  unfold frs at hb
  rw [List.filterMap_cons,hf] at hb
  exact hb
theorem Inv.stkFree (I:Inv X pins σ H s):∀b∈frs X.stack,H b=none:=fun b hb=>by
 rcases List.mem_cons.mp (I.stkSub b hb) with e | hb
 ·rw [e];exact I.free
 ·obtain ⟨_,o,ho,_⟩:=I.ok.funs.mem hb
  exact I.base.free b o ho (I.ok.frf b hb) fun z=>I.ok.exfs b z hb
theorem Inv.step {g':Array GenState}{t':Nat}{d':Drawn}{ch:List Addr}(I:Inv X pins σ H s)
  (hch:∀b∈ch,(b∈X.ex\/X.s₀.heap.objs.size<=b)/\b≠X.env.locals/\(∀x c,X.env.cells.lookup x=some c->c≠b)/\∀p∈X.pn++pins,p.1≠b)
  (keep:∀b o,b≠X.env.locals->b∉X.fs->b∉ch->s.heap.get? b=some o->H b=none->h'.get? b=some o)
  (slot:∀b o,b≠X.env.locals->b∈X.fs->b∉ch->s.heap.get? b=some o->H b=none->∃sl,h'.get? b=some {o with slots:=sl}) (free:∀b o,b∉ch->s.heap.get? b=some o->H b=none->H' b=none)
  (there:∀b o,b∉ch->s.heap.get? b=some o->∃o',h'.get? b=some o')
  (tups:∀b xs,H b=some (.tup xs)->H' b=some (.tup xs)) (frzs:∀b o u,H b=some (.frz o u)->H' b=some (.frz o u)) (tbls:∀b ps,H b=some (.tbl ps)->∃more,H' b=some (.tbl (ps++more)))
  (ns:∀m,s.heap.Ns X.env.locals m->h'.Ns X.env.locals m) (hok:HOk X.prog X.w H' h') (hg:AllBare g') :
  Inv X pins σ H' {s with heap:=h',gens:=g',drawn:=d',toks:=t'}:=by
 have neL:∀b o,X.s₀.heap.get? b=some o->b≠X.env.locals:=fun b o e=>Nat.ne_of_lt (Nat.lt_of_lt_of_le (Heap.lt_size e) I.ok.above)
 have neC:∀b o,X.s₀.heap.get? b=some o->b∉X.ex->b∉ch:=fun b o e hx hb=>by
  rcases (hch b hb).1 with z | z
  ·exact hx z
  ·exact absurd (Nat.lt_of_lt_of_le (Heap.lt_size e) z) (Nat.lt_irrefl _)
 have cellK:∀x c,X.env.cells.lookup x=some c->∀v,s.heap.IsCell c v->h'.IsCell c v:=fun x c e v ⟨o,ho,hd⟩=>by
  have nch:c∉ch:=fun z=>(hch c z).2.2.1 x c e rfl
  by_cases hc:c∈X.fs
  ·obtain ⟨sl,q⟩:=slot c o (I.cne x c e) hc nch ho (I.freeC x c e)
   exact ⟨_,q,hd⟩
  ·exact ⟨o,keep c o (I.cne x c e) hc nch ho (I.freeC x c e),hd⟩
 refine ⟨I.ok,I.os,hg,⟨fun b o e n hb hx=>?_,fun b o e n hb hx=>?_,fun b o e n hx=>?_,fun b o e hx=>?_,fun b xs e=>tups b xs (I.base.tups b xs e),fun b o xs e=>frzs b o xs (I.base.frzs b o xs e),fun b ps e=>?_⟩,?_,fun x c e=>?_,?_,fun x c e=>?_,fun p hp=>?_,hok,I.len⟩
 ·exact keep b o (neL b o e) hb (neC b o e hx) (I.base.keep b o e n hb hx) (I.base.free b o e n hx)
 ·obtain ⟨sl,e1⟩:=I.base.slot b o e n hb hx
  obtain ⟨sl',e2⟩:=slot b _ (neL b o e) hb (neC b o e hx) e1 (I.base.free b o e n hx)
  exact ⟨sl',e2⟩
 ·obtain ⟨o',e1⟩:=I.base.there b o e hx
  exact free b o' (neC b o e hx) e1 (I.base.free b o e n hx)
 ·obtain ⟨o',e1⟩:=I.base.there b o e hx
  exact there b o' (neC b o e hx) e1
 ·obtain ⟨m1,e1⟩:=I.base.tbls b ps e
  obtain ⟨m2,e2⟩:=tbls b _ e1
  exact ⟨m1++m2,by rw [e2,Array.append_assoc]⟩
 ·obtain ⟨m,hn,hl⟩:=I.loc
  refine ⟨m,ns m hn,fun i x v e1 e2 e3=>?_⟩
  obtain ⟨u,r,l⟩:=hl i x v e1 e2 e3
  refine ⟨u,r,?_⟩
  rcases l with l | ⟨k,c,e,z⟩
  ·exact .inl l
  ·exact .inr ⟨k,c,e,cellK x c e _ z⟩
 ·obtain ⟨v,z⟩:=I.cell x c e
  exact ⟨v,cellK x c e v z⟩
 ·obtain ⟨m,⟨o,_,_,ho,_⟩,_⟩:=I.loc
  exact free _ o (fun z=>(hch _ z).2.1 rfl) ho I.free
 ·obtain ⟨v,o,ho,hd⟩:=I.cell x c e
  exact free c o (fun z=>(hch c z).2.2.1 x c e rfl) ho (I.freeC x c e)
 ·obtain ⟨e,n,ne,nf,d⟩:=I.pin p hp
  have nch:p.1∉ch:=fun z=>(hch p.1 z).2.2.2 p hp rfl
  exact ⟨keep p.1 p.2 ne nf nch e n,free p.1 p.2 nch e n,ne,nf,d⟩
theorem Inv.un {t':Nat}(I:Inv X pins σ H s)(u:Un X.fs [] H H' s.heap h')(hok:HOk X.prog X.w H' h'):Inv X pins σ H' {s with heap:=h',toks:=t'}:=by
 obtain ⟨m,⟨o,es,ep,ho,r⟩,_⟩:=id I.loc
 obtain ⟨sl,hL⟩:=u.any ho I.free (by simp)
 exact I.step (g':=s.gens) (d':=s.drawn) (ch:=[]) (fun _ z=>nomatch z) (fun b o _ hb _ e n=>u.keep b o e n hb (by simp)) (fun b o _ hb _ e n=>u.slot b o e n hb (by simp)) (fun b o _ e n=>u.free b o e n (by simp)) (fun b o _ e=>u.there b o e (by simp)) u.tups u.frzs u.tbls (fun m' hm=>by
  obtain ⟨o',es',ep',ho',r'⟩:=hm
  rw [ho] at ho';cases ho'
  exact ⟨_,es',ep',hL,r'⟩) hok I.bare
theorem Inv.call {g':Array GenState}{t':Nat}{d':Drawn}{ch:List Addr}(I:Inv X pins σ H s)(u:Un (frs X.stack) ch H H' s.heap h')(hok:HOk X.prog X.w H' h')(hg:AllBare g')
  (hch:∀b∈ch,(b∈X.ex\/X.s₀.heap.objs.size<=b)/\b≠X.env.locals/\(∀x c,X.env.cells.lookup x=some c->c≠b)/\∀p∈X.pn++pins,p.1≠b) :
  Inv X pins σ H' {s with heap:=h',gens:=g',drawn:=d',toks:=t'}:=by
 obtain ⟨m,⟨o,es,ep,ho,r⟩,_⟩:=id I.loc
 obtain ⟨sl,hL⟩:=u.any ho I.free fun z=>(hch _ z).2.1 rfl
 exact I.step (ch:=ch) hch (fun b o hL hb hc e n=>u.keep b o e n (fun z=>(List.mem_cons.mp (I.stkSub b z)).elim hL hb) hc) (fun b o _ _ hc e n=>u.any e n hc) (fun b o hc e n=>u.free b o e n hc) (fun b o hc e=>u.there b o e hc) u.tups u.frzs u.tbls (fun m' hm=>by
  obtain ⟨o',es',ep',ho',r'⟩:=hm
  rw [ho] at ho';cases ho'
  exact ⟨_,es',ep',hL,r'⟩) hok hg
theorem Inv.turned {t':Nat}{it:Addr}(I:Inv X pins σ H s)(k:∀b o,b≠it->s.heap.get? b=some o->h'.get? b=some o)(hn:H it=none)(hL:it≠X.env.locals)
  (h1:it∈X.ex\/X.s₀.heap.objs.size<=it) (h2:∀x c,X.env.cells.lookup x=some c->c≠it) (h3:∀p∈X.pn++pins,p.1≠it):Inv X pins σ H {s with heap:=h',toks:=t'}:=by
 have nit:∀b u,H b=some u->b≠it:=fun b u e z=>by rw [z,hn] at e;cases e
 refine I.step (g':=s.gens) (d':=s.drawn) (ch:=[it]) (fun b hb=>?_) (fun b o _ _ hc e _=>k b o (fun z=>hc (by simp [z])) e) (fun b o _ _ hc e _=>⟨o.slots,k b o (fun z=>hc (by simp [z])) e⟩) (fun _ _ _ _ n=>n)
  (fun b o hc e=>⟨o,k b o (fun z=>hc (by simp [z])) e⟩) (fun _ _ e=>e) (fun _ _ _ e=>e) (fun b ps e=>⟨#[],by rw [e];simp⟩) (fun m hm=>?_) (fun b u e=>?_) I.bare
 ·have e:b=it:=by simpa using hb
  subst e
  exact ⟨h1,hL,h2,h3⟩
 ·obtain ⟨o,es,ep,ho,r⟩:=hm
  exact ⟨o,es,ep,k _ o (Ne.symm hL) ho,r⟩
 ·refine (I.hok b u e).stay (fun c v hc q=>k c v ?_ q) (fun _ q=>q) fun _ _ q=>q
  rcases hc with z | z
  ·rw [z];exact nit b u e
  ·exact nit c _ z
theorem Inv.tok (I:Inv X pins σ H s)(t:Nat):Inv X pins σ H {s with toks:=t}:=I.un (h':=s.heap) (t':=t) Un.refl I.hok
theorem Inv.kept {t':Nat}(I:Inv X pins σ H s)(k:∀b u,s.heap.get? b=some u->h'.get? b=some u):Inv X pins σ H {s with heap:=h',toks:=t'}:=I.un (Un.kept k) (I.hok.kept k)
theorem Inv.laid {a:Addr}{o:HO}{t':Nat}(I:Inv X pins σ H s)(k:∀b u,s.heap.get? b=some u->h'.get? b=some u)(hp:s.heap.objs.size<=a)(new:gj X.prog X.w (upd H a o) h' a o) :
  Inv X pins σ (upd H a o) {s with heap:=h',toks:=t'}:=I.un (Un.laid k hp (I.hok.fresh hp)) (I.hok.laid k hp new)
theorem Inv.write {x e:Addr}{o:HO}{t':Nat}(I:Inv X pins σ H s)(mu:Mut (H x))(he:e=x\/H e=some (.own x))(k:∀b u,b≠e->s.heap.get? b=some u->h'.get? b=some u)(heo:∃u,h'.get? e=some u)
  (new:gj X.prog X.w (upd H x o) h' x o):Inv X pins σ (upd H x o) {s with heap:=h',toks:=t'}:=I.un (Un.write mu he k heo) (I.hok.write mu he k heo new)
theorem Inv.weak {σ':List (Option V)}(I:Inv X pins σ H s)(hl:σ'.length=σ.length)(w:∀(i:Nat) v,σ'[i]?=some (some v)->σ[i]?=some (some v)):Inv X pins σ' H s:=
 ⟨I.ok,I.os,I.bare,I.base,let ⟨m,hn,hl'⟩:=I.loc;⟨m,hn,fun i x v e1 e2 e3=>hl' i x v e1 (w i v e2) e3⟩,I.cell,I.free,I.freeC,I.pin,I.hok,hl.trans I.len⟩
theorem Inv.pins_of {pins':List (Addr×Obj)}(I:Inv X pins σ H s)(h:∀p∈pins',s.heap.get? p.1=some p.2/\H p.1=none/\p.1≠X.env.locals/\p.1∉X.fs/\∀v,p.2.data≠.cell v):Inv X pins' σ H s:=
 ⟨I.ok,I.os,I.bare,I.base,I.loc,I.cell,I.free,I.freeC,fun p hp=>(List.mem_append.mp hp).elim (fun z=>I.pin p (List.mem_append_left _ z)) (h p),I.hok,I.len⟩
theorem zU {N:List Str}(hN:N.Nodup){i j:Nat}{x:Str}(a:N[i]?=some x)(b:N[j]?=some x):i=j:=by
 obtain ⟨h1,e1⟩:=List.getElem?_eq_some_iff.mp a
 obtain ⟨h2,e2⟩:=List.getElem?_eq_some_iff.mp b
 exact (List.getElem_inj hN).mp (e1.trans e2.symm)
theorem xY {M:Model}{A:Around}{E:Value->Shared->Prop}{i:Nat}{x:Str}{v:V}{u:Value}{Q:Unit->Shared->Prop}(I:Inv X pins σ H s)(hN:X.N.Nodup)(hi:X.N[i]?=some x)(hx:Loc X.env.scope x)(r:cq v u)
  (h:∀s',Inv X pins (σ.set i (some v)) H s'->(∃a,Heap.SameBut a s.heap s'.heap/\(a=X.env.locals\/X.env.cells.lookup x=some a))->Q () s') (hf:X.fn x=true\/X.env.scope.names.lookup x=some .local:=by first | exact .inl rfl | exact .inr rfl | assumption):wpAny M A (storeName X.env x u) Q E s:=by
 obtain ⟨m,hn,hl⟩:=id I.loc
 have hcls:(X.env.scope.kind == .class || (X.env.scope.kind == .module && X.env.locals != X.env.globals))=false:=by rw [I.ok.kind];rfl
 have hiσ:i < σ.length:=by rw [I.len];exact (List.getElem?_eq_some_iff.mp hi).1
 have cne:=I.cne
 have tracked:∀{a:Addr} {h':Heap},(∃o,s.heap.get? a=some o/\H a=none)->Heap.SameBut a s.heap h'->HOk X.prog X.w H h':=fun {a h'} ha hs b ob e=>by
  obtain ⟨_,_,hfree⟩:=ha
  refine (I.hok b ob e).stay (fun c w' hc q=>(hs.2 c ?_).trans q) (fun _ q=>q) fun _ _ q=>q
  rintro rfl
  rcases hc with rfl | hc
  ·rw [hfree] at e;cases e
  ·rw [hfree] at hc;cases hc
 rcases hx with hk | hk
 ·refine wpAny_storeName_local hk hn (fun h' hn' hs=>?_) hcls
  obtain ⟨oL,_,_,hoL,_⟩:=id hn
  refine h _ ⟨I.ok,I.os,I.bare,⟨fun b o e n hb hx=>?_,fun b o e n hb hx=>?_,I.base.free,fun b o e hx=>?_,I.base.tups,I.base.frzs,I.base.tbls⟩,⟨_,hn',fun j y v' e1 e2 e3=>?_⟩,fun y c e=>?_,I.free,I.freeC,fun p hp=>?_,tracked ⟨oL,hoL,I.free⟩ hs,by simpa using I.len⟩ ⟨_,hs,.inl rfl⟩
  ·exact (hs.2 b (Nat.ne_of_lt (Nat.lt_of_lt_of_le (Heap.lt_size e) I.ok.above))).trans (I.base.keep b o e n hb hx)
  ·obtain ⟨sl,e1⟩:=I.base.slot b o e n hb hx
   exact ⟨sl,(hs.2 b (Nat.ne_of_lt (Nat.lt_of_lt_of_le (Heap.lt_size e) I.ok.above))).trans e1⟩
  ·obtain ⟨o',e1⟩:=I.base.there b o e hx
   exact ⟨o',(hs.2 b (Nat.ne_of_lt (Nat.lt_of_lt_of_le (Heap.lt_size e) I.ok.above))).trans e1⟩
  ·by_cases hj:j=i
   ·subst hj
    rw [hi] at e1;cases e1
    rw [List.getElem?_set_self hiσ] at e2
    cases e2
    exact ⟨u,r,.inl ⟨hk,by simp⟩⟩
   ·rw [List.getElem?_set_ne (Ne.symm hj)] at e2
    obtain ⟨u',r',q⟩:=hl j y v' e1 e2 e3
    refine ⟨u',r',?_⟩
    rcases q with ⟨k,e⟩ | ⟨k,c,e,z⟩
    ·refine .inl ⟨k,?_⟩
     have:y≠x:=fun e=>hj (zU hN e1 (e▸hi))
     simp [this,e]
    ·exact .inr ⟨k,c,e,z.sameBut hs (cne y c e)⟩
  ·obtain ⟨w',z⟩:=I.cell y c e
   exact ⟨w',z.sameBut hs (cne y c e)⟩
  ·obtain ⟨e,n,ne,nf,d⟩:=I.pin p hp
   exact ⟨(hs.2 p.1 ne).trans e,n,ne,nf,d⟩
 ·have hfn:X.fn x=true:=by
   rcases hf with z | z
   ·exact z
   ·rw [z] at hk;cases hk
  obtain ⟨c,hc⟩:=I.ok.has x (.inl hk)
  obtain ⟨w',z⟩:=I.cell x c hc
  refine wpAny_storeName_cell I.ok.kind hk hc z (fun h' hc' hs=>?_)
  obtain ⟨oc,hoc,hocd⟩:=id z
  refine h {s with heap:=h'} ⟨I.ok,I.os,I.bare,⟨fun b o e n hb hx=>?_,fun b o e n hb hx=>?_,I.base.free,fun b o e hx=>?_,I.base.tups,I.base.frzs,I.base.tbls⟩,⟨m,hn.sameBut hs (Ne.symm (cne x c hc)),fun j y v' e1 e2 e3=>?_⟩,fun y c' e=>?_,I.free,I.freeC,fun p hp=>?_,tracked ⟨oc,hoc,I.freeC x c hc⟩ hs,by simpa using I.len⟩ ⟨c,hs,.inr hc⟩
  ·exact (hs.2 b (Nat.ne_of_lt (Nat.lt_of_lt_of_le (Heap.lt_size e) (I.ok.cab x c hfn hc)))).trans (I.base.keep b o e n hb hx)
  ·obtain ⟨sl,e1⟩:=I.base.slot b o e n hb hx
   exact ⟨sl,(hs.2 b (Nat.ne_of_lt (Nat.lt_of_lt_of_le (Heap.lt_size e) (I.ok.cab x c hfn hc)))).trans e1⟩
  ·obtain ⟨o',e1⟩:=I.base.there b o e hx
   exact ⟨o',(hs.2 b (Nat.ne_of_lt (Nat.lt_of_lt_of_le (Heap.lt_size e) (I.ok.cab x c hfn hc)))).trans e1⟩
  ·by_cases hj:j=i
   ·subst hj
    rw [hi] at e1;cases e1
    rw [List.getElem?_set_self hiσ] at e2
    cases e2
    exact ⟨u,r,.inr ⟨.inl hk,c,hc,hc'⟩⟩
   ·rw [List.getElem?_set_ne (Ne.symm hj)] at e2
    obtain ⟨u',r',q⟩:=hl j y v' e1 e2 e3
    refine ⟨u',r',?_⟩
    rcases q with q | ⟨k,c',e,z'⟩
    ·exact .inl q
    ·refine .inr ⟨k,c',e,z'.sameBut hs ?_⟩
     rintro rfl
     exact hj (zU hN e1 (I.ok.inj _ _ _ e hc▸hi))
  ·by_cases hcc:c'=c
   ·subst hcc;exact ⟨_,hc'⟩
   ·obtain ⟨w2,z2⟩:=I.cell y c' e
    exact ⟨w2,z2.sameBut hs hcc⟩
  ·obtain ⟨e,n,ne,nf,d⟩:=I.pin p hp
   refine ⟨(hs.2 p.1 ?_).trans e,n,ne,nf,d⟩
   intro q
   rw [q,hoc] at e
   have q':oc=p.2:=Option.some.inj e
   exact d w' (by rw [←q'];exact hocd)
theorem oo {M:Model}{A:Around}{E:Value->Shared->Prop}{i:Nat}{x:Str}{v:V}{u:Value}{Q:Unit->Shared->Prop}(I:Inv X pins σ H s)(hN:X.N.Nodup)(hi:X.N[i]?=some x)(hx:Loc X.env.scope x)(r:cq v u)
  (h:∀s',Inv X pins (σ.set i (some v)) H s'->Q () s') (hf:X.fn x=true\/X.env.scope.names.lookup x=some .local:=by first | exact .inl rfl | exact .inr rfl | assumption):wpAny M A (storeName X.env x u) Q E s:=
 xY I hN hi hx r (fun s' I' _=>h s' I') hf
theorem Inv.call' {s':Shared}{ch:List Addr}(I:Inv X pins σ H s)(ho:s'.os=s.os)(u:Un (frs X.stack) ch H H' s.heap s'.heap)(hok:HOk X.prog X.w H' s'.heap)(hg:AllBare s'.gens)
  (hch:∀b∈ch,(b∈X.ex\/X.s₀.heap.objs.size<=b)/\b≠X.env.locals/\(∀x c,X.env.cells.lookup x=some c->c≠b)/\∀p∈X.pn++pins,p.1≠b):Inv X pins σ H' s':=by
 obtain ⟨h',g',d',t',o'⟩:=s'
 have e:o'=s.os:=ho
 subst e
 exact I.call (g':=g') (t':=t') (d':=d') u hok hg hch
end
noncomputable abbrev XK:=Value->Option Addr->Hp->Prop
noncomputable abbrev St:=List (Option V)
noncomputable abbrev VK:=V->Hp->Prop
noncomputable abbrev TE:=St->Hp->VK->Prop
noncomputable abbrev TT:=St->Hp->(Bool->Hp->Prop)->Prop
noncomputable abbrev TA:=St->Hp->(List V->Hp->Prop)->Prop
structure mY where
 nx:St->Hp->Prop
 rt:VK
 bk:St->Hp->Prop:=fun _ _=>False
 ct:St->Hp->Prop:=fun _ _=>False
noncomputable abbrev TS:=mY->St->Hp->Prop
def EP (X:Cx)(pins:List (Addr×Obj))(σ:St)(Q:VK)(u:Value)(s':Shared):Prop:=∃v H',Inv X pins σ H' s'/\cq v u/\Q v H'
def TP (X:Cx)(pins:List (Addr×Obj))(σ:St)(Q:Bool->Hp->Prop)(b:Bool)(s':Shared):Prop:=∃H',Inv X pins σ H' s'/\Q b H'
def AP (X:Cx)(pins:List (Addr×Obj))(σ:St)(Q:List V->Hp->Prop)(us:List Value)(s':Shared):Prop:=∃vs H',Inv X pins σ H' s'/\bJ vs us/\Q vs H'
def SP (X:Cx)(pins:List (Addr×Obj))(D:mY)(f:Flow)(s':Shared):Prop:=
 match f with
 | .next=>∃σ' H',Inv X pins σ' H' s'/\D.nx σ' H'
 | .brk=>∃σ' H',Inv X pins σ' H' s'/\D.bk σ' H'
 | .cont=>∃σ' H',Inv X pins σ' H' s'/\D.ct σ' H'
 | .ret u=>∃v σ' H',Inv X pins σ' H' s'/\cq v u/\D.rt v H'
def PE (X:Cx)(e:Expr)(t:TE):Prop:=
 ∀(pins:List (Addr×Obj)) (s:Shared) (σ:St) (H:Hp) (Q:VK),Inv X pins σ H s->t σ H Q->wpAny (model X.prog X.w) X.A (eval e X.env) (EP X pins σ Q) X.xe s
def PT (X:Cx)(e:Expr)(t:TT):Prop:=
 ∀(pins:List (Addr×Obj)) (s:Shared) (σ:St) (H:Hp) (Q:Bool->Hp->Prop),Inv X pins σ H s->t σ H Q->wpAny (model X.prog X.w) X.A (isTrue e X.env (eval e X.env)) (TP X pins σ Q) X.xe s
def PW (X:Cx)(e:Expr)(t:TT):Prop:=
 ∀(cv:Sem Value) (pins:List (Addr×Obj)) (s:Shared) (σ:St) (H:Hp) (Q:Bool->Hp->Prop),Inv X pins σ H s->t σ H Q->wpAny (model X.prog X.w) X.A (isTrue e X.env cv) (TP X pins σ Q) X.xe s
theorem PW.pt {X:Cx}{e:Expr}{t:TT}(h:PW X e t):PT X e t:=h _
def PA (X:Cx)(es:List Expr)(t:TA):Prop:=
 ∀(pos:Pos) (pins:List (Addr×Obj)) (s:Shared) (σ:St) (H:Hp) (Q:List V->Hp->Prop),Inv X pins σ H s->t σ H Q->wpAny (model X.prog X.w) X.A (spliced (backTo pos (starEach es X.env))) (AP X pins σ Q) X.xe s
def PS (X:Cx)(st:Stmt)(t:TS):Prop:=
 ∀(pins:List (Addr×Obj)) (s:Shared) (σ:St) (H:Hp) (D:mY),Inv X pins σ H s->t D σ H->wpAny (model X.prog X.w) X.A (exec st X.env) (SP X pins D) X.xe s
def PSs (X:Cx)(st:List Stmt)(t:TS):Prop:=
 ∀(pins:List (Addr×Obj)) (s:Shared) (σ:St) (H:Hp) (D:mY),Inv X pins σ H s->t D σ H->wpAny (model X.prog X.w) X.A (execs st X.env) (SP X pins D) X.xe s
theorem thn {α:Type}{t:Sem α}{Q Q':α->Shared->Prop}{M:Model}{A:Around}{E:Value->Shared->Prop}{s:Shared}(h:wpAny M A t Q E s)(hQ:∀a s,Q a s->Q' a s):wpAny M A t Q' E s:=wpAny_mono h hQ fun _ _ x=>x
section
variable {X:Cx}
theorem bin {a b:Expr}{ta tb:TE}(ha:PE X a ta)(hb:PE X b tb){pins:List (Addr×Obj)}{s:Shared}{σ:St}{H:Hp}{R:V->V->Hp->Prop}(I:Inv X pins σ H s)(h:ta σ H fun x H1=>tb σ H1 fun y H2=>R x y H2)
  {α:Type} {Q:α->Shared->Prop} {f:Value->Value->Sem α}
  (hf:∀v u s2 x y H2,Inv X pins σ H2 s2->cq x v->cq y u->R x y H2->wpAny (model X.prog X.w) X.A (f v u) Q X.xe s2) :
  wpAny (model X.prog X.w) X.A (eval a X.env) (fun v s₁=>wpAny (model X.prog X.w) X.A (eval b X.env) (fun u s₂=>wpAny (model X.prog X.w) X.A (f v u) Q X.xe s₂) X.xe s₁) X.xe s:=by
 refine thn (ha pins s σ H _ I h) fun v s1 ⟨x,H1,I1,r1,q1⟩=>?_
 refine thn (hb pins s1 σ H1 _ I1 q1) fun u s2 ⟨y,H2,I2,r2,q2⟩=>?_
 exact hf v u s2 x y H2 I2 r1 r2 q2
noncomputable def ON (i:Nat):TE:=fun σ H Q=>∃v,σ[i]?=some (some v)/\Q v H
noncomputable def tC (v:V):TE:=fun _ H Q=>Q v H
theorem OO {i:Nat}{x:Str}{pos:Pos}(hN:X.N[i]?=some x)(hv:Vis X.env.scope x)(hd:(x == ("__debug__":Str))=false:=by decide)(hcd:(x == ("__classdict__":Str))=false:=by decide):PE X (.Name x pos) (ON i):=by
 intro pins s σ H Q I h
 obtain ⟨v,e,h⟩:=h
 obtain ⟨m,hn,hl⟩:=I.loc
 obtain ⟨u,r,l⟩:=hl i x v hN e hv
 have fin:EP X pins σ Q u s:=⟨v,H,I,r,h⟩
 rcases l with ⟨hk,hm⟩ | ⟨hk,c,hc,hcell⟩
 ·exact wpAny_Name (wpAny_loadName_local I.ok.kind hk hn hm fin) hd
 ·rcases hk with hk | hk
  ·exact wpAny_Name (wpAny_loadName_cell I.ok.kind hk hc hcell fin) hd
  ·exact wpAny_Name (wpAny_loadName_free I.ok.kind hk hc hcell fin hcd) hd
theorem ah {i j pos}:PE X (.Constant (.int i) j pos) (tC (.int i)):=fun _ _ _ H _ I h=>wpAny_Constant_int ⟨.int i,H,I.tok _,⟨_,rfl⟩,h⟩
theorem ft {b j pos}:PE X (.Constant (.bool b) j pos) (tC (.bl b)):=fun _ _ _ H _ I h=>Constant_bool ⟨.bl b,H,I,rfl,h⟩
theorem gf {j pos}:PE X (.Constant .none j pos) (tC .non):=fun _ _ _ H _ I h=>Constant_none ⟨.non,H,I,rfl,h⟩
theorem aR {x j pos}:PE X (.Constant (.str x) j pos) (tC (.str x)):=fun _ _ _ H _ I h=>Calls.Constant_str ⟨.str x,H,I.tok _,⟨_,rfl⟩,h⟩
def Gl (X:Cx)(x:Str):Prop:=X.env.kindOf x=some .globalImplicit
theorem vP {E:Value->Shared->Prop}{pins:List (Addr×Obj)}{s:Shared}{σ:St}{H:Hp}{x:Str}{u:Value}{pos:Pos}{Q:Value->Shared->Prop}(I:Inv X pins σ H s)(hg:Gl X x)(hm:X.mg x=some u)(h:Q u s)
  (hd:(x == ("__debug__":Str))=false:=by decide):wpAny (model X.prog X.w) X.A (eval (.Name x pos) X.env) Q E s:=
 Calls.Name_function_global I.ok.kind hg (Calls.loadGlobal_global (by rw [I.ok.glob];exact I.mod.glob.keeps I.bk) hm h) hd
theorem vo {E:Value->Shared->Prop}{pins:List (Addr×Obj)}{s:Shared}{σ:St}{H:Hp}{x:Str}{u:Value}{pos:Pos}{Q:Value->Shared->Prop}(I:Inv X pins σ H s)(hg:Gl X x)(hm:X.mg x=none)(hv:bootBuiltins x=some u)(h:Q u s)
  (hn:x≠"__name__":=by decide) (hd:(x == ("__debug__":Str))=false:=by decide):wpAny (model X.prog X.w) X.A (eval (.Name x pos) X.env) Q E s:=by
 obtain ⟨mb,h1,h2⟩:=I.mod.blt
 exact Calls.Name_function_global I.ok.kind hg (Calls.loadGlobal_builtin (by rw [I.ok.glob];exact I.mod.glob.keeps I.bk) hm (by rw [I.ok.blt];exact h1.keeps I.bk) ((h2 x hn).trans hv) h) hd
theorem DV {x:Str}{v:V}{u:Value}{pos:Pos}(hg:Gl X x)(hm:X.mg x=some u)(r:cq v u)(hd:(x == ("__debug__":Str))=false:=by decide):PE X (.Name x pos) (tC v):=
 fun _ _ _ H _ I h=>vP I hg hm ⟨v,H,I,r,h⟩ hd
theorem eO {x:Str}{v:V}{u:Value}{pos:Pos}(hg:Gl X x)(hm:X.mg x=none)(hv:bootBuiltins x=some u)(r:cq v u)(hn:x≠"__name__":=by decide)(hd:(x == ("__debug__":Str))=false:=by decide):PE X (.Name x pos) (tC v):=
 fun _ _ _ H _ I h=>vo I hg hm hv ⟨v,H,I,r,h⟩ hn hd
variable {a b:Expr}{ta tb:TE}{pos:Pos}
def PC (X:Cx)(op:CmpOp)(a b:Expr)(t:TE):Prop:=
 ∀(pins:List (Addr×Obj)) (s:Shared) (σ:St) (H:Hp) (Q:VK),Inv X pins σ H s->t σ H Q->
  wpAny (model X.prog X.w) X.A (eval a X.env) (fun v s₁=>wpAny (model X.prog X.w) X.A (eval b X.env) (fun u s₂=>wpAny (model X.prog X.w) X.A (compareOp op v u) (EP X pins σ Q) X.xe s₂) X.xe s₁) X.xe s
theorem Kh (b:Expr){op:CmpOp}(h:op≠.In)(h2:op≠.NotIn):behindInMarks op b=false:=by
 have e1:(op == CmpOp.In)=false:=by cases op<;>first | rfl | exact absurd rfl h
 have e2:(op == CmpOp.NotIn)=false:=by cases op<;>first | rfl | exact absurd rfl h2
 cases b<;>simp [behindInMarks,e1,e2]
noncomputable def tB (t:TE):TT:=fun σ H Q=>t σ H fun x H1=>∃c,x=.bl c/\Q c H1
theorem Rt {op:CmpOp}{t:TE}(h:PC X op a b t)(h1:behindInMarks op b=false:=by first | exact Kh _ (by decide) (by decide) | rfl):PT X (.Compare a [op] [b] pos) (tB t):=by
 intro pins s σ H Q I hw
 refine wpAny_isTrue_Compare1 (thn (h pins s σ H _ I hw) fun v s1 h1=>thn h1 fun u s2 h2=>thn h2 fun c s3 ⟨x,H1,I1,r1,q1⟩=>?_) h1
 obtain ⟨d,rfl,q⟩:=q1
 cases r1
 exact wpAny_truthy_bool ⟨H1,I1,q⟩
theorem dj {e:Expr}{t:TE}(h:PE X e t)(he:∀cv,isTrue e X.env cv=(do let v ←cv;standAt e.pos;holding [v] (truthy v)):=by intro _;rfl):PT X e (tB t):=by
 intro pins s σ H Q I hw
 refine isTrue_plain (thn (h pins s σ H _ I hw) fun v s1 ⟨x,H1,I1,r1,q1⟩=>?_) (he _)
 obtain ⟨d,rfl,q⟩:=q1
 cases r1
 exact wpAny_truthy_bool ⟨H1,I1,q⟩
variable {tA tB':TT}{BB:List Expr}
noncomputable def Qm (t u:TT):TT:=fun σ H Q=>t σ H fun c H1=>if c=true then u σ H1 Q else Q false H1
noncomputable def tOr (t u:TT):TT:=fun σ H Q=>t σ H fun c H1=>if c=true then Q true H1 else u σ H1 Q
noncomputable def Qn (t:TT):TT:=fun σ H Q=>t σ H fun c H1=>Q (!c) H1
theorem lM (ha:PT X a tA):PW X (.BoolOp .And [a] pos) tA:=by
 intro wh pins s σ H Q I h
 refine isTrue_and (thn (ha pins s σ H Q I h) fun c s1 e=>?_)
 cases c with
 | true=>exact isTrue_and_nil e
 | false=>exact e
theorem jl (ha:PT X a tA):PW X (.BoolOp .Or [a] pos) tA:=by
 intro wh pins s σ H Q I h
 refine isTrue_or (thn (ha pins s σ H Q I h) fun c s1 e=>?_)
 cases c with
 | false=>exact isTrue_or_nil e
 | true=>exact e
theorem nZ (ha:PT X a tA)(hb:PW X (.BoolOp .And (b::BB) pos) tB'):PW X (.BoolOp .And (a::b::BB) pos) (Qm tA tB'):=by
 intro wh pins s σ H Q I h
 refine isTrue_and (thn (ha pins s σ H _ I h) fun c s1 ⟨H1,I1,q1⟩=>?_)
 cases c with
 | true=>exact hb wh pins s1 σ H1 Q I1 q1
 | false=>exact ⟨H1,I1,q1⟩
theorem kh (ha:PT X a tA)(hb:PW X (.BoolOp .Or (b::BB) pos) tB'):PW X (.BoolOp .Or (a::b::BB) pos) (tOr tA tB'):=by
 intro wh pins s σ H Q I h
 refine isTrue_or (thn (ha pins s σ H _ I h) fun c s1 ⟨H1,I1,q1⟩=>?_)
 cases c with
 | true=>exact ⟨H1,I1,q1⟩
 | false=>exact hb wh pins s1 σ H1 Q I1 q1
theorem eN (ha:PT X a tA):PT X (.UnaryOp .Not a pos) (Qn tA):=by
 intro pins s σ H Q I h
 exact isTrue_not (ha pins s σ H (fun c H1=>Q (!c) H1) I h)
noncomputable def NO (ta tb:TE):TE:=fun σ H Q=>ta σ H fun x H1=>∃c,x=.bl c/\if c=true then tb σ H1 Q else Q (.bl false) H1
noncomputable def Ru (ta tb:TE):TE:=fun σ H Q=>ta σ H fun x H1=>∃c,x=.bl c/\if c=true then Q (.bl true) H1 else tb σ H1 Q
noncomputable def NP (ta:TE):TE:=fun σ H Q=>ta σ H fun x H1=>∃c,x=.bl c/\Q (.bl (!c)) H1
theorem DW {op}{t:TE}(h:PE X a t):PE X (.BoolOp op [a] pos) t:=fun pins s σ H Q I hw=>BoolOp_one (h pins s σ H Q I hw)
theorem zV (ha:PE X a ta)(hb:PE X (.BoolOp .And (b::BB) pos) tb):PE X (.BoolOp .And (a::b::BB) pos) (NO ta tb):=by
 intro pins s σ H Q I h
 refine BoolOp_and (thn (ha pins s σ H _ I h) fun v s1 ⟨x,H1,I1,r1,q1⟩=>?_)
 obtain ⟨c,rfl,q1⟩:=q1
 cases r1
 refine wpAny_truthy_bool ?_
 cases c with
 | true=>exact hb pins s1 σ H1 Q I1 q1
 | false=>exact ⟨.bl false,H1,I1,rfl,q1⟩
theorem OP (ha:PE X a ta):PE X (.UnaryOp .Not a pos) (NP ta):=by
 intro pins s σ H Q I h
 refine UnaryOp_ (thn (ha pins s σ H _ I h) fun v s1 ⟨x,H1,I1,r1,q1⟩=>?_)
 obtain ⟨c,rfl,q1⟩:=q1
 cases r1
 exact not_of (wpAny_truthy_bool ⟨.bl (!c),H1,I1,rfl,q1⟩)
noncomputable def tIf (t:TT)(ta tb:TE):TE:=fun σ H Q=>t σ H fun c H1=>if c=true then ta σ H1 Q else tb σ H1 Q
theorem E1 {c:Expr}(hc:PT X c tA)(ha:PE X a ta)(hb:PE X b tb):PE X (.IfExp c a b pos) (tIf tA ta tb):=by
 intro pins s σ H Q I h
 refine wpAny_IfExp (thn (hc pins s σ H _ I h) fun d s1 ⟨H1,I1,q1⟩=>?_)
 cases d with
 | true=>exact ha pins s1 σ H1 Q I1 q1
 | false=>exact hb pins s1 σ H1 Q I1 q1
end
def SqL (K:PySem.W.Frag)(H:Hp)(a:Addr)(xs:List V):Prop:=
 Rd H a (.lst xs)\/
  ∃(o:Obj) (its:Array Value) (n:Nat),K.lookup a=some o/\o.cls=.type "list"/\o.dict=none/\o.data=.seq its n/\its.size<=sizeLine/\bJ xs its.toList
def SqT (K:PySem.W.Frag)(H:Hp)(a:Addr)(xs:List V):Prop:=
 Rd H a (.tup xs)\/
  ∃(o:Obj) (its:Array Value) (n:Nat),K.lookup a=some o/\o.cls=.type "tuple"/\o.data=.seq its n/\its.size<=sizeLine/\bJ xs its.toList
noncomputable def Rv:Value->Option V
 | .none=>some .non
 | .bool b=>some (.bl b)
 | .int i _=>some (.int i)
 | .str x _=>some (.str x)
 | .bytes b _=>some (.byt b)
 | .float b _=>some (.flt b)
 | .ref a=>some (.ref a)
 | .type n=>some (.ty n)
 | _=>none
theorem cq.abs {x:V}{u:Value}(r:cq x u):Rv u=some x:=by
 cases x with
 | non=>cases r;rfl
 | bl _=>cases r;rfl
 | int _=>obtain ⟨t,rfl⟩:=r;rfl
 | str _=>obtain ⟨t,rfl⟩:=r;rfl
 | byt _=>obtain ⟨t,rfl⟩:=r;rfl
 | flt _=>obtain ⟨t,rfl⟩:=r;rfl
 | ref _=>cases r;rfl
 | ty _=>cases r;rfl
theorem cq.inj {x y:V}{u:Value}(r:cq x u)(q:cq y u):x=y:=Option.some.inj (r.abs.symm.trans q.abs)
theorem bJ.inj:∀{xs ys:List V} {us:List Value},bJ xs us->bJ ys us->xs=ys
 | _,_,_,.nil,.nil=>rfl
 | _,_,_,.cons r t,.cons r' t'=>by rw [r.inj r',bJ.inj t t']
section
variable {X:Cx}{pins:List (Addr×Obj)}{σ:St}{H:Hp}{s:Shared}{a:Addr}{xs ys:List V}
theorem SqL.of {K:PySem.W.Frag}(h:H a=some (.lst xs)):SqL K H a xs:=.inl (.inl h)
theorem SqT.of {K:PySem.W.Frag}(h:H a=some (.tup xs)):SqT K H a xs:=.inl (.inl h)
theorem Inv.list (I:Inv X pins σ H s)(h:SqL X.K H a xs):∃its:List Value,bJ xs its/\PlainL s.heap a its.toArray/\xs.length<=sizeLine:=by
 rcases h with h | ⟨o,its,n,hk,hc,hd,hs,hz,r⟩
 ·obtain ⟨z,its,n,r,e⟩:=h.ok I.hok
  exact ⟨its,r,⟨_,n,e,rfl,rfl,rfl⟩,z⟩
 ·refine ⟨its.toList,r,⟨o,n,I.kIn a o hk,hc,hd,by simpa using hs⟩,?_⟩
  have e:=r.length
  simp only [Array.length_toList] at e
  omega
theorem Inv.tuple (I:Inv X pins σ H s)(h:SqT X.K H a xs):∃its:List Value,bJ xs its/\IsTup s.heap a its.toArray/\xs.length<=sizeLine:=by
 rcases h with h | ⟨o,its,n,hk,hc,hs,hz,r⟩
 ·obtain ⟨z,its,r,p⟩:=h.ok I.hok
  exact ⟨its,r,p.tup,z⟩
 ·refine ⟨its.toList,r,⟨o,I.kIn a o hk,hc,n,by simpa using hs⟩,?_⟩
  have e:=r.length
  simp only [Array.length_toList] at e
  omega
theorem Inv.list_inj (I:Inv X pins σ H s)(h:SqL X.K H a xs)(h':SqL X.K H a ys):xs=ys:=by
 obtain ⟨its,r,⟨o,n,e,_,_,d⟩,_⟩:=I.list h
 obtain ⟨its',r',⟨o',n',e',_,_,d'⟩,_⟩:=I.list h'
 rw [e] at e';cases e'
 rw [d] at d'
 injection d' with d1 _
 have:its=its':=by simpa using congrArg Array.toList d1
 subst this
 exact r.inj r'
end
noncomputable abbrev Cx.wish (X:Cx)(E:Value->Shared->Prop):Cx:={X with xe:=E}
noncomputable abbrev Cx.nox (X:Cx):Cx:=X.wish fun _ _=>False
theorem Cx.Ok.wish {X:Cx}(ok:X.Ok)(E:Value->Shared->Prop):(X.wish E).Ok:=
 ⟨ok.mod,ok.kind,ok.glob,ok.blt,ok.above,ok.inj,ok.has,ok.cab,ok.hd,ok.frames,ok.stk,ok.exf,ok.bs,ok.bsz,ok.noex,ok.exfs,ok.funs,ok.frf⟩
theorem Cx.Ok.unwish {X:Cx}{E:Value->Shared->Prop}(ok:(X.wish E).Ok):X.Ok:=
 ⟨ok.mod,ok.kind,ok.glob,ok.blt,ok.above,ok.inj,ok.has,ok.cab,ok.hd,ok.frames,ok.stk,ok.exf,ok.bs,ok.bsz,ok.noex,ok.exfs,ok.funs,ok.frf⟩
section
variable {X:Cx}{pins:List (Addr×Obj)}{σ:St}{H:Hp}{s:Shared}{E:Value->Shared->Prop}
theorem Inv.wish (I:Inv X pins σ H s)(E:Value->Shared->Prop):Inv (X.wish E) pins σ H s:=⟨I.ok.wish E,I.os,I.bare,I.base,I.loc,I.cell,I.free,I.freeC,I.pin,I.hok,I.len⟩
theorem Inv.unwish (I:Inv (X.wish E) pins σ H s):Inv X pins σ H s:=⟨I.ok.unwish,I.os,I.bare,I.base,I.loc,I.cell,I.free,I.freeC,I.pin,I.hok,I.len⟩
theorem SP.unwish {D:mY}{f:Flow}{s':Shared}(h:SP (X.wish E) pins D f s'):SP X pins D f s':=by
 cases f with
 | next=>obtain ⟨σ',H',I,q⟩:=h;exact ⟨σ',H',I.unwish,q⟩
 | brk=>obtain ⟨σ',H',I,q⟩:=h;exact ⟨σ',H',I.unwish,q⟩
 | cont=>obtain ⟨σ',H',I,q⟩:=h;exact ⟨σ',H',I.unwish,q⟩
 | ret u=>obtain ⟨v,σ',H',I,r,q⟩:=h;exact ⟨v,σ',H',I.unwish,r,q⟩
theorem PSs.nox {st:List Stmt}{t:TS}(h:PSs X.nox st t):PSs X st t:=fun pins s σ H D I hw=>
 wpAny_mono (h pins s σ H D (I.wish _) hw) (fun _ _ q=>q.unwish) fun _ _ z=>False.elim z
end
section
variable {X:Cx}{st:Stmt}{BB:List Stmt}{t u:TS}{e:Expr}{te:TE}{pos:Pos}
noncomputable def NQ:TS:=fun D σ H=>D.nx σ H
noncomputable def Qo (t u:TS):TS:=fun D σ H=>t {D with nx:=u D} σ H
theorem aC:PSs X [] NQ:=fun _ _ σ H _ I h=>wpAny_execs_nil ⟨σ,H,I,h⟩
theorem ag (h1:PS X st t)(h2:PSs X BB u):PSs X (st::BB) (Qo t u):=by
 intro pins s σ H D I h
 refine wpAny_execs_cons (thn (h1 pins s σ H {D with nx:=u D} I h) fun f s1 q=>?_)
 cases f with
 | next=>
  obtain ⟨σ',H',I',q⟩:=q
  exact h2 pins s1 σ' H' D I' q
 | ret v=>exact q
 | brk=>exact q
 | cont=>exact q
theorem aj (h1:PS X st t):PSs X [st] t:=by
 intro pins s σ H D I h
 refine wpAny_execs_cons (thn (h1 pins s σ H D I h) fun f s1 q=>?_)
 cases f with
 | next=>exact wpAny_execs_nil q
 | ret v=>exact q
 | brk=>exact q
 | cont=>exact q
theorem Inv.quiet {pins:List (Addr×Obj)}{σ:St}{H:Hp}{s:Shared}(I:Inv X pins σ H s):interactive X.env=false:=by simp [interactive,I.ok.kind]
noncomputable def NR (te:TE):TS:=fun D σ H=>te σ H fun _ H1=>D.nx σ H1
theorem bB (he:PE X e te)(hs:swapsWith e none pos.line X.env=pure false:=by rfl):PS X (.Expr e pos) (NR te):=by
 intro pins s σ H D I h
 exact wpAny_Expr_any (thn (he pins s σ H _ I h) fun v s1 ⟨x,H1,I1,r1,q1⟩=>⟨σ,H1,I1,q1⟩) I.quiet hs
noncomputable def Qp (te:TE):TS:=fun D σ H=>te σ H D.rt
theorem aw (he:PE X e te):PS X (.Return (some e) pos) (Qp te):=by
 intro pins s σ H D I h
 exact wpAny_Return_some (thn (he pins s σ H _ I h) fun v s1 ⟨x,H1,I1,r1,q1⟩=>⟨x,σ,H1,I1,r1,q1⟩)
noncomputable def Qq:TS:=fun D _ H=>D.rt .non H
noncomputable def Qr (c:TT)(t u:TS):TS:=fun D σ H=>c σ H fun b H1=>if b=true then t D σ H1 else u D σ H1
theorem bb {c:Expr}{a b:List Stmt}{tc:TT}(hc:PT X c tc)(ha:PSs X a t)(hb:PSs X b u):PS X (.If c a b pos) (Qr tc t u):=by
 intro pins s σ H D I h
 refine wpAny_If (thn (hc pins s σ H _ I h) fun d s1 ⟨H1,I1,q1⟩=>?_)
 cases d with
 | true=>exact ha pins s1 σ H1 D I1 q1
 | false=>exact hb pins s1 σ H1 D I1 q1
end
noncomputable abbrev TG:=V->St->Hp->(St->Hp->Prop)->Prop
noncomputable abbrev TGs:=List V->St->Hp->(St->Hp->Prop)->Prop
def PG (X:Cx)(target:Expr)(t:TG):Prop:=
 ∀(pins:List (Addr×Obj)) (s:Shared) (σ:St) (H:Hp) (v:V) (u:Value) (Q:St->Hp->Prop),Inv X pins σ H s->cq v u->t v σ H Q->
  wpAny (model X.prog X.w) X.A (assign target X.env u) (fun _ s'=>∃σ' H',Inv X pins σ' H' s'/\Q σ' H') X.xe s
def PGs (X:Cx)(ts:List Expr)(t:TGs):Prop:=
 ∀(pins:List (Addr×Obj)) (s:Shared) (σ:St) (H:Hp) (vs:List V) (us:List Value) (Q:St->Hp->Prop),Inv X pins σ H s->bJ vs us->t vs σ H Q->
  wpAny (model X.prog X.w) X.A (assignInOrder ((assignEach ts X.env).map (·.2)) us) (fun _ s'=>∃σ' H',Inv X pins σ' H' s'/\Q σ' H') X.xe s
noncomputable abbrev OQ:=V->V->V->Hp->(Hp->Prop)->Prop
def Qs (X:Cx)(t:OQ):Prop:=
 ∀(pins:List (Addr×Obj)) (s:Shared) (σ:St) (H:Hp) (o i v:V) (ov iv u:Value) (Q:Hp->Prop),Inv X pins σ H s->cq o ov->cq i iv->cq v u->t o i v H Q->
  wpAny (model X.prog X.w) X.A (setItem ov iv u) (fun _ s'=>∃H',Inv X pins σ H' s'/\Q H') X.xe s
section
variable {X:Cx}{pos:Pos}
noncomputable def g9 (i:Nat):TG:=fun v σ H Q=>Q (σ.set i (some v)) H
theorem aB {i:Nat}{x:Str}(hN:X.N.Nodup)(hi:X.N[i]?=some x)(hx:Loc X.env.scope x)(hf:X.fn x=true\/X.env.scope.names.lookup x=some .local:=by first | exact .inl rfl | exact .inr rfl | assumption):PG X (.Name x pos) (g9 i):=by
 intro pins s σ H v u Q I r h
 exact wpAny_assign_Name (oo I hN hi hx r (fun s' I'=>⟨_,H,I',h⟩) hf)
noncomputable def OR:TGs:=fun vs σ H Q=>vs=[]/\Q σ H
noncomputable def E2 (t:TG)(u:TGs):TGs:=fun vs σ H Q=>∃v r,vs=v::r/\t v σ H fun σ' H'=>u r σ' H' Q
theorem dz:PGs X [] OR:=by
 intro pins s σ H vs us Q I r h
 obtain ⟨e,h⟩:=h
 subst e
 cases r
 exact assignInOrder_nil ⟨σ,H,I,h⟩
theorem aQ {e:Expr}{es:List Expr}{t:TG}{u:TGs}(h1:PG X e t)(h2:PGs X es u)
  (hs:(assignEach (e::es) X.env).map (·.2)=assign e X.env::(assignEach es X.env).map (·.2):=by rfl):PGs X (e::es) (E2 t u):=by
 intro pins s σ H vs us Q I r h
 obtain ⟨v,vr,e1,h⟩:=h
 subst e1
 cases r with
 | cons r rr=>
  rw [hs]
  refine assignInOrder_cons (thn (h1 pins s σ H _ _ _ I r h) fun _ s1 ⟨σ1,H1,I1,q1⟩=>?_)
  exact h2 pins s1 σ1 H1 _ _ Q I1 rr q1
noncomputable def DY (K:PySem.W.Frag)(n:Nat)(t:TGs):TG:=fun v σ H Q=>∃a xs,v=.ref a/\SqT K H a xs/\xs.length=n/\t xs σ H Q
theorem jm {es:List Expr}{k:Nat}{t:TGs}{n:Nat}(hc:X.calm=true)(h:PGs X es t)
  (hn:(assignEach es X.env).length=n:=by rfl) (hst:(assignEach es X.env).findIdx? (·.1)=none:=by rfl):PG X (.Tuple es k pos) (DY X.K n t):=by
 intro pins s σ H v u Q I r hw
 obtain ⟨a,xs,e1,hq,hl,hw⟩:=hw
 subst e1
 cases r
 obtain ⟨its,rv,ht,hz⟩:=I.tuple hq
 refine assign_Tuple_tuple (I.ok.hd hc) ht (by simp [hn,←hl,rv.length]) hst fun h' hx=>?_
 have I1:Inv X pins σ H {s with heap:=h'}:=I.kept (t':=s.toks) fun b o e=>hx b o (Nat.ne_of_lt (Heap.lt_size e)) e
 exact h pins _ σ H xs _ Q I1 (by simpa using rv) hw
noncomputable def Qt (to ti:TE)(t:OQ):TG:=fun v σ H Q=>to σ H fun o H1=>ti σ H1 fun i H2=>t o i v H2 fun H3=>Q σ H3
theorem xZ {o i:Expr}{to ti:TE}{t:OQ}(ho:PE X o to)(hi:PE X i ti)(hs:Qs X t)
  (ha:∀v,assign (.Subscript o i pos) X.env v=(do
   let ov ←holding [v] (eval o X.env)
   let iv ←holding [v,ov] (eval i X.env)
   standAt pos
   holding [v,ov,iv] (setItem ov iv v)
   release [v,ov,iv] []):=by intro _;rfl):PG X (.Subscript o i pos) (Qt to ti t):=by
 intro pins s σ H v u Q I r h
 rw [ha]
 refine wpAny_bind (wpAny_holding (thn (ho pins s σ H _ I h) fun ov s1 ⟨x,H1,I1,r1,q1⟩=>?_))
 refine wpAny_bind (wpAny_holding (thn (hi pins s1 σ H1 _ I1 q1) fun iv s2 ⟨y,H2,I2,r2,q2⟩=>?_))
 refine wpAny_bind (wpAny_standAt (wpAny_bind (wpAny_holding (thn (hs pins s2 σ H2 x y v ov iv u _ I2 r1 r2 r q2) fun _ s3 ⟨H3,I3,q3⟩=>?_))))
 exact wpAny_release ⟨σ,H3,I3,q3⟩
noncomputable def GG (te:TE)(g:TG):TS:=fun D σ H=>te σ H fun x H1=>g x σ H1 D.nx
theorem kj {tg e:Expr}{te:TE}{g:TG}(he:PE X e te)(hg:PG X tg g)(hs:swapsWithSole [tg] e pos.line X.env=pure false:=by rfl)(hw:swappedStores [tg] e X.env=pure none:=by rfl)
  (h1:(assignEach [tg] X.env).map (·.2)=[assign tg X.env]:=by rfl):PS X (.Assign [tg] e pos) (GG te g):=by
 intro pins s σ H D I h
 refine wpAny_Assign_stores (thn (he pins s σ H _ I h) fun v s1 ⟨x,H1,I1,r1,q1⟩=>?_) hs hw
 rw [h1]
 exact thn (hg pins s1 σ H1 x v _ I1 r1 q1) fun _ s2 q=>q
theorem aL {i:Nat}{x:Str}{e:Expr}{te:TE}{pos':Pos}(hN:X.N.Nodup)(hi:X.N[i]?=some x)(hx:Loc X.env.scope x)(he:PE X e te)(hs:swapsWith e (some (.Name x pos')) pos.line X.env=pure false:=by rfl)(hf:X.fn x=true\/X.env.scope.names.lookup x=some .local:=by first | exact .inl rfl | exact .inr rfl | assumption) :
  PS X (.Assign [.Name x pos'] e pos) (GG te (g9 i)):=by
 intro pins s σ H D I h
 refine wpAny_Assign_Name (thn (he pins s σ H _ I h) fun v s1 ⟨y,H1,I1,r1,q1⟩=>?_) hs
 exact oo I1 hN hi hx r1 (fun s2 I2=>⟨_,H1,I2,q1⟩) hf
noncomputable def Qu (i j:Nat)(ta:TA):TS:=fun D σ H=>ta σ H fun vs H1=>∃v w,vs=[v,w]/\D.nx ((σ.set i (some v)).set j (some w)) H1
theorem OS {i j:Nat}{x y:Str}{a b:Expr}{ta:TA}{px py pt:Pos}{kt k2 pt2}(hc:X.calm=true)(hN:X.N.Nodup)(hi:X.N[i]?=some x)(hj:X.N[j]?=some y)(hij:i≠j)
  (hx:X.env.scope.names.lookup x=some .local) (hy:X.env.scope.names.lookup y=some .local) (ha:PA X [a,b] ta)
  (hw:swappedStores [.Tuple [.Name x px,.Name y py] kt pt] (.Tuple [a,b] k2 pt2) X.env=pure (some [x,y]))
  (hs:swapsWithSole [.Tuple [.Name x px,.Name y py] kt pt] (.Tuple [a,b] k2 pt2) pos.line X.env=pure false:=by rfl) :
  PS X (.Assign [.Tuple [.Name x px,.Name y py] kt pt] (.Tuple [a,b] k2 pt2) pos) (Qu i j ta):=by
 intro pins s σ H D I h
 rw [exec_Assign_arm]
 refine wpAny_bind (wpAny_standAt ?_)
 rw [hs]
 refine wpAny_bind (wpAny_pure ?_)
 rw [if_neg (by decide)]
 refine wpAny_bind (Tuple_ (thn (ha _ pins s σ H _ I h) fun us s1 ⟨vs,H1,I1,r1,q1⟩=>?_))
 obtain ⟨v,w,e1,q1⟩:=q1
 subst e1
 obtain ⟨u1,u2,rfl,rv,rw'⟩:∃u1 u2,us=[u1,u2]/\cq v u1/\cq w u2:=by
  cases r1 with
  | cons p q=>
   cases q with
   | cons p' q'=>
    cases q'
    exact ⟨_,_,rfl,p,p'⟩
 refine wpAny_newObj_type ?_ (by show 2<=sizeLine;decide)
 have I2:Inv X pins σ H1 {s1 with heap:=s1.heap.push {cls:=.type "tuple",data:=.seq [u1,u2].toArray}}:=I1.kept (t':=s1.toks) fun b o e=>Heap.get?_push_of_some _ e
 rw [hw]
 refine wpAny_bind (wpAny_pure ?_)
 show wpAny (model X.prog X.w) X.A (do rule "assign.swapped-stores";let items ←unpackItems (.ref s1.heap.objs.size) 2 none;assignInOrder [fun v=>bindName X.env y v,fun v=>bindName X.env x v] items.reverse;pure Flow.next) _ _ _
 refine wpAny_bind (wpAny_rule (wpAny_bind (unpackItems_tuple (items:=#[u1,u2]) (I.ok.hd hc) (IsTup.new s1.heap _) fun h' hx'=>?_)))
 have I3:=I2.kept (h':=h') (t':=s1.toks) fun b o e=>hx' b o (Nat.ne_of_lt (Heap.lt_size e)) e
 show wpAny _ _ (assignInOrder [fun v=>bindName X.env y v,fun v=>bindName X.env x v] [u2,u1] >>= fun _=>pure Flow.next) _ _ _
 refine wpAny_bind (assignInOrder_cons (wpAny_bindName (oo I3 hN hj (.inl hy) rw' (fun s2 I4=>?_) (.inr hy))))
 refine assignInOrder_cons (wpAny_bindName (oo I4 hN hi (.inl hx) rv (fun s3 I5=>assignInOrder_nil (wpAny_pure ?_)) (.inr hx)))
 rw [List.set_comm _ _ (Ne.symm hij)] at I5
 exact ⟨_,H1,I5,q1⟩
end
section
variable {X:Cx}{pos:Pos}
noncomputable def Ki (c:TT)(tb:TS):TS:=fun D σ H=>∃W:Nat->St->Hp->Prop,(∃m,W m σ H)/\∀m σ H,W m σ H->
 c σ H fun b H1=>if b=true then ∃N:St->Hp->Prop,(∀σ' H',N σ' H'->∃m',m' < m/\W m' σ' H')/\tb {D with nx:=N,ct:=N,bk:=D.nx} σ H1 else D.nx σ H1
theorem Kj {c:Expr}{body:List Stmt}{tc:TT}{tb:TS}(hp:PassesOwn (model X.prog X.w) X.A X.env X.xe)(hc:PT X c tc)(hb:PSs X body tb):PS X (.While c body [] pos) (Ki tc tb):=by
 intro pins s σ H D I h
 obtain ⟨W,⟨m0,w0⟩,turn⟩:=h
 refine wpAny_While (codeAny_whileLoop (fun n s'=>∃σ' H',Inv X pins σ' H' s'/\W n σ' H') ?_ m0 ⟨σ,H,I,w0⟩)
 rintro n s1 ⟨σ1,H1,I1,w1⟩
 refine wpAny_passesOwn hp (thn (hc pins s1 σ1 H1 _ I1 (turn n σ1 H1 w1)) fun b s2 ⟨H2,I2,q2⟩=>?_)
 cases b with
 | true=>
  obtain ⟨N,hN,q2⟩:=q2
  rw [if_pos rfl]
  refine wpAny_passesOwn hp (thn (hb pins s2 σ1 H2 _ I2 q2) fun f s3 q3=>?_)
  cases f with
  | next=>
   obtain ⟨σ3,H3,I3,n3⟩:=q3
   obtain ⟨m',hm,w3⟩:=hN σ3 H3 n3
   exact ⟨m',hm,σ3,H3,I3,w3⟩
  | cont=>
   obtain ⟨σ3,H3,I3,n3⟩:=q3
   obtain ⟨m',hm,w3⟩:=hN σ3 H3 n3
   exact ⟨m',hm,σ3,H3,I3,w3⟩
  | brk=>exact q3
  | ret v=>exact q3
 | false=>
  rw [if_neg Bool.false_ne_true]
  exact wpAny_execs_nil ⟨σ1,H2,I2,q2⟩
end
structure It where
 go:Nat->Hp->Prop
 yld:Nat->Hp->V->Hp->Prop
 stop:Nat->Hp->Prop
def qU (X:Cx)(pins:List (Addr×Obj))(H:Hp)(b:Addr):Prop:=
 H b=none/\b≠X.env.locals/\b∉X.fs/\(b∈X.ex\/X.s₀.heap.objs.size<=b)/\(∀x c,X.env.cells.lookup x=some c->c≠b)/\∀p∈X.pn++pins,p.1≠b
theorem Inv.fpOk {X:Cx}{pins:List (Addr×Obj)}{σ:St}{H H':Hp}{s:Shared}{b:Addr}(I:Inv X pins σ H s)(hb:s.heap.objs.size<=b)(hn:H' b=none):qU X pins H' b:=by
 refine ⟨hn,Nat.ne_of_gt (Nat.lt_of_lt_of_le I.lt hb),I.nofs hb,.inr (Nat.le_trans I.sz hb),fun x c e z=>?_,fun p hp z=>?_⟩
 ·obtain ⟨v,q⟩:=I.cell x c e
  exact absurd (Nat.lt_of_lt_of_le q.lt (by rw [z];exact hb)) (Nat.lt_irrefl _)
 ·exact absurd (Nat.lt_of_lt_of_le (Heap.lt_size (I.pin p hp).1) (by rw [z];exact hb)) (Nat.lt_irrefl _)
structure Kk (P:Program)(w:World)(K:PySem.W.Frag)(tg:Expr)(J:It)(fp:List Addr)(it:Addr)(tn:Nat->Heap->Prop):Prop where
 mem:it∈fp
 obj:∀i h,tn i h->∀b∈fp,∃o,h.get? b=some o/\∀v,o.data≠.cell v
 keep:∀i h h',tn i h->(∀b∈fp,∀o,h.get? b=some o->h'.get? b=some o)->tn i h'
 item:∀(X:Cx),X.prog=P->X.w=w->X.K=K->X.calm=true->∀(i:Nat) (pins:List (Addr×Obj)) (s:Shared) (σ:St) (H:Hp) (E:Value->Shared->Prop),Inv X pins σ H s->(∀b∈fp,qU X pins H b)->tn i s.heap->J.go i H->
  wpAny (model P w) X.A (pyNext (.ref it)) (fun r s1=>∃u,r=some u/\
   wpAny (model P w) X.A (letOwnedTupleGo tg (.ref it) u) (fun _ s2=>∃x H',Inv X pins σ H' s2/\cq x u/\J.yld i H x H'/\tn (i+1) s2.heap/\∀b∈fp,H' b=none) E s1) E s
 done:∀(X:Cx),X.prog=P->X.w=w->X.K=K->X.calm=true->∀(i:Nat) (pins:List (Addr×Obj)) (s:Shared) (σ:St) (H:Hp) (E:Value->Shared->Prop),Inv X pins σ H s->(∀b∈fp,qU X pins H b)->tn i s.heap->J.stop i H->
  wpAny (model P w) X.A (pyNext (.ref it)) (fun r s1=>r=none/\Inv X pins σ H s1) E s
 self:∀(A:Around) (i:Nat) (s:Shared) (Q:Value->Shared->Prop) (E:Value->Shared->Prop),tn i s.heap->Q (.ref it) s->wpAny (model P w) A (pyIter (.ref it)) Q E s
noncomputable abbrev TI:=St->Hp->(It->Hp->Prop)->Prop
def PIE (X:Cx)(pins:List (Addr×Obj))(σ:St)(tg:Expr)(R:It->Hp->Prop)(itv:Value)(s2:Shared):Prop:=
 ∃(it:Addr) (fp:List Addr) (tn:Nat->Heap->Prop) (J:It) (H':Hp),itv=.ref it/\Inv X pins σ H' s2/\Kk X.prog X.w X.K tg J fp it tn/\tn 0 s2.heap/\(∀b∈fp,qU X pins H' b)/\R J H'
def PI (X:Cx)(tg iter:Expr)(wi:TI):Prop:=
 ∀(pins:List (Addr×Obj)) (s:Shared) (σ:St) (H:Hp) (R:It->Hp->Prop),Inv X pins σ H s->wi σ H R->
  wpAny (model X.prog X.w) X.A (eval iter X.env) (fun v s1=>wpAny (model X.prog X.w) X.A (pyIter v) (PIE X pins σ tg R) X.xe s1) X.xe s
theorem NS {M:Model}{A:Around}{E:Value->Shared->Prop}{s:Shared}{tg:Expr}{it:Addr}{u:Value}{o:Obj}{n:String}{vs:Array Value}{Q:Unit->Shared->Prop}(ho:s.heap.get? it=some o)(hc:o.cls=.type n)(hd:o.data=.fields vs)
  (hn:["enumerate","zip","dict_itemiterator","dict_reverseitemiterator","odict_iterator","itertools.zip_longest","itertools.pairwise"].contains n=false) (hQ:Q () s):wpAny M A (letOwnedTupleGo tg (.ref it) u) Q E s:=by
 unfold letOwnedTupleGo
 cases tg<;>first
  | exact wpAny_pure hQ
  | (cases u<;>first
    | exact wpAny_pure hQ
    | (refine wpAny_bind (wpAny_load ho ?_)
       rw [hc,hd]
       show wpAny M A (if (["enumerate","zip","dict_itemiterator","dict_reverseitemiterator","odict_iterator","itertools.zip_longest","itertools.pairwise"].contains n && vs[0]? == some (rawInt _))=true then _ else _) Q E s
       rw [if_neg (by intro h;rw [hn,Bool.false_and] at h;cases h)]
       exact wpAny_pure hQ))
noncomputable def Itl (K:PySem.W.Frag)(a:Addr):It:=
 ⟨fun i H=>∃xs x,SqL K H a xs/\xs[i]?=some x,fun i H x H'=>H'=H/\∀xs,SqL K H a xs->xs[i]?=some x,fun i H=>∃xs,SqL K H a xs/\xs.length<=i⟩
noncomputable def Itt (K:PySem.W.Frag)(a:Addr):It:=
 ⟨fun i H=>∃xs x,SqT K H a xs/\xs[i]?=some x,fun i H x H'=>H'=H/\∀xs,SqT K H a xs->xs[i]?=some x,fun i H=>∃xs,SqT K H a xs/\xs.length<=i⟩
noncomputable def Itr (lo:Int)(n:Nat):It:=⟨fun i _=>i < n,fun i H x H'=>H'=H/\x=.int (lo+i),fun i _=>n<=i⟩
theorem Jk {P:Program}{w:World}{K:PySem.W.Frag}{tg:Expr}(a it:Addr):Kk P w K tg (Itl K a) [it] it (fun i h=>h.IsListIter it a i) where
 mem:=by simp
 obj:=fun i h st b hb=>by
  have e:b=it:=by simpa using hb
  subst e
  obtain ⟨o,e,c,d⟩:=st
  exact ⟨o,e,fun v z=>by rw [d] at z;cases z⟩
 keep:=fun i h h' st k=>st.at fun o e=>k it (by simp) o e
 item:=by
  intro X hP hw hK hc i pins s σ H E I hf st hg
  subst hP hw hK
  obtain ⟨xs,x,hq,hx⟩:=hg
  obtain ⟨its,rv,p,hz⟩:=I.list hq
  obtain ⟨u,hu,ru⟩:=rv.get hx
  obtain ⟨f0,f1,f2,f3,f4,f5⟩:=hf it (by simp)
  refine wpAny_pyNext_list_item st p.isList (x:=u) (by simpa using hu) fun h' st' sb=>?_
  have I1:Inv X pins σ H {s with heap:=h'}:=I.turned (t':=s.toks) (fun b o hb e=>(sb.2 b hb).trans e) f0 f1 f3 f4 f5
  obtain ⟨o,e,c,d⟩:=id st'
  exact ⟨u,rfl,NS (s:={s with heap:=h'}) e c d (by decide) ⟨x,H,I1,ru,⟨rfl,fun ys hy=>by rw [I.list_inj hy hq];exact hx⟩,st',fun b hb=>(hf b hb).1⟩⟩
 done:=by
  intro X hP hw hK hc i pins s σ H E I hf st hg
  subst hP hw hK
  obtain ⟨xs,hq,hx⟩:=hg
  obtain ⟨its,rv,p,hz⟩:=I.list hq
  obtain ⟨f0,f1,f2,f3,f4,f5⟩:=hf it (by simp)
  have hl:=rv.length
  exact wpAny_pyNext_list_end (I.ok.hd hc) st p.isList (by simp;omega) fun h' eb=>⟨rfl,I.turned (t':=s.toks) (fun b o hb e=>eb b o hb e) f0 f1 f3 f4 f5⟩
 self:=fun _ _ _ _ _ st h=>wpAny_pyIter_listiter st h
theorem GH {P:Program}{w:World}{K:PySem.W.Frag}{tg:Expr}(it:Addr)(lo:Int)(n:Nat):Kk P w K tg (Itr lo n) [it] it (fun i h=>IsRangeIter h it (lo+(i:Nat) * 1) ((n:Int) - (i:Nat)) 1) where
 mem:=by simp
 obj:=fun i h st b hb=>by
  have e:b=it:=by simpa using hb
  subst e
  exact ⟨_,st,fun v z=>by
   have z':Data.fields _=Data.cell v:=z
   cases z'⟩
 keep:=fun i h h' st k=>k it (by simp) _ st
 item:=by
  intro X hP hw hK hc i pins s σ H E I hf st hg
  subst hP hw hK
  obtain ⟨f0,f1,f2,f3,f4,f5⟩:=hf it (by simp)
  have W:=Walks.range (prog:=X.prog) (w:=X.w) (I.ok.hd hc) it lo 1 n
  refine W.item i s _ _ hg st fun v h' tk hv st' kk=>?_
  obtain ⟨t,rfl⟩:=hv
  have I1:Inv X pins σ H {s with heap:=h',toks:=tk}:=I.turned (fun b o hb e=>kk b o (by simpa using hb) e) f0 f1 f3 f4 f5
  refine ⟨_,rfl,NS (s:={s with heap:=h',toks:=tk}) (n:="range_iterator") st' rfl rfl (by decide) ⟨.int (lo+i),H,I1,⟨t,?_⟩,⟨rfl,rfl⟩,st',fun b hb=>(hf b hb).1⟩⟩
  rw [Int.mul_one]
 done:=by
  intro X hP hw hK hc i pins s σ H E I hf st hg
  subst hP hw hK
  obtain ⟨f0,f1,f2,f3,f4,f5⟩:=hf it (by simp)
  exact wpAny_pyNext_range_end (I.ok.hd hc) st (by have:n<=i:=hg;omega) fun h' eb=>⟨rfl,I.turned (t':=s.toks) (fun b o hb e=>eb b o hb e) f0 f1 f3 f4 f5⟩
 self:=fun _ _ _ _ _ st h=>wpAny_pyIter_rangeiter st h
section
variable {X:Cx}{tg:Expr}
noncomputable def NT (K:PySem.W.Frag)(tl:TE):TI:=fun σ H R=>tl σ H fun x H1=>∃a,x=.ref a/\(∃xs,SqL K H1 a xs)/\R (Itl K a) H1
noncomputable def Rx (K:PySem.W.Frag)(tl:TE):TI:=fun σ H R=>tl σ H fun x H1=>∃a,x=.ref a/\(∃xs,SqT K H1 a xs)/\R (Itt K a) H1
theorem fz {l:Expr}{tl:TE}(hl:PE X l tl):PI X tg l (NT X.K tl):=by
 intro pins s σ H R I h
 refine thn (hl pins s σ H _ I h) fun v s1 ⟨x,H1,I1,r1,q1⟩=>?_
 obtain ⟨a,e,⟨xs,hq⟩,q⟩:=q1
 subst e
 cases r1
 obtain ⟨its,rv,p,hz⟩:=I1.list hq
 refine wpAny_pyIter_list p.isList ?_
 refine ⟨s1.heap.objs.size,[s1.heap.objs.size],_,_,H1,rfl,I1.kept (t':=s1.toks) fun b o e=>Heap.get?_push_of_some _ e,Jk a _,⟨_,Heap.get?_push_size _ rfl,rfl,rfl⟩,fun b hb=>?_,q⟩
 have e:b=s1.heap.objs.size:=by simpa using hb
 subst e
 exact I1.fpOk (Nat.le_refl _) (I1.hok.fresh (Nat.le_refl _))
theorem E3 {pins:List (Addr×Obj)}{σ:St}{H:Hp}{s:Shared}{R:It->Hp->Prop}{E:Value->Shared->Prop}{lo hi:Int}{t u v:Tok}{tk:Nat}(I:Inv X pins σ H s)(h1:-(2 ^ 62)<=lo)(h2:lo < 2 ^ 62)(h3:-(2 ^ 62)<=hi)(h4:hi < 2 ^ 62)
  (q:R (Itr lo (hi - lo).toNat) H):wpAny (model X.prog X.w) X.A (pyIter (.ref s.heap.objs.size)) (PIE X pins σ tg R) E {s with heap:=s.heap.push {cls:=.type "range",data:=.fields #[.int lo t,.int hi u,.int 1 v]},toks:=tk}:=by
 refine wpAny_pyIter_range (IsRange.new ..) (small_one h1 h2 h3 h4) ?_
 have I1:Inv X pins σ H {s with heap:=s.heap.push {cls:=.type "range",data:=.fields #[.int lo t,.int hi u,.int 1 v]},toks:=tk}:=I.kept fun b o e=>Heap.get?_push_of_some _ e
 refine ⟨(s.heap.push {cls:=.type "range",data:=.fields #[.int lo t,.int hi u,.int 1 v]}).objs.size,[(s.heap.push {cls:=.type "range",data:=.fields #[.int lo t,.int hi u,.int 1 v]}).objs.size],_,_,H,rfl,
  I1.kept (t':=tk) fun b o e=>Heap.get?_push_of_some _ e,GH _ lo (hi - lo).toNat,?_,fun b hb=>?_,q⟩
 ·have e1:lo+((0:Nat):Int) * 1=lo:=by simp
  have e2:(((hi - lo).toNat:Nat):Int) - ((0:Nat):Int)=Builtin.Range.rangeSize lo hi 1:=by rw [rangeSize_one];split<;>omega
  show IsRangeIter _ _ (lo+((0:Nat):Int) * 1) ((((hi - lo).toNat:Nat):Int) - ((0:Nat):Int)) 1
  rw [e1,e2]
  exact Heap.get?_push_size _ rfl
 ·have e:b=(s.heap.push {cls:=.type "range",data:=.fields #[.int lo t,.int hi u,.int 1 v]}).objs.size:=by simpa using hb
  subst e
  exact I1.fpOk (Nat.le_refl _) (I1.hok.fresh (Nat.le_refl _))
noncomputable def NU (ta:TA):TI:=fun σ H R=>ta σ H fun vs H1=>∃j:Int,vs=[.int j]/\-(2 ^ 62)<=j/\j < 2 ^ 62/\R (Itr 0 j.toNat) H1
noncomputable def NV (ta:TA):TI:=fun σ H R=>ta σ H fun vs H1=>∃i j:Int,vs=[.int i,.int j]/\(-(2 ^ 62)<=i/\i < 2 ^ 62/\-(2 ^ 62)<=j/\j < 2 ^ 62)/\R (Itr i (j - i).toNat) H1
theorem cw {a:Expr}{ta:TA}{p pos:Pos}(hg:Gl X "range")(hm:X.mg "range"=none)(ha:PA X [a] ta)(hs:starEach [a] X.env=[(false,eval a X.env)]:=by rfl):PI X tg (.Call (.Name "range" p) [a] [] pos) (NU ta):=by
 intro pins s σ H R I h
 refine Call_ (vo I hg hm boot_range (PyProof.Rows.callWith_type1 (thn (ha pos pins s σ H _ I h) fun us s1 ⟨vs,H1,I1,r1,q1⟩=>?_) hs rfl))
 obtain ⟨j,e,q1,q2,q⟩:=q1
 subst e
 cases r1 with
 | cons r rr=>
  cases rr
  obtain ⟨t,rfl⟩:=r
  exact call_range_1 (E3 I1 (by omega) (by omega) q1 q2 (by simpa using q))
theorem Cv {a b:Expr}{ta:TA}{p pos:Pos}(hg:Gl X "range")(hm:X.mg "range"=none)(ha:PA X [a,b] ta)(hs:starEach [a,b] X.env=[(false,eval a X.env),(false,eval b X.env)]:=by rfl)(hs2:starEach [b] X.env=[(false,eval b X.env)]:=by rfl) :
  PI X tg (.Call (.Name "range" p) [a,b] [] pos) (NV ta):=by
 intro pins s σ H R I h
 refine Call_ (vo I hg hm boot_range (PyProof.Rows.callWith_type1 (thn (ha pos pins s σ H _ I h) fun us s1 ⟨vs,H1,I1,r1,q1⟩=>?_) (by rw [hs,hs2]) (by rw [hs2];rfl)))
 obtain ⟨i,j,e,⟨q1,q2,q3,q4⟩,q⟩:=q1
 subst e
 cases r1 with
 | cons r rr=>
  cases rr with
  | cons r' rr=>
   cases rr
   obtain ⟨t,rfl⟩:=r
   obtain ⟨t',rfl⟩:=r'
   exact call_range_2 (E3 I1 q1 q2 q3 q4 q)
noncomputable def Qv (wi:TI)(g:TG)(tb:TS):TS:=fun D σ H=>wi σ H fun J H1=>∃W:Nat->Nat->St->Hp->Prop,(∃m,W 0 m σ H1)/\∀i m σ H,W i m σ H->
 (J.stop i H/\D.nx σ H)\/(J.go i H/\∃N:St->Hp->Prop,(∀σ' H',N σ' H'->∃m',m' < m/\W (i+1) m' σ' H')/\∀x H',J.yld i H x H'->g x σ H' fun σ2 H2=>tb {D with nx:=N,ct:=N,bk:=D.nx} σ2 H2)
noncomputable def vp (fp:List Addr)(h:Heap):List (Addr×Obj):=fp.filterMap fun b=>(h.get? b).map fun o=>(b,o)
theorem gw {fp:List Addr}{h:Heap}{b:Addr}{o:Obj}(hb:b∈fp)(e:h.get? b=some o):(b,o)∈vp fp h:=List.mem_filterMap.mpr ⟨b,hb,by rw [e];rfl⟩
theorem Jl {fp:List Addr}{h:Heap}{p:Addr×Obj}(hp:p∈vp fp h):p.1∈fp/\h.get? p.1=some p.2:=by
 obtain ⟨b,hb,e⟩:=List.mem_filterMap.mp hp
 cases q:h.get? b with
 | none=>rw [q] at e;cases e
 | some o=>
  rw [q] at e
  have e':(b,o)=p:=Option.some.inj e
  subst e'
  exact ⟨hb,q⟩
theorem Inv.pinned {pins:List (Addr×Obj)}{σ:St}{H:Hp}{s:Shared}{fp:List Addr}(I:Inv X pins σ H s)(hf:∀b∈fp,qU X pins H b)(ho:∀b∈fp,∃o,s.heap.get? b=some o/\∀v,o.data≠.cell v):Inv X (pins++vp fp s.heap) σ H s:=
 I.pins_of fun p hp=>(List.mem_append.mp hp).elim (fun z=>I.pin p (List.mem_append_right _ z)) fun z=>by
  obtain ⟨hb,e⟩:=Jl z
  obtain ⟨f0,f1,f2,_⟩:=hf p.1 hb
  obtain ⟨o,e',d⟩:=ho p.1 hb
  rw [e] at e';cases e'
  exact ⟨e,f0,f1,f2,d⟩
theorem Inv.unpinned {pins pl:List (Addr×Obj)}{σ:St}{H:Hp}{s:Shared}(I:Inv X (pins++pl) σ H s):Inv X pins σ H s:=I.pins_of fun p hp=>I.pin p (List.mem_append_right _ (List.mem_append_left _ hp))
theorem dA {iter:Expr}{body:List Stmt}{wi:TI}{g:TG}{tb:TS}{pos:Pos}(hp:PassesOwn (model X.prog X.w) X.A X.env X.xe)(hc:X.calm=true)(hi:PI X tg iter wi)(hg:PG X tg g)(hb:PSs X body tb)
  (hs:∀x,foldedSetIterable iter X.env x=pure x:=by intro _;rfl):PS X (.For tg iter body [] pos) (Qv wi g tb):=by
 intro pins s σ H D I h
 refine wpAny_For (thn (hi pins s σ H _ I h) fun v s1 h1=>thn h1 fun itv s2 h2=>?_) hs
 obtain ⟨it,fp,tn,J,H2,e,I2,T,st2,f2,W,⟨m0,w0⟩,turn⟩:=h2
 subst e
 have stat:∀{H':Hp},(∀b∈fp,H' b=none)->∀b∈fp,qU X pins H' b:=fun hn b hb=>⟨hn b hb,(f2 b hb).2⟩
 refine codeAny_forLoop_any (fun n s'=>∃i σ' H',Inv X pins σ' H' s'/\tn i s'.heap/\(∀b∈fp,H' b=none)/\W i n σ' H') ?_ m0 ⟨0,σ,H2,I2,st2,fun b hb=>(f2 b hb).1,w0⟩
 rintro n s3 ⟨i,σ3,H3,I3,st3,fr3,w3⟩
 rcases turn i n σ3 H3 w3 with ⟨stop,qn⟩ | ⟨go,N,hN,step⟩
 ·refine wpAny_passesOwn hp (thn (T.done X rfl rfl rfl hc i pins s3 σ3 H3 X.xe I3 (stat fr3) st3 stop) fun r s4 ⟨hr,I4⟩=>?_)
  subst hr
  exact wpAny_execs_nil ⟨σ3,H3,I4,qn⟩
 ·refine wpAny_passesOwn hp (thn (T.item X rfl rfl rfl hc i pins s3 σ3 H3 X.xe I3 (stat fr3) st3 go) fun r s4 ⟨u,hr,h4⟩=>?_)
  subst hr
  refine wpAny_passesOwn hp (thn h4 fun _ s5 ⟨x,H5,I5,r5,y5,st5,fr5⟩=>?_)
  have I5':=I5.pinned (stat fr5) (T.obj _ _ st5)
  refine wpAny_passesOwn hp (thn (hg _ s5 σ3 H5 x u _ I5' r5 (step x H5 y5)) fun _ s6 ⟨σ6,H6,I6,q6⟩=>?_)
  refine wpAny_passesOwn hp (thn (hb _ s6 σ6 H6 _ I6 q6) fun f s7 q7=>?_)
  have again:∀{σ7:St} {H7:Hp},Inv X (pins++vp fp s5.heap) σ7 H7 s7->N σ7 H7->∃m,m < n/\∃i σ' H',Inv X pins σ' H' s7/\tn i s7.heap/\(∀b∈fp,H' b=none)/\W i m σ' H':=fun {σ7 H7} I7 n7=>by
   obtain ⟨m',hm,w7⟩:=hN σ7 H7 n7
   refine ⟨m',hm,i+1,σ7,H7,I7.unpinned,T.keep _ _ _ st5 fun b hb o e=>(I7.pin (b,o) (List.mem_append_right _ (List.mem_append_right _ (gw hb e)))).1,fun b hb=>?_,w7⟩
   obtain ⟨o,e,d⟩:=T.obj _ _ st5 b hb
   exact (I7.pin (b,o) (List.mem_append_right _ (List.mem_append_right _ (gw hb e)))).2.1
  cases f with
  | next=>obtain ⟨σ7,H7,I7,n7⟩:=q7;exact again I7 n7
  | cont=>obtain ⟨σ7,H7,I7,n7⟩:=q7;exact again I7 n7
  | brk=>obtain ⟨σ7,H7,I7,q7⟩:=q7;exact ⟨σ7,H7,I7.unpinned,q7⟩
  | ret v=>obtain ⟨x7,σ7,H7,I7,r7,q7⟩:=q7;exact ⟨x7,σ7,H7,I7.unpinned,r7,q7⟩
end
theorem Kl {K:PySem.W.Frag}{a:Addr}{xs:List V}{g:TG}{tb:TS}{D:mY}{σ:St}{H:Hp}(Pv:Nat->St->Hp->Prop)(h0:Pv 0 σ H)(hl:∀i σ H,i<=xs.length->Pv i σ H->SqL K H a xs)
  (hs:∀i x σ H,xs[i]?=some x->Pv i σ H->g x σ H fun σ2 H2=>tb {D with nx:=Pv (i+1),ct:=Pv (i+1),bk:=D.nx} σ2 H2) (hd:∀σ H,Pv xs.length σ H->D.nx σ H) :
  ∃W:Nat->Nat->St->Hp->Prop,(∃m,W 0 m σ H)/\∀i m σ H,W i m σ H->
   ((Itl K a).stop i H/\D.nx σ H)\/((Itl K a).go i H/\∃N:St->Hp->Prop,(∀σ' H',N σ' H'->∃m',m' < m/\W (i+1) m' σ' H')/\∀x H',(Itl K a).yld i H x H'->g x σ H' fun σ2 H2=>tb {D with nx:=N,ct:=N,bk:=D.nx} σ2 H2):=by
 refine ⟨fun i m σ H=>m=xs.length - i/\i<=xs.length/\Pv i σ H,⟨xs.length,by simp,Nat.zero_le _,h0⟩,?_⟩
 rintro i m σ H ⟨rfl,hi,p⟩
 have q:=hl i σ H hi p
 by_cases hlt:i < xs.length
 ·refine .inr ⟨⟨xs,xs[i],q,by simp [hlt]⟩,Pv (i+1),fun σ' H' p'=>⟨xs.length - (i+1),by omega,rfl,hlt,p'⟩,fun x H' y=>?_⟩
  obtain ⟨e,y⟩:=y
  subst e
  exact hs i x σ _ (y xs q) p
 ·have e:i=xs.length:=by omega
  subst e
  exact .inl ⟨⟨xs,q,Nat.le_refl _⟩,hd σ H p⟩
theorem Jm {lo:Int}{n:Nat}{g:TG}{tb:TS}{D:mY}{σ:St}{H:Hp}(Pv:Nat->St->Hp->Prop)(h0:Pv 0 σ H)
  (hs:∀i σ H,i < n->Pv i σ H->g (.int (lo+i)) σ H fun σ2 H2=>tb {D with nx:=Pv (i+1),ct:=Pv (i+1),bk:=D.nx} σ2 H2) (hd:∀σ H,Pv n σ H->D.nx σ H) :
  ∃W:Nat->Nat->St->Hp->Prop,(∃m,W 0 m σ H)/\∀i m σ H,W i m σ H->
   ((Itr lo n).stop i H/\D.nx σ H)\/((Itr lo n).go i H/\∃N:St->Hp->Prop,(∀σ' H',N σ' H'->∃m',m' < m/\W (i+1) m' σ' H')/\∀x H',(Itr lo n).yld i H x H'->g x σ H' fun σ2 H2=>tb {D with nx:=N,ct:=N,bk:=D.nx} σ2 H2):=by
 refine ⟨fun i m σ H=>m=n - i/\i<=n/\Pv i σ H,⟨n,by simp,Nat.zero_le _,h0⟩,?_⟩
 rintro i m σ H ⟨rfl,hi,p⟩
 by_cases hlt:i < n
 ·refine .inr ⟨hlt,Pv (i+1),fun σ' H' p'=>⟨n - (i+1),by omega,rfl,hlt,p'⟩,fun x H' y=>?_⟩
  obtain ⟨e,y⟩:=y
  subst e y
  exact hs i σ _ hlt p
 ·have e:i=n:=by omega
  subst e
  exact .inl ⟨Nat.le_refl _,hd σ H p⟩
theorem Km {c:TT}{tb:TS}{D:mY}{σ:St}{H:Hp}(Pv:St->Hp->Prop)(μ:St->Hp->Nat)(h0:Pv σ H)
  (hs:∀σ H,Pv σ H->c σ H fun b H1=>if b=true then tb {D with nx:=fun σ' H'=>Pv σ' H'/\μ σ' H' < μ σ H,ct:=fun σ' H'=>Pv σ' H'/\μ σ' H' < μ σ H,bk:=D.nx} σ H1 else D.nx σ H1)
  (mono:∀σ H Q Q',(∀b H1,Q b H1->Q' b H1)->c σ H Q->c σ H Q'):Ki c tb D σ H:=by
 refine ⟨fun m σ H=>m=μ σ H/\Pv σ H,⟨_,rfl,h0⟩,?_⟩
 rintro m σ H ⟨rfl,p⟩
 refine mono σ H _ _ (fun b H1 q=>?_) (hs σ H p)
 cases b with
 | true=>exact ⟨_,fun σ' H' ⟨p',l⟩=>⟨_,l,rfl,p'⟩,q⟩
 | false=>exact q
noncomputable abbrev R2:=V->V->Hp->VK->Prop
def OpR (X:Cx)(f:Value->Value->Sem Value)(r:R2):Prop:=
 ∀(pins:List (Addr×Obj)) (s:Shared) (σ:St) (H:Hp) (x y:V) (v u:Value) (Q:VK),Inv X pins σ H s->cq x v->cq y u->r x y H Q->
  wpAny (model X.prog X.w) X.A (f v u) (EP X pins σ Q) X.xe s
def UnR (X:Cx)(f:Value->Sem Value)(r:V->Hp->VK->Prop):Prop:=
 ∀(pins:List (Addr×Obj)) (s:Shared) (σ:St) (H:Hp) (x:V) (v:Value) (Q:VK),Inv X pins σ H s->cq x v->r x H Q->
  wpAny (model X.prog X.w) X.A (f v) (EP X pins σ Q) X.xe s
def kG (X:Cx)(f:Value)(r:List V->Hp->VK->Prop):Prop:=
 ∀(pins:List (Addr×Obj)) (s:Shared) (σ:St) (H:Hp) (xs:List V) (us:List Value) (Q:VK),Inv X pins σ H s->bJ xs us->r xs H Q->
  wpAny (model X.prog X.w) X.A (call f us) (EP X pins σ Q) X.xe s
def Ry (X:Cx)(r:V->Hp->(Bool->Hp->Prop)->Prop):Prop:=
 ∀(pins:List (Addr×Obj)) (s:Shared) (σ:St) (H:Hp) (x:V) (v:Value) (Q:Bool->Hp->Prop),Inv X pins σ H s->cq x v->r x H Q->
  wpAny (model X.prog X.w) X.A (truthy v) (TP X pins σ Q) X.xe s
noncomputable def tOp (r:R2)(ta tb:TE):TE:=fun σ H Q=>ta σ H fun x H1=>tb σ H1 fun y H2=>r x y H2 Q
noncomputable def tUn (r:V->Hp->VK->Prop)(ta:TE):TE:=fun σ H Q=>ta σ H fun x H1=>r x H1 Q
noncomputable def rI (C:Int->Int->Prop)(g:Int->Int->V):R2:=fun x y H Q=>∃i j,x=.int i/\y=.int j/\C i j/\Q (g i j) H
noncomputable def rI0 (g:Int->Int->V):R2:=fun x y H Q=>∃i j,x=.int i/\y=.int j/\Q (g i j) H
noncomputable def rU (g:Int->V):V->Hp->VK->Prop:=fun x H Q=>∃i,x=.int i/\Q (g i) H
section
variable {X:Cx}{a b c:Expr}{ta tb tc:TE}{pos:Pos}
theorem OT (ha:PE X a ta)(hb:PE X b tb){pins:List (Addr×Obj)}{s:Shared}{σ:St}{H:Hp}{R:V->V->Hp->Prop}(I:Inv X pins σ H s)
  (h:ta σ H fun x H1=>tb σ H1 fun y H2=>R x y H2) {Q:Value->Shared->Prop} {f:Value->Value->Sem Value}
  (hf:∀v u s2 x y H2,Inv X pins σ H2 s2->cq x v->cq y u->R x y H2->wpAny (model X.prog X.w) X.A (f v u) Q X.xe s2) :
  wpAny (model X.prog X.w) X.A (eval a X.env) (fun v s₁=>wpAny (model X.prog X.w) X.A (eval b X.env) (fun u s₂=>wpAny (model X.prog X.w) X.A (f v u) Q X.xe s₂) X.xe s₁) X.xe s:=by
 refine thn (ha pins s σ H _ I h) fun v s1 ⟨x,H1,I1,r1,q1⟩=>?_
 refine thn (hb pins s1 σ H1 _ I1 q1) fun u s2 ⟨y,H2,I2,r2,q2⟩=>?_
 exact hf v u s2 x y H2 I2 r1 r2 q2
theorem aS {op:Operator}{r:R2}(ho:OpR X (binaryOp op) r)(ha:PE X a ta)(hb:PE X b tb):PE X (.BinOp a op b pos) (tOp r ta tb):=by
 intro pins s σ H Q I h
 exact wpAny_BinOp (OT ha hb I h fun v u s2 x y H2 I2 rx ry q=>ho pins s2 σ H2 x y v u Q I2 rx ry q)
theorem jn {op:UnaryOp}{r:V->Hp->VK->Prop}(ho:UnR X (unaryOp op) r)(ha:PE X a ta):PE X (.UnaryOp op a pos) (tUn r ta):=by
 intro pins s σ H Q I h
 exact UnaryOp_ (thn (ha pins s σ H _ I h) fun v s1 ⟨x,H1,I1,r1,q1⟩=>ho pins s1 σ H1 x v Q I1 r1 q1)
theorem opI {f:Value->Value->Sem Value}{C:Int->Int->Prop}{g:Int->Int->Int}
  (rule:∀(i j:Int) (t u:Tok) (s:Shared) (Q:Value->Shared->Prop) (E:Value->Shared->Prop),C i j->Q (.int (g i j) s.toks) {s with toks:=s.toks+1}->wpAny (model X.prog X.w) X.A (f (.int i t) (.int j u)) Q E s) :
  OpR X f (rI C fun i j=>.int (g i j)):=by
 intro pins s σ H x y v u Q I rx ry h
 obtain ⟨i,j,rfl,rfl,hc,q⟩:=h
 obtain ⟨t,rfl⟩:=rx
 obtain ⟨t',rfl⟩:=ry
 exact rule i j t t' s _ _ hc ⟨.int (g i j),H,I.tok _,⟨_,rfl⟩,q⟩
theorem Qw {f:Value->Value->Sem Value}{g:Int->Int->Int}
  (rule:∀(i j:Int) (t u:Tok) (s:Shared) (Q:Value->Shared->Prop) (E:Value->Shared->Prop),Q (.int (g i j) s.toks) {s with toks:=s.toks+1}->wpAny (model X.prog X.w) X.A (f (.int i t) (.int j u)) Q E s) :
  OpR X f (rI0 fun i j=>.int (g i j)):=by
 intro pins s σ H x y v u Q I rx ry h
 obtain ⟨i,j,rfl,rfl,q⟩:=h
 obtain ⟨t,rfl⟩:=rx
 obtain ⟨t',rfl⟩:=ry
 exact rule i j t t' s _ _ ⟨.int (g i j),H,I.tok _,⟨_,rfl⟩,q⟩
theorem Mi {f:Value->Value->Sem Value}{g:Int->Int->Bool}
  (rule:∀(i j:Int) (t u:Tok) (s:Shared) (Q:Value->Shared->Prop) (E:Value->Shared->Prop),Q (.bool (g i j)) s->wpAny (model X.prog X.w) X.A (f (.int i t) (.int j u)) Q E s) :
  OpR X f (rI0 fun i j=>.bl (g i j)):=by
 intro pins s σ H x y v u Q I rx ry h
 obtain ⟨i,j,rfl,rfl,q⟩:=h
 obtain ⟨t,rfl⟩:=rx
 obtain ⟨t',rfl⟩:=ry
 exact rule i j t t' s _ _ ⟨.bl (g i j),H,I,rfl,q⟩
def Kn (i j:Int):Prop:=0 < j/\j < 1073741824
def Qx (i j:Int):Prop:=0<=j/\j<=1000000/\i.natAbs < 2 ^ 64
def BC (i j:Int):Prop:=(-(2 ^ 64) < i/\i < 2 ^ 64)\/(-(2 ^ 64) < j/\j < 2 ^ 64)
theorem BC.ok {i j:Int}(h:BC i j):IntMulOk i j:=by
 rcases h with ⟨h1,h2⟩ | ⟨h1,h2⟩
 ·exact .of_left (intBits_le_64 h1 h2)
 ·exact .of_right (intBits_le_64 h1 h2)
theorem cb:OpR X (binaryOp .Add) (rI0 fun i j=>.int (i+j)):=Qw fun _ _ _ _ _ _ _ q=>add_int q
theorem eS:OpR X (binaryOp .Sub) (rI0 fun i j=>.int (i - j)):=Qw fun _ _ _ _ _ _ _ q=>sub_int q
theorem kl:OpR X (binaryOp .Mult) (rI BC fun i j=>.int (i * j)):=opI fun _ _ _ _ _ _ _ hc q=>mul_int q hc.ok
theorem ni:OpR X (binaryOp .FloorDiv) (rI Kn fun i j=>.int (i / j)):=opI fun i j _ _ _ _ _ hc q=>by
 have h1:(0:Int) < j:=hc.1
 have h2:j < 1073741824:=hc.2
 exact floordiv_int (by omega) (by rw [Int.fdiv_eq_ediv_of_nonneg i (by omega)];exact q) (.inl (PyProof.noPylong_small (by omega)))
theorem cV:OpR X (binaryOp .Mod) (rI (fun _ j=>0 < j) fun i j=>.int (i % j)):=opI fun i j _ _ _ _ _ hc q=>by
 have h1:(0:Int) < j:=hc
 exact mod_int' (by omega) (by rw [Int.fmod_eq_emod_of_nonneg i (by omega)];exact q)
theorem OU:OpR X (binaryOp .Pow) (rI Qx fun i j=>.int (i ^ j.toNat)):=opI fun _ _ _ _ _ _ _ hc q=>pow_int_small hc.1 hc.2.1 hc.2.2 q
theorem unI {f:Value->Sem Value}{g:Int->Int}
  (rule:∀(i:Int) (t:Tok) (s:Shared) (Q:Value->Shared->Prop) (E:Value->Shared->Prop),Q (.int (g i) s.toks) {s with toks:=s.toks+1}->wpAny (model X.prog X.w) X.A (f (.int i t)) Q E s) :
  UnR X f (rU fun i=>.int (g i)):=by
 intro pins s σ H x v Q I rx h
 obtain ⟨i,rfl,q⟩:=h
 obtain ⟨t,rfl⟩:=rx
 exact rule i t s _ _ ⟨.int (g i),H,I.tok _,⟨_,rfl⟩,q⟩
theorem fA:UnR X (unaryOp .USub) (rU fun i=>.int (-i)):=unI fun _ _ _ _ _ q=>neg_int q
end
noncomputable def BD:V->V->Bool
 | .non,.non=>true | .non,.int _=>true | .int _,.non=>true | .non,.bl _=>true | .bl _,.non=>true | .non,.str _=>true | .str _,.non=>true
 | .int _,.int _=>true | .bl _,.bl _=>true | .str _,.str _=>true | .byt _,.byt _=>true
 | .int _,.str _=>true | .str _,.int _=>true | .bl _,.str _=>true | .str _,.bl _=>true
 | _,_=>false
noncomputable def rEq:R2:=fun x y H Q=>BD x y=true/\Q (.bl (decide (x=y))) H
noncomputable def rNe:R2:=fun x y H Q=>BD x y=true/\Q (.bl (!decide (x=y))) H
theorem Ih {i j:Int}:decide (V.int i=V.int j)=(i == j):=by
 rw [Bool.eq_iff_iff]
 simp
theorem Ko {i j:Bool}:decide (V.bl i=V.bl j)=(i == j):=by
 rw [Bool.eq_iff_iff]
 simp
theorem Ii {i j:Str}:decide (V.str i=V.str j)=(i == j):=by
 rw [Bool.eq_iff_iff]
 simp
theorem Ij {i j:Array UInt8}:decide (V.byt i=V.byt j)=(i.toList == j.toList):=by
 rw [Bool.eq_iff_iff]
 cases i
 cases j
 simp
section
variable {X:Cx}{a b c:Expr}{ta tb tc:TE}{pos:Pos}
theorem cB {pins:List (Addr×Obj)}{σ:St}{H:Hp}{s:Shared}{Q:VK}{k k':Bool}(I:Inv X pins σ H s)(q:Q (.bl k) H)(e:k=k'):EP X pins σ Q (.bool k') s:=by
 subst e
 exact ⟨.bl k,H,I,rfl,q⟩
theorem bI:OpR X (compareOp .Eq) rEq:=by
 intro pins s σ H x y v u Q I rx ry h
 obtain ⟨hs,q⟩:=h
 cases x with
 | non=>
  cases rx
  cases y with
  | non=>cases ry;exact PySem.EqNone.eq_none_none (cB I q (by simp))
  | bl j=>cases ry;exact PySem.EqNone.eq_none_bool (cB I q (by simp))
  | int j=>obtain ⟨t',rfl⟩:=ry;exact PySem.EqNone.eq_none_int (cB I q (by simp))
  | str j=>obtain ⟨t',rfl⟩:=ry;exact PySem.EqNone.eq_none_str (cB I q (by simp))
  | _=>exact absurd (show false=true from hs) Bool.false_ne_true
 | bl i=>
  cases rx
  cases y with
  | non=>cases ry;exact PySem.EqNone.eq_bool_none (cB I q (by simp))
  | bl j=>cases ry;exact eq_bool (cB I q Ko)
  | str j=>obtain ⟨t',rfl⟩:=ry;exact PySem.EqMixed.eq_bool_str (cB I q (by simp))
  | _=>exact absurd (show false=true from hs) Bool.false_ne_true
 | int i=>
  obtain ⟨t,rfl⟩:=rx
  cases y with
  | non=>cases ry;exact PySem.EqNone.eq_int_none (cB I q (by simp))
  | int j=>obtain ⟨t',rfl⟩:=ry;exact eq_int (cB I q Ih)
  | str j=>obtain ⟨t',rfl⟩:=ry;exact PySem.EqMixed.eq_int_str (cB I q (by simp))
  | _=>exact absurd (show false=true from hs) Bool.false_ne_true
 | str i=>
  obtain ⟨t,rfl⟩:=rx
  cases y with
  | non=>cases ry;exact PySem.EqNone.eq_str_none (cB I q (by simp))
  | bl j=>cases ry;exact PySem.EqMixed.eq_str_bool (cB I q (by simp))
  | int j=>obtain ⟨t',rfl⟩:=ry;exact PySem.EqMixed.eq_str_int (cB I q (by simp))
  | str j=>obtain ⟨t',rfl⟩:=ry;exact eq_str (cB I q Ii)
  | _=>exact absurd (show false=true from hs) Bool.false_ne_true
 | byt i=>
  obtain ⟨t,rfl⟩:=rx
  cases y with
  | byt j=>obtain ⟨t',rfl⟩:=ry;exact PySem.W.eq_bytes (cB I q Ij)
  | _=>exact absurd (show false=true from hs) Bool.false_ne_true
 | _=>cases y<;>exact absurd (show false=true from hs) Bool.false_ne_true
theorem qp:OpR X (compareOp .NotEq) rNe:=by
 intro pins s σ H x y v u Q I rx ry h
 obtain ⟨hs,q⟩:=h
 cases x with
 | non=>
  cases rx
  cases y with
  | non=>cases ry;exact PySem.EqNone.ne_none_none (cB I q (by simp))
  | bl j=>cases ry;exact PySem.EqNone.ne_none_bool (cB I q (by simp))
  | int j=>obtain ⟨t',rfl⟩:=ry;exact PySem.EqNone.ne_none_int (cB I q (by simp))
  | str j=>obtain ⟨t',rfl⟩:=ry;exact PySem.EqNone.ne_none_str (cB I q (by simp))
  | _=>exact absurd (show false=true from hs) Bool.false_ne_true
 | bl i=>
  cases rx
  cases y with
  | non=>cases ry;exact PySem.EqNone.ne_bool_none (cB I q (by simp))
  | bl j=>cases ry;exact ne_bool (cB I q (congrArg not Ko))
  | str j=>obtain ⟨t',rfl⟩:=ry;exact PySem.EqMixed.ne_bool_str (cB I q (by simp))
  | _=>exact absurd (show false=true from hs) Bool.false_ne_true
 | int i=>
  obtain ⟨t,rfl⟩:=rx
  cases y with
  | non=>cases ry;exact PySem.EqNone.ne_int_none (cB I q (by simp))
  | int j=>obtain ⟨t',rfl⟩:=ry;exact ne_int (cB I q (congrArg not Ih))
  | str j=>obtain ⟨t',rfl⟩:=ry;exact PySem.EqMixed.ne_int_str (cB I q (by simp))
  | _=>exact absurd (show false=true from hs) Bool.false_ne_true
 | str i=>
  obtain ⟨t,rfl⟩:=rx
  cases y with
  | non=>cases ry;exact PySem.EqNone.ne_str_none (cB I q (by simp))
  | bl j=>cases ry;exact PySem.EqMixed.ne_str_bool (cB I q (by simp))
  | int j=>obtain ⟨t',rfl⟩:=ry;exact PySem.EqMixed.ne_str_int (cB I q (by simp))
  | str j=>obtain ⟨t',rfl⟩:=ry;exact ne_str (cB I q (congrArg not Ii))
  | _=>exact absurd (show false=true from hs) Bool.false_ne_true
 | byt i=>
  obtain ⟨t,rfl⟩:=rx
  cases y with
  | byt j=>obtain ⟨t',rfl⟩:=ry;exact PySem.W.ne_bytes (cB I q (congrArg not Ij))
  | _=>exact absurd (show false=true from hs) Bool.false_ne_true
 | _=>cases y<;>exact absurd (show false=true from hs) Bool.false_ne_true
theorem qr:OpR X (compareOp .Lt) (rI0 fun i j=>.bl (decide (i < j))):=Mi fun _ _ _ _ _ _ _ q=>lt_int q
theorem Ik:OpR X (compareOp .LtE) (rI0 fun i j=>.bl (decide (i<=j))):=Mi fun _ _ _ _ _ _ _ q=>le_int q
theorem zW:OpR X (compareOp .Gt) (rI0 fun i j=>.bl (decide (j < i))):=Mi fun _ _ _ _ _ _ _ q=>gt_int q
theorem Cw:OpR X (compareOp .GtE) (rI0 fun i j=>.bl (decide (j<=i))):=Mi fun _ _ _ _ _ _ _ q=>ge_int q
theorem DZ:OpR X (compareOp .Is) (fun x y H Q=>y=.non/\Q (.bl (decide (x=.non))) H):=by
 intro pins s σ H x y v u Q I rx ry h
 obtain ⟨rfl,q⟩:=h
 cases ry
 refine is_none_gen (cB I q ?_)
 cases x<;>first
  | (cases rx;rfl)
  | (obtain ⟨t,rfl⟩:=rx;rfl)
theorem Mj:OpR X (compareOp .IsNot) (fun x y H Q=>y=.non/\Q (.bl (!decide (x=.non))) H):=by
 intro pins s σ H x y v u Q I rx ry h
 obtain ⟨rfl,q⟩:=h
 cases ry
 refine isnot_none_gen (cB I q ?_)
 cases x<;>first
  | (cases rx;rfl)
  | (obtain ⟨t,rfl⟩:=rx;rfl)
theorem aJ (b:Expr){op:CmpOp}(h:op≠.In:=by decide)(h2:op≠.NotIn:=by decide):behindInMarks op b=false:=by
 have e1:(op == CmpOp.In)=false:=by cases op<;>first | rfl | exact absurd rfl h
 have e2:(op == CmpOp.NotIn)=false:=by cases op<;>first | rfl | exact absurd rfl h2
 cases b<;>simp [behindInMarks,e1,e2]
theorem gm {op:CmpOp}{r:R2}(ho:OpR X (compareOp op) r)(ha:PE X a ta)(hb:PE X b tb)(hm:behindInMarks op b=false):PE X (.Compare a [op] [b] pos) (tOp r ta tb):=by
 intro pins s σ H Q I h
 exact wpAny_Compare1 (OT ha hb I h fun v u s2 x y H2 I2 rx ry q=>ho pins s2 σ H2 x y v u Q I2 rx ry q) hm
noncomputable def qV (t:TE):TT:=fun σ H Q=>t σ H fun x H'=>∃k,x=.bl k/\Q k H'
theorem ax {op:CmpOp}{r:R2}(ho:OpR X (compareOp op) r)(ha:PE X a ta)(hb:PE X b tb)(hm:behindInMarks op b=false):PT X (.Compare a [op] [b] pos) (qV (tOp r ta tb)):=by
 intro pins s σ H Q I h
 refine wpAny_isTrue_Compare1 (thn (ha pins s σ H _ I h) fun v s1 ⟨x,H1,I1,r1,q1⟩=>thn (hb pins s1 σ H1 _ I1 q1) fun u s2 ⟨y,H2,I2,r2,q2⟩=>
  thn (ho pins s2 σ H2 x y v u _ I2 r1 r2 q2) fun c s3 ⟨z,H3,I3,r3,k,e,q3⟩=>?_) hm
 subst e
 cases r3
 exact wpAny_truthy_bool ⟨H3,I3,q3⟩
def Qy (K:PySem.W.Frag)(x:V)(H:Hp)(k:Bool):Prop:=
 match x with
 | .non=>k=false
 | .bl b=>k=b
 | .int i=>k=(i != 0)
 | .str y=>y.length<=sizeLine/\k=((y.length:Int) != 0)
 | .byt y=>y.size<=sizeLine/\k=((y.size:Int) != 0)
 | .ref p=>(∃xs,SqL K H p xs/\k=!xs.isEmpty)\/(∃xs,SqT K H p xs/\k=!xs.isEmpty)\/∃kvs,H p=some (.dK kvs)/\k=!kvs.isEmpty
 | _=>False
theorem GI {κ:Type}{kvs:List (κ×V)}{vs:List (κ×Value)}(r:KV kvs vs):(!vs.isEmpty)=!kvs.isEmpty:=by
 cases r<;>rfl
theorem zX {xs:List V}{its:List Value}(r:bJ xs its):(!its.toArray.isEmpty)=!xs.isEmpty:=by
 cases r<;>simp
theorem yb:(sizeLine:Nat) < 2 ^ 63:=by rw [sizeLine_eq];decide
theorem OV:Ry X (fun x H Q=>∃k,Qy X.K x H k/\Q k H):=by
 intro pins s σ H x v Q I rx h
 obtain ⟨k,e,q⟩:=h
 have hl:=yb
 have hs:sizeLine=16777216:=sizeLine_eq
 cases x with
 | non=>
  cases rx
  have e':k=false:=e
  subst e'
  exact truthy_none ⟨H,I,q⟩
 | bl b=>
  cases rx
  have e':k=b:=e
  subst e'
  exact wpAny_truthy_bool ⟨H,I,q⟩
 | int i=>
  obtain ⟨t,rfl⟩:=rx
  have e':k=(i != 0):=e
  subst e'
  exact PySem.P.truthy_int ⟨H,I,q⟩
 | str y=>
  obtain ⟨t,rfl⟩:=rx
  obtain ⟨hy,e'⟩:y.length<=sizeLine/\k=((y.length:Int) != 0):=e
  subst e'
  exact PySem.P.truthy_str (by omega) ⟨H,I.tok _,q⟩
 | byt y=>
  obtain ⟨t,rfl⟩:=rx
  obtain ⟨hy,e'⟩:y.size<=sizeLine/\k=((y.size:Int) != 0):=e
  subst e'
  exact PySem.W.truthy_bytes (by omega) ⟨H,I.tok _,q⟩
 | ref p=>
  cases rx
  have e':(∃xs,SqL X.K H p xs/\k=!xs.isEmpty)\/(∃xs,SqT X.K H p xs/\k=!xs.isEmpty)\/∃kvs,H p=some (.dK kvs)/\k=!kvs.isEmpty:=e
  rcases e' with ⟨xs,hx,e'⟩ | ⟨xs,hx,e'⟩ | ⟨kvs,hx,e'⟩
  ·subst e'
   obtain ⟨its,r,pl,hz⟩:=I.list hx
   have hlen:=r.length
   exact wpAny_truthy_list pl.isList (by simp only [List.size_toArray];omega) ⟨H,I.tok _,by rw [zX r];exact q⟩
  ·subst e'
   obtain ⟨its,r,pl,hz⟩:=I.tuple hx
   have hlen:=r.length
   exact truthy_tuple pl (by simp only [List.size_toArray];omega) ⟨H,I.tok _,by rw [zX r];exact q⟩
  ·subst e'
   obtain ⟨hz,hS,vs,r,m⟩:kvs.length<=sizeLine/\(p == sysModules)=false/\∃vs,KV kvs vs/\s.heap.DictOf (DT X.prog X.w) p vs:=I.hok p _ hx
   have hlen:kvs.length=vs.length:=Paired.length r
   exact wpAny_truthy_dict hS m (by omega) ⟨H,I.tok _,by rw [GI r];exact q⟩
 | _=>exact (show False from e).elim
theorem zY (ha:PE X a ta)(he:∀cv,isTrue a X.env cv=(do let v ←cv;standAt a.pos;holding [v] (truthy v))) :
  PT X a (fun σ H Q=>ta σ H fun x H'=>∃k,Qy X.K x H' k/\Q k H'):=by
 intro pins s σ H Q I h
 exact isTrue_plain (thn (ha pins s σ H _ I h) fun v s1 ⟨x,H1,I1,r1,q1⟩=>OV pins s1 σ H1 x v Q I1 r1 q1) (he _)
theorem yI {x:V}{us:List Value}(r:bJ [x] us):∃u,us=[u]/\cq x u:=by
 cases r with
 | cons r1 r2=>cases r2;exact ⟨_,rfl,r1⟩
theorem E4 {x y:V}{us:List Value}(r:bJ [x,y] us):∃u w',us=[u,w']/\cq x u/\cq y w':=by
 cases r with
 | cons r1 r2=>
  cases r2 with
  | cons r3 r4=>cases r4;exact ⟨_,_,rfl,r1,r3⟩
theorem zZ:kG X (.builtin "abs") (fun xs H Q=>∃i,xs=[.int i]/\Q (.int (if i < 0 then -i else i)) H):=by
 intro pins s σ H xs us Q I r h
 obtain ⟨i,rfl,q⟩:=h
 obtain ⟨u,rfl,t,rfl⟩:=yI r
 exact call_abs_int fun u tk=>⟨.int (if i < 0 then -i else i),H,I.tok _,⟨_,rfl⟩,q⟩
theorem tx (hc:X.calm=true):kG X (.builtin "min") (fun xs H Q=>∃i j,xs=[.int i,.int j]/\Q (.int (if j < i then j else i)) H):=by
 intro pins s σ H xs us Q I r h
 obtain ⟨i,j,rfl,q⟩:=h
 obtain ⟨u,w',rfl,⟨t,rfl⟩,⟨t',rfl⟩⟩:=E4 r
 refine min_two_ints (I.ok.hd hc) fun h' tk k=>⟨_,H,I.kept k,?_,q⟩
 by_cases hj:j < i
 ·rw [if_pos hj,if_pos hj];exact ⟨_,rfl⟩
 ·rw [if_neg hj,if_neg hj];exact ⟨_,rfl⟩
theorem lW:kG X (.type "int") (fun xs H Q=>(∃i,xs=[.int i]/\Q (.int i) H)\/∃k,xs=[.bl k]/\Q (.int (if k then 1 else 0)) H):=by
 intro pins s σ H xs us Q I r h
 rcases h with ⟨i,rfl,q⟩ | ⟨k,rfl,q⟩
 ·obtain ⟨u,rfl,t,rfl⟩:=yI r
  exact call_int_int ⟨.int i,H,I,⟨_,rfl⟩,q⟩
 ·obtain ⟨u,rfl,r1⟩:=yI r
  cases r1
  exact call_int_bool ⟨.int (if k then 1 else 0),H,I.tok _,⟨_,rfl⟩,q⟩
end
structure GJ (h:Heap)(x dx C:Addr)(mA:Str->Option Value):Prop where
 obj:h.get? x=some (PySem.W.instObj C dx)
 ns:h.Ns1 dx mA
 ne:dx≠x
theorem Jn {h:Heap}{dx:Addr}{mA:Str->Option Value}(n:h.Ns1 dx mA):∃od,h.get? dx=some od/\∀name,PySem.W.lookIn name od=some (mA name):=by
 obtain ⟨o,es,ep,ho,hd,hk,_,hm⟩:=n
 refine ⟨o,ho,fun name=>?_⟩
 have e:=hm name
 unfold nsFind findBy at e
 rw [←Array.find?_toList] at e
 unfold PySem.W.lookIn
 rw [hd]
 dsimp only
 split
 ·rename_i y q
  rw [q] at e
  exact congrArg some e
 ·rename_i q
  rw [q] at e
  have a:es.toList.any (·.refKey)=false:=by
   rw [List.any_eq_false]
   intro y hy
   obtain ⟨z,t,hkey⟩:=hk y (Array.mem_toList_iff.mp hy)
   simp [DictEntry.refKey,hkey]
  have a':¬es.toList.any (·.refKey)=true:=by rw [a];exact Bool.false_ne_true
  rw [if_neg a']
  exact congrArg some e
theorem GJ.look {h:Heap}{x dx C:Addr}{mA:Str->Option Value}(I:GJ h x dx C mA):∃od,PySem.W.InstAt h x (PySem.W.instObj C dx) C (some od)/\∀name,PySem.W.lookIn name od=some (mA name):=
 let ⟨od,ho,hl⟩:=Jn I.ns
 ⟨od,⟨I.obj,rfl,rfl,ho⟩,hl⟩
section
variable {prog:Program}{w:World}{A:Around}{E:Value->Shared->Prop}{s:Shared}{K:PySem.W.Frag}{x dx C f:Addr}{mA:Str->Option Value}{name:Str}{v:Value}
theorem Ml {expr:Bool}{Q:Value->Shared->Prop}(X:K.In s.heap)(I:GJ s.heap x dx C mA)(hg:PySem.W.plainGet K C name=true)(hh:PySem.W.hasDictIn K C=true)
  (ha:PySem.W.findIn K (.ref C) name=some none) (hv:mA name=some v) (hv':PySem.W.handedIn v=true) (h:Q v {s with toks:=s.toks+1}) :
  wpAny (model prog w) A (getAttr (.ref x) name expr) Q E s:=by
 obtain ⟨od,J,hl⟩:=I.look
 exact PySem.W.get_value X J (PySem.W.plainGet_of hg).1 (PySem.W.findObj_own hh ha rfl (by rw [hl,hv])) hv' h
theorem Kp {pl:Sem Bool}{Q:Value×List Value->Shared->Prop}(X:K.In s.heap)(I:GJ s.heap x dx C mA)(hg:PySem.W.plainGet K C name=true)
  (hf:PySem.W.findIn K (.ref C) name=some (some (.ref f))) (ht:PySem.W.isFn K (.ref f)=true) (hv:mA name=none) (h:Q (.ref f,[.ref x]) s) :
  wpAny (model prog w) A (getMethod (.ref x) name pl) Q E s:=by
 obtain ⟨od,J,hl⟩:=I.look
 exact PySem.W.method_fn X J (PySem.W.plainGet_of hg).1 (PySem.W.plainGet_of hg).2 hf (beq_iff_eq.mp ht) (by show (PySem.W.lookIn name od).map (·.isSome)=some false;rw [hl,hv];rfl) h
theorem Mm {ns:List Str}{Q:Unit->Shared->Prop}(X:K.In s.heap)(I:GJ s.heap x dx C mA)
  (hs:PySem.W.findIn K (.ref C) "__setattr__"=some (some (.builtin "object.__setattr__"))) (hp:PySem.W.plainOver K C=true) (ht:PySem.W.takerIn K C name=some none) (hh:PySem.W.hasDictIn K C=true)
  (hw:PySem.Within mA ns) (hsz:ns.length<=sizeLine)
  (h:∀h',GJ h' x dx C (fun y=>if y=name then some v else mA y)->Heap.SameBut dx s.heap h'->Q () {s with heap:=h',toks:=s.toks+2}) :
  wpAny (model prog w) A (setAttr (.ref x) name v) Q E s:=by
 obtain ⟨od,J,hl⟩:=I.look
 refine PySem.W.set_plain X J hs (PySem.W.osa_open (s:={s with toks:=s.toks+1}) (r:=none) X J hp ht fun b=>?_)
 obtain ⟨cd,hc,hd'⟩:=PySem.W.any_some hh
 have hx:s.heap.get? x=some ⟨.ref C,some dx,.plain,#[]⟩:=I.obj
 refine wpAny_bind (wpAny_pure (wpAny_bind (wpAny_bind (wpAny_loadPart hx (wpAny_bind (PySem.W.Looks.here (s:={s with toks:=s.toks+1}) (PySem.W.looks_clsIn X hc) ?_))))))
 rw [hd']
 refine wpAny_pure (a:=some dx) (wpAny_bind (wpAny_pure (wpAny_bind ?_)))
 refine wpAny_nsSet1 (s:={s with toks:=s.toks+1}) I.ns fun h' hn2 hs2=>?_
 obtain ⟨oD,esD,epD,hoD,hdD,hcD⟩:=hn2.count (PySem.Within.cons name v hw)
 refine wpAny_bind (wpAny_lookBehind hoD (by rw [hdD];exact pastItsLine_dict (Nat.le_trans hcD (by rw [List.length_cons];omega))) ?_)
 exact wpAny_pure (h _ ⟨(hs2.2 _ (Ne.symm I.ne)).trans I.obj,hn2,I.ne⟩ hs2)
theorem Kq {R:Result->Shared->Prop}{vs:List Value}{kw:List (Str×Value)}(X:K.In s.heap)(hm:PySem.W.makesIn K C=true)
  (hi:PySem.W.findIn K (.ref C) "__init__"=some (some (.ref f))) (hf:PySem.W.typeIn K (.ref f)=some (.type "function"))
  (h:codeAny (model prog w) (A.under (.builtin "type.__call__" ⟨.ref C::vs,kw⟩)) (.call (.ref f) ⟨.ref (s.heap.objs.size+1)::vs,kw⟩) (PySem.W.InitBack (s.heap.objs.size+1) R)
   {s with heap:=(s.heap.push PySem.W.emptyDict).push (PySem.W.instObj C s.heap.objs.size)}) :
  codeAny (model prog w) A (.call (.ref C) ⟨vs,kw⟩) R s:=by
 obtain ⟨hh,g,d,t,os⟩:=s
 exact PySem.W.make_core (PySem.W.makes_of X hm) (PySem.W.looks_findIn X hi) (fun self=>PySem.W.bind_fn X self hf) (.inl rfl) h
end
noncomputable def bL (f:Str)(v:V):List (Str×V)->List (Str×V)
 | []=>[(f,v)]
 | (g,x)::r=>if g=f then (g,v)::r else (g,x)::bL f v r
theorem yJ (f g:Str)(v:V):∀fs:List (Str×V),(bL f v fs).lookup g=if g=f then some v else fs.lookup g
 | []=>by
  show List.lookup g [(f,v)]=_
  by_cases h:g=f
  ·have hb:(g == f)=true:=beq_iff_eq.mpr h
   simp only [List.lookup,hb,if_pos h]
  ·have hb:(g == f)=false:=beq_eq_false_iff_ne.mpr h
   simp only [List.lookup,hb,if_neg h]
 | (k,x)::r=>by
  have ih:=yJ f g v r
  rw [show bL f v ((k,x)::r)=(if k=f then (k,v)::r else (k,x)::bL f v r) from rfl]
  by_cases hk:k=f
  ·rw [if_pos hk]
   by_cases h:g=k
   ·have hb:(g == k)=true:=beq_iff_eq.mpr h
    simp only [List.lookup,hb,if_pos (h.trans hk)]
   ·have hb:(g == k)=false:=beq_eq_false_iff_ne.mpr h
    simp only [List.lookup,hb,if_neg (fun e:g=f=>h (e.trans hk.symm))]
  ·rw [if_neg hk]
   by_cases h:g=k
   ·have hb:(g == k)=true:=beq_iff_eq.mpr h
    simp only [List.lookup,hb,if_neg (fun e:g=f=>hk (h.symm.trans e))]
   ·have hb:(g == k)=false:=beq_eq_false_iff_ne.mpr h
    simp only [List.lookup,hb]
    exact ih
theorem yd (f:Str)(v:V):∀fs:List (Str×V),f∈(bL f v fs).map (·.1)/\∀g,g∈fs.map (·.1)->g∈(bL f v fs).map (·.1)
 | []=>⟨by simp [bL],fun g h=>by simp at h⟩
 | (k,x)::r=>by
  obtain ⟨i1,i2⟩:=yd f v r
  rw [show bL f v ((k,x)::r)=(if k=f then (k,v)::r else (k,x)::bL f v r) from rfl]
  by_cases hk:k=f
  ·rw [if_pos hk]
   subst hk
   exact ⟨by simp,fun g h=>by simpa using h⟩
  ·rw [if_neg hk]
   refine ⟨?_,fun g h=>?_⟩
   ·rw [List.map_cons]
    exact List.mem_cons_of_mem _ i1
   ·rw [List.map_cons] at h ⊢
    rcases List.mem_cons.mp h with e | e
    ·exact List.mem_cons.mpr (.inl e)
    ·exact List.mem_cons_of_mem _ (i2 g e)
theorem qW (f:Str)(v:V):∀fs:List (Str×V),(bL f v fs).length<=fs.length+1
 | []=>by simp [bL]
 | (k,x)::r=>by
  have ih:=qW f v r
  rw [show bL f v ((k,x)::r)=(if k=f then (k,v)::r else (k,x)::bL f v r) from rfl]
  by_cases hk:k=f
  ·rw [if_pos hk,List.length_cons,List.length_cons];omega
  ·rw [if_neg hk,List.length_cons,List.length_cons];omega
theorem BA.some_of {v:V}{o:Option Value}(r:BA (some v) o):∃u,o=some u/\cq v u:=by
 cases o with
 | none=>exact (show False from r).elim
 | some u=>exact ⟨u,rfl,r⟩
theorem BA.none_of {o:Option Value}(r:BA none o):o=none:=by
 cases o with
 | none=>rfl
 | some u=>exact (show False from r).elim
theorem Jo {v:V}{u:Value}(r:cq v u):PySem.W.handedIn u=true:=by
 cases v with
 | non=>cases (show u=Value.none from r);rfl
 | bl b=>cases (show u=Value.bool b from r);rfl
 | int i=>obtain ⟨t,e⟩:=(show ∃t,u=Value.int i t from r);cases e;rfl
 | str x=>obtain ⟨t,e⟩:=(show ∃t,u=Value.str x t from r);cases e;rfl
 | byt b=>obtain ⟨t,e⟩:=(show ∃t,u=Value.bytes b t from r);cases e;rfl
 | flt b=>obtain ⟨t,e⟩:=(show ∃t,u=Value.float b t from r);cases e;rfl
 | ref a=>cases (show u=Value.ref a from r);rfl
 | ty n=>cases (show u=Value.type n from r);rfl
section
variable {P:Program}{w:World}{H H':Hp}{h h':Heap}{a C dx:Addr}{fs fs':List (Str×V)}
theorem zJ (hok:HOk P w H h)(e:H a=some (.ins C dx fs)):∃mA,GJ h a dx C mA/\(∀f,BA (fs.lookup f) (mA f))/\PySem.Within mA (fs.map (·.1))/\fs.length<=1000/\H dx=some (.own a):=by
 obtain ⟨d,z,ne,ob,mA,n,r,q⟩:=(show gj P w H h a (.ins C dx fs) from hok a _ e)
 exact ⟨mA,⟨ob,n,ne⟩,r,q,z,d⟩
end
structure Cls (K:PySem.W.Frag)(C:Addr):Prop where
 pg:PySem.W.plainGet K C Str.empty=true
 hd:PySem.W.hasDictIn K C=true
 po:PySem.W.plainOver K C=true
 sa:PySem.W.findIn K (.ref C) "__setattr__"=some (some (.builtin "object.__setattr__"))
theorem Cls.get {K:PySem.W.Frag}{C:Addr}(c:Cls K C)(f:Str):PySem.W.plainGet K C f=true:=c.pg
def bz (K:PySem.W.Frag)(C:Addr)(f:Str):Prop:=PySem.W.findIn K (.ref C) f=some none
theorem bz.taker {K:PySem.W.Frag}{C:Addr}{f:Str}(n:bz K C f):PySem.W.takerIn K C f=some none:=by
 unfold PySem.W.takerIn
 rw [show PySem.W.findIn K (.ref C) f=some none from n]
 rfl
structure GK (K:PySem.W.Frag)(C:Addr)(m:Str)(f:Addr):Prop where
 at_:PySem.W.findIn K (.ref C) m=some (some (.ref f))
 fn:PySem.W.isFn K (.ref f)=true
 kp:PySem.W.keepIn K (.ref f)=true
section
variable {X:Cx}{pins:List (Addr×Obj)}{σ:St}{H:Hp}{s:Shared}{a C dx:Addr}{fs:List (Str×V)}{f:Str}{v:V}{A:Around}{E:Value->Shared->Prop}
theorem GL {b:Bool}{Q:Value->Shared->Prop}(I:Inv X pins σ H s)(e:H a=some (.ins C dx fs))(c:Cls X.K C)(n:bz X.K C f)(l:fs.lookup f=some v)
  (h:∀u s',Inv X pins σ H s'->cq v u->Q u s'):wpAny (model X.prog X.w) A (getAttr (.ref a) f b) Q E s:=by
 obtain ⟨mA,O,r,_,_,_⟩:=zJ I.hok e
 obtain ⟨u,hu,ru⟩:=BA.some_of (v:=v) (o:=mA f) (by rw [←l];exact r f)
 exact Ml I.kIn O (c.get f) c.hd n hu (Jo ru) (h u _ (I.tok _) ru)
theorem pJ {m:Str}{g:Addr}{pl:Sem Bool}{Q:Value×List Value->Shared->Prop}(I:Inv X pins σ H s)(e:H a=some (.ins C dx fs))(c:Cls X.K C)(k:GK X.K C m g)(l:fs.lookup m=none)
  (h:Q (.ref g,[.ref a]) s):wpAny (model X.prog X.w) A (getMethod (.ref a) m pl) Q E s:=by
 obtain ⟨mA,O,r,_,_,_⟩:=zJ I.hok e
 have hn:mA m=none:=BA.none_of (by rw [←l];exact r m)
 exact Kp I.kIn O (c.get m) k.at_ k.fn hn h
theorem GN {y:V}{u:Value}{Q:Unit->Shared->Prop}(I:Inv X pins σ H s)(e:H a=some (.ins C dx fs))(c:Cls X.K C)(n:bz X.K C f)(hl:fs.length < 1000)(ry:cq y u)
  (h:∀s',Inv X pins σ (upd H a (.ins C dx (bL f y fs))) s'->Q () s'):wpAny (model X.prog X.w) A (setAttr (.ref a) f u) Q E s:=by
 obtain ⟨mA,O,r,wi,_,ho⟩:=zJ I.hok e
 have hz:(fs.map (·.1)).length<=sizeLine:=by rw [List.length_map,sizeLine_eq];omega
 refine Mm I.kIn O c.sa c.po n.taker c.hd wi hz fun h' O' sb=>h _ ?_
 have hd:∃o,h'.get? dx=some o:=let ⟨o,_,_,e',_⟩:=O'.ns;⟨o,e'⟩
 refine I.write (x:=a) (e:=dx) (by rw [e];exact True.intro) (.inr ho) (fun b q hb z=>(sb.2 b hb).trans z) hd ?_
 refine ⟨by rw [aV O.ne];exact ho,?_,O.ne,O'.obj,_,O'.ns,fun g=>?_,fun g hg=>?_⟩
 ·have:=qW f y fs;omega
 ·show BA ((bL f y fs).lookup g) (if g=f then some u else mA g)
  rw [yJ]
  by_cases q:g=f
  ·rw [if_pos q,if_pos q];exact ry
  ·rw [if_neg q,if_neg q];exact r g
 ·by_cases q:g=f
  ·rw [q];exact (yd f y fs).1
  ·refine (yd f y fs).2 g (wi g fun z=>hg ?_)
   show (if g=f then some u else mA g)=none
   rw [if_neg q];exact z
theorem Inv.made (I:Inv X pins σ H s):Inv X pins σ (upd (upd H s.heap.objs.size (.own (s.heap.objs.size+1))) (s.heap.objs.size+1) (.ins C s.heap.objs.size []))
  {s with heap:=(s.heap.push PySem.W.emptyDict).push (PySem.W.instObj C s.heap.objs.size)}:=by
 have e1:(s.heap.push PySem.W.emptyDict).get? s.heap.objs.size=some PySem.W.emptyDict:=Heap.get?_push_size s.heap rfl
 have e2:((s.heap.push PySem.W.emptyDict).push (PySem.W.instObj C s.heap.objs.size)).get? (s.heap.objs.size+1)=some (PySem.W.instObj C s.heap.objs.size):=by
  have:=Heap.get?_push_size (s.heap.push PySem.W.emptyDict) (o:=PySem.W.instObj C s.heap.objs.size) rfl
  rwa [Heap.size_push] at this
 have e3:(s.heap.push PySem.W.emptyDict).Ns s.heap.objs.size (fun _=>none):=⟨PySem.W.emptyDict,#[],_,e1,rfl,(fun e he=>absurd he (by simp)),fun _=>rfl⟩
 have I1:=I.laid (a:=s.heap.objs.size) (o:=.own (s.heap.objs.size+1)) (h':=s.heap.push PySem.W.emptyDict) (t':=s.toks) (fun b u q=>Heap.get?_push_of_some _ q) (Nat.le_refl _) ⟨_,e1⟩
 refine I1.laid (a:=s.heap.objs.size+1) (o:=.ins C s.heap.objs.size []) (t':=s.toks) (fun b u q=>Heap.get?_push_of_some _ q) (Nat.le_of_eq (Heap.size_push _ _)) ?_
 have ne:s.heap.objs.size≠s.heap.objs.size+1:=Nat.ne_of_lt (Nat.lt_succ_self _)
 refine ⟨by rw [aV ne,ai],Nat.zero_le _,ne,e2,fun _=>none,(Heap.Ns1.of_empty e3).at fun o q=>Heap.get?_push_of_some _ q,fun _=>True.intro,fun y hy=>absurd rfl hy⟩
theorem Mn {prog:Program}{w:World}{env:Env}{e:Expr}{f:Str}{pos:Pos}{s:Shared}{Q:Value->Shared->Prop}(hb:attributeBase e f env (eval e env)=eval e env)
  (h:wpAny (model prog w) A (eval e env) (fun o s₁=>wpAny (model prog w) A (getAttr o f true) Q E s₁) E s):wpAny (model prog w) A (eval (.Attribute e f pos) env) Q E s:=
 Attribute_any_ h (by rw [arm_eval_Attribute,hb])
end
noncomputable def Qz (K:PySem.W.Frag)(ta:TE)(f:Str):TE:=fun σ H Q=>ta σ H fun x H1=>∃a C dx fs v,x=.ref a/\H1 a=some (.ins C dx fs)/\Cls K C/\bz K C f/\fs.lookup f=some v/\Q v H1
noncomputable def QA (K:PySem.W.Frag)(ta tv:TE)(f:Str):TS:=fun D σ H=>tv σ H fun y H1=>ta σ H1 fun x H2=>∃a C dx fs,x=.ref a/\H2 a=some (.ins C dx fs)/\Cls K C/\bz K C f/\fs.length < 1000/\
 D.nx σ (upd H2 a (.ins C dx (bL f y fs)))
section
variable {X:Cx}{o e value:Expr}{f:Str}{pos pos' tpos:Pos}{ta tv:TE}
theorem aH (he:PE X e ta)(hb:attributeBase e f X.env (eval e X.env)=eval e X.env):PE X (.Attribute e f pos) (Qz X.K ta f):=by
 intro pins s σ H Q I h
 refine Mn hb (thn (he pins s σ H _ I h) fun u s1 ⟨x,H1,I1,rx,a,C,dx,fs,v,ex,ea,c,n,l,q⟩=>?_)
 subst ex
 obtain rfl:u=Value.ref a:=rx
 exact GL I1 ea c n l fun u' s2 I2 ru=>⟨v,H1,I2,ru,q⟩
theorem c9 (ha:PE X o ta)(hv:PE X value tv)(hs:swapsWith value (some (.Attribute o f pos')) pos.line X.env=pure false):PS X (.Assign [.Attribute o f pos'] value pos) (QA X.K ta tv f):=by
 intro pins s σ H D I h
 refine plainObj_wpAny_Assign_Attribute (thn (hv pins s σ H _ I h) fun u s1 ⟨y,H1,I1,ry,q⟩=>thn (ha pins s1 σ H1 _ I1 q) fun ov s2 ⟨x,H2,I2,rx,a,C,dx,fs,ex,ea,c,n,l,q2⟩=>?_) hs
 subst ex
 obtain rfl:ov=Value.ref a:=rx
 exact GN I2 ea c n l ry fun s3 I3=>⟨σ,_,I3,q2⟩
theorem NW {pl:Sem Bool}{m:Str}{apos:Pos}{args:List Expr}{pins:List (Addr×Obj)}{s:Shared}{σ:St}{H:Hp}{Q:Value->Shared->Prop}{te:TE}(he:PE X e te)(I:Inv X pins σ H s)
  (h:te σ H fun x H1=>∃a C dx fs g,x=.ref a/\H1 a=some (.ins C dx fs)/\Cls X.K C/\GK X.K C m g/\fs.lookup m=none/\
   ∀s1,Inv X pins σ H1 s1->wpAny (model X.prog X.w) X.A (callWith pos (.ref g) [.ref a] (backTo pos (starEach args X.env)) (backToKw pos (keywordEach [] X.env))) Q X.xe s1)
  (ht:eval (.Call (.Attribute e m apos) args [] pos) X.env=(do
   let ov ←eval e X.env
   standAt apos.atName
   let (f,first) ←holding [ov] (getMethod ov m pl)
   callWith pos f first (backTo pos (starEach args X.env)) (backToKw pos (keywordEach [] X.env)))) :
  wpAny (model X.prog X.w) X.A (eval (.Call (.Attribute e m apos) args [] pos) X.env) Q X.xe s:=by
 refine PySem.W.methodCall_KW (pl:=pl) (thn (he pins s σ H _ I h) fun u s1 ⟨x,H1,I1,rx,a,C,dx,fs,g,ex,ea,c,k,l,q⟩=>?_) ht
 subst ex
 obtain rfl:u=Value.ref a:=rx
 exact pJ I1 ea c k l (q s1 I1)
end
section
variable {X:Cx}{pins:List (Addr×Obj)}{σ:St}{H:Hp}{s:Shared}{A:Around}{E:Value->Shared->Prop}{Q:Value->Shared->Prop}{c:Value}{b:Bool}
inductive ye (K:PySem.W.Frag)(H:Hp):V->Value->Prop where
 | non:ye K H .non (.type "NoneType")
 | bl (x:Bool):ye K H (.bl x) (.type "bool")
 | int (i:Int):ye K H (.int i) (.type "int")
 | str (x:Str):ye K H (.str x) (.type "str")
 | flt (x:UInt64):ye K H (.flt x) (.type "float")
 | lst {a:Addr} {xs:List V} (e:H a=some (.lst xs)):ye K H (.ref a) (.type "list")
 | frz {a:Addr} {o:Obj} {xs:List V} (e:H a=some (.frz o (.lst xs))):ye K H (.ref a) (.type "list")
 | tup {a:Addr} {xs:List V} (e:H a=some (.tup xs)):ye K H (.ref a) (.type "tuple")
 | dK {a:Addr} {kvs:List (Key×V)} (e:H a=some (.dK kvs)):ye K H (.ref a) (.type "dict")
 | dT {a:Addr} {kvs:List (List Key×V)} (e:H a=some (.dT kvs)):ye K H (.ref a) (.type "dict")
 | ins {a C dx:Addr} {fs:List (Str×V)} (e:H a=some (.ins C dx fs)) (cl:Cls K C) (ha:PySem.W.findIn K (.ref C) "__class__"=some (some (.builtin "object.__class__")))
   (hn:PySem.W.specialIn K (.builtin "object.__class__") "__get__"=some (some (.builtin "getset_descriptor.__get__"))) (htk:PySem.W.takesIn K (.builtin "object.__class__")=some true)
   (hm:PySem.W.mroIn K C (.type "object")=some true):ye K H (.ref a) (.ref C)
theorem Jp {x:V}{u t:Value}(I:Inv X pins σ H s)(rx:cq x u)(ty:ye X.K H x t)(e:PySem.W.kitOne X.K t c=some b)(h:∀tk,Q (.bool b) {s with toks:=tk}) :
  wpAny (model X.prog X.w) A (call (.builtin "isinstance") [u,c]) Q E s:=by
 cases ty with
 | non=>cases (show u=Value.none from rx);exact PySem.W.kia_one PySem.W.kitx_none I.kIn True.intro e (fun z=>nomatch z) h
 | bl y=>cases (show u=Value.bool y from rx);exact PySem.W.kia_one PySem.W.kitx_bool I.kIn True.intro e (fun z=>nomatch z) h
 | int i=>obtain ⟨t,q⟩:=(show ∃t,u=Value.int i t from rx);cases q;exact PySem.W.kia_one PySem.W.kitx_int I.kIn True.intro e (fun z=>nomatch z) h
 | str y=>obtain ⟨t,q⟩:=(show ∃t,u=Value.str y t from rx);cases q;exact PySem.W.kia_one PySem.W.kitx_str I.kIn True.intro e (fun z=>nomatch z) h
 | flt y=>obtain ⟨t,q⟩:=(show ∃t,u=Value.float y t from rx);cases q;exact PySem.W.kia_one PySem.W.kitx_float I.kIn True.intro e (fun z=>nomatch z) h
 | @lst a xs ea=>
  cases (show u=Value.ref a from rx)
  obtain ⟨_,_,n,_,h1⟩:=(show gj X.prog X.w H s.heap a (.lst xs) from I.hok a _ ea)
  exact PySem.W.kia_one PySem.W.kitx_list I.kIn ⟨_,h1,rfl⟩ e (fun z=>nomatch z) h
 | @frz a ob xs ea=>
  cases (show u=Value.ref a from rx)
  obtain ⟨_,_,_,n,_,h1⟩:=(show gj X.prog X.w H s.heap a (.frz ob (.lst xs)) from I.hok a _ ea)
  exact PySem.W.kia_one PySem.W.kitx_list I.kIn ⟨_,h1,rfl⟩ e (fun z=>nomatch z) h
 | @tup a xs ea=>
  cases (show u=Value.ref a from rx)
  obtain ⟨_,_,_,p⟩:=(show gj X.prog X.w H s.heap a (.tup xs) from I.hok a _ ea)
  obtain ⟨o,h1,h2,_⟩:=p.tup
  exact PySem.W.kia_one PySem.W.kitx_tuple I.kIn ⟨o,h1,h2⟩ e (fun z=>nomatch z) h
 | @dK a kvs ea=>
  cases (show u=Value.ref a from rx)
  obtain ⟨_,_,vs,_,p⟩:=(show gj X.prog X.w H s.heap a (.dK kvs) from I.hok a _ ea)
  obtain ⟨o,es,ep,h1,h2,_⟩:=p
  exact PySem.W.kia_one PySem.W.kitx_dict I.kIn ⟨o,h1,h2.1⟩ e (fun z=>nomatch z) h
 | @dT a kvs ea=>
  cases (show u=Value.ref a from rx)
  obtain ⟨_,_,xs,_,o,es,ep,h1,h2,_⟩:=(show gj X.prog X.w H s.heap a (.dT kvs) from I.hok a _ ea)
  exact PySem.W.kia_one PySem.W.kitx_dict I.kIn ⟨o,h1,h2.1⟩ e (fun z=>nomatch z) h
 | @ins a C dx fs ea cl ha hn htk hm=>
  cases (show u=Value.ref a from rx)
  obtain ⟨mA,O,_⟩:=zJ I.hok ea
  obtain ⟨od,J,_⟩:=O.look
  exact PySem.W.kia_one (PySem.W.kitx_own (cl.get _) cl.hd ha hn htk hm) I.kIn J e (fun z=>nomatch z) h
end
structure jk (k:Nat)(A:Around):Prop where
 hd:A.handled=none
 dp:A.depth+3 * k+5 < recursionLimit
 un:A.units+16 * k+200 < cLine
theorem jk.mono {j k:Nat}{A:Around}(r:jk k A)(h:j<=k):jk j A:=⟨r.hd,by have:=r.dp;omega,by have:=r.un;omega⟩
theorem jk.deeper {k:Nat}{A:Around}(r:jk (k+1) A)(env:Env):jk k (A.deeper env):=
 ⟨r.hd,by have:=r.dp;show A.depth+1+3 * k+5 < _;omega,by have:=r.un;show A.units+3+16 * k+200 < _;omega⟩
theorem GO {A:Around}{C:Addr}{us:List Value}{kw:List (Str×Value)}:(A.under (.builtin "type.__call__" ⟨.ref C::us,kw⟩)).depth=A.depth+1:=by
 first | rfl | simp [Around.under,Code.weight,Code.isCreation,Code.isGuard,Code.isCaller,Code.frames,Code.isFrame,guardIds]
theorem GP {A:Around}{C:Addr}{us:List Value}{kw:List (Str×Value)}:(A.under (.builtin "type.__call__" ⟨.ref C::us,kw⟩)).units=A.units+1:=by
 first | rfl | simp [Around.under,Code.cUnits,Code.frames,Code.isFrame]
theorem jk.make {k:Nat}{A:Around}(r:jk (k+1) A)(C:Addr)(us:List Value)(kw:List (Str×Value)):jk k (A.under (.builtin "type.__call__" ⟨.ref C::us,kw⟩)):=
 ⟨r.hd,by have:=r.dp;rw [GO];omega,by have:=r.un;rw [GP];omega⟩
theorem jk.depth {k:Nat}{A:Around}(r:jk k A):A.depth < recursionLimit:=by have:=r.dp;omega
theorem jk.units0 {k:Nat}{A:Around}(r:jk k A):A.units < cLine:=by have:=r.un;omega
noncomputable def OW:TA:=fun _ H Q=>Q [] H
noncomputable def NX (ta:TE)(tr:TA):TA:=fun σ H Q=>ta σ H fun x H1=>tr σ H1 fun xs H2=>Q (x::xs) H2
section
variable {X:Cx}{e:Expr}{es:List Expr}{te:TE}{t:TA}{pos:Pos}
theorem af:PA X [] OW:=fun _ _ _ _ H Q I h=>Calls.spliced_nil ⟨[],H,I,.nil,h⟩
theorem ae (ha:PE X e te)(hr:PA X es t)(hs:starEach (e::es) X.env=(false,eval e X.env)::starEach es X.env:=by rfl):PA X (e::es) (NX te t):=by
 intro pos pins s σ H Q I h
 rw [hs]
 show wpAny _ _ (spliced ((false,eval e X.env)::backTo pos (starEach es X.env))) _ _ s
 refine Calls.spliced_cons (thn (ha pins s σ H _ I h) fun u s1 ⟨x,H1,I1,r1,q1⟩=>?_)
 exact thn (hr pos pins s1 σ H1 _ I1 q1) fun us s2 ⟨xs,H2,I2,r2,q2⟩=>⟨x::xs,H2,I2,.cons r1 r2,q2⟩
noncomputable def QB (t:TA):TE:=fun σ H Q=>t σ H fun xs H1=>xs.length<=sizeLine/\∀p,H1 p=none->Q (.ref p) (upd H1 p (.tup xs))
noncomputable def QC (t:TA):TE:=fun σ H Q=>t σ H fun xs H1=>xs.length<=sizeLine/\∀p,H1 p=none->Q (.ref p) (upd H1 p (.lst xs))
theorem bq {x1}(h:PA X es t):PE X (.Tuple es x1 pos) (QB t):=by
 intro pins s σ H Q I hq
 refine wpAny_Tuple_spliced (thn (h pos pins s σ H _ I hq) fun us s1 ⟨xs,H1,I1,r,z,q⟩=>⟨by rw [←r.length];exact z,?_⟩)
 have hf:H1 s1.heap.objs.size=none:=I1.hok.fresh (Nat.le_refl _)
 refine ⟨.ref s1.heap.objs.size,upd H1 s1.heap.objs.size (.tup xs),I1.laid (t':=s1.toks) (fun b u e=>Heap.get?_push_of_some _ e) (Nat.le_refl _) ?_,rfl,q _ hf⟩
 exact ⟨z,us,r,⟨_,Heap.get?_push_size _ rfl,⟨rfl,_,rfl⟩,rfl⟩⟩
theorem bC (h:PA X es t):PE X (.List es pos) (QC t):=by
 intro pins s σ H Q I hq
 refine wpAny_List_spliced (thn (h pos pins s σ H _ I hq) fun us s1 ⟨xs,H1,I1,r,z,q⟩=>⟨by rw [←r.length];exact z,?_⟩)
 have hf:H1 s1.heap.objs.size=none:=I1.hok.fresh (Nat.le_refl _)
 refine ⟨.ref s1.heap.objs.size,upd H1 s1.heap.objs.size (.lst xs),I1.laid (t':=s1.toks) (fun b u e=>Heap.get?_push_of_some _ e) (Nat.le_refl _) ?_,rfl,q _ hf⟩
 exact ⟨z,us,0,r,Heap.get?_push_size _ rfl⟩
end
noncomputable abbrev Sp:=List V->Hp->VK->XK->Prop
noncomputable abbrev CXT:=List Env->Hp->Shared->XK->Value->Shared->Prop
structure GQ (P:Program)(w:World)(K:PySem.W.Frag)(mg:Str->Option Value)(base:Heap)(A:Around)(outer:List Env)(s:Shared)(H:Hp):Prop where
 frames:A.frames=some outer
 mod:Mod K mg base
 bs:∀b o,base.get? b=some o->s.heap.get? b=some o/\H b=none
 bsz:base.objs.size<=s.heap.objs.size
 funs:s.heap.FunFrames base outer
 frf:∀b∈frs outer,H b=none
 hok:HOk P w H s.heap
 bare:AllBare s.gens
def CE (outer:List Env)(P:Program)(w:World)(H:Hp)(s:Shared)(Q:VK)(u:Value)(s':Shared):Prop:=
 ∃v H',s'.os=s.os/\AllBare s'.gens/\Un (frs outer) [] H H' s.heap s'.heap/\HOk P w H' s'.heap/\cq v u/\Q v H'
def CR (CX:CXT)(outer:List Env)(P:Program)(w:World)(H:Hp)(s:Shared)(Q:VK)(E:XK)(r:Result)(s':Shared):Prop:=
 match r with
 | .ok (.ret u)=>CE outer P w H s Q u s'
 | .ok _=>False
 | .error e=>CX outer H s E e s'
structure aI (P:Program)(w:World)(K:PySem.W.Frag)(mg:Str->Option Value)(base:Heap)(CX:CXT)(k:Nat)(f:Addr)(fd:FuncData)(ps:List Str)(sp:Sp):Prop where
 len:∀vs H Q E,sp vs H Q E->vs.length=ps.length
 run:∀(A:Around) (outer:List Env) (s:Shared) (H:Hp) (args:Args) (us:List Value) (vs:List V) (Q:VK) (E:XK),jk k A->GQ P w K mg base A outer s H->BindsTo s fd args (ps.zip us)->bJ vs us->sp vs H Q E->
  codeAny (model P w) A (.call (.ref f) args) (CR CX outer P w H s Q E) s
theorem aI.imp {P:Program}{w:World}{K:PySem.W.Frag}{mg:Str->Option Value}{base:Heap}{CX:CXT}{k:Nat}{f:Addr}{fd:FuncData}{ps:List Str}{sp sp':Sp}(F:aI P w K mg base CX k f fd ps sp)
  (h:∀vs H Q E,sp' vs H Q E->sp vs H Q E):aI P w K mg base CX k f fd ps sp':=
 ⟨fun vs H Q E q=>F.len vs H Q E (h _ _ _ _ q),fun A outer s H args us vs Q E hr he hb hv hs=>F.run A outer s H args us vs Q E hr he hb hv (h _ _ _ _ hs)⟩
theorem GQ.make {P:Program}{w:World}{K:PySem.W.Frag}{mg:Str->Option Value}{base:Heap}{A:Around}{outer:List Env}{s:Shared}{H:Hp}(e:GQ P w K mg base A outer s H)(C:Addr)(us:List Value)(kw:List (Str×Value)) :
  GQ P w K mg base (A.under (.builtin "type.__call__" ⟨.ref C::us,kw⟩)) outer s H:=⟨by first | exact e.frames | (simpa [Around.under,Code.envs,Code.isFrame,pushEnvs] using e.frames),e.mod,e.bs,e.bsz,e.funs,e.frf,e.hok,e.bare⟩
section
variable {X:Cx}{pins:List (Addr×Obj)}{σ:St}{H:Hp}{s s':Shared}
theorem Inv.env0 (I:Inv X pins σ H s):GQ X.prog X.w X.K X.mg X.base X.A X.stack s H:=
 ⟨I.ok.frames,I.ok.mod,I.bs,Nat.le_trans I.ok.bsz I.sz,I.stack,I.stkFree,I.hok,I.bare⟩
theorem Inv.after {Q:VK}{u:Value}(I:Inv X pins σ H s)(h:CE X.stack X.prog X.w H s Q u s'):EP X pins σ Q u s':=by
 obtain ⟨v,H',os,bare,un,hok,r,q⟩:=h
 obtain ⟨hh,g,d,t,os'⟩:=s'
 obtain rfl:os'=s.os:=os
 exact ⟨v,H',I.call (h':=hh) (g':=g) (d':=d) (t':=t) (ch:=[]) un hok bare (fun b z=>absurd z (by simp)),r,q⟩
end
noncomputable def NY (sp:Sp)(dvs:List V)(E:XK)(t:TA):TE:=fun σ H Q=>t σ H fun vs H1=>sp (vs++dvs) H1 Q E
noncomputable def Il (C:Addr)(m:Str)(sp:Sp)(dvs:List V)(E:XK)(ta:TE)(t:TA):TE:=fun σ H Q=>ta σ H fun x H1=>∃a dx fs,x=.ref a/\H1 a=some (.ins C dx fs)/\fs.lookup m=none/\
 t σ H1 fun vs H2=>sp (x::(vs++dvs)) H2 Q E
noncomputable def NZ (C:Addr)(sp:Sp)(dvs:List V)(E:XK)(t:TA):TE:=fun σ H Q=>t σ H fun vs H1=>∀x dx,H1 x=none->H1 dx=none->dx≠x->
 sp (.ref x::(vs++dvs)) (upd (upd H1 dx (.own x)) x (.ins C dx [])) (fun v H2=>v=.non/\Q (.ref x) H2) E
def hG (K:PySem.W.Frag)(fd:FuncData)(ps:List Str)(ds:List Value):Prop:=
 ∀(s:Shared) (us:List Value),K.In s.heap->(us++ds).length=ps.length->BindsTo s fd ⟨us,[]⟩ (ps.zip (us++ds))
theorem hG.all {K:PySem.W.Frag}{fd:FuncData}{ps:List Str}(h:∀us:List Value,us.length=ps.length->bindArgs fd ⟨us,[]⟩=pure (ps.zip us)):hG K fd ps []:=fun s us _ hl=>by
 rw [List.append_nil] at hl ⊢
 exact .of_eq (h us hl)
def qX (CX:CXT)(X:Cx)(E:XK):Prop:=∀(pins:List (Addr×Obj)) (σ:St) (H:Hp) (s:Shared) (e:Value) (s':Shared),Inv X pins σ H s->CX X.stack H s E e s'->X.xe e s'
section
variable {X:Cx}{CX:CXT}{k:Nat}{f C:Addr}{fd:FuncData}{ps:List Str}{sp:Sp}{dvs:List V}{ds:List Value}{E:XK}{x m:Str}{p pos apos:Pos}{e o:Expr}{es:List Expr}{ta:TE}{t:TA}
theorem GR {pins:List (Addr×Obj)}{σ:St}{H:Hp}{s:Shared}{Q:VK}{us:List Value}{vs:List V}(F:aI X.prog X.w X.K X.mg X.base CX k f fd ps sp)(hr:jk k X.A)(hb:hG X.K fd ps ds)(hd:bJ dvs ds)(hx:qX CX X E)
  (I:Inv X pins σ H s) (r:bJ vs us) (h:sp (vs++dvs) H Q E):wpAny (model X.prog X.w) X.A (call (.ref f) us) (EP X pins σ Q) X.xe s:=by
 have r2:bJ (vs++dvs) (us++ds):=r.append hd
 have hl:(us++ds).length=ps.length:=by rw [←r2.length];exact F.len _ _ _ _ h
 refine wpAny_call (codeAny_mono (F.run X.A X.stack s H ⟨us,[]⟩ (us++ds) (vs++dvs) Q E hr I.env0 (hb s us I.kIn hl) r2 h) fun r s' hq=>?_)
 cases r with
 | error e=>exact hx pins σ H s e s' I hq
 | ok fl=>
  cases fl with
  | ret u=>exact I.after hq
  | next=>exact False.elim hq
  | brk=>exact False.elim hq
  | cont=>exact False.elim hq
theorem aF (F:aI X.prog X.w X.K X.mg X.base CX k f fd ps sp)(hr:jk k X.A)(hg:Gl X x)(hm:X.mg x=some (.ref f))(hk:PySem.W.keepIn X.K (.ref f)=true)(hb:hG X.K fd ps ds)(hd:bJ dvs ds)(hx:qX CX X E)
  (ha:PA X (e::es) t) (hdb:(x == ("__debug__":Str))=false:=by decide) (he:starEach (e::es) X.env=(false,eval e X.env)::starEach es X.env:=by rfl) (hpl:(backTo pos (starEach es X.env)).any (·.1)=false:=by rfl) :
  PE X (.Call (.Name x p) (e::es) [] pos) (NY sp dvs E t):=by
 intro pins s σ H Q I h
 refine wpAny_Call_Name_kw (vP I hg hm ?_ hdb)
 refine PySem.W.callWith_K (h₀:=X.base) I.ok.mod.kin hk (thn (ha pos pins s σ H _ I h) fun us s1 ⟨vs,H1,I1,r,q⟩=>⟨I1.kIn,?_⟩) he hpl
 exact GR F hr hb hd hx I1 r q
theorem bj {pl:Sem Bool}(he:PE X o ta)(c:Cls X.K C)(hm:GK X.K C m f)(F:aI X.prog X.w X.K X.mg X.base CX k f fd ps sp)(hr:jk k X.A)(hb:hG X.K fd ps ds)(hd:bJ dvs ds)(hx:qX CX X E)(ha:PA X (e::es) t)
  (hst:starEach (e::es) X.env=(false,eval e X.env)::starEach es X.env:=by rfl) (hpl:(backTo pos (starEach es X.env)).any (·.1)=false:=by rfl)
  (ht:eval (.Call (.Attribute o m apos) (e::es) [] pos) X.env=(do
   let ov ←eval o X.env
   standAt apos.atName
   let (f,first) ←holding [ov] (getMethod ov m pl)
   callWith pos f first (backTo pos (starEach (e::es) X.env)) (backToKw pos (keywordEach [] X.env))):=by rfl) :
  PE X (.Call (.Attribute o m apos) (e::es) [] pos) (Il C m sp dvs E ta t):=by
 intro pins s σ H Q I h
 refine PySem.W.methodCall_KW (pl:=pl) (thn (he pins s σ H _ I h) fun u s1 ⟨x,H1,I1,rx,a,dx,fs,ex,ea,l,q⟩=>?_) ht
 subst ex
 obtain rfl:u=Value.ref a:=rx
 refine pJ I1 ea c hm l ?_
 refine PySem.W.callWith_K (first:=[.ref a]) (h₀:=X.base) I.ok.mod.kin hm.kp (thn (ha pos pins s1 σ H1 _ I1 q) fun us s2 ⟨vs,H2,I2,r,q2⟩=>⟨I2.kIn,?_⟩) hst hpl
 exact GR (us:=.ref a::us) (vs:=.ref a::vs) F hr hb hd hx I2 (.cons rfl r) q2
theorem ba {pl:Sem Bool}(he:PE X o ta)(c:Cls X.K C)(hm:GK X.K C m f)(F:aI X.prog X.w X.K X.mg X.base CX k f fd ps sp)(hr:jk k X.A)(hb:hG X.K fd ps ds)(hd:bJ dvs ds)(hx:qX CX X E)
  (ht:eval (.Call (.Attribute o m apos) [] [] pos) X.env=(do
   let ov ←eval o X.env
   standAt apos.atName
   let (f,first) ←holding [ov] (getMethod ov m pl)
   callWith pos f first (backTo pos (starEach [] X.env)) (backToKw pos (keywordEach [] X.env))):=by rfl) :
  PE X (.Call (.Attribute o m apos) [] [] pos) (Il C m sp dvs E ta OW):=by
 intro pins s σ H Q I h
 refine PySem.W.methodCall_KW (pl:=pl) (thn (he pins s σ H _ I h) fun u s1 ⟨x,H1,I1,rx,a,dx,fs,ex,ea,l,q⟩=>?_) ht
 subst ex
 obtain rfl:u=Value.ref a:=rx
 refine pJ I1 ea c hm l ?_
 exact PySem.W.callWith_K0 (first:=[.ref a]) I1.kIn hm.kp (GR (us:=[.ref a]) (vs:=[.ref a]) F hr hb hd hx I1 (.cons rfl .nil) q)
structure Mk (K:PySem.W.Frag)(C f:Addr):Prop where
 makes:PySem.W.makesIn K C=true
 init:PySem.W.findIn K (.ref C) "__init__"=some (some (.ref f))
 fn:PySem.W.isFn K (.ref f)=true
 kp:PySem.W.keepIn K (.ref C)=true
theorem Kr {pins:List (Addr×Obj)}{σ:St}{H:Hp}{s:Shared}{Q:VK}{us:List Value}{vs:List V}(M:Mk X.K C f)(F:aI X.prog X.w X.K X.mg X.base CX k f fd ps sp)(hr:jk (k+1) X.A)(hb:hG X.K fd ps ds)(hd:bJ dvs ds)
  (hx:qX CX X E) (I:Inv X pins σ H s) (r:bJ vs us)
  (h:∀x dx,H x=none->H dx=none->dx≠x->sp (.ref x::(vs++dvs)) (upd (upd H dx (.own x)) x (.ins C dx [])) (fun v H2=>v=.non/\Q (.ref x) H2) E) :
  wpAny (model X.prog X.w) X.A (call (.ref C) us) (EP X pins σ Q) X.xe s:=by
 have hq:=h (s.heap.objs.size+1) s.heap.objs.size (I.hok.fresh (Nat.le_succ _)) (I.hok.fresh (Nat.le_refl _)) (Nat.ne_of_lt (Nat.lt_succ_self _))
 have I2:=Inv.made (C:=C) I
 have r2:bJ (V.ref (s.heap.objs.size+1)::(vs++dvs)) (Value.ref (s.heap.objs.size+1)::(us++ds)):=.cons rfl (r.append hd)
 have hl:(Value.ref (s.heap.objs.size+1)::us++ds).length=ps.length:=by
  have e:=r2.length
  rw [F.len _ _ _ _ hq] at e
  exact e.symm
 refine wpAny_call (Kq (f:=f) I.kIn M.makes M.init (beq_iff_eq.mp M.fn) (codeAny_mono (F.run _ X.stack _ _ ⟨Value.ref (s.heap.objs.size+1)::us,[]⟩ (Value.ref (s.heap.objs.size+1)::(us++ds)) _ _ E (hr.make C us [])
  (I2.env0.make C us []) (hb _ (Value.ref (s.heap.objs.size+1)::us) I2.kIn hl) r2 hq) fun r s' hq'=>?_))
 cases r with
 | error e=>exact hx pins σ _ _ e s' I2 hq'
 | ok fl=>
  cases fl with
  | ret u=>
   obtain ⟨v,H',I3,rv,ev,q3⟩:=I2.after hq'
   subst ev
   exact ⟨rv,⟨V.ref (s.heap.objs.size+1),H',I3,rfl,q3⟩⟩
  | next=>exact False.elim hq'
  | brk=>exact False.elim hq'
  | cont=>exact False.elim hq'
theorem nj (M:Mk X.K C f)(F:aI X.prog X.w X.K X.mg X.base CX k f fd ps sp)(hr:jk (k+1) X.A)(hg:Gl X x)(hm:X.mg x=some (.ref C))(hb:hG X.K fd ps ds)(hd:bJ dvs ds)(hx:qX CX X E)
  (ha:PA X (e::es) t) (hdb:(x == ("__debug__":Str))=false:=by decide) (he:starEach (e::es) X.env=(false,eval e X.env)::starEach es X.env:=by rfl) (hpl:(backTo pos (starEach es X.env)).any (·.1)=false:=by rfl) :
  PE X (.Call (.Name x p) (e::es) [] pos) (NZ C sp dvs E t):=by
 intro pins s σ H Q I h
 refine wpAny_Call_Name_kw (vP I hg hm ?_ hdb)
 refine PySem.W.callWith_K (h₀:=X.base) I.ok.mod.kin M.kp (thn (ha pos pins s σ H _ I h) fun us s1 ⟨vs,H1,I1,r,q⟩=>⟨I1.kIn,?_⟩) he hpl
 exact Kr M F hr hb hd hx I1 r q
end
structure ay (N P:List Str)(sc:Scope):Prop where
 kind:sc.kind=.function
 co:sc.isCoroutine=false
 gen:sc.isGenerator=false
 nd:N.Nodup
 pre:N.take P.length=P
 par:∀x∈P,sc.names.lookup x=some .local\/sc.names.lookup x=some .cell
 nofree:∀y∈sc.names,y.2≠.free
theorem Cy {kindOf:Str->Option NameKind}{x:Str}:∀{binds:List (Str×Value)} {m:Str->Option Value},(∀v,(x,v)∉binds)->bindL kindOf binds m x=m x
 | [],_,_=>rfl
 | (n,v)::r,m,h=>by
  unfold bindL
  rw [Cy fun w hw=>h w (List.mem_cons_of_mem _ hw)]
  split
  ·have:x≠n:=by rintro rfl;exact h v List.mem_cons_self
   simp [this]
  ·rfl
theorem Cz {kindOf:Str->Option NameKind}{x:Str}:∀{binds:List (Str×Value)} {m:Str->Option Value},(∀v,(x,v)∉binds)->bindC kindOf binds m x=m x
 | [],_,_=>rfl
 | (n,v)::r,m,h=>by
  unfold bindC
  rw [Cz fun w hw=>h w (List.mem_cons_of_mem _ hw)]
  split
  ·rfl
  ·have:x≠n:=by rintro rfl;exact h v List.mem_cons_self
   simp [this]
theorem CA {kindOf:Str->Option NameKind}{x:Str}{v:Value}:∀{P:List Str} {vs:List Value} {i:Nat} {m:Str->Option Value},P.Nodup->P[i]?=some x->vs[i]?=some v->kindOf x=some .local->
  bindL kindOf (P.zip vs) m x=some v
 | [],_,_,_,_,h,_,_=>by simp at h
 | _::_,[],_,_,_,_,h,_=>by simp at h
 | p::P,w::vs,0,m,nd,h1,h2,hk=>by
  simp at h1 h2;subst h1;subst h2
  show bindL kindOf ((p,w)::P.zip vs) m p=_
  unfold bindL
  rw [Cy fun v hv=>(List.nodup_cons.mp nd).1 (List.of_mem_zip hv).1,if_pos hk]
  simp
 | p::P,w::vs,i+1,m,nd,h1,h2,hk=>by
  show bindL kindOf ((p,w)::P.zip vs) m x=_
  unfold bindL
  exact CA (i:=i) (List.nodup_cons.mp nd).2 (by simpa using h1) (by simpa using h2) hk
theorem CB {kindOf:Str->Option NameKind}{x:Str}{v:Value}:∀{P:List Str} {vs:List Value} {i:Nat} {m:Str->Option Value},P.Nodup->P[i]?=some x->vs[i]?=some v->kindOf x≠some .local->
  bindC kindOf (P.zip vs) m x=some v
 | [],_,_,_,_,h,_,_=>by simp at h
 | _::_,[],_,_,_,_,h,_=>by simp at h
 | p::P,w::vs,0,m,nd,h1,h2,hk=>by
  simp at h1 h2;subst h1;subst h2
  show bindC kindOf ((p,w)::P.zip vs) m p=_
  unfold bindC
  rw [Cz fun v hv=>(List.nodup_cons.mp nd).1 (List.of_mem_zip hv).1,if_neg hk]
  simp
 | p::P,w::vs,i+1,m,nd,h1,h2,hk=>by
  show bindC kindOf ((p,w)::P.zip vs) m x=_
  unfold bindC
  exact CB (i:=i) (List.nodup_cons.mp nd).2 (by simpa using h1) (by simpa using h2) hk
noncomputable def t9 (N:List Str)(vs:List V):St:=vs.map some++List.replicate (N.length - vs.length) none
noncomputable def vQ (CX:CXT)(P:Program)(w:World)(K:PySem.W.Frag)(mg:Str->Option Value)(base:Heap)(N:List Str)(qual:Str)(scope:Scope)(f:Addr)(cd:Value)(A:Around)(outer:List Env)(s:Shared)(H:Hp)(E:XK):Cx where
 prog:=P
 w:=w
 K:=K
 mg:=mg
 base:=base
 A:=A.deeper (envOfC qual scope s.heap.objs.size f cd)
 N:=N
 s₀:=s
 H₀:=H
 env:=envOfC qual scope s.heap.objs.size f cd
 outer:=outer
 stack:=envOfC qual scope s.heap.objs.size f cd::outer
 ex:=[]
 calm:=true
 fn:=fun _=>true
 pn:=[]
 xe:=fun e s'=>wpAny (model P w) (A.deeper (envOfC qual scope s.heap.objs.size f cd)) (leaving (envOfC qual scope s.heap.objs.size f cd) e) (fun _ s''=>CX outer H s E e s'') (fun e' s''=>CX outer H s E e' s'') s'
theorem E5 {sc:Scope}{n:Nat}{x:Str}(h:sc.names.lookup x=some .cell):∃c,(cellsFrom n sc.names []).lookup x=some c:=by
 have q:=PySem.W.cellsFrom_some sc.names n [] (.inl h)
 exact Option.isSome_iff_exists.mp q
theorem Jq {CX:CXT}{P:Program}{w:World}{K:PySem.W.Frag}{mg:Str->Option Value}{base:Heap}{N ps:List Str}{qual:Str}{scope:Scope}{f:Addr}{cd:Value}{A:Around}{outer:List Env}{s s1:Shared}{H:Hp}{E:XK}{us:List Value}{vs:List V}
  (S:ay N ps scope) (hd:A.handled=none) (e0:GQ P w K mg base A outer s H) (hl:vs.length=ps.length) (r:bJ vs us)
  (x:InCallC s s.heap.objs.size (bindL (envOfC qual scope s.heap.objs.size f cd).kindOf (ps.zip us) fun _=>none) (cellsFrom (s.heap.objs.size+1) scope.names []) (bindC (envOfC qual scope s.heap.objs.size f cd).kindOf (ps.zip us) fun _=>none) s1) :
  Inv (vQ CX P w K mg base N qual scope f cd A outer s H E) [] (t9 N vs) H s1:=by
 have hpl:ps.length<=N.length:=by have:=congrArg List.length S.pre;rw [List.length_take] at this;omega
 obtain ⟨h1,tk,rfl,hk⟩:=x.done
 have noA:∀b:Addr,b∉(vQ CX P w K mg base N qual scope f cd A outer s H E).ex:=fun b z=>absurd (show b∈([]:List Addr) from z) (by simp)
 refine ⟨⟨e0.mod,S.kind,rfl,rfl,Nat.le_refl _,fun y z c h1 h2=>?_,fun y hy=>?_,fun y c _ h=>?_,fun _=>hd,Around.frames_deeper e0.frames,.inr ⟨rfl,rfl⟩,fun b z=>absurd z (noA b),e0.bs,e0.bsz,fun b _ _=>noA b,fun b z=>absurd z (noA b),e0.funs,e0.frf⟩,
  rfl,e0.bare,Un.kept hk,⟨_,x.toInCall.ns,fun i y v h1 h2 h3=>?_⟩,fun y c h=>⟨_,x.cell y c h⟩,e0.hok.fresh (Nat.le_refl _),fun y c h=>?_,fun p hp=>absurd (show p∈([]:List (Addr×Obj)) from hp) (by simp),e0.hok.kept hk,?_⟩
 ·exact name_of_addr x.apart (PySem.mem_of_lookup h1) (PySem.mem_of_lookup h2)
 ·have hy:scope.names.lookup y=some .cell\/scope.names.lookup y=some .free:=hy
  rcases hy with hy | hy
  ·exact E5 hy
  ·exact absurd rfl (S.nofree _ (PySem.mem_of_lookup hy))
 ·exact Nat.le_of_lt (x.above y c (PySem.mem_of_lookup h))
 ·have hi:i < vs.length:=by
   unfold t9 at h2
   by_cases hi:i < vs.length
   ·exact hi
   ·rw [List.getElem?_append_right (by simpa using hi)] at h2
    rw [List.getElem?_replicate] at h2
    split at h2<;>cases h2
  have ha:vs[i]?=some v:=by
   unfold t9 at h2
   rw [List.getElem?_append_left (by simpa using hi),List.getElem?_map] at h2
   cases e:vs[i]? with
   | none=>rw [e] at h2;cases h2
   | some a=>rw [e] at h2;cases h2;rfl
  obtain ⟨u,hu,rv⟩:=r.get ha
  have hp:ps[i]?=some y:=by
   rw [←S.pre,List.getElem?_take_of_lt (by omega)];exact h1
  have ndP:ps.Nodup:=by rw [←S.pre];exact S.nd.sublist (List.take_sublist _ _)
  refine ⟨u,rv,?_⟩
  rcases S.par y (List.mem_of_getElem? hp) with k | k
  ·exact .inl ⟨k,CA ndP hp hu k⟩
  ·obtain ⟨c,e⟩:=E5 (n:=s.heap.objs.size+1) k
   refine .inr ⟨.inl k,c,e,?_⟩
   have q:=x.cell y c e
   rw [CB ndP hp hu (by show scope.names.lookup y≠_;rw [k];decide)] at q
   exact q
 ·exact e0.hok.fresh (Nat.le_of_lt (x.above y c (PySem.mem_of_lookup h)))
 ·unfold t9
  show _=N.length
  rw [List.length_append,List.length_map,List.length_replicate]
  omega
theorem N1 {CX:CXT}{P:Program}{w:World}{K:PySem.W.Frag}{mg:Str->Option Value}{base:Heap}{k:Nat}{f:Addr}{name qual:Str}{params:Arguments}{body:List Stmt}{scope:Scope}{dV kV doc pm cdv ct oc:Value}{an od:Option Addr}
  {osl:Array (Option Value)} {N ps:List Str} {sp:Sp} (lk:K.lookup f=some ⟨oc,od,.func (PySem.W.fnOf name qual params body scope dV kV doc pm an cdv ct),osl⟩) (hcd:PySem.W.codeIn K cdv qual=true) (S:ay N ps scope)
  (len:∀vs H Q E,sp vs H Q E->vs.length=ps.length)
  (hbody:∀(A:Around) (outer:List Env) (s:Shared) (H:Hp) (vs:List V) (Q:VK) (E:XK),jk k (A.deeper (envOfC qual scope s.heap.objs.size f cdv))->sp vs H Q E->
   ∃t,PSs (vQ CX P w K mg base N qual scope f cdv A outer s H E) body t/\t {nx:=fun _ H'=>Q .non H',rt:=Q} (t9 N vs) H) :
  aI P w K mg base CX (k+1) f (PySem.W.fnOf name qual params body scope dV kV doc pm an cdv ct) ps sp:=by
 refine ⟨len,fun A outer s H args us vs Q E hr e0 hb r hsp=>?_⟩
 have hl:=len _ _ _ _ hsp
 have KX:K.In s.heap:=e0.mod.kin.keeps fun b o e=>(e0.bs b o e).1
 have lim:s.heap.NoLimit:=e0.mod.nolimit.keeps fun b o e=>(e0.bs b o e).1
 have hkind:∀y∈ps.zip us,scope.names.lookup y.1=some .local\/(scope.names.lookup y.1=some .cell/\((cellsFrom (s.heap.objs.size+1) scope.names []).lookup y.1).isSome=true):=fun ⟨n,v⟩ hy=>by
  rcases S.par n (List.of_mem_zip hy).1 with q | q
  ·exact .inl q
  ·exact .inr ⟨q,PySem.W.cellsFrom_some _ _ _ (.inl q)⟩
 refine codeAny_call_function hr.depth (KX _ _ lk) rfl S.co S.gen rfl (PySem.W.codeRec_of KX hcd) (hb _ _ _ _ ?_)
 refine wpAny_newFunctionEnv_cells S.kind hkind fun env he s1 x=>?_
 subst he
 refine ⟨lim.keeps x.toInCall.keep,codeAny_func ?_⟩
 obtain ⟨t,ht,hq⟩:=hbody A outer s H vs Q E (hr.deeper _) hsp
 have I:Inv (vQ CX P w K mg base N qual scope f cdv A outer s H E) [] (t9 N vs) H s1:=Jq S hr.hd e0 hl r x
 refine wpAny_mono (ht [] s1 (t9 N vs) H _ I hq) (fun fl s' hs=>?_) fun e s' hs=>hs
 have fin:∀{σ':St} {H':Hp} {v:V} {u:Value},Inv (vQ CX P w K mg base N qual scope f cdv A outer s H E) [] σ' H' s'->cq v u->Q v H'->CE outer P w H s Q u s':=
  fun {σ' H' v u} J rv q=>⟨v,H',J.os,J.bare,J.base,J.hok,rv,q⟩
 cases fl with
 | ret u=>
  obtain ⟨v,σ',H',J,rv,q⟩:=hs
  exact fin J rv q
 | next=>
  obtain ⟨σ',H',J,q⟩:=hs
  exact fin (v:=V.non) (u:=Value.none) J rfl q
 | brk=>
  obtain ⟨_,_,_,q⟩:=hs
  exact False.elim q
 | cont=>
  obtain ⟨_,_,_,q⟩:=hs
  exact False.elim q
section
variable {X:Cx}{x:Str}{p pos:Pos}{e:Expr}{es:List Expr}{t:TA}{id T:String}{r:List V->Hp->VK->Prop}
noncomputable def tCB (r:List V->Hp->VK->Prop)(t:TA):TE:=fun σ H Q=>t σ H fun vs H1=>r vs H1 Q
theorem aM (hc:kG X (.builtin id) r)(hg:Gl X x)(hm:X.mg x=none)(hv:bootBuiltins x=some (.builtin id))(ha:PA X (e::es) t)(hn:x≠"__name__":=by decide)(hdb:(x == ("__debug__":Str))=false:=by decide)
  (he:starEach (e::es) X.env=(false,eval e X.env)::starEach es X.env:=by rfl) (hpl:(backTo pos (starEach es X.env)).any (·.1)=false:=by rfl):PE X (.Call (.Name x p) (e::es) [] pos) (tCB r t):=by
 intro pins s σ H Q I h
 refine wpAny_Call_Name_kw (vo I hg hm hv ?_ hn hdb)
 exact PyProof.Rows.callWith_builtin1 (thn (ha pos pins s σ H _ I h) fun us s1 ⟨vs,H1,I1,r1,q1⟩=>hc pins s1 σ H1 vs us Q I1 r1 q1) he hpl
theorem bK (hc:kG X (.type T) r)(hg:Gl X x)(hm:X.mg x=none)(hv:bootBuiltins x=some (.type T))(ha:PA X (e::es) t)(hn:x≠"__name__":=by decide)(hdb:(x == ("__debug__":Str))=false:=by decide)
  (he:starEach (e::es) X.env=(false,eval e X.env)::starEach es X.env:=by rfl) (hpl:(backTo pos (starEach es X.env)).any (·.1)=false:=by rfl):PE X (.Call (.Name x p) (e::es) [] pos) (tCB r t):=by
 intro pins s σ H Q I h
 refine wpAny_Call_Name_kw (vo I hg hm hv ?_ hn hdb)
 exact PyProof.Rows.callWith_type1 (thn (ha pos pins s σ H _ I h) fun us s1 ⟨vs,H1,I1,r1,q1⟩=>hc pins s1 σ H1 vs us Q I1 r1 q1) he hpl
end
end L2
namespace HT
open PySem PyProof.Rows
section
open PySem.SeqAt
open PySem.AutoSeq1 (wpAny_loadPart')
open PySem.MeetsSeq PySem.MeetsSeq2 PySem.MeetsSeq3
end
section
variable {prog:Program}{w:World}{A:Around}{E:Value->Shared->Prop}{s:Shared}
theorem Mo {t b:Addr}{vs ws:List Value}{Q:Value->Shared->Prop}(ht:IsTup s.heap t vs.toArray)(hb:IsTup s.heap b ws.toArray)(hv:vs≠[])
  (h1:ws=[]->Q (.ref t) s) (h2:ws≠[]->Q (.ref s.heap.objs.size) {s with heap:=s.heap.push {cls:=.type "tuple",data:=.seq (vs++ws).toArray}})
  (hsz:vs.length+ws.length<=sizeLine):wpAny (model prog w) A (binaryOp .Add (.ref t) (.ref b)) Q E s:=by
 obtain ⟨⟨cls,dd,data,sl⟩,ho,hc,n,hd⟩:=id ht
 obtain ⟨⟨cls2,dd2,data2,sl2⟩,ho2,hc2,n2,hd2⟩:=id hb
 simp only at hc hd hc2 hd2
 subst hc hd hc2 hd2
 have e:vs.toArray++ws.toArray=(vs++ws).toArray:=by simp
 by_cases hw:ws=[]
 ·exact concat_meets ⟨_,ho,rfl⟩ ⟨_,ho2,rfl⟩ noFill_tuple_add seq_tuple_add PySem.F.slot_tuple_add PySem.F.entry_tuple_add (PySem.F.args_tuple_add_2 _ _)
   (tuple_addW1 t b vs.toArray ws.toArray n n2 dd dd2 sl sl2 (by simpa using hv) (by simp [hw])) ⟨ho,ho2,h1 hw⟩
 ·refine concat_meets ⟨_,ho,rfl⟩ ⟨_,ho2,rfl⟩ noFill_tuple_add seq_tuple_add PySem.F.slot_tuple_add PySem.F.entry_tuple_add (PySem.F.args_tuple_add_2 _ _)
   (tuple_addW2 t b vs.toArray ws.toArray n n2 dd dd2 sl sl2 (by simpa using hv) (by simpa using hw) (by rw [List.size_toArray,List.size_toArray];exact hsz)) ⟨ho,ho2,?_⟩
  rw [e]
  exact h2 hw
noncomputable def sIx (n d:Nat):Option Int->Nat
 | none=>d
 | some v=>if v < 0 then (v+(n:Int)).toNat else min v.toNat n
theorem Mp (n d k:Nat):sIx n d (some (k:Int))=min k n:=by
 show (if (k:Int) < 0 then ((k:Int)+(n:Int)).toNat else min (k:Int).toNat n)=min k n
 rw [if_neg (by omega),Int.toNat_natCast]
theorem OX (n d:Nat)(hd:d<=n)(o:Option Int):sIx n d o<=n:=by
 cases o with
 | none=>exact hd
 | some v=>
  show (if v < 0 then (v+(n:Int)).toNat else min v.toNat n)<=n
  by_cases hv:v < 0
  ·rw [if_pos hv];omega
  ·rw [if_neg hv];exact Nat.min_le_right _ _
theorem Ea (v:Int)(n d:Nat):(if v < 0 then max (v+(n:Int)) 0 else min v (n:Int))=((sIx n d (some v):Nat):Int):=by
 show (if v < 0 then max (v+(n:Int)) 0 else min v (n:Int))=(((if v < 0 then (v+(n:Int)).toNat else min v.toNat n):Nat):Int)
 by_cases hv:v < 0
 ·simp only [if_pos hv];omega
 ·simp only [if_neg hv];omega
theorem GS (lo hi:Option Int)(n:Nat):Builtin.Slice.sliceAdjust lo hi 1 (n:Int)=(((sIx n 0 lo:Nat):Int),((sIx n n hi:Nat):Int)):=by
 have h1:¬((1:Int) < 0):=by omega
 unfold Builtin.Slice.sliceAdjust
 simp only [h1,if_false]
 refine Prod.ext ?_ ?_
 ·cases lo with
  | none=>rfl
  | some v=>exact Ea v n 0
 ·cases hi with
  | none=>rfl
  | some v=>exact Ea v n n
theorem GU (i j:Nat):Builtin.Slice.slicePlaces (i:Int) (j:Int) 1=j - i:=by
 unfold Builtin.Slice.slicePlaces
 have h1:(1:Int) > 0:=by omega
 simp only [h1,if_true,Int.ediv_one]
 split<;>omega
theorem z5 {v:Value}{o:Option Int}{Q:Option Int->Shared->Prop}(p:IsPart v o)(h:Q o s):wpAny (model prog w) A (Builtin.Slice.slicePartIndex v) Q E s:=by
 cases p with
 | none=>exact slicePart_none h
 | int i t=>exact slicePart_int h
theorem yf {sl:Addr}{vl vu:Value}{lo hi:Option Int}{n:Nat}{Q:Int×Int×Nat->Shared->Prop}(hs:s.heap.IsSliceOf sl vl vu .none)(pl:IsPart vl lo)(pu:IsPart vu hi)
  (h:Q (((sIx n 0 lo:Nat):Int),1,sIx n n hi - sIx n 0 lo) s):wpAny (model prog w) A (Builtin.Slice.sliceApplied (.ref sl) (pure (n:Int))) Q E s:=by
 obtain ⟨os,hos,hcs,hds⟩:=id hs
 unfold Builtin.Slice.sliceApplied Builtin.Slice.sliceFields
 refine wpAny_bind (wpAny_bind (wpAny_field hos hds (x:=vl) rfl (wpAny_bind (wpAny_field hos hds (x:=vu) rfl (wpAny_bind (wpAny_field hos hds (x:=.none) rfl (wpAny_pure ?_)))))))
 refine wpAny_bind (slicePart_none ?_)
 show wpAny _ _ (if ((1:Int) == 0)=true then _ else _) _ _ s
 rw [if_neg (by decide)]
 refine wpAny_bind (z5 pl (wpAny_bind (z5 pu (wpAny_bind (wpAny_pure ?_)))))
 show wpAny _ _ (match Builtin.Slice.sliceAdjust lo hi 1 (n:Int) with | (lo,hi)=>pure (lo,(1:Int),Builtin.Slice.slicePlaces lo hi 1)) _ _ s
 rw [GS lo hi n]
 show wpAny _ _ (pure (((sIx n 0 lo:Nat):Int),(1:Int),Builtin.Slice.slicePlaces ((sIx n 0 lo:Nat):Int) ((sIx n n hi:Nat):Int) 1)) _ _ s
 rw [GU]
 exact wpAny_pure h
theorem Ks (xs:Array Value)(i k:Nat):((List.range k).filterMap fun (m:Nat)=>xs[((i:Int)+(m:Int) * 1).toNat]?).toArray=((xs.toList.drop i).take k).toArray:=by
 have e:(fun (m:Nat)=>xs[((i:Int)+(m:Int) * 1).toNat]?)=fun m=>xs[i+m]?:=by
  funext m
  have:((i:Int)+(m:Int) * 1).toNat=i+m:=by omega
  rw [this]
 rw [e]
 have:=pick_run xs i k
 rw [List.filterMap_map] at this
 have e2:((fun x=>xs[x]?) ∘ fun x=>i+x)=fun m=>xs[i+m]?:=rfl
 rw [e2] at this
 rw [this]
theorem vR {t sl:Addr}{items:Array Value}{vl vu:Value}{lo hi:Option Int}{Q:Value->Shared->Prop}(ht:IsTup s.heap t items)(hs:s.heap.IsSliceOf sl vl vu .none)(pl:IsPart vl lo)(pu:IsPart vu hi)
  (hw:¬(sIx items.size 0 lo=0/\sIx items.size items.size hi=items.size))
  (h:Q (.ref s.heap.objs.size) {s with heap:=s.heap.push {cls:=.type "tuple",data:=.seq ((items.toList.drop (sIx items.size 0 lo)).take (sIx items.size items.size hi - sIx items.size 0 lo)).toArray}})
  (hsz:items.size<=sizeLine):wpAny (model prog w) A (getItem (.ref t) (.ref sl)) Q E s:=by
 have htake:sizeOk (.seq ((items.toList.drop (sIx items.size 0 lo)).take (sIx items.size items.size hi - sIx items.size 0 lo)).toArray):=by
  show ((items.toList.drop (sIx items.size 0 lo)).take (sIx items.size items.size hi - sIx items.size 0 lo)).toArray.size<=sizeLine
  rw [List.size_toArray,List.length_take,List.length_drop,Array.length_toList]
  omega
 have hj:sIx items.size items.size hi<=items.size:=OX _ _ (Nat.le_refl _) hi
 obtain ⟨os,hos,hcs,hds⟩:=id hs
 have hTs:s.TypeIs (.ref sl) "slice":=⟨os,hos,hcs⟩
 unfold getItem
 try with_reducible refine wpAny_holding ?_
 first | refine wpAny_bind (wpAny_pure ?_) | skip
 refine wpAny_bind (wpAny_sequenceKey ht.typeIs (by decide) ?_)
 refine wpAny_bind (wpAny_callSpecial?_slot (name:=Str.ofString "__getitem__") ht.typeIs PyProof.Rows.slot_tuple_getitem
  (wpAny_call_entry PyProof.Rows.slot_tuple_getitem ht.typeIs entry_tuple_getitem ?_ (args_tuple_getitem _ _)))
 show wpAny _ _ (Builtin.Tuple.tupleItemsOf (.ref t) >>= _) _ _ s
 refine wpAny_bind (tupleItemsOf_ ht ?_)
 refine wpAny_bind (wpAny_typeOf hTs ?_)
 rw [if_pos (by decide)]
 refine wpAny_bind (yf hs pl pu ?_)
 have hno:¬((((sIx items.size 0 lo:Nat):Int) == 0 && (1:Int) == 1 && (sIx items.size items.size hi - sIx items.size 0 lo) == items.size)=true):=by
  intro q
  rw [Bool.and_eq_true,Bool.and_eq_true] at q
  have q1:((sIx items.size 0 lo:Nat):Int)=0:=eq_of_beq q.1.1
  have q2:sIx items.size items.size hi - sIx items.size 0 lo=items.size:=eq_of_beq q.2
  exact hw ⟨by omega,by omega⟩
 show wpAny _ _ (if (((sIx items.size 0 lo:Nat):Int) == 0 && (1:Int) == 1 && (sIx items.size items.size hi - sIx items.size 0 lo) == items.size)=true then _ else _) _ _ s
 rw [if_neg hno,Ks]
 first
  | exact wpAny_bind (m:=Builtin.Tuple.tupleExact _) (wpAny_newObj_type (wpAny_pure ⟨_,rfl,wpAny_pure h⟩) htake)
  | exact wpAny_bind (m:=Builtin.Tuple.tupleExact _) (wpAny_newObj_type (wpAny_bind (wpAny_pure (wpAny_pure ⟨_,rfl,wpAny_pure h⟩))) htake)
  | exact wpAny_bind (wpAny_bind (m:=Builtin.Tuple.tupleExact _) (wpAny_newObj_type (wpAny_pure (wpAny_pure ⟨_,rfl,wpAny_pure h⟩)) htake))
  | exact wpAny_bind (wpAny_bind (m:=Builtin.Tuple.tupleExact _) (wpAny_newObj_type (wpAny_pure ⟨_,rfl,wpAny_pure h⟩) htake))
end
end HT
namespace L2
open PySem PySem.Spec PyProof.Rows
noncomputable abbrev TO:=St->Hp->(Option Int->Hp->Prop)->Prop
def PO (X:Cx)(e:Option Expr)(t:TO):Prop:=
 ∀(pins:List (Addr×Obj)) (s:Shared) (σ:St) (H:Hp) (Q:Option Int->Hp->Prop),Inv X pins σ H s->t σ H Q->
  wpAny (model X.prog X.w) X.A (evalPart e X.env) (fun u s'=>∃o H',Inv X pins σ H' s'/\IsPart u o/\Q o H') X.xe s
noncomputable def Im:TO:=fun _ H Q=>Q none H
noncomputable def N2 (t:TE):TO:=fun σ H Q=>t σ H fun x H1=>∃i,x=.int i/\Q (some i) H1
section
variable {X:Cx}{e:Expr}{te:TE}{lo hi:Option Expr}{tl th:TO}{pos p2:Pos}
theorem Io:PO X none Im:=by
 intro pins s σ H Q I h
 rw [evalPart_none]
 exact wpAny_pure ⟨none,H,I,.none,h⟩
theorem zK (h:PE X e te):PO X (some e) (N2 te):=by
 intro pins s σ H Q I hw
 rw [evalPart_some]
 refine thn (h pins s σ H _ I hw) fun u s1 ⟨x,H1,I1,r1,q1⟩=>?_
 obtain ⟨i,rfl,q⟩:=q1
 obtain ⟨t,rfl⟩:=r1
 exact ⟨some i,H1,I1,.int i t,q⟩
def SlR (X:Cx)(r:V->Option Int->Option Int->Hp->VK->Prop):Prop:=
 ∀(pins:List (Addr×Obj)) (s:Shared) (σ:St) (H:Hp) (x:V) (v vl vu:Value) (lo hi:Option Int) (sl:Addr) (Q:VK),Inv X pins σ H s->cq x v->s.heap.IsSliceOf sl vl vu .none->IsPart vl lo->IsPart vu hi->r x lo hi H Q->
  ∃T id,typeLookup (.type T) "__getitem__"=pure (some (.builtin id))/\s.TypeIs v T/\wpAny (model X.prog X.w) X.A (getItem v (.ref sl)) (EP X pins σ Q) X.xe s
noncomputable def tSl (r:V->Option Int->Option Int->Hp->VK->Prop)(te:TE)(tl th:TO):TE:=fun σ H Q=>te σ H fun x H1=>tl σ H1 fun l H2=>th σ H2 fun u H3=>r x l u H3 Q
theorem z6 {r:V->Option Int->Option Int->Hp->VK->Prop}(hr:SlR X r)(he:PE X e te)(hl:PO X lo tl)(hu:PO X hi th):PE X (.Subscript e (.Slice lo hi none p2) pos) (tSl r te tl th):=by
 intro pins s σ H Q I h
 refine Subscript_ (thn (he pins s σ H _ I h) fun v s1 ⟨x,H1,I1,r1,q1⟩=>?_)
 refine wpAny_Slice (thn (hl pins s1 σ H1 _ I1 q1) fun vl s2 ⟨l,H2,I2,pl,q2⟩=>thn (hu pins s2 σ H2 _ I2 q2) fun vu s3 ⟨u,H3,I3,pu,q3⟩=>?_)
 rw [evalPart_none]
 refine wpAny_pure ?_
 have I4:Inv X pins σ H3 {s3 with heap:=s3.heap.push {cls:=.type "slice",data:=.fields #[vl,vu,.none]}}:=I3.kept (t':=s3.toks) fun b ob q=>Heap.get?_push_of_some _ q
 obtain ⟨T,id,hT,ht,hg⟩:=hr pins {s3 with heap:=s3.heap.push {cls:=.type "slice",data:=.fields #[vl,vu,.none]}} σ H3 x v vl vu l u s3.heap.objs.size Q I4 r1 (Heap.IsSliceOf.new ..) pl pu q3
 show wpAny (model X.prog X.w) X.A (subscriptTail e (.Slice lo hi none p2) v (.ref s3.heap.objs.size)) (EP X pins σ Q) X.xe {s3 with heap:=s3.heap.push {cls:=.type "slice",data:=.fields #[vl,vu,.none]}}
 exact tail_any (ops:=[.ref s3.heap.objs.size,v]) ht hT hg (by with_unfolding_all rfl)
noncomputable def vS (xs:List V)(lo hi:Option Int):List V:=(xs.drop (HT.sIx xs.length 0 lo)).take (HT.sIx xs.length xs.length hi - HT.sIx xs.length 0 lo)
theorem nq (xs:List V)(lo hi:Option Int):(vS xs lo hi).length<=xs.length:=by
 unfold vS
 rw [List.length_take,List.length_drop]
 omega
noncomputable def QD (K:PySem.W.Frag):V->Option Int->Option Int->Hp->VK->Prop:=fun x lo hi H Q=>∃a xs,x=.ref a/\SqT K H a xs/\
 ¬(HT.sIx xs.length 0 lo=0/\HT.sIx xs.length xs.length hi=xs.length)/\∀p,H p=none->Q (.ref p) (upd H p (.tup (vS xs lo hi)))
theorem Kt:SlR X (QD X.K):=by
 intro pins s σ H x v vl vu lo hi sl Q I rx hs pl pu h
 obtain ⟨a,xs,rfl,hx,hw,q⟩:=h
 cases rx
 obtain ⟨its,r,ht,hz⟩:=I.tuple hx
 have hlen:its.toArray.size=xs.length:=by rw [List.size_toArray];exact r.length.symm
 refine ⟨"tuple",_,PyProof.Rows.slot_tuple_getitem.lookup,ht.typeIs,?_⟩
 refine HT.vR ht hs pl pu (by rw [hlen];exact hw) ?_ (by rw [hlen];exact hz)
 rw [hlen]
 refine ⟨.ref s.heap.objs.size,_,I.laid (t':=s.toks) (o:=.tup (vS xs lo hi)) (fun b ob q=>Heap.get?_push_of_some _ q) (Nat.le_refl _) ?_,rfl,q _ (I.hok.fresh (Nat.le_refl _))⟩
 exact ⟨Nat.le_trans (nq xs lo hi) hz,_,(r.drop (HT.sIx xs.length 0 lo)).take (HT.sIx xs.length xs.length hi - HT.sIx xs.length 0 lo),lZ.new _ _⟩
noncomputable def N3 (K:PySem.W.Frag):R2:=fun x y H Q=>∃a b xs ys,x=.ref a/\y=.ref b/\SqT K H a xs/\SqT K H b ys/\xs≠[]/\xs.length+ys.length<=sizeLine/\
 (ys=[]->Q (.ref a) H)/\(ys≠[]->∀p,H p=none->Q (.ref p) (upd H p (.tup (xs++ys))))
theorem bJ.nil_iff {xs:List V}{us:List Value}(r:bJ xs us):us=[]↔xs=[]:=by
 cases r with
 | nil=>simp
 | cons _ _=>simp
theorem Ip:OpR X (binaryOp .Add) (N3 X.K):=by
 intro pins s σ H x y v u Q I rx ry h
 obtain ⟨a,b,xs,ys,rfl,rfl,ha,hb,hx,hz,q1,q2⟩:=h
 cases rx
 cases ry
 obtain ⟨its,r1,p1,_⟩:=I.tuple ha
 obtain ⟨its2,r2,p2,_⟩:=I.tuple hb
 refine HT.Mo p1 p2 (fun z=>hx (r1.nil_iff.mp z)) (fun z=>⟨.ref a,H,I,rfl,q1 (r2.nil_iff.mp z)⟩) (fun z=>?_) (by rw [←r1.length,←r2.length];exact hz)
 refine ⟨.ref s.heap.objs.size,_,I.laid (t':=s.toks) (o:=.tup (xs++ys)) (fun b ob q=>Heap.get?_push_of_some _ q) (Nat.le_refl _) ?_,rfl,q2 (fun w=>z (r2.nil_iff.mpr w)) _ (I.hok.fresh (Nat.le_refl _))⟩
 exact ⟨by rw [List.length_append];exact hz,_,r1.append r2,lZ.new _ _⟩
end
noncomputable def ixN (n:Nat)(i:Int):Option Nat:=if 0<=i then (if i < n then some i.toNat else none) else if -(n:Int)<=i then some (i+n).toNat else none
noncomputable def atI {α:Type}(xs:List α)(i:Int):Option α:=(ixN xs.length i).bind fun j=>xs[j]?
theorem Iq {n:Nat}{i:Int}{j:Nat}(h:ixN n i=some j):seqIndex? i n=some j/\j < n/\-(n:Int)<=i/\i < n:=by
 unfold ixN at h
 by_cases h0:0<=i
 ·rw [if_pos h0] at h
  by_cases h1:i < n
  ·rw [if_pos h1] at h
   have e:i.toNat=j:=Option.some.inj h
   exact ⟨by rw [seqIndex_of h0 h1,e],by omega,by omega,h1⟩
  ·rw [if_neg h1] at h;cases h
 ·rw [if_neg h0] at h
  by_cases h1:-(n:Int)<=i
  ·rw [if_pos h1] at h
   have e:(i+n).toNat=j:=Option.some.inj h
   exact ⟨by rw [seqIndex_neg (by omega) h1,e],by omega,h1,by omega⟩
  ·rw [if_neg h1] at h;cases h
theorem Eb {α:Type}{xs:List α}{i:Int}{v:α}(h:atI xs i=some v):∃j,seqIndex? i xs.length=some j/\xs[j]?=some v/\j < xs.length/\-(xs.length:Int)<=i/\i < xs.length:=by
 unfold atI at h
 cases e:ixN xs.length i with
 | none=>rw [e] at h;cases h
 | some j=>
  rw [e] at h
  obtain ⟨h1,h2,h3,h4⟩:=Iq e
  exact ⟨j,h1,h,h2,h3,h4⟩
theorem Ir {α:Type}{xs:List α}{j:Nat}{v:α}(h:xs[j]?=some v):atI xs (j:Int)=some v:=by
 have hj:j < xs.length:=(List.getElem?_eq_some_iff.mp h).1
 have e:ixN xs.length (j:Int)=some j:=by
  unfold ixN
  rw [if_pos (by omega),if_pos (by omega)];simp
 unfold atI;rw [e];exact h
theorem Ku {α:Type}(xs:List α)(v:α):atI (xs++[v]) (-1)=some v:=by
 have hl:(xs++[v]).length=xs.length+1:=by simp
 have e:ixN (xs++[v]).length (-1)=some xs.length:=by
  unfold ixN
  rw [hl,if_neg (by decide),if_pos (by omega)]
  congr 1
  omega
 unfold atI
 rw [e]
 show (xs++[v])[xs.length]?=some v
 simp
def Iu (b:Expr):Prop:=∀o i,subscripted b false o i=operate [o,i] (getItem o i)
def IxR (X:Cx)(r:R2):Prop:=
 ∀(value slice:Expr) (pins:List (Addr×Obj)) (s:Shared) (σ:St) (H:Hp) (x y:V) (v u:Value) (Q:VK),Inv X pins σ H s->cq x v->cq y u->r x y H Q->
  subscripted slice false v u=operate [v,u] (getItem v u)->wpAny (model X.prog X.w) X.A (subscriptTail value slice v u) (EP X pins σ Q) X.xe s
def MtR (X:Cx)(id:String)(r:V->List V->Hp->VK->Prop):Prop:=
 ∀(pins:List (Addr×Obj)) (s:Shared) (σ:St) (H:Hp) (x:V) (xs:List V) (v:Value) (us:List Value) (Q:VK),Inv X pins σ H s->cq x v->bJ xs us->r x xs H Q->
  wpAny (model X.prog X.w) X.A (call (.builtin id) (v::us)) (EP X pins σ Q) X.xe s
section
variable {X:Cx}{a b:Expr}{ta tb:TE}{pos:Pos}
theorem IxR.or {r r':R2}(h:IxR X r)(h':IxR X r'):IxR X (fun x y H Q=>r x y H Q\/r' x y H Q):=by
 intro value slice pins s σ H x y v u Q I rx ry q hs
 rcases q with q | q
 ·exact h value slice pins s σ H x y v u Q I rx ry q hs
 ·exact h' value slice pins s σ H x y v u Q I rx ry q hs
theorem QE {r:R2}(hr:IxR X r)(ha:PE X a ta)(hb:PE X b tb)(hs:Iu b):PE X (.Subscript a b pos) (tOp r ta tb):=by
 intro pins s σ H Q I h
 exact Subscript_ (OT ha hb I h fun v u s2 x y H2 I2 rx ry q=>hr a b pins s2 σ H2 x y v u Q I2 rx ry q (hs _ _))
noncomputable def Mq (K:PySem.W.Frag):R2:=fun x y H Q=>∃p xs i v,x=.ref p/\y=.int i/\SqL K H p xs/\atI xs i=some v/\Q v H
noncomputable def E6 (K:PySem.W.Frag):R2:=fun x y H Q=>∃p xs i v,x=.ref p/\y=.int i/\SqT K H p xs/\atI xs i=some v/\Q v H
noncomputable def QF:R2:=fun x y H Q=>∃z i c,x=.str z/\y=.int i/\z.length<=sizeLine/\atI z.cps.toList i=some c/\Q (.str ⟨#[c]⟩) H
theorem aK:IxR X (Mq X.K):=by
 intro value slice pins s σ H x y v u Q I rx ry h hs
 obtain ⟨p,xs,i,z,rfl,rfl,hq,he,q⟩:=h
 cases rx
 obtain ⟨t,rfl⟩:=ry
 obtain ⟨its,r,pl,hz⟩:=I.list hq
 obtain ⟨j,h1,h2,h3,h4,h5⟩:=Eb he
 obtain ⟨w,ew,rw'⟩:=r.get h2
 have hl:=r.length
 have hn:=yb
 have fin:EP X pins σ Q w s:=⟨z,H,I,rw',q⟩
 by_cases h0:0<=i
 ·have hj:i.toNat=j:=by
   rw [seqIndex_of h0 h5] at h1
   exact Option.some.inj h1
  exact item_listR pl.isList h0 (by omega) (by rw [hj];simpa using ew) fin hs
 ·have hj:(i+(its.toArray.size:Int)).toNat=j:=by
   rw [seqIndex_neg (by omega) h4] at h1
   rw [List.size_toArray,←hl]
   exact Option.some.inj h1
  exact subscriptTail_builtinR (x:=w) pl.isList.typeIs slot_list_getitem.lookup
   (wpAny_getItem_list_neg (Q:=fun r s'=>r=w/\EP X pins σ Q r s') pl.isList (by omega) (by rw [List.size_toArray]<;>omega) (by omega) (by rw [hj];simpa using ew) ⟨rfl,fin⟩) hs
theorem aE:IxR X (E6 X.K):=by
 intro value slice pins s σ H x y v u Q I rx ry h hs
 obtain ⟨p,xs,i,z,rfl,rfl,hq,he,q⟩:=h
 cases rx
 obtain ⟨t,rfl⟩:=ry
 obtain ⟨its,r,pl,hz⟩:=I.tuple hq
 obtain ⟨j,h1,h2,h3,h4,h5⟩:=Eb he
 obtain ⟨w,ew,rw'⟩:=r.get h2
 have hl:=r.length
 have hn:=yb
 have fin:EP X pins σ Q w s:=⟨z,H,I,rw',q⟩
 exact subscriptTail_builtinR (x:=w) pl.typeIs slot_tuple_getitem.lookup
  (getItem_tuple (j:=j) (Q:=fun r s'=>r=w/\EP X pins σ Q r s') pl (by omega) (by omega) (by rw [List.size_toArray,←hl];exact h1) (by simpa using ew) ⟨rfl,fin⟩) hs
theorem OY:IxR X QF:=by
 intro value slice pins s σ H x y v u Q I rx ry h hs
 obtain ⟨z,i,c,rfl,rfl,hz,he,q⟩:=h
 obtain ⟨t,rfl⟩:=rx
 obtain ⟨t',rfl⟩:=ry
 obtain ⟨j,h1,h2,h3,h4,h5⟩:=Eb he
 have hl:z.cps.toList.length=z.length:=by simp [Str.length]
 rw [hl] at h1 h4 h5
 have hn:=yb
 exact tail_any (typeIs_str s z t) slot_str_getitem.lookup (getItem_str (c:=c) (by
  have e1:decide (i < -(2 ^ 63:Int))=false:=decide_eq_false (by omega)
  have e2:decide (i≥2 ^ 63)=false:=decide_eq_false (by omega)
  rw [e1,e2,Bool.or_false]) (by rw [h1];simpa using h2) ⟨.str ⟨#[c]⟩,H,I.tok _,⟨_,rfl⟩,q⟩) hs
noncomputable def rIx (K:PySem.W.Frag):R2:=fun x y H Q=>Mq K x y H Q\/E6 K x y H Q\/QF x y H Q
theorem Kv:IxR X (rIx X.K):=aK.or (aE.or OY)
theorem GV (its:List Value)(n j:Nat)(u:Value):Obj.mapSeq (·.setIfInBounds j u) {cls:=.type "list",data:=.seq its.toArray n}={cls:=.type "list",data:=.seq (its.set j u).toArray n}:=by
 simp [Obj.mapSeq]
theorem Inv.lst {pins:List (Addr×Obj)}{σ:St}{H:Hp}{s:Shared}{p:Addr}{xs:List V}(I:Inv X pins σ H s)(h:H p=some (.lst xs)) :
  ∃(its:List Value) (n:Nat),bJ xs its/\s.heap.get? p=some {cls:=.type "list",data:=.seq its.toArray n}/\xs.length<=sizeLine:=by
 obtain ⟨z,its,n,r,e⟩:=I.hok p _ h
 exact ⟨its,n,r,e,z⟩
theorem Inv.lstUpd {pins:List (Addr×Obj)}{σ:St}{H:Hp}{s:Shared}{p:Addr}{xs ys:List V}{its its':List Value}{n n':Nat}{f:Obj->Obj}(I:Inv X pins σ H s)(h:H p=some (.lst xs))
  (ho:s.heap.get? p=some {cls:=.type "list",data:=.seq its.toArray n}) (hf:f {cls:=.type "list",data:=.seq its.toArray n}={cls:=.type "list",data:=.seq its'.toArray n'}) (r:bJ ys its') (hz:ys.length<=sizeLine) (t:Nat) :
  Inv X pins σ (upd H p (.lst ys)) {s with heap:=s.heap.update p f,toks:=t}:=by
 have e:(s.heap.update p f).get? p=some {cls:=.type "list",data:=.seq its'.toArray n'}:=by
  rw [Heap.get?_update_self f ho (by rw [hf]<;>rfl),hf]
 refine I.write (x:=p) (e:=p) (by rw [h];trivial) (.inl rfl) (fun b u hb q=>(Heap.get?_update_other _ _ (Ne.symm hb)).trans q) ⟨_,e⟩ ?_
 exact ⟨hz,its',n',r,e⟩
noncomputable def N4:V->V->V->Hp->(Hp->Prop)->Prop:=fun o i v H Q=>∃p xs k j,o=.ref p/\i=.int k/\H p=some (.lst xs)/\ixN xs.length k=some j/\Q (upd H p (.lst (xs.set j v)))
theorem oq:Qs X N4:=by
 intro pins s σ H o i v ov iv u Q I ro ri rv h
 obtain ⟨p,xs,k,j,rfl,rfl,hp,hj,q⟩:=h
 cases ro
 obtain ⟨t,rfl⟩:=ri
 obtain ⟨its,n,r,ho,hz⟩:=I.lst hp
 obtain ⟨h1,h2,h3,h4⟩:=Iq hj
 have hl:=r.length
 have hn:=yb
 have I':Inv X pins σ (upd H p (.lst (xs.set j v))) {s with heap:=s.heap.update p (Obj.mapSeq (·.setIfInBounds j u))}:=
  I.lstUpd hp ho (GV its n j u) (r.set rv j) (by rw [List.length_set];exact hz) s.toks
 by_cases h0:0<=k
 ·have hk:k.toNat=j:=by
   rw [seqIndex_of h0 h4] at h1
   exact Option.some.inj h1
  exact PySem.W.ki_setAt ho h0 (by omega) (by rw [List.size_toArray,←hl];exact h4) (by rw [hk];exact ⟨_,I',q⟩)
 ·have hk:(k+(its.toArray.size:Int)).toNat=j:=by
   rw [seqIndex_neg (by omega) h3] at h1
   rw [List.size_toArray,←hl]
   exact Option.some.inj h1
  exact PySem.W.ki_setBack ho (by omega) (by rw [List.size_toArray,←hl];exact h3) (by omega) (by rw [hk];exact ⟨_,I',q⟩)
theorem Ec (lo hi:Option Int)(n:Nat):(sliceBounds lo hi none n).1=((HT.sIx n 0 lo:Nat):Int)/\(sliceBounds lo hi none n).2.1=((HT.sIx n n hi:Nat):Int)/\(sliceBounds lo hi none n).2.2=1:=by
 refine ⟨?_,?_,rfl⟩
 ·cases lo with
  | none=>simp [sliceBounds,HT.sIx]
  | some i=>
   simp only [sliceBounds,HT.sIx,Option.getD_none,show (1:Int) > 0 by decide,if_true]
   by_cases h:i < 0
   ·simp only [h,if_true]<;>omega
   ·simp only [h,if_false]<;>omega
 ·cases hi with
  | none=>simp [sliceBounds,HT.sIx]
  | some i=>
   simp only [sliceBounds,HT.sIx,Option.getD_none,show (1:Int) > 0 by decide,if_true]
   by_cases h:i < 0
   ·simp only [h,if_true]<;>omega
   ·simp only [h,if_false]<;>omega
theorem BE (its:List Value)(lo hi:Option Int):slicePick its.toArray lo hi none=((its.drop (HT.sIx its.length 0 lo)).take (HT.sIx its.length its.length hi - HT.sIx its.length 0 lo)).toArray:=by
 obtain ⟨h1,h2,h3⟩:=Ec lo hi its.toArray.size
 unfold slicePick
 rw [h1,h2,h3]
 simp only [sliceRange_one,pick_run,List.size_toArray]<;>rfl
noncomputable def QG (K:PySem.W.Frag):V->Option Int->Option Int->Hp->VK->Prop:=fun x lo hi H Q=>∃a xs,x=.ref a/\SqL K H a xs/\∀p,H p=none->Q (.ref p) (upd H p (.lst (vS xs lo hi)))
theorem Mr:SlR X (QG X.K):=by
 intro pins s σ H x v vl vu lo hi sl Q I rx hs pl pu h
 obtain ⟨a,xs,rfl,hx,q⟩:=h
 cases rx
 obtain ⟨its,r,ht,hz⟩:=I.list hx
 have hlen:=r.length
 refine ⟨"list",_,slot_list_getitem.lookup,ht.isList.typeIs,?_⟩
 refine wpAny_getItem_list_slice ht.isList hs pl pu .none (by simp) ?_ (by rw [List.size_toArray]<;>omega)
 rw [BE,←hlen]
 refine ⟨.ref s.heap.objs.size,_,I.laid (t':=s.toks) (o:=.lst (vS xs lo hi)) (fun b ob q=>Heap.get?_push_of_some _ q) (Nat.le_refl _) ?_,rfl,q _ (I.hok.fresh (Nat.le_refl _))⟩
 exact ⟨Nat.le_trans (nq xs lo hi) hz,_,0,(r.drop (HT.sIx xs.length 0 lo)).take (HT.sIx xs.length xs.length hi - HT.sIx xs.length 0 lo),Heap.get?_push_size _ rfl⟩
noncomputable def cL:V->Bool
 | .non=>true
 | .bl _=>true
 | .int _=>true
 | .str _=>true
 | _=>false
noncomputable def eqV:V->V->Bool
 | .non,.non=>true
 | .bl a,.bl b=>a == b
 | .bl a,.int b=>(if a then 1 else 0) == b
 | .int a,.bl b=>a == (if b then 1 else 0)
 | .int a,.int b=>a == b
 | .str a,.str b=>a == b
 | _,_=>false
theorem yg {A:Around}{s:Shared}{y x:V}{u v:Value}(ry:cq y u)(rx:cq x v)(fy:cL y=true)(fx:cL x=true):SeqAt.EqAt A s u v (eqV y x):=by
 cases y with
 | non=>
  cases ry
  cases x with
  | non=>cases rx;exact SeqAt.EqAt.same _
  | bl b=>cases rx;exact SeqAt.EqAt.none_bool b
  | int b=>obtain ⟨t,rfl⟩:=rx;exact SeqAt.EqAt.none_int b t
  | str b=>obtain ⟨t,rfl⟩:=rx;exact SeqAt.EqAt.none_str b t
  | _=>exact absurd (show false=true from fx) Bool.false_ne_true
 | bl a=>
  cases ry
  cases x with
  | non=>cases rx;exact SeqAt.EqAt.bool_none a
  | bl b=>cases rx;exact SeqAt.EqAt.bool_bool a b
  | int b=>obtain ⟨t,rfl⟩:=rx;exact SeqAt.EqAt.bool_int a b t
  | str b=>obtain ⟨t,rfl⟩:=rx;exact SeqAt.EqAt.bool_str a b t
  | _=>exact absurd (show false=true from fx) Bool.false_ne_true
 | int a=>
  obtain ⟨t',rfl⟩:=ry
  cases x with
  | non=>cases rx;exact SeqAt.EqAt.int_none a t'
  | bl b=>cases rx;exact SeqAt.EqAt.int_bool a t' b
  | int b=>obtain ⟨t,rfl⟩:=rx;exact SeqAt.EqAt.int_int a t' b t
  | str b=>obtain ⟨t,rfl⟩:=rx;exact SeqAt.EqAt.int_str a t' b t
  | _=>exact absurd (show false=true from fx) Bool.false_ne_true
 | str a=>
  obtain ⟨t',rfl⟩:=ry
  cases x with
  | non=>cases rx;exact SeqAt.EqAt.str_none a t'
  | bl b=>cases rx;exact SeqAt.EqAt.str_bool a t' b
  | int b=>obtain ⟨t,rfl⟩:=rx;exact SeqAt.EqAt.str_int a t' b t
  | str b=>obtain ⟨t,rfl⟩:=rx;exact SeqAt.EqAt.str_str a t' b t
  | _=>exact absurd (show false=true from fx) Bool.false_ne_true
 | _=>exact absurd (show false=true from fy) Bool.false_ne_true
noncomputable def eqU (x:V)(u:Value):Bool:=match u with
 | .none=>eqV .non x
 | .bool b=>eqV (.bl b) x
 | .int i _=>eqV (.int i) x
 | .str z _=>eqV (.str z) x
 | _=>false
theorem Kw {x y:V}{u:Value}(r:cq y u)(f:cL y=true):eqU x u=eqV y x:=by
 cases y with
 | non=>cases r;rfl
 | bl b=>cases r;rfl
 | int i=>obtain ⟨t,rfl⟩:=r;rfl
 | str z=>obtain ⟨t,rfl⟩:=r;rfl
 | _=>exact absurd (show false=true from f) Bool.false_ne_true
theorem vT {x:V}:∀{xs:List V} {us:List Value},bJ xs us->xs.all cL=true->us.any (eqU x)=xs.any fun y=>eqV y x
 | _,_,.nil,_=>rfl
 | y::xs,u::us,.cons r t,f=>by
  rw [List.all_cons,Bool.and_eq_true] at f
  rw [List.any_cons,List.any_cons,Kw r f.1,vT t f.2]
theorem qY {A:Around}{s:Shared}{x:V}{v:Value}(rx:cq x v)(fx:cL x=true):∀{xs:List V} {us:List Value},bJ xs us->xs.all cL=true->∀u∈us,SeqAt.EqAt A s u v (eqU x u)
 | _,_,.nil,_=>fun u hu=>by cases hu
 | y::xs,u::us,.cons r t,f=>fun u' hu=>by
  rw [List.all_cons,Bool.and_eq_true] at f
  rcases List.mem_cons.mp hu with rfl | hu
  ·rw [Kw r f.1];exact yg r rx f.1 fx
  ·exact qY rx fx t f.2 u' hu
noncomputable def inV (x:V)(xs:List V):Bool:=xs.any fun y=>eqV y x
noncomputable def rIn (K:PySem.W.Frag)(neg:Bool):R2:=fun x y H Q=>∃p xs,y=.ref p/\(SqL K H p xs\/SqT K H p xs)/\cL x=true/\xs.all cL=true/\Q (.bl (if neg then !inV x xs else inV x xs)) H
theorem tD:OpR X (compareOp .In) (rIn X.K false):=by
 intro pins s σ H x y v u Q I rx ry h
 obtain ⟨p,xs,rfl,hq,fx,fs,q⟩:=h
 cases ry
 rcases hq with hq | hq
 ·obtain ⟨its,r,pl,hz⟩:=I.list hq
  refine SeqAt.in_listAt (eqU x) pl.isList (fun w hw=>qY rx fx r fs w (by simpa using hw)) ⟨.bl _,H,I,rfl,?_⟩
  rw [show its.toArray.any (eqU x)=its.any (eqU x) by simp,vT r fs]
  exact q
 ·obtain ⟨its,r,pl,hz⟩:=I.tuple hq
  refine SeqAt.in_tupleAt (eqU x) pl (fun w hw=>qY rx fx r fs w (by simpa using hw)) ⟨.bl _,H,I,rfl,?_⟩
  rw [show its.toArray.any (eqU x)=its.any (eqU x) by simp,vT r fs]
  exact q
theorem pK:OpR X (compareOp .NotIn) (rIn X.K true):=by
 intro pins s σ H x y v u Q I rx ry h
 obtain ⟨p,xs,rfl,hq,fx,fs,q⟩:=h
 cases ry
 rcases hq with hq | hq
 ·obtain ⟨its,r,pl,hz⟩:=I.list hq
  refine SeqAt.notIn_listAt (eqU x) pl.isList (fun w hw=>qY rx fx r fs w (by simpa using hw)) ⟨.bl _,H,I,rfl,?_⟩
  rw [show its.toArray.any (eqU x)=its.any (eqU x) by simp,vT r fs]
  exact q
 ·obtain ⟨its,r,pl,hz⟩:=I.tuple hq
  refine SeqAt.notIn_tupleAt (eqU x) pl (fun w hw=>qY rx fx r fs w (by simpa using hw)) ⟨.bl _,H,I,rfl,?_⟩
  rw [show its.toArray.any (eqU x)=its.any (eqU x) by simp,vT r fs]
  exact q
theorem aG:kG X (.builtin "len") (fun xs H Q=>∃p ys,xs=[.ref p]/\(SqL X.K H p ys\/SqT X.K H p ys)/\Q (.int ys.length) H):=by
 intro pins s σ H xs us Q I r h
 obtain ⟨p,ys,rfl,hq,q⟩:=h
 obtain ⟨u,rfl,rx⟩:=yI r
 cases rx
 have hn:=yb
 rcases hq with hq | hq
 ·obtain ⟨its,r',pl,hz⟩:=I.list hq
  have hlen:=r'.length
  exact Calls.call_len_list pl.isList (by simp only [List.size_toArray]<;>omega) ⟨.int ys.length,H,I.tok _,⟨s.toks+1,by rw [List.size_toArray,hlen]⟩,q⟩
 ·obtain ⟨its,r',pl,hz⟩:=I.tuple hq
  have hlen:=r'.length
  exact len_tuple pl (by simp only [List.size_toArray]<;>omega) ⟨.int ys.length,H,I.tok _,⟨s.toks+1,by rw [List.size_toArray,hlen]⟩,q⟩
theorem bQ:kG X (.type "list") (fun xs H Q=>∃p ys,xs=[.ref p]/\(SqL X.K H p ys\/SqT X.K H p ys)/\∀l,H l=none->Q (.ref l) (upd H l (.lst ys))):=by
 intro pins s σ H xs us Q I r h
 obtain ⟨p,ys,rfl,hq,q⟩:=h
 obtain ⟨u,rfl,rx⟩:=yI r
 cases rx
 have fin:∀(its:List Value),bJ ys its->ys.length<=sizeLine->∀(h':Heap) (c':Nat),(∀b o',s.heap.get? b=some o'->h'.get? b=some o')->
   h'.get? s.heap.objs.size=some {cls:=.type "list",dict:=none,data:=.seq its.toArray c',slots:=#[]}->EP X pins σ Q (.ref s.heap.objs.size) {s with heap:=h'}:=fun its r' hz h' c' kp e=>
  ⟨.ref s.heap.objs.size,_,I.laid (t':=s.toks) kp (Nat.le_refl _) (show gj X.prog X.w _ h' _ (.lst ys) from ⟨hz,its,c',r',e⟩),rfl,q _ (I.hok.fresh (Nat.le_refl _))⟩
 rcases hq with hq | hq
 ·obtain ⟨its,r',pl,hz⟩:=I.list hq
  have hlen:=r'.length
  obtain ⟨o,ho,hc,n,hd⟩:=pl.isList
  exact call_list_seq p (.inl rfl) ho hc hd (fun h' c' kp e=>fin its r' hz h' c' kp e) (by simp only [List.size_toArray]<;>omega)
 ·obtain ⟨its,r',pl,hz⟩:=I.tuple hq
  have hlen:=r'.length
  obtain ⟨o,ho,hc,n,hd⟩:=pl
  exact call_list_seq p (.inr rfl) ho hc hd (fun h' c' kp e=>fin its r' hz h' c' kp e) (by simp only [List.size_toArray]<;>omega)
theorem ua:kG X (.type "tuple") (fun xs H Q=>∃p ys,xs=[.ref p]/\((SqL X.K H p ys/\∀l,H l=none->Q (.ref l) (upd H l (.tup ys)))\/(SqT X.K H p ys/\Q (.ref p) H))):=by
 intro pins s σ H xs us Q I r h
 obtain ⟨p,ys,rfl,h⟩:=h
 obtain ⟨u,rfl,rx⟩:=yI r
 cases rx
 rcases h with ⟨hq,q⟩ | ⟨hq,q⟩
 ·obtain ⟨its,r',pl,hz⟩:=I.list hq
  have hlen:=r'.length
  refine call_tuple_list pl.isList (fun h' kp=>?_) (by simp only [List.size_toArray]<;>omega)
  have I1:Inv X pins σ H {s with heap:=h'}:=I.kept (t':=s.toks) kp
  have I2:Inv X pins σ (upd H h'.objs.size (.tup ys)) {s with heap:=h'.push {cls:=.type "tuple",data:=.seq its.toArray}}:=
   I1.laid (t':=s.toks) (fun b o e=>Heap.get?_push_of_some _ e) (Nat.le_refl _) (show gj X.prog X.w _ _ _ (.tup ys) from ⟨hz,its,r',lZ.new _ _⟩)
  exact ⟨.ref h'.objs.size,_,I2,rfl,q _ (I1.hok.fresh (Nat.le_refl _))⟩
 ·obtain ⟨its,r',pl,hz⟩:=I.tuple hq
  exact call_tuple_same pl ⟨.ref p,H,I,rfl,q⟩
def tyV (K:PySem.W.Frag)(T:String)(x:V)(H:Hp):Prop:=match x with
 | .str _=>T="str"
 | .int _=>T="int"
 | .ref p=>(T="list"/\∃xs,SqL K H p xs)\/(T="tuple"/\∃o,K.lookup p=some o/\o.cls=.type "tuple"/\o.dict=none)\/
   (T="dict"/\((∃kvs,H p=some (.dK kvs))\/∃kvs,H p=some (.dT kvs)))\/(T="set"/\∃S n,H p=some (.set S n))
 | _=>False
theorem Kx {pins:List (Addr×Obj)}{σ:St}{H:Hp}{s:Shared}{T:String}{x:V}{v:Value}(I:Inv X pins σ H s)(r:cq x v)(ty:tyV X.K T x H) :
  s.TypeIs v T/\∀a,v=.ref a->∃ob,s.heap.get? a=some ob/\ob.dict=none:=by
 cases x with
 | str z=>
  obtain ⟨t,rfl⟩:=r
  cases (show T="str" from ty)
  exact ⟨typeIs_str s z t,fun _ e=>nomatch e⟩
 | int i=>
  obtain ⟨t,rfl⟩:=r
  cases (show T="int" from ty)
  exact ⟨typeIs_int s i t,fun _ e=>nomatch e⟩
 | ref p=>
  cases r
  rcases ty with ⟨rfl,xs,hq⟩ | ⟨rfl,o,hk,hc,hd⟩ | ⟨rfl,hk⟩ | ⟨rfl,S,n,hk⟩
  ·obtain ⟨its,_,pl,_⟩:=I.list hq
   refine ⟨pl.isList.typeIs,fun a e=>?_⟩
   cases e
   obtain ⟨o,n,e,c,hd,_⟩:=pl
   exact ⟨o,e,hd⟩
  ·refine ⟨⟨o,I.kIn p o hk,hc⟩,fun a e=>?_⟩
   cases e
   exact ⟨o,I.kIn _ o hk,hd⟩
  ·have z:∃o,s.heap.get? p=some o/\o.ExactDict:=by
    rcases hk with ⟨kvs,hk⟩ | ⟨kvs,hk⟩
    ·obtain ⟨_,_,_,_,o,_,_,e,ex,_⟩:=I.hok p _ hk
     exact ⟨o,e,ex⟩
    ·obtain ⟨_,_,_,_,o,_,_,e,ex,_⟩:=I.hok p _ hk
     exact ⟨o,e,ex⟩
   obtain ⟨o,e,ex⟩:=z
   refine ⟨⟨o,e,ex.1⟩,fun a e2=>?_⟩
   cases e2
   exact ⟨o,e,ex.2.1⟩
  ·obtain ⟨o,_,_,_,e,ex,_⟩:=I.hok p _ hk
   refine ⟨⟨o,e,ex.1⟩,fun a e2=>?_⟩
   cases e2
   exact ⟨o,e,ex.2.1⟩
 | _=>exact False.elim ty
noncomputable def QH (K:PySem.W.Frag)(T:String)(r:V->List V->Hp->VK->Prop)(to:TE):TE:=fun σ H Q=>to σ H fun x H1=>tyV K T x H1/\r x [] H1 Q
noncomputable def tBM (K:PySem.W.Frag)(T:String)(r:V->List V->Hp->VK->Prop)(to:TE)(t:TA):TE:=fun σ H Q=>to σ H fun x H1=>tyV K T x H1/\t σ H1 fun xs H2=>r x xs H2 Q
variable {o e:Expr}{es:List Expr}{to:TE}{t:TA}{name:Str}{apos cpos:Pos}{T id:String}{r:V->List V->Hp->VK->Prop}
theorem z7 (pa:PlainAttrs T)(slot:Slot T name id)(hty:typeOf (.builtin id)=pure (.type "method_descriptor"))(hm:MtR X id r)(ho:PE X o to)
  (hbase:attributeBase o name X.env (eval o X.env)=eval o X.env:=by rfl) (hline:(apos.endLine == cpos.line)=true:=by rfl):PE X (.Call (.Attribute o name apos) [] [] cpos) (QH X.K T r to):=by
 intro pins s σ H Q I h
 refine wpAny_Call_method0_late hbase hline (thn (ho pins s σ H _ I h) fun v s1 ⟨x,H1,I1,r1,ty,q1⟩=>?_)
 obtain ⟨h1,h2⟩:=Kx I1 r1 ty
 exact ⟨T,id,pa,slot,hty,h1,h2,Calls.callWith_builtin rfl (PySem.evalArgs_none (hm pins s1 σ H1 x [] v [] Q I1 r1 .nil q1))⟩
theorem vU (pa:PlainAttrs T)(slot:Slot T name id)(hty:typeOf (.builtin id)=pure (.type "method_descriptor"))(hm:MtR X id r)(ho:PE X o to)(ha:PA X (e::es) t)
  (hbase:attributeBase o name X.env (eval o X.env)=eval o X.env:=by rfl)
  (hfew:((backTo cpos (starEach (e::es) X.env)).all (fun x=>!x.1) && (backToKw cpos (keywordEach [] X.env)).all (fun x=>x.1.isSome)
   && decide ((e::es).length+([]:List Keyword).length+(if ([]:List Keyword).isEmpty then 0 else 1) < 30))=true:=by rfl)
  (hline:(apos.endLine == cpos.line)=true:=by rfl) (hs:starEach (e::es) X.env=(false,eval e X.env)::starEach es X.env:=by rfl) (hplain:(backTo cpos (starEach es X.env)).any (·.1)=false:=by rfl) :
  PE X (.Call (.Attribute o name apos) (e::es) [] cpos) (tBM X.K T r to t):=by
 intro pins s σ H Q I h
 refine wpAny_Call_method_late hbase hfew hline rfl (thn (ho pins s σ H _ I h) fun v s1 ⟨x,H1,I1,r1,ty,q1⟩=>?_)
 obtain ⟨h1,h2⟩:=Kx I1 r1 ty
 refine ⟨T,id,pa,slot,hty,h1,h2,?_⟩
 have hA:=ha cpos pins s1 σ H1 _ I1 q1
 rw [hs] at hA ⊢
 refine Calls.callWith_builtin (by show (false || (backTo cpos (starEach es X.env)).any (·.1))=false;rw [hplain]<;>rfl) (Calls.evalArgs_plain ?_)
 exact thn hA fun us s2 ⟨vs,H2,I2,r2,q2⟩=>hm pins s2 σ H2 x vs v us Q I2 r1 r2 q2
end
def MtM (X:Cx)(id:String)(r:V->List V->Hp->VK->Prop):Prop:=
 ∀(pins:List (Addr×Obj)) (s:Shared) (σ:St) (H:Hp) (x:V) (xs:List V) (v:Value) (us:List Value) (Q:VK),Inv X pins σ H s->cq x v->bJ xs us->r x xs H Q->
  wpAny (model X.prog X.w) X.A (call (.builtin id) (v::us)) (EP X pins σ Q) X.xe s
theorem bJ.one:∀{x:V} {us:List Value},bJ [x] us->∃u,us=[u]/\cq x u
 | _,_,.cons r .nil=>⟨_,rfl,r⟩
theorem bJ.two:∀{x y:V} {us:List Value},bJ [x,y] us->∃u v,us=[u,v]/\cq x u/\cq y v
 | _,_,_,.cons r (.cons q .nil)=>⟨_,_,rfl,r,q⟩
theorem bJ.zero:∀{us:List Value},bJ [] us->us=[]
 | _,.nil=>rfl
theorem bJ.dropLast {xs:List V}{us:List Value}(h:bJ xs us):bJ xs.dropLast us.dropLast:=by
 induction h with
 | nil=>exact .nil
 | cons r t ih=>
  cases t with
  | nil=>exact .nil
  | cons q t'=>exact .cons r ih
theorem GW {α:Type}(l:List α):l.eraseIdx (l.length - 1)=l.dropLast:=by
 induction l with
 | nil=>rfl
 | cons a r ih=>
  cases r with
  | nil=>rfl
  | cons b r=>
   have e:(a::b::r).length - 1=((b::r).length - 1)+1:=by
    have h1:(a::b::r).length=r.length+2:=rfl
    have h2:(b::r).length=r.length+1:=rfl
    omega
   rw [e,List.eraseIdx_cons_succ,ih]
   all_goals rfl
theorem CC (its:List Value):∀(k:Nat) (acc:List Value),
  List.foldl (fun x1 x2=>x1++x2) acc.toArray (List.replicate k its.toArray)=(acc++(List.replicate k its).flatten).toArray
 | 0,acc=>by simp
 | k+1,acc=>by
  have e:acc.toArray++its.toArray=(acc++its).toArray:=by simp
  have e2:(acc++its)++(List.replicate k its).flatten=acc++(List.replicate (k+1) its).flatten:=by
   rw [List.replicate_succ,List.flatten_cons,List.append_assoc]
  rw [←e2,←CC its k (acc++its),←e,List.replicate_succ,List.foldl_cons]
section
variable {X:Cx}{pins:List (Addr×Obj)}{σ:St}{H:Hp}{s:Shared}{l b:Addr}{xs ys zs:List V}
theorem Inv.lset {its its':List Value}{n:Nat}{f:Array Value->Array Value}{t':Nat}(I:Inv X pins σ H s)(hH:H l=some (.lst xs))
  (e:s.heap.get? l=some {cls:=.type "list",data:=.seq its.toArray n}) (hf:f its.toArray=its'.toArray) (hv:bJ ys its') (hz:ys.length<=sizeLine) :
  Inv X pins σ (upd H l (.lst ys)) {s with heap:=s.heap.update l (Obj.mapSeq f),toks:=t'}:=by
 have q:=PySem.IsL.update e f
 rw [hf] at q
 refine I.write (x:=l) (e:=l) (by rw [hH];exact trivial) (.inl rfl) (fun b' u hb hu=>(Heap.get?_update_other s.heap (Obj.mapSeq f) (Ne.symm hb)).trans hu) ⟨_,q⟩ ?_
 exact ⟨hz,its',_,hv,q⟩
theorem Inv.lnew {its:List Value}{t':Nat}(I:Inv X pins σ H s)(hv:bJ ys its)(hz:ys.length<=sizeLine) :
  Inv X pins σ (upd H s.heap.objs.size (.lst ys)) {s with heap:=s.heap.push {cls:=.type "list",data:=.seq its.toArray},toks:=t'}:=
 I.laid (fun _ _ q=>Heap.get?_push_of_some _ q) (Nat.le_refl _) ⟨hz,its,0,hv,Heap.get?_push_size _ rfl⟩
theorem Inv.fresh (I:Inv X pins σ H s):H s.heap.objs.size=none:=I.hok.fresh (Nat.le_refl _)
theorem Inv.lstM (I:Inv X pins σ H s)(hH:H l=some (.lst xs)):xs.length<=sizeLine/\∃(its:List Value) (n:Nat),bJ xs its/\xs.length=its.length/\s.heap.get? l=some {cls:=.type "list",data:=.seq its.toArray n}:=by
 obtain ⟨z,its,n,r,e⟩:=I.hok l _ hH
 exact ⟨z,its,n,r,r.length,e⟩
theorem Ky {n:Nat}(h:n<=sizeLine):Builtin.List.listTooLong n=false:=by
 unfold Builtin.List.listTooLong
 exact decide_eq_false (by omega)
end
section
variable {X:Cx}
noncomputable def Iv:V->List V->Hp->VK->Prop:=fun x vs H Q=>∃l xs y,x=.ref l/\vs=[y]/\H l=some (.lst xs)/\xs.length < sizeLine/\Q .non (upd H l (.lst (xs++[y])))
theorem jb:MtM X "list.append" Iv:=by
 intro pins s σ H x vs v us Q I rx rv h
 obtain ⟨l,xs,y,rfl,rfl,hH,hz,q⟩:=h
 cases rx
 obtain ⟨u,rfl,ru⟩:=rv.one
 obtain ⟨z,its,n,r,hl,e⟩:=I.lstM hH
 refine call_meets F.slot_list_append ⟨_,e,rfl⟩ F.entry_list_append (F.args_list_append_2 _ _) (PySem.list_append l its.toArray n u (by rw [List.size_toArray];omega)) ⟨e,?_⟩
 refine ⟨.non,_,I.lset (its':=its++[u]) hH e (by simp) (r.append (.cons ru .nil)) ?_,rfl,q⟩
 rw [List.length_append,List.length_singleton]
 omega
noncomputable def Iw:V->List V->Hp->VK->Prop:=fun x vs H Q=>∃l b xs zs,x=.ref l/\vs=[.ref b]/\H l=some (.lst xs)/\H b=some (.lst zs)/\xs.length+zs.length<=sizeLine/\Q .non (upd H l (.lst (xs++zs)))
theorem Ql:MtM X "list.extend" Iw:=by
 intro pins s σ H x vs v us Q I rx rv h
 obtain ⟨l,b,xs,zs,rfl,rfl,hH,hB,hz,q⟩:=h
 cases rx
 obtain ⟨u,rfl,ru⟩:=rv.one
 cases ru
 obtain ⟨z,its,n,r,hl,e⟩:=I.lstM hH
 obtain ⟨z2,its2,n2,r2,hl2,e2⟩:=I.lstM hB
 have hsz:its.toArray.size+its2.toArray.size<=sizeLine:=by rw [List.size_toArray,List.size_toArray];omega
 have hlong:¬(!its.toArray.isEmpty && Builtin.List.listTooLong (its.toArray.size+its2.toArray.size))=true:=by
  rw [Ky hsz,Bool.and_false]
  exact Bool.false_ne_true
 refine call_meets F.slot_list_extend ⟨_,e,rfl⟩ F.entry_list_extend (F.args_list_extend_2 _ _)
  (AutoSeq1.list_extend_list_list_0 l its.toArray n b its2.toArray n2 hlong (by rw [List.size_toArray];omega) (by omega)) ⟨e,e2,?_⟩
 refine ⟨.non,_,I.lset (its':=its++its2) hH e (by simp) (r.append r2) ?_,rfl,q⟩
 rw [List.length_append]
 omega
noncomputable def OZ:V->List V->Hp->VK->Prop:=fun x vs H Q=>∃l xs y,x=.ref l/\vs=[]/\H l=some (.lst xs)/\xs[xs.length - 1]?=some y/\Q y (upd H l (.lst xs.dropLast))
theorem GX:MtM X "list.pop" OZ:=by
 intro pins s σ H x vs v us Q I rx rv h
 obtain ⟨l,xs,y,rfl,rfl,hH,hy,q⟩:=h
 cases rx
 have hus:=rv.zero
 subst hus
 obtain ⟨z,its,n,r,hl,e⟩:=I.lstM hH
 obtain ⟨u,hu,ru⟩:=r.get hy
 have hy':its.toArray[its.toArray.size - 1]?=some u:=by
  show its.toArray[its.length - 1]?=some u
  rw [←Array.getElem?_toList,←hl]
  exact hu
 refine call_meets F.slot_list_pop ⟨_,e,rfl⟩ F.entry_list_pop (F.args_list_pop_1 _) (MeetsSeq.list_pop_last l its.toArray n u hy' (by rw [List.size_toArray];omega)) ⟨e,?_⟩
 refine ⟨y,_,I.lset (its':=its.dropLast) hH e ?_ r.dropLast ?_,ru,q⟩
 ·show its.toArray.eraseIdxIfInBounds (its.toArray.size - 1)=its.dropLast.toArray
  rw [List.size_toArray,List.eraseIdxIfInBounds_toArray,GW]
 ·rw [List.length_dropLast]
  omega
noncomputable def GY:V->List V->Hp->VK->Prop:=fun x vs H Q=>∃l xs,x=.ref l/\vs=[]/\H l=some (.lst xs)/\Q .non (upd H l (.lst []))
theorem E7:MtM X "list.clear" GY:=by
 intro pins s σ H x vs v us Q I rx rv h
 obtain ⟨l,xs,rfl,rfl,hH,q⟩:=h
 cases rx
 have hus:=rv.zero
 subst hus
 obtain ⟨z,its,n,r,hl,e⟩:=I.lstM hH
 refine call_meets F.slot_list_clear ⟨_,e,rfl⟩ F.entry_list_clear (F.args_list_clear_1 _) (AutoSeq1.list_clear_list_0 l its.toArray n (by rw [List.size_toArray];omega)) ⟨e,?_⟩
 exact ⟨.non,_,I.lset (its':=[]) (ys:=[]) hH e rfl .nil (Nat.zero_le _),rfl,q⟩
noncomputable def QI:R2:=fun x y H Q=>∃l b xs zs,x=.ref l/\y=.ref b/\H l=some (.lst xs)/\H b=some (.lst zs)/\xs.length+zs.length<=sizeLine/\∀p,H p=none->Q (.ref p) (upd H p (.lst (xs++zs)))
theorem Ed:OpR X (binaryOp .Add) QI:=by
 intro pins s σ H x y v u Q I rx ry h
 obtain ⟨l,b,xs,zs,rfl,rfl,hH,hB,hz,q⟩:=h
 cases rx
 cases ry
 obtain ⟨z,its,n,r,hl,e⟩:=I.lstM hH
 obtain ⟨z2,its2,n2,r2,hl2,e2⟩:=I.lstM hB
 refine PySem.P.add_list e e2 ?_ (by rw [List.size_toArray,List.size_toArray];omega)
 have ea:its.toArray++its2.toArray=(its++its2).toArray:=by simp
 rw [ea]
 exact ⟨.ref _,_,I.lnew (t':=s.toks) (r.append r2) (by rw [List.length_append];omega),rfl,q _ I.fresh⟩
noncomputable def Rz:R2:=fun x y H Q=>∃l k xs,x=.ref l/\y=.int k/\H l=some (.lst xs)/\-(2 ^ 63)<=k/\k < 2 ^ 63/\xs.length * k.toNat<=sizeLine/\
 ∀p,H p=none->Q (.ref p) (upd H p (.lst (List.replicate k.toNat xs).flatten))
end
section
variable {prog:Program}{w:World}{A:Around}{E:Value->Shared->Prop}{s:Shared}
set_option maxRecDepth 100000 in
end
end L2
namespace Att
open PySem PySem.W PySem.Calls PyProof.Rows
theorem zu {P:Params}{h:Heap}:∀(ns:List Int) (vs:List Value),WellAll P h vs (ns.map WData.int)->IntsAre vs ns:=by
 intro ns
 induction ns with
 | nil=>
  intro vs w
  rw [List.map_nil] at w
  cases w
  exact .nil
 | cons n ns ih=>
  intro vs w
  rw [List.map_cons] at w
  cases w with
  | cons a b=>
   cases a
   exact .cons _ _ (ih _ b)
theorem Jr {l:OpenLaw}{n:Nat}(hn:l.most=some n){P:Params}{h:Heap}{args:List WData}{vals:List Value}
  (hpre:l.row.toRowW.claim.pre args=true) (hwl:WellAll P h vals args) :
  ∃a vs ns,vals=[Value.ref a]/\args=[WData.list (ns.map WData.int)]/\h.get? a=some {cls:=.type "list",data:=.seq vs.toArray}/\IntsAre vs ns/\ns.length<=n:=by
 have hsh:WShape.hasAll [] args [.list .int]=true:=(pre_splitW hpre).1
 have hc:l.pre.holds [] {args:=args}=true:=(pre_splitW hpre).2
 obtain ⟨d,r,rfl,h1,h2⟩:=hasAllW_cons hsh
 obtain rfl:=hasAllW_nil h2
 obtain ⟨xs,rfl,h3⟩:=hasW_list h1
 obtain ⟨ns,rfl⟩:=items_int h3
 have hlen:ns.length<=n:=by
  unfold OpenLaw.pre at hc
  have h4:(WTm.not (.lt (.lit (.int (n:Int))) (.len (.arg 0)))).holds [] {args:=[.list (ns.map .int)]}=true:=by
   have h4:=(holds_andW hc).1
   rw [hn] at h4
   exact h4
  have h5:=condW_of h4 (w_not (w_lt w_lit (w_len_list (w_arg rfl))))
  rw [List.length_map] at h5
  refine Nat.le_of_not_lt fun q=>?_
  have q':(n:Int) < ((ns.length:Nat):Int):=by omega
  first
   | (rw [decide_eq_true q'] at h5;exact absurd h5 (by decide))
   | (simp at h5;omega)
 cases hwl with
 | cons w1 w2=>
  cases w2
  cases w1 with
  | list ho hall=>exact ⟨_,_,ns,rfl,rfl,ho,zu ns _ hall,hlen⟩
theorem Js (l:OpenLaw)(args:List WData):l.row.toRowW.claim.post args (.bool true) args=true:=
 postW_of (r:=l.row.toRowW) (X:=(true == true))
  (show WShape.has [] (.bool true) .bool=true by first | rfl | decide | simp [WShape.has,WShape.arms,WShape.armsAll])
  (show (WTm.eq .res (.lit (.bool true))).value [] {args:=args,res:=some (.bool true),after:=args}=some (.bool (true == true)) from w_eq_bool (w_res rfl) w_lit) rfl
theorem E8 {l:OpenLaw}{n:Nat}{q:Program}{loose:List Str}{XP:(Str->Option Value)->Heap->Prop}{YP:World->Heap->Prop}{d:DefRec}
  (hn:l.most=some n) (hdf:d.params.defaults=[])
  (call:∀(w:World) (s₀ s₁:Shared) (mg mb:Str->Option Value) (fa:Addr) (o:Obj) (pm cd doc:Value) (a:Addr) (vs:List Value) (ns:List Int),
   Ground q loose [] XP w s₀ mg mb s₁.heap->YP w s₁.heap->
   s₁.heap.get? fa=some o->o.data=.func (docDef d.name d.params d.body d.scope pm cd doc)->s₁.heap.CodeRec cd d.name->mg d.name=some (.ref fa)->
   s₁.heap.get? a=some {cls:=.type "list",data:=.seq vs.toArray}->IntsAre vs ns->ns.length<=n->s₁.gens=#[]->
   codeAny (model l.prog w) callerA (.call (.ref fa) ⟨[.ref a],[]⟩) (fun r s'=>r=.ok (.ret (.bool true))/\OldK s₁.heap s'.heap/\s'.os=s₁.os/\AllBare s'.gens) s₁) :
  WalkO q loose XP YP l.row.toRowW d [] (fun f vs=>PySem.call f vs):=by
 intro w s₀ s₁ mg mb G Y fa o pm cd doc dV kV ho hd hcd hD hmg hg args vals as hpre hlay hrd hwl hlo
 obtain rfl:dV=.none:=Dflts.none hD hdf
 obtain rfl:kV=.none:=Dflts.noKw hD
 obtain ⟨a,vs,ns,rfl,rfl,hobj,hints,hlen⟩:=Jr hn hpre hwl
 refine enter_call (codeAny_mono (call w s₀ s₁ mg mb fa o pm cd doc a vs ns G Y ho (fd_plain hd) hcd hmg hobj hints hlen hg) fun r s' hq=>?_)
 obtain ⟨rfl,h2,h3,h4⟩:=hq
 exact ⟨.inl ⟨.bool true,.bool true,[],rfl,fun _=>rfl,.bool true,Js l _,fun _=>⟨List.Pairwise.nil,fun _ hm=>(nomatch hm)⟩⟩,h2,h3,h4⟩
section
variable {prog:Program}{w:World}{A:Around}{E:Value->Shared->Prop}{s:Shared}{K:Frag}
noncomputable def vq (h:Heap):Heap:={h with objs:=#[]}
theorem z8 (h:Heap)(b:Addr):(vq h).get? b=none:=by
 cases e:(vq h).get? b with
 | none=>rfl
 | some o=>exact absurd (Heap.lt_size e) (Nat.not_lt_zero _)
theorem O0 {h:Heap}{L:Addr}{m:Str->Option Value}(n:h.Ns L m):Fr (vq h) L h m:=
 ⟨n,fun b o e=>(by rw [z8] at e;cases e),Nat.zero_le _⟩
end
end Att
namespace L2
open PySem PySem.Spec PyProof.Rows
theorem CD:∀{vs:List Value} {ns:List Int},IntsAre vs ns->bJ (ns.map V.int) vs
 | _,_,.nil=>.nil
 | _,_,.cons n t h=>.cons ⟨t,rfl⟩ (CD h)
def O1 (H:Hp):Prop:=∀b,H b=none\/∃o xs,H b=some (.frz o (.lst xs))
theorem Kz {P:Program}{w:World}{K:PySem.W.Frag}{mg mb:Str->Option Value}{CX:CXT}{k:Nat}{fa a:Addr}{fd:FuncData}{x:Str}{sp:Sp}{s₁:Shared}{vs:List Value}{ns:List Int}
  (KX:K.In s₁.heap) (hns:s₁.heap.Ns mainGlobals mg) (hb:s₁.heap.Ns builtinsNs mb) (hbb:∀x:Str,x≠"__name__"->mb x=bootBuiltins x) (hlim:s₁.heap.NoLimit) (hg:s₁.gens=#[])
  (ha:s₁.heap.get? a=some {cls:=.type "list",data:=.seq vs.toArray}) (hi:IntsAre vs ns) (hl:ns.length<=sizeLine) (hr:jk k callerA)
  (F:∀base:Heap,K.In base->base.Ns mainGlobals mg->aI P w K mg base CX k fa fd [x] sp) (hbind:∀(s:Shared) (u:Value),BindsTo s fd ⟨[u],[]⟩ [(x,u)])
  (hsp:∀H:Hp,O1 H->SqL K H a (ns.map V.int)->sp [.ref a] H (fun v _=>v=.bl true) fun _ _ _=>False)
  (hCX:∀H e s',CX [] H s₁ (fun _ _ _=>False) e s'->False) :
  codeAny (model P w) callerA (.call (.ref fa) ⟨[.ref a],[]⟩) (fun r s'=>r=.ok (.ret (.bool true))/\OldK s₁.heap s'.heap/\s'.os=s₁.os/\AllBare s'.gens) s₁:=by
 have rv:=CD hi
 have lenV:=hi.length
 have core:∀H:Hp,O1 H->SqL K H a (ns.map V.int)->HOk P w H s₁.heap->(∀b,H b≠none->b=a)->(H a≠none->K.lookup a=none)->
   codeAny (model P w) callerA (.call (.ref fa) ⟨[.ref a],[]⟩) (fun r s'=>r=.ok (.ret (.bool true))/\OldK s₁.heap s'.heap/\s'.os=s₁.os/\AllBare s'.gens) s₁:=by
  intro H hO hS hok hA hK
  have base_of:∀{b:Addr} {o:Obj},s₁.heap.get? b=some o->H b=none->(DU s₁.heap H).get? b=some o:=fun e n=>Kf e n
  have noA:∀{b:Addr} {o:Obj} {es:Array DictEntry} {ep:Nat},s₁.heap.get? b=some o->o.data=.dict es ep->H b=none:=fun {b o es ep} e d=>by
   cases q:H b with
   | none=>rfl
   | some u=>
    have e':b=a:=hA b (by rw [q];simp)
    subst e'
    rw [ha] at e;cases e
    have d':Data.seq vs.toArray _=Data.dict es ep:=d
    cases d'
  have nsK:∀{b:Addr} {m:Str->Option Value},s₁.heap.Ns b m->(DU s₁.heap H).Ns b m:=fun {b m} ⟨o,es,ep,e,d,r⟩=>⟨o,es,ep,base_of e (noA e d),d,r⟩
  have hKb:K.In (DU s₁.heap H):=fun b o e=>base_of (KX b o e) (by
   cases q:H b with
   | none=>rfl
   | some u=>
    have e':b=a:=hA b (by rw [q];simp)
    subst e'
    rw [hK (by rw [q];simp)] at e;cases e)
  have hM:Mod K mg (DU s₁.heap H):=⟨hKb,nsK hns,⟨mb,nsK hb,hbb⟩,let ⟨mc,h1,h2⟩:=hlim;⟨mc,nsK h1,h2⟩⟩
  have e0:GQ P w K mg (DU s₁.heap H) callerA [] s₁ H:=⟨rfl,hM,fun b o e=>Mh e,Nat.le_of_eq (Jj _ _),trivial,fun b hb=>absurd (show b∈([]:List Addr) from hb) (by simp),hok,.of_eq hg⟩
  refine codeAny_mono ((F _ hKb (nsK hns)).run callerA [] s₁ H ⟨[.ref a],[]⟩ [.ref a] [.ref a] _ _ hr e0 (hbind s₁ (.ref a)) (.cons rfl .nil) (hsp H hO hS)) fun r s' h=>?_
  cases r with
  | error e=>exact (hCX H e s' h).elim
  | ok fl=>
   cases fl with
   | next=>exact False.elim h
   | brk=>exact False.elim h
   | cont=>exact False.elim h
   | ret u=>
    obtain ⟨v,H',os,bare,un,hok',r',q⟩:=h
    have q':v=.bl true:=q
    subst q'
    obtain rfl:u=Value.bool true:=r'
    refine ⟨rfl,OldK.of_keep fun b o e=>?_,os,bare⟩
    cases q:H b with
    | none=>exact un.keep b o e q (by intro z;exact absurd (show b∈([]:List Addr) from z) (by simp)) (by simp)
    | some u=>
     rcases hO b with z | ⟨ob,xs,z⟩
     ·rw [q] at z;cases z
     ·have z2:=un.frzs b ob _ z
      obtain ⟨e1,_⟩:=hok b _ z
      obtain ⟨e2,_⟩:=hok' b _ z2
      rw [e] at e1;cases e1
      exact e2
 cases hk:K.lookup a with
 | some o=>
  have e:=KX a o hk
  rw [ha] at e
  cases e
  refine core (fun _=>none) (fun _=>.inl rfl) (.inr ⟨_,vs.toArray,_,hk,rfl,rfl,rfl,by rw [List.size_toArray,lenV];exact hl,by simpa using rv⟩) (fun b u z=>by have z':(none:Option HO)=some u:=z;cases z') (fun b z=>absurd rfl z) fun z=>absurd rfl z
 | none=>
  refine core (fun b=>if b=a then some (.frz {cls:=.type "list",data:=.seq vs.toArray} (.lst (ns.map V.int))) else none) (fun b=>?_) (.inl (.inr ⟨{cls:=.type "list",data:=.seq vs.toArray},if_pos rfl⟩)) (fun b u z=>?_) (fun b z=>?_) fun _=>hk
  ·by_cases hb:b=a
   ·exact .inr ⟨_,_,if_pos hb⟩
   ·exact .inl (if_neg hb)
  ·by_cases hb:b=a
   ·have z':=(if_pos hb).symm.trans z
    cases z'
    subst hb
    exact ⟨ha,by rw [List.length_map];exact hl,vs,_,rv,ha⟩
   ·have z':=(if_neg hb).symm.trans z
    cases z'
  ·by_cases hb:b=a
   ·exact hb
   ·exact absurd (if_neg hb) z
theorem Ms {l:PySem.W.OpenLaw}{n k:Nat}{q:Program}{loose:List Str}{XP:(Str->Option Value)->Heap->Prop}{YP:World->Heap->Prop}{d:DefRec}{K:Params->PySem.W.Frag}{CX:World->CXT}{sp:World->Sp}{x:Str}
  (hn:l.most=some n) (hn2:n<=sizeLine) (hdf:d.params.defaults=[]) (hr:jk k callerA)
  (hY:∀(w:World) (h:Heap),YP w h->(K w.params).In h)
  (F:∀(w:World) (mg:Str->Option Value) (fa:Addr) (h:Heap),(K w.params).In h->h.Ns mainGlobals mg->mg d.name=some (.ref fa)->
   ∃fd:FuncData,(∀(s:Shared) (u:Value),BindsTo s fd ⟨[u],[]⟩ [(x,u)])/\
    ∀base:Heap,(K w.params).In base->base.Ns mainGlobals mg->aI l.prog w (K w.params) mg base (CX w) k fa fd [x] (sp w))
  (hsp:∀(w:World) (H:Hp) (a:Addr) (ns:List Int),ns.length<=n->O1 H->SqL (K w.params) H a (ns.map V.int)->sp w [.ref a] H (fun v _=>v=.bl true) fun _ _ _=>False)
  (hCX:∀(w:World) (H:Hp) (s:Shared) (e:Value) (s':Shared),CX w [] H s (fun _ _ _=>False) e s'->False) :
  PySem.W.WalkO q loose XP YP l.row.toRowW d [] (fun f vs=>PySem.call f vs):=by
 refine Att.E8 hn hdf fun w s₀ s₁ mg mb fa o pm cd doc a vs ns G Y ho hd hcd hmg hobj hints hlen hg=>?_
 have KX:=hY w _ Y
 obtain ⟨fd,hb,hF⟩:=F w mg fa _ KX G.T.g hmg
 exact Kz KX G.T.g G.T.b G.T.builtins G.T.nolimit hg hobj hints (Nat.le_trans hlen hn2) hr hF hb (fun H hO hS=>hsp w H a ns hlen hO hS) fun H e s'=>hCX w H s₁ e s'
noncomputable def bc (s:Stmt)(j:Nat):Stmt:=match s with
 | .ClassDef _ _ _ body _ _ _ _ _ _ _=>body.getD j (.Pass ⟨0,0,0,0⟩)
 | _=>.Pass ⟨0,0,0,0⟩
noncomputable def fB (s:Stmt):Arguments:=match s with
 | .FunctionDef _ a _ _ _ _ _ _ _ _=>a
 | _=>{posonlyargs:=[],args:=[],vararg:=none,kwonlyargs:=[],kw_defaults:=[],kwarg:=none,defaults:=[]}
noncomputable def cJ (s:Stmt):List Stmt:=match s with
 | .FunctionDef _ _ b _ _ _ _ _ _ _=>b
 | _=>[]
noncomputable def ao (s:Stmt):Scope:=match s with
 | .FunctionDef _ _ _ _ _ _ sc _ _ _=>sc
 | _=>{kind:=.function,names:=[],isGenerator:=false,isCoroutine:=false}
noncomputable abbrev CX0:CXT:=fun _ _ _ _ _ _=>False
noncomputable abbrev E0:XK:=fun _ _ _=>False
theorem aO {X:Cx}:qX CX0 X E0:=fun _ _ _ _ _ _ _ h=>h.elim
structure Fun (K:PySem.W.Frag)(x qual:Str)(st:Stmt)(f:Addr)(fd:FuncData):Prop where
 ex:∃(oc:Value) (od:Option Addr) (kV doc pm:Value) (an:Option Addr) (cdv ct:Value) (osl:Array (Option Value)),
  fd=PySem.W.fnOf x qual (fB st) (cJ st) (ao st) .none kV doc pm an cdv ct/\K.lookup f=some ⟨oc,od,.func fd,osl⟩/\PySem.W.codeIn K cdv qual=true
 kp:PySem.W.keepIn K (.ref f)=true
section
variable {P:Program}{w:World}{K:PySem.W.Frag}{mg:Str->Option Value}{base:Heap}
theorem Fun.ok {x qual:Str}{st:Stmt}{f:Addr}{fd:FuncData}{N ps:List Str}{k:Nat}{sp:Sp}(F:Fun K x qual st f fd)(S:ay N ps (ao st))(len:∀vs H Q E,sp vs H Q E->vs.length=ps.length)
  (hbody:∀(cdv:Value) (A:Around) (outer:List Env) (s:Shared) (H:Hp) (vs:List V) (Q:VK) (E:XK),jk k (A.deeper (envOfC qual (ao st) s.heap.objs.size f cdv))->sp vs H Q E->
   ∃t,PSs (vQ CX0 P w K mg base N qual (ao st) f cdv A outer s H E).nox (cJ st) t/\t {nx:=fun _ H'=>Q .non H',rt:=Q} (t9 N vs) H):aI P w K mg base CX0 (k+1) f fd ps sp:=by
 obtain ⟨oc,od,kV,doc,pm,an,cdv,ct,osl,rfl,lk,hcd⟩:=F.ex
 refine N1 lk hcd S len fun A outer s H vs Q E hr hsp=>?_
 obtain ⟨t,h,q⟩:=hbody cdv A outer s H vs Q E hr hsp
 exact ⟨t,h.nox,q⟩
theorem Fun.binds {x qual:Str}{st:Stmt}{f:Addr}{fd:FuncData}{ps:List Str}(F:Fun K x qual st f fd)
  (h:∀(kV doc pm:Value) (an:Option Addr) (cdv ct:Value) (us:List Value),us.length=ps.length->bindArgs (PySem.W.fnOf x qual (fB st) (cJ st) (ao st) .none kV doc pm an cdv ct) ⟨us,[]⟩=pure (ps.zip us)):hG K fd ps []:=by
 obtain ⟨oc,od,kV,doc,pm,an,cdv,ct,osl,rfl,lk,hcd⟩:=F.ex
 exact .all (h kV doc pm an cdv ct)
theorem GZ {x qual:Str}{st:Stmt}{f:Addr}{oc:Value}{od an:Option Addr}{osl:Array (Option Value)}{kV doc pm cdv ct:Value}(l:K.lookup f=some ⟨oc,od,.func (PySem.W.fnOf x qual (fB st) (cJ st) (ao st) .none kV doc pm an cdv ct),osl⟩)
  (c:PySem.W.codeIn K cdv qual=true) (k:PySem.W.keepIn K (.ref f)=true):Fun K x qual st f (PySem.W.fnOf x qual (fB st) (cJ st) (ao st) .none kV doc pm an cdv ct):=⟨⟨oc,od,kV,doc,pm,an,cdv,ct,osl,rfl,l,c⟩,k⟩
end
theorem dX {n:Nat}(h:n<=1000):n < sizeLine:=Nat.lt_of_le_of_lt h (by decide)
section
variable {X:Cx}
theorem pv (i:Nat){x:Str}{pos:Pos}(hN:X.N[i]?=some x:=by rfl)(hv:Vis X.env.scope x:=by first | exact Or.inl rfl | exact Or.inr (Or.inl rfl) | exact Or.inr (Or.inr rfl))(hd:(x == ("__debug__":Str))=false:=by decide)
  (hcd:(x == ("__classdict__":Str))=false:=by decide):PE X (.Name x pos) (ON i):=OO hN hv hd hcd
end
theorem QJ {A B:Prop}(h:B):if false=true then A else B:=by
 rw [if_neg Bool.false_ne_true]
 exact h
theorem QK {A B:Prop}(h:A):if true=true then A else B:=by
 rw [if_pos rfl]
 exact h
def av (H H':Hp):Prop:=∀b o,H b=some o->H' b=some o
theorem av.refl (H:Hp):av H H:=fun _ _ h=>h
theorem av.trans {H H1 H2:Hp}(a:av H H1)(b:av H1 H2):av H H2:=fun c o h=>b c o (a c o h)
theorem av.free {H H':Hp}(e:av H H'){l:Addr}(h:H' l=Option.none):H l=Option.none:=by
 cases q:H l with
 | none=>rfl
 | some o=>
  rw [e l o q] at h
  cases h
theorem av.seq {K:PySem.W.Frag}{H H':Hp}{a:Addr}{xs:List V}(e:av H H')(h:SqL K H a xs):SqL K H' a xs:=by
 rcases h with (h | ⟨o,h⟩) | h
 ·exact .inl (.inl (e _ _ h))
 ·exact .inl (.inr ⟨o,e _ _ h⟩)
 ·exact .inr h
end L2
set_option maxHeartbeats 4000000
namespace L2
open PySem PySem.Spec PyProof.Rows
noncomputable def jo (cells:List (Str×Addr)):List (Str×NameKind)->List (Str×Addr)->List (Str×Addr)
 | [],acc=>acc
 | (n,k)::r,acc=>if (k == NameKind.free)=true then (match cells.lookup n with | some c=>jo cells r ((n,c)::acc) | none=>jo cells r acc) else jo cells r acc
theorem l3 {scope:Scope}{env:Env}(h:∀y∈scope.names,y.2=.free->∃c,env.cells.lookup y.1=some c):closureFor scope env=pure (jo env.cells scope.names []):=by
 have key:∀(l:List (Str×NameKind)) (acc:List (Str×Addr)),(∀y∈l,y.2=.free->∃c,env.cells.lookup y.1=some c)->
   (forIn l acc fun x s=>if (x.snd == NameKind.free)=true then do
       let c ←cellOf env x.fst
       pure (ForInStep.yield ((x.fst,c)::s))
      else pure (ForInStep.yield s))=(pure (jo env.cells l acc):Sem _):=by
  intro l
  induction l with
  | nil=>intro acc _;rfl
  | cons y r ih=>
   intro acc hy
   obtain ⟨n,k⟩:=y
   have ih':=fun a=>ih a fun z hz=>hy z (List.mem_cons_of_mem _ hz)
   by_cases hk:(k == NameKind.free)=true
   ·obtain ⟨c,hc⟩:=hy (n,k) List.mem_cons_self (by simpa using hk)
    have hc':env.cells.lookup n=some c:=hc
    simp only [List.forIn_cons,hk,if_true,cellOf,hc',pure_bind,jo]
    exact ih' _
   ·simp only [List.forIn_cons,hk,if_false,pure_bind,jo]
    exact ih' _
 simp only [closureFor]
 rw [key _ _ h]
 rfl
theorem tE {cells:List (Str×Addr)}:∀{l:List (Str×NameKind)} {acc:List (Str×Addr)} {x:Str} {c:Addr},(∀x c,acc.lookup x=some c->cells.lookup x=some c)->(jo cells l acc).lookup x=some c->cells.lookup x=some c
 | [],acc,x,c,h,e=>h x c e
 | (n,k)::r,acc,x,c,h,e=>by
  unfold jo at e
  split at e
  ·split at e
   ·rename_i d hd
    refine tE (l:=r) (acc:=(n,d)::acc) (fun y b hy=>?_) e
    rw [List.lookup_cons] at hy
    split at hy
    ·rename_i z
     have zn:y=n:=by simpa using z
     cases hy
     rw [zn];exact hd
    ·exact h y b hy
   ·exact tE h e
  ·exact tE h e
theorem vV {cells:List (Str×Addr)}{x:Str}:∀{l:List (Str×NameKind)} {acc:List (Str×Addr)},(∃c,acc.lookup x=some c)->∃c,(jo cells l acc).lookup x=some c
 | [],acc,h=>h
 | (n,k)::r,acc,h=>by
  unfold jo
  split
  ·split
   ·rename_i d hd
    refine vV (l:=r) ?_
    rw [List.lookup_cons]
    split
    ·exact ⟨_,rfl⟩
    ·exact h
   ·exact vV h
  ·exact vV h
theorem jq {cells:List (Str×Addr)}{x:Str}:∀{l:List (Str×NameKind)} {acc:List (Str×Addr)},l.lookup x=some .free->(∃c,cells.lookup x=some c)->∃c,(jo cells l acc).lookup x=some c
 | [],acc,h,_=>by simp at h
 | (n,k)::r,acc,h,hc=>by
  rw [List.lookup_cons] at h
  unfold jo
  split at h
  ·rename_i z
   have zn:x=n:=by simpa using z
   cases h
   subst zn
   obtain ⟨c,hc⟩:=hc
   rw [if_pos (by decide),hc]
   refine vV ⟨c,?_⟩
   rw [List.lookup_cons]
   simp
  ·split
   ·split
    ·exact jq h hc
    ·exact jq h hc
   ·exact jq h hc
theorem eP {env:Env}:∀{names:List (Str×NameKind)} {x:Str},names.lookup x=some .free->
  (names.map fun (n,k)=>if (k == NameKind.free && env.scope.kind == .function && env.kindOf n == some .cell) then (n,NameKind.cell) else (n,k)).lookup x=some .cell\/
  (names.map fun (n,k)=>if (k == NameKind.free && env.scope.kind == .function && env.kindOf n == some .cell) then (n,NameKind.cell) else (n,k)).lookup x=some .free
 | [],_,h=>by simp at h
 | (n,k)::r,x,h=>by
  have ih:=@eP env r x
  show List.lookup x ((if (k == NameKind.free && env.scope.kind == .function && env.kindOf n == some .cell)=true then (n,NameKind.cell) else (n,k))::_)=_\/List.lookup x ((if (k == NameKind.free && env.scope.kind == .function && env.kindOf n == some .cell)=true then (n,NameKind.cell) else (n,k))::_)=_
  cases hx:x == n with
  | true=>
   simp only [List.lookup_cons,hx] at h
   cases h
   by_cases hc:(NameKind.free == NameKind.free && env.scope.kind == .function && env.kindOf n == some .cell)=true
   ·rw [if_pos hc];left;simp only [List.lookup_cons,hx]
   ·rw [if_neg hc];right;simp only [List.lookup_cons,hx]
  | false=>
   simp only [List.lookup_cons,hx] at h
   by_cases hc:(k == NameKind.free && env.scope.kind == .function && env.kindOf n == some .cell)=true
   ·rw [if_pos hc];simp only [List.lookup_cons,hx];exact ih h
   ·rw [if_neg hc];simp only [List.lookup_cons,hx];exact ih h
theorem gZ {env:Env}:∀{names:List (Str×NameKind)} {x:Str},(∀y∈names,y.2≠NameKind.cell)->
  ((names.map fun (n,k)=>if (k == NameKind.free && env.scope.kind == .function && env.kindOf n == some .cell) then (n,NameKind.cell) else (n,k)).lookup x=some .cell\/
  (names.map fun (n,k)=>if (k == NameKind.free && env.scope.kind == .function && env.kindOf n == some .cell) then (n,NameKind.cell) else (n,k)).lookup x=some .free)->names.lookup x=some .free
 | [],_,_,h=>by simp at h
 | (n,k)::r,x,hn,h=>by
  have ih:=@gZ env r x fun y hy=>hn y (List.mem_cons_of_mem _ hy)
  have h':List.lookup x ((if (k == NameKind.free && env.scope.kind == .function && env.kindOf n == some .cell)=true then (n,NameKind.cell) else (n,k))::(r.map fun (n,k)=>if (k == NameKind.free && env.scope.kind == .function && env.kindOf n == some .cell) then (n,NameKind.cell) else (n,k)))=some .cell\/List.lookup x ((if (k == NameKind.free && env.scope.kind == .function && env.kindOf n == some .cell)=true then (n,NameKind.cell) else (n,k))::(r.map fun (n,k)=>if (k == NameKind.free && env.scope.kind == .function && env.kindOf n == some .cell) then (n,NameKind.cell) else (n,k)))=some .free:=h
  cases hx:x == n with
  | true=>
   simp only [List.lookup_cons,hx]
   by_cases hc:(k == NameKind.free && env.scope.kind == .function && env.kindOf n == some .cell)=true
   ·have hk:k=NameKind.free:=by
     rw [Bool.and_eq_true,Bool.and_eq_true] at hc
     simpa using hc.1.1
    rw [hk]
   ·rw [if_neg hc] at h'
    simp only [List.lookup_cons,hx] at h'
    rcases h' with h' | h'
    ·exact absurd (Option.some.inj h') (hn (n,k) List.mem_cons_self)
    ·exact h'
  | false=>
   simp only [List.lookup_cons,hx]
   by_cases hc:(k == NameKind.free && env.scope.kind == .function && env.kindOf n == some .cell)=true
   ·rw [if_pos hc] at h';simp only [List.lookup_cons,hx] at h';exact ih h'
   ·rw [if_neg hc] at h';simp only [List.lookup_cons,hx] at h';exact ih h'
noncomputable def blk (X:Cx)(Nc:List Str)(scope:Scope)(C:Addr)(s₀:Shared)(H₀:Hp)(ex:List Addr):Cx:=
 {X with N:=Nc,s₀:=s₀,H₀:=H₀,env:=compEnvC scope (jo X.env.cells scope.names []) C X.env,outer:=X.stack,ex:=ex,fn:=fun _=>false,pn:=[],xe:=fun _ _=>False}
noncomputable def cK (cm:List (Option Nat))(σ:St):St:=cm.map fun o=>match o with
 | none=>none
 | some i=>(σ[i]?).getD none
def Wk (σ σ':St):Prop:=σ.length=σ'.length/\∀(i:Nat) (v:V),σ[i]?=some (some v)->σ'[i]?=some (some v)
noncomputable def z9 (wi:TI)(g:TG)(tc:TT)(te:TE)(cm:List (Option Nat)):TE:=fun σ H Q=>wi σ H fun J H1=>∃W:Nat->Nat->List V->Hp->Prop,(∃m,W 0 m [] H1)/\∀i m acc H,W i m acc H->
 (J.stop i H/\∀p,H p=none->Q (.ref p) (upd H p (.lst acc)))\/
 (J.go i H/\acc.length < sizeLine/\∀x H',J.yld i H x H'->g x (cK cm σ) H' fun σ2 H2=>Wk (cK cm σ) σ2/\tc σ2 H2 fun b H3=>if b=true then te σ2 H3 fun v H4=>∃m',m' < m/\W (i+1) m' (acc++[v]) H4 else ∃m',m' < m/\W (i+1) m' acc H3)
def PIf (X:Cx)(ifs:List Expr)(t:TT):Prop:=
 ∀(pins:List (Addr×Obj)) (s:Shared) (σ:St) (H:Hp) (Q:Bool->Hp->Prop),Inv X pins σ H s->t σ H Q->
  wpAny (model X.prog X.w) X.A (forIn ifs true fun c r=>if r=true then do let ok ←isTrue c X.env (eval c X.env);pure (ForInStep.yield ok) else pure (ForInStep.yield r)) (TP X pins σ Q) X.xe s
noncomputable def zv:TT:=fun _ H Q=>Q true H
theorem kv {X:Cx}:PIf X [] zv:=fun _ _ σ H _ I h=>wpAny_pure ⟨H,I,h⟩
theorem tF {X:Cx}{c:Expr}{t:TT}(h:PT X c t):PIf X [c] t:=fun pins s σ H Q I q=>wpAny_tests_one (h pins s σ H Q I q)
theorem Inv.track {X:Cx}{pins:List (Addr×Obj)}{σ:St}{H:Hp}{s:Shared}{D:Addr}{o:HO}(I:Inv X pins σ H s)(hn:H D=none)(h0:X.s₀.heap.objs.size<=D)(hL:D≠X.env.locals)
  (hcl:∀x c,X.env.cells.lookup x=some c->c≠D) (hp:∀p∈X.pn++pins,p.1≠D) (new:gj X.prog X.w (upd H D o) s.heap D o):Inv X pins σ (upd H D o) s:=by
 have hb:∀b u,X.s₀.heap.get? b=some u->b≠D:=fun b u e=>Nat.ne_of_lt (Nat.lt_of_lt_of_le (Heap.lt_size e) h0)
 refine ⟨I.ok,I.os,I.bare,⟨I.base.keep,I.base.slot,fun b u e n hx=>?_,I.base.there,fun b xs e=>?_,fun b u xs e=>?_,fun b ps e=>?_⟩,I.loc,I.cell,?_,fun x c e=>?_,fun p hpp=>?_,fun b u e=>?_,I.len⟩
 ·rw [aV (hb b u e)];exact I.base.free b u e n hx
 ·have q:=I.base.tups b xs e;rw [aV (aq q hn)];exact q
 ·have q:=I.base.frzs b u xs e;rw [aV (aq q hn)];exact q
 ·obtain ⟨more,q⟩:=I.base.tbls b ps e;exact ⟨more,by rw [aV (aq q hn)];exact q⟩
 ·rw [aV (Ne.symm hL)];exact I.free
 ·rw [aV (hcl x c e)];exact I.freeC x c e
 ·obtain ⟨a,b,c⟩:=I.pin p hpp
  exact ⟨a,by rw [aV (hp p hpp)];exact b,c⟩
 ·by_cases hb:b=D
  ·subst hb;rw [ai] at e;cases e;exact new
  ·rw [aV hb] at e
   exact (I.hok b u e).stay (fun c v _ q=>q) (fun c q=>by rw [aV (aq q hn)];exact q) fun c xs q=>by rw [aV (aq q hn)];exact q
section
variable {X:Cx}
theorem Mt {tg iter elt:Expr}{ifs:List Expr}{scope:Scope}{pos:Pos}{Nc:List Str}{cm:List (Option Nat)}{wi:TI}{g:TG}{tc:TT}{te:TE}
  (hc:X.calm=true) (hi:PI X tg iter wi) (hkind:scope.kind=.function) (hcell:∀y∈scope.names,y.2≠.cell) (hnames:∀y∈scope.names,y.2=.local->scope.names.lookup y.1=some .local)
  (hfree:∀y∈scope.names,y.2=.free->X.env.kindOf y.1=some .cell\/X.env.kindOf y.1=some .free) (hlen:cm.length=Nc.length)
  (hcm:∀(j:Nat) (x:Str) (i:Nat),Nc[j]?=some x->cm[j]?=some (some i)->X.N[i]?=some x/\scope.names.lookup x=some .free/\(X.env.kindOf x=some .cell\/X.env.kindOf x=some .free))
  (hg:∀C s₀ H₀ ex,PG (blk X Nc scope C s₀ H₀ ex) tg g) (ht:∀C s₀ H₀ ex,PIf (blk X Nc scope C s₀ H₀ ex) ifs tc) (he:∀C s₀ H₀ ex,PE (blk X Nc scope C s₀ H₀ ex) elt te)
  (hs:∀x,foldedSetIterable iter X.env x=pure x:=by intro _;rfl):PE X (.ListComp elt [⟨tg,iter,ifs,0⟩] scope pos) (z9 wi g tc te cm):=by
 intro pins s σ H Q I h
 rw [eval_ListComp]
 have hfr:∀y∈scope.names,y.2=.free->∃c,X.env.cells.lookup y.1=some c:=fun y hy e=>I.ok.has y.1 (hfree y hy e)
 refine wpAny_comprehension_free (use:=none) rfl hs (l3 hfr) hkind hnames (thn (hi pins s σ H _ I h) fun v s1 h1=>thn h1 fun itv s2 h2=>?_)
 obtain ⟨it,fp,tn,J,H2,e,I2,T,st2,f2,W,⟨m0,w0⟩,turn⟩:=h2
 subst e
 refine wpAny_newObj_type (wpAny_newFunctionEnv hcell (by intro y hy;simp at hy) (fun h₁ hns₁ hsb₁=>?_) hkind)
 dsimp only at hns₁ hsb₁ ⊢
 have hk3:∀b u,s2.heap.get? b=some u->(s2.heap.push {cls:=.type "list",dict:=none,data:=.seq ([]:List Value).toArray}).get? b=some u:=fun b u q=>Heap.get?_push_of_some _ q
 have I3:Inv X pins σ H2 {s2 with heap:=s2.heap.push {cls:=.type "list",dict:=none,data:=.seq ([]:List Value).toArray},toks:=s2.toks}:=I2.kept hk3
 have hD3:(s2.heap.push {cls:=.type "list",dict:=none,data:=.seq ([]:List Value).toArray}).get? s2.heap.objs.size=some {cls:=.type "list",data:=.seq ([]:List Value).toArray}:=Heap.get?_push_size _ rfl
 have hCs:(s2.heap.push {cls:=.type "list",dict:=none,data:=.seq ([]:List Value).toArray}).objs.size=s2.heap.objs.size+1:=Heap.size_push _ _
 have hDn:H2 s2.heap.objs.size=none:=I2.hok.fresh (Nat.le_refl _)
 have st3:tn 0 (s2.heap.push {cls:=.type "list",dict:=none,data:=.seq ([]:List Value).toArray}):=T.keep _ _ _ st2 fun b _ o q=>hk3 b o q
 have fpD:∀b∈fp,b < s2.heap.objs.size:=fun b hb=>by
  obtain ⟨o,e,_⟩:=T.obj _ _ st2 b hb
  exact Heap.lt_size e
 have DX:qU X pins H2 s2.heap.objs.size:=I2.fpOk (Nat.le_refl _) hDn
 generalize hs3:s2.heap.push {cls:=.type "list",dict:=none,data:=.seq ([]:List Value).toArray}=h3 at *
 generalize hDg:s2.heap.objs.size=D at *
 have exX:∀b∈D::fp,qU X pins H2 b:=fun b hb=>by
  rcases List.mem_cons.mp hb with z | z
  ·rw [z];exact DX
  ·exact f2 b z
 have exC:∀b∈D::fp,b < h3.objs.size:=fun b hb=>by
  rcases List.mem_cons.mp hb with z | z
  ·rw [z,hCs];exact Nat.lt_succ_self _
  ·rw [hCs];exact Nat.lt_succ_of_lt (fpD b z)
 have exS:∀b∈D::fp,b∉frs X.stack:=fun b hb z=>by
  obtain ⟨_,n1,n2,_⟩:=exX b hb
  rcases List.mem_cons.mp (I2.stkSub b z) with y | y
  ·exact n1 y
  ·exact n2 y
 have clo:∀x c,(jo X.env.cells scope.names []).lookup x=some c->X.env.cells.lookup x=some c:=fun x c e=>tE (acc:=[]) (fun _ _ z=>by simp at z) e
 have keep1:∀b u,h3.get? b=some u->h₁.get? b=some u:=fun b u q=>
  (hsb₁.2 b (Nat.ne_of_lt (Heap.lt_size q))).trans (Heap.get?_push_of_some _ q)
 let s3:Shared:={s2 with heap:=h3}
 let X':Cx:=blk X Nc scope h3.objs.size s3 H2 (D::fp)
 have hX':X'=blk X Nc scope h3.objs.size s3 H2 (D::fp):=rfl
 have okX:X'.Ok:=by
  refine ⟨I3.ok.mod,hkind,I3.ok.glob,I3.ok.blt,Nat.le_refl _,fun x y c e1 e2=>I3.ok.inj x y c (clo x c e1) (clo y c e2),fun x hx=>?_,fun x c e=>(Bool.false_ne_true e).elim,I3.ok.hd,I3.ok.frames,.inl rfl,fun b hb=>⟨Nat.ne_of_lt (exC b hb),fun x c e=>(exX b hb).2.2.2.2.1 x c (clo x c e)⟩,
   I3.bs,?_,fun b o e hb=>?_,exS,I3.stack,I3.stkFree⟩
  ·have hx':scope.names.lookup x=some .free:=gZ (env:=X.env) hcell hx
   have hmem:(x,NameKind.free)∈scope.names:=by
    have:∀(l:List (Str×NameKind)),l.lookup x=some .free->(x,NameKind.free)∈l:=by
     intro l
     induction l with
     | nil=>intro z;simp at z
     | cons a r ih=>
      obtain ⟨n,k⟩:=a
      intro z
      rw [List.lookup_cons] at z
      split at z
      ·rename_i y
       have yn:x=n:=by simpa using y
       cases z
       rw [yn];exact List.mem_cons_self
      ·exact List.mem_cons_of_mem _ (ih z)
    exact this _ hx'
   exact jq hx' (hfr (x,.free) hmem rfl)
  ·exact Nat.le_trans I3.ok.bsz I3.sz
  ·rcases (exX b hb).2.2.2.1 with z | z
   ·exact I3.ok.noex b o e z
   ·exact absurd (Nat.lt_of_lt_of_le (Heap.lt_size (I3.ok.bs b o e).1) z) (Nat.lt_irrefl _)
 have hσl:(cK cm σ).length=Nc.length:=by
  unfold cK
  rw [List.length_map];exact hlen
 have I4:Inv X' [] (cK cm σ) H2 {s2 with heap:=h₁,toks:=s2.toks+([]:List (Str×Value)).length}:=by
  refine ⟨okX,rfl,I3.bare,Un.kept keep1,⟨_,hns₁,fun j x v e1 e2 e3=>?_⟩,fun x c e=>?_,?_,fun x c e=>I3.freeC x c (clo x c e),(fun p hp=>absurd (show p∈([]:List (Addr×Obj)) from hp) (by simp)),I3.hok.kept keep1,hσl⟩
  ·have e2':∃i,cm[j]?=some (some i)/\σ[i]?=some (some v):=by
    unfold cK at e2
    rw [List.getElem?_map] at e2
    cases q:cm[j]? with
    | none=>rw [q] at e2;simp at e2
    | some o=>
     rw [q] at e2
     cases o with
     | none=>simp at e2
     | some i=>
      refine ⟨i,rfl,?_⟩
      simp only [Option.map_some,Option.some.injEq] at e2
      cases q2:σ[i]? with
      | none=>rw [q2] at e2;simp at e2
      | some o2=>rw [q2] at e2;simp at e2;rw [e2]
   obtain ⟨i,ej,ei⟩:=e2'
   obtain ⟨n1,n2,n3⟩:=hcm j x i e1 ej
   obtain ⟨m,hn,hl⟩:=I3.loc
   have n3':Vis X.env.scope x:=by
    rcases n3 with z | z
    ·exact .inr (.inl z)
    ·exact .inr (.inr z)
   obtain ⟨u,r,l⟩:=hl i x v n1 ei n3'
   refine ⟨u,r,?_⟩
   rcases l with ⟨l,_⟩ | ⟨_,c,ec,ic⟩
   ·rcases n3 with z | z
    ·rw [l] at z;cases z
    ·rw [l] at z;cases z
   ·obtain ⟨c',ec'⟩:=jq (cells:=X.env.cells) (acc:=[]) n2 ⟨c,ec⟩
    have hcc:=clo x c' ec'
    rw [ec] at hcc;cases hcc
    obtain ⟨oc,hoc,hdc⟩:=ic
    refine .inr ⟨?_,c,ec',oc,keep1 _ _ hoc,hdc⟩
    exact eP (env:=X.env) n2
  ·obtain ⟨v,oc,hoc,hdc⟩:=I3.cell x c (clo x c e)
   exact ⟨v,oc,keep1 _ _ hoc,hdc⟩
  ·exact I3.hok.fresh (Nat.le_refl _)
 have stat:∀{H':Hp} {pl:List (Addr×Obj)},(∀b∈fp,H' b=none)->(∀p∈pl,p.1=D)->∀b∈fp,qU X' pl H' b:=fun {H' pl} hn hpl b hb=>
  ⟨hn b hb,Nat.ne_of_lt (exC b (List.mem_cons_of_mem _ hb)),exS b (List.mem_cons_of_mem _ hb),.inl (List.mem_cons_of_mem _ hb),fun x c e=>(f2 b hb).2.2.2.2.1 x c (clo x c e),fun p hp z=>by
   have:p∈pl:=(List.mem_append.mp hp).elim (fun z=>absurd (show p∈([]:List (Addr×Obj)) from z) (by simp)) fun z=>z
   have e:=hpl p this
   rw [e] at z
   exact absurd (fpD b hb) (by rw [←z];exact Nat.lt_irrefl _)⟩
 have hDC:D≠h3.objs.size:=by rw [hCs];exact Nat.ne_of_lt (Nat.lt_succ_self _)
 have hDs:D∉frs X.stack:=exS D List.mem_cons_self
 have loop:∀s5:Shared,s5={s2 with heap:=h₁,toks:=s2.toks+([]:List (Str×Value)).length}->
   codeAny (model X.prog X.w) X.A (.compLoop (.ListComp elt [⟨tg,iter,ifs,0⟩] scope pos) 0 (.ref it) (.ref D) (compEnvC scope (jo X.env.cells scope.names []) h3.objs.size X.env))
    (compPost (model X.prog X.w) X.A X.xe none (EP X pins σ Q) (.ref D) h3.objs.size) s5:=by
  rintro s5 rfl
  refine codeAny_loop rfl (fun n s'=>∃i acc its k H',Inv X' [] (cK cm σ) H' s'/\tn i s'.heap/\(∀b∈fp,H' b=none)/\s'.heap.get? D=some {cls:=.type "list",data:=.seq (List.toArray its) k}/\H' D=none/\bJ acc its/\acc.length<=sizeLine/\W i n acc H') (fun n s' hI=>?_) m0
   ⟨0,[],[],0,H2,I4,T.keep _ _ _ st3 fun b _ o q=>keep1 b o q,fun b hb=>(f2 b hb).1,keep1 _ _ hD3,hDn,.nil,Nat.zero_le _,w0⟩
  obtain ⟨i,acc,its,k,H5,J5,t5,fr5,d5,dn5,va5,ac5,w5⟩:=hI
  show wpAny _ X.A ((compTurn (.ListComp elt [⟨tg,iter,ifs,0⟩] scope pos) 0 (.ref it) (.ref D) (compEnvC scope (jo X.env.cells scope.names []) h3.objs.size X.env)).onRaise (fun x=>do noteFrame x (compEnvC scope (jo X.env.cells scope.names []) h3.objs.size X.env);theTreesLotGoes x)) _ _ s'
  refine wpAny_noted ?_
  rw [compTurn_list]
  have nocell:∀v,({cls:=.type "list",data:=.seq (List.toArray its) k}:Obj).data≠.cell v:=fun v z=>nomatch z
  have P5:Inv X' [(D,{cls:=.type "list",data:=.seq (List.toArray its) k})] (cK cm σ) H5 s':=J5.pins_of fun p hp=>by
   have e:p=(D,{cls:=.type "list",data:=.seq (List.toArray its) k}):=by simpa using hp
   subst e
   exact ⟨d5,dn5,hDC,hDs,nocell⟩
  have pl1:∀p∈[((D,{cls:=.type "list",data:=.seq (List.toArray its) k}):Addr×Obj)],p.1=D:=fun p hp=>by
   have e:p=(D,{cls:=.type "list",data:=.seq (List.toArray its) k}):=by simpa using hp
   rw [e]
  rcases turn i n acc H5 w5 with ⟨stop,qn⟩ | ⟨go,hsz,step⟩
  ·refine wpAny_bind (wpAny_standAt (wpAny_bind (wpAny_mono (T.done X' rfl rfl rfl hc i _ s' _ H5 (fun _ _=>False) P5 (stat fr5 pl1) t5 stop) (fun r s6 ⟨hr,J6⟩=>?_) fun _ _ f=>f.elim)))
   subst hr
   refine wpAny_pure ?_
   obtain ⟨mC,hnC,_⟩:=J6.loc
   refine ⟨mC,hnC,fun h' hsb=>?_⟩
   have hCn:H5 h3.objs.size=none:=J6.free
   have toh:∀b u,b≠h3.objs.size->s6.heap.get? b=some u->h'.get? b=some u:=fun b u hb q=>(hsb.2 b hb).trans q
   have hok':HOk X.prog X.w H5 h':=fun a o e=>(J6.hok a o e).stay (fun b u hb q=>toh b u (by
    rintro rfl
    rcases hb with z | z
    ·rw [←z,hCn] at e;cases e
    ·rw [hCn] at z;cases z) q) (fun _ q=>q) fun _ _ q=>q
   have ltC:∀{b:Addr} {u:Obj},h3.get? b=some u->b≠h3.objs.size:=fun q=>Nat.ne_of_lt (Heap.lt_size q)
   have un':Un (frs X.stack) (D::fp) H2 H5 h3 h':=by
    have u:=J6.base
    refine ⟨fun b o e n hb hx=>toh b o (ltC e) (u.keep b o e n hb hx),fun b o e n hb hx=>?_,u.free,fun b o e hx=>?_,u.tups,u.frzs,u.tbls⟩
    ·obtain ⟨sl,q⟩:=u.slot b o e n hb hx
     exact ⟨sl,toh b _ (ltC e) q⟩
    ·obtain ⟨o',q⟩:=u.there b o e hx
     exact ⟨o',toh b _ (ltC e) q⟩
   have J7:Inv X pins σ H5 {s6 with heap:=h'}:=Inv.call' (s':={s6 with heap:=h'}) (ch:=D::fp) I3 J6.os un' hok' J6.bare fun b hb=>by
    obtain ⟨_,n1,n2,n3,n4,n5⟩:=exX b hb
    exact ⟨n3,n1,n4,n5⟩
   obtain ⟨dg,dg2,_⟩:=J6.pin (D,{cls:=.type "list",data:=.seq (List.toArray its) k}) (by simp)
   obtain ⟨_,n1,n2,n3,n4,n5⟩:=exX D List.mem_cons_self
   have n3':X.s₀.heap.objs.size<=D:=by
    have:=I2.sz
    rw [hDg] at this
    exact this
   refine ⟨.ref D,_,J7.track (o:=.lst acc) dg2 n3' n1 n4 n5 ⟨ac5,its,k,va5,toh _ _ hDC dg⟩,rfl,qn D dg2⟩
  ·refine wpAny_bind (wpAny_standAt (wpAny_bind (wpAny_mono (T.item X' rfl rfl rfl hc i _ s' _ H5 (fun _ _=>False) P5 (stat fr5 pl1) t5 go) (fun r s6 ⟨u,hr,h6⟩=>?_) fun _ _ f=>f.elim)))
   subst hr
   refine wpAny_bind (wpAny_mono h6 (fun _ s7 ⟨x,H7,J7,r7,y7,t7,fr7⟩=>?_) fun _ _ f=>f.elim)
   have P7:=J7.pinned (stat fr7 pl1) (T.obj _ _ t7)
   refine wpAny_bind (wpAny_mono (hg _ _ _ _ _ s7 _ H7 x u _ P7 r7 (step x H7 y7)) (fun _ s8 ⟨σ8,H8,J8,wk8,q8⟩=>?_) fun _ _ f=>f.elim)
   refine wpAny_bind (wpAny_mono (ht _ _ _ _ _ s8 σ8 H8 _ J8 q8) (fun b s9 ⟨H9,J9,q9⟩=>?_) fun _ _ f=>f.elim)
   have back:∀{Ha:Hp} {sa:Shared},Inv X' ([(D,{cls:=.type "list",data:=.seq (List.toArray its) k})]++vp fp s7.heap) σ8 Ha sa->
     Inv X' [] (cK cm σ) Ha sa/\tn (i+1) sa.heap/\(∀b∈fp,Ha b=none)/\sa.heap.get? D=some {cls:=.type "list",data:=.seq (List.toArray its) k}/\Ha D=none:=fun {Ha sa} Ja=>by
    refine ⟨(Ja.weak wk8.1 wk8.2).pins_of fun p hp=>absurd hp (by simp),T.keep _ _ _ t7 fun b hb o e=>(Ja.pin (b,o) (List.mem_append_right _ (List.mem_append_right _ (gw hb e)))).1,fun b hb=>?_,?_⟩
    ·obtain ⟨o,e,d⟩:=T.obj _ _ t7 b hb
     exact (Ja.pin (b,o) (List.mem_append_right _ (List.mem_append_right _ (gw hb e)))).2.1
    ·obtain ⟨z1,z2,_⟩:=Ja.pin (D,{cls:=.type "list",data:=.seq (List.toArray its) k}) (by simp)
     exact ⟨z1,z2⟩
   cases b with
   | false=>
    simp only [Bool.false_eq_true,if_false] at q9 ⊢
    obtain ⟨m',hm,w'⟩:=q9
    obtain ⟨z0,z1,z2,z3,z4⟩:=back J9
    exact wpAny_pure ⟨rfl,m',hm,i+1,acc,its,k,H9,z0,z1,z2,z3,z4,va5,ac5,w'⟩
   | true=>
    simp only [if_true] at q9 ⊢
    refine wpAny_bind (wpAny_bind (wpAny_mono (he _ _ _ _ _ s9 σ8 H9 _ J9 q9) (fun y s10 ⟨v,H10,J10,rv,q10⟩=>wpAny_bind ?_) fun _ _ f=>f.elim))
    obtain ⟨m',hm,w'⟩:=q10
    obtain ⟨z0,z1,z2,z3,z4⟩:=back J10
    have hli:=va5.length
    refine call_meets F.slot_list_append ⟨_,z3,rfl⟩ F.entry_list_append (F.args_list_append_2 _ _) (PySem.list_append D its.toArray k y (by rw [List.size_toArray];omega)) ⟨z3,?_⟩
    obtain ⟨k',q⟩:∃k',(s10.heap.update D (Obj.mapSeq (·.push y))).get? D=some {cls:=.type "list",data:=.seq (List.toArray (its++[y])) k'}:=by
     have q:=PySem.IsL.update z3 (·.push y)
     have e:its.toArray.push y=(its++[y]).toArray:=by simp
     rw [e] at q
     exact ⟨_,q⟩
    refine wpAny_pure (wpAny_pure ⟨rfl,m',hm,i+1,acc++[v],its++[y],k',H10,z0.turned (it:=D) (fun b o hb hu=>(Heap.get?_update_other s10.heap (Obj.mapSeq (·.push y)) (Ne.symm hb)).trans hu) z4 hDC (.inl List.mem_cons_self) (fun x c e=>(exX D List.mem_cons_self).2.2.2.2.1 x c (clo x c e)) (fun p hp=>absurd (show p∈([]:List (Addr×Obj)) from hp) (by simp)),
     T.keep _ _ _ z1 fun b hb o e=>(Heap.get?_update_other s10.heap (Obj.mapSeq (·.push y)) (Nat.ne_of_gt (fpD b hb))).trans e,z2,q,z4,va5.append (.cons rv .nil),by rw [List.length_append,List.length_singleton];omega,w'⟩)
 exact codeAny_compStart_list (loop _ rfl) (T.self X.A 0 _ _ _ (T.keep _ _ _ st3 fun b _ o q=>keep1 b o q) (loop _ rfl))
end
theorem O2 {lo:Int}{n:Nat}{g:TG}{tc:TT}{te:TE}{cm:List (Option Nat)}{σ:St}{H:Hp}{Q:VK}(Pv:Nat->List V->Hp->Prop)(h0:Pv 0 [] H)
  (hs:∀i acc H,i < n->Pv i acc H->acc.length < sizeLine/\g (.int (lo+i)) (cK cm σ) H fun σ2 H2=>Wk (cK cm σ) σ2/\tc σ2 H2 fun b H3=>if b=true then te σ2 H3 fun v H4=>Pv (i+1) (acc++[v]) H4 else Pv (i+1) acc H3)
  (mono:∀x σ H N N',(∀σ2 H2,N σ2 H2->N' σ2 H2)->g x σ H N->g x σ H N':=by exact fun _ _ _ _ _ h q=>h _ _ q)
  (monoc:∀σ H N N',(∀b H2,N b H2->N' b H2)->tc σ H N->tc σ H N') (monoe:∀σ H N N',(∀v H2,N v H2->N' v H2)->te σ H N->te σ H N')
  (hd:∀acc H,Pv n acc H->∀p,H p=none->Q (.ref p) (upd H p (.lst acc))) :
  ∃W:Nat->Nat->List V->Hp->Prop,(∃m,W 0 m [] H)/\∀i m acc H,W i m acc H->
   ((Itr lo n).stop i H/\∀p,H p=none->Q (.ref p) (upd H p (.lst acc)))\/
   ((Itr lo n).go i H/\acc.length < sizeLine/\∀x H',(Itr lo n).yld i H x H'->g x (cK cm σ) H' fun σ2 H2=>Wk (cK cm σ) σ2/\tc σ2 H2 fun b H3=>if b=true then te σ2 H3 fun v H4=>∃m',m' < m/\W (i+1) m' (acc++[v]) H4 else ∃m',m' < m/\W (i+1) m' acc H3):=by
 refine ⟨fun i m acc H=>m=n - i/\i<=n/\Pv i acc H,⟨n,by simp,Nat.zero_le _,h0⟩,?_⟩
 rintro i m acc H ⟨rfl,hi,p⟩
 by_cases hlt:i < n
 ·obtain ⟨hz,q⟩:=hs i acc H hlt p
  refine .inr ⟨hlt,hz,fun x H' y=>?_⟩
  obtain ⟨e,y⟩:=y
  subst e y
  refine mono _ _ _ _ _ (fun σ2 H2 ⟨wk,q⟩=>⟨wk,monoc _ _ _ _ (fun b H3 q=>?_) q⟩) q
  cases b with
  | true=>exact monoe _ _ _ _ (fun v H4 q=>⟨n - (i+1),by omega,rfl,hlt,q⟩) q
  | false=>exact ⟨n - (i+1),by omega,rfl,hlt,q⟩
 ·have e:i=n:=by omega
  subst e
  exact .inl ⟨Nat.le_refl _,hd acc H p⟩
theorem Aa {lo:Int}{n:Nat}{te:TE}{cm:List (Option Nat)}{σ:St}{H:Hp}{Q:VK}(f:Nat->V)(hn:n<=sizeLine){j:Nat}(hj:(cK cm σ)[j]?=some none)
  (hs:∀i,i < n->∀N:VK,N (f i) H->te ((cK cm σ).set j (some (.int (lo+i)))) H N)
  (hd:∀p,H p=none->Q (.ref p) (upd H p (.lst ((List.range n).map f)))) :
  ∃W:Nat->Nat->List V->Hp->Prop,(∃m,W 0 m [] H)/\∀i m acc H,W i m acc H->
   ((Itr lo n).stop i H/\∀p,H p=none->Q (.ref p) (upd H p (.lst acc)))\/
   ((Itr lo n).go i H/\acc.length < sizeLine/\∀x H',(Itr lo n).yld i H x H'->g9 j x (cK cm σ) H' fun σ2 H2=>Wk (cK cm σ) σ2/\zv σ2 H2 fun b H3=>if b=true then te σ2 H3 fun v H4=>∃m',m' < m/\W (i+1) m' (acc++[v]) H4 else ∃m',m' < m/\W (i+1) m' acc H3):=by
 refine ⟨fun i m acc H'=>m=n - i/\i<=n/\H'=H/\acc=(List.range i).map f,⟨n,by simp,Nat.zero_le _,rfl,rfl⟩,?_⟩
 rintro i m acc H' ⟨rfl,hi,rfl,rfl⟩
 by_cases hlt:i < n
 ·refine .inr ⟨hlt,by rw [List.length_map,List.length_range];omega,fun x H' y=>?_⟩
  obtain ⟨e,y⟩:=y
  subst e y
  refine ⟨⟨by simp,fun k v e=>?_⟩,?_⟩
  ·by_cases hk:j=k
   ·subst hk;rw [hj] at e;cases e
   ·rw [List.getElem?_set_ne hk];exact e
  ·unfold zv;dsimp only
   split
   ·refine hs i hlt _ ⟨n - (i+1),by omega,rfl,hlt,rfl,?_⟩
    rw [List.range_succ,List.map_append];rfl
   ·rename_i z;exact absurd rfl z
 ·have e:i=n:=by omega
  subst e
  exact .inl ⟨Nat.le_refl _,hd⟩
theorem BF {K:PySem.W.Frag}{a:Addr}{xs:List V}{tc:TT}{te:TE}{cm:List (Option Nat)}{σ:St}{H:Hp}{Q:VK}(p:V->Bool)(f:V->V)(hl:SqL K H a xs)(hn:xs.length<=sizeLine){j:Nat}(hj:(cK cm σ)[j]?=some none)
  (hc:∀x,x∈xs->∀N:Bool->Hp->Prop,N (p x) H->tc ((cK cm σ).set j (some x)) H N)
  (hs:∀x,x∈xs->p x=true->∀N:VK,N (f x) H->te ((cK cm σ).set j (some x)) H N)
  (hd:∀b,H b=none->Q (.ref b) (upd H b (.lst ((xs.filter p).map f)))) :
  ∃W:Nat->Nat->List V->Hp->Prop,(∃m,W 0 m [] H)/\∀i m acc H,W i m acc H->
   ((Itl K a).stop i H/\∀p,H p=none->Q (.ref p) (upd H p (.lst acc)))\/
   ((Itl K a).go i H/\acc.length < sizeLine/\∀x H',(Itl K a).yld i H x H'->g9 j x (cK cm σ) H' fun σ2 H2=>Wk (cK cm σ) σ2/\tc σ2 H2 fun b H3=>if b=true then te σ2 H3 fun v H4=>∃m',m' < m/\W (i+1) m' (acc++[v]) H4 else ∃m',m' < m/\W (i+1) m' acc H3):=by
 refine ⟨fun i m acc H'=>m=xs.length - i/\i<=xs.length/\H'=H/\acc=((xs.take i).filter p).map f,⟨xs.length,by simp,Nat.zero_le _,rfl,by simp⟩,?_⟩
 rintro i m acc H' ⟨rfl,hi,rfl,rfl⟩
 by_cases hlt:i < xs.length
 ·have hx:xs[i]?=some xs[i]:=by simp [hlt]
  have hle:(((xs.take i).filter p).map f).length < sizeLine:=by
   rw [List.length_map]
   have:=List.length_filter_le p (xs.take i)
   rw [List.length_take] at this
   omega
  refine .inr ⟨⟨xs,xs[i],hl,hx⟩,hle,fun x H' y=>?_⟩
  obtain ⟨e,y⟩:=y
  subst e
  have hy:=y xs hl
  rw [hx] at hy;cases hy
  have hmem:xs[i]∈xs:=List.getElem_mem hlt
  refine ⟨⟨by simp,fun k v e=>?_⟩,hc _ hmem _ ?_⟩
  ·by_cases hk:j=k
   ·subst hk;rw [hj] at e;cases e
   ·rw [List.getElem?_set_ne hk];exact e
  ·have hstep:((xs.take (i+1)).filter p).map f=((xs.take i).filter p).map f++(if p xs[i] then [f xs[i]] else []):=by
    rw [take_succ_filter p xs i _ hx,List.map_append]
    cases p xs[i]<;>rfl
   cases hp:p xs[i] with
   | true=>
    refine QK (hs _ hmem hp _ ⟨xs.length - (i+1),by omega,rfl,hlt,rfl,?_⟩)
    rw [hstep,hp];rfl
   | false=>
    refine QJ ⟨xs.length - (i+1),by omega,rfl,hlt,rfl,?_⟩
    rw [hstep,hp];simp
 ·have e:i=xs.length:=by omega
  subst e
  refine .inl ⟨⟨xs,hl,Nat.le_refl _⟩,?_⟩
  rw [List.take_length]
  exact hd
theorem vW {lo:Int}{n:Nat}{tc:TT}{te:TE}{cm:List (Option Nat)}{σ:St}{H:Hp}{Q:VK}(p:Nat->Bool)(f:Nat->V)(hn:n<=sizeLine){j:Nat}(hj:(cK cm σ)[j]?=some none)
  (hc:∀i,i < n->∀N:Bool->Hp->Prop,N (p i) H->tc ((cK cm σ).set j (some (.int (lo+i)))) H N)
  (hs:∀i,i < n->p i=true->∀N:VK,N (f i) H->te ((cK cm σ).set j (some (.int (lo+i)))) H N)
  (hd:∀b,H b=none->Q (.ref b) (upd H b (.lst (((List.range n).filter p).map f)))) :
  ∃W:Nat->Nat->List V->Hp->Prop,(∃m,W 0 m [] H)/\∀i m acc H,W i m acc H->
   ((Itr lo n).stop i H/\∀p,H p=none->Q (.ref p) (upd H p (.lst acc)))\/
   ((Itr lo n).go i H/\acc.length < sizeLine/\∀x H',(Itr lo n).yld i H x H'->g9 j x (cK cm σ) H' fun σ2 H2=>Wk (cK cm σ) σ2/\tc σ2 H2 fun b H3=>if b=true then te σ2 H3 fun v H4=>∃m',m' < m/\W (i+1) m' (acc++[v]) H4 else ∃m',m' < m/\W (i+1) m' acc H3):=by
 refine ⟨fun i m acc H'=>m=n - i/\i<=n/\H'=H/\acc=((List.range i).filter p).map f,⟨n,by simp,Nat.zero_le _,rfl,by simp⟩,?_⟩
 rintro i m acc H' ⟨rfl,hi,rfl,rfl⟩
 by_cases hlt:i < n
 ·have hle:(((List.range i).filter p).map f).length < sizeLine:=by
   rw [List.length_map]
   have:=List.length_filter_le p (List.range i)
   rw [List.length_range] at this
   omega
  refine .inr ⟨hlt,hle,fun x H' y=>?_⟩
  obtain ⟨e,y⟩:=y
  subst e y
  refine ⟨⟨by simp,fun k v e=>?_⟩,hc _ hlt _ ?_⟩
  ·by_cases hk:j=k
   ·subst hk;rw [hj] at e;cases e
   ·rw [List.getElem?_set_ne hk];exact e
  ·have hstep:((List.range (i+1)).filter p).map f=((List.range i).filter p).map f++(if p i then [f i] else []):=by
    rw [List.range_succ,List.filter_append,List.map_append]
    cases hp:p i<;>simp [hp]
   cases hp:p i with
   | true=>
    refine QK (hs _ hlt hp _ ⟨n - (i+1),by omega,rfl,hlt,rfl,?_⟩)
    rw [hstep,hp];rfl
   | false=>
    refine QJ ⟨n - (i+1),by omega,rfl,hlt,rfl,?_⟩
    rw [hstep,hp];simp
 ·have e:i=n:=by omega
  subst e
  exact .inl ⟨Nat.le_refl _,hd⟩
section
variable {X:Cx}
noncomputable def O3 (K:PySem.W.Frag):List V->Hp->VK->Prop:=fun xs H Q=>∃x n t b,xs=[x,.ty n]/\ye K H x t/\PySem.W.kitOne K t (.type n)=some b/\Q (.bl b) H
theorem vX:kG X (.builtin "isinstance") (O3 X.K):=by
 intro pins s σ H xs us Q I r h
 obtain ⟨x,n,t,b,rfl,ty,e,q⟩:=h
 obtain ⟨u,v,rfl,ru,rv⟩:=E4 r
 cases rv
 exact Jp I ru ty e fun tk=>⟨.bl b,H,I.tok tk,rfl,q⟩
theorem Ab {K:PySem.W.Frag}{n:String}:PySem.W.kitOne K (.type n) (.type n)=some true:=by
 unfold PySem.W.kitOne
 rw [if_pos (by simp)]
theorem Ee {K:PySem.W.Frag}:PySem.W.kitOne K (.type "int") (.type "bool")=some false:=by
 with_unfolding_all rfl
def QL (i j:Int):Prop:=0 < j/\j < 2 ^ 200
theorem KA:OpR X (binaryOp .FloorDiv) (rI QL fun i j=>.int (i / j)):=opI fun i j _ _ _ _ _ hc q=>by
 have hj:j.natAbs.log2 < 9000:=by
  have h1:j.natAbs < 2 ^ 200:=by have:=hc.2;have:=hc.1;omega
  have h0:j.natAbs≠0:=by have:=hc.1;omega
  exact Nat.lt_of_lt_of_le ((Nat.log2_lt h0).mpr h1) (by decide)
 have e:i.fdiv j=i / j:=Int.fdiv_eq_ediv_of_nonneg _ (Int.le_of_lt hc.1)
 exact floordiv_int (by have:=hc.1;omega) (by rw [e];exact q) (.inl (PyProof.noPylong_of_log2 hj))
theorem Inv.kept_news {pins:List (Addr×Obj)}{σ:St}{H:Hp}{s:Shared}{m:Str->Option Value}{h':Heap}{t':Nat}(I:Inv X pins σ H s)(hL:s.heap.Ns X.env.locals m)(F:Fr (Att.vq s.heap) X.env.locals h' m)
  (N:News (Att.vq s.heap) X.env.locals h' (vO (Att.vq s.heap) s.heap X.env.locals)):Inv X pins σ H {s with heap:=h',toks:=t'}:=by
 have kp:∀b o,b≠X.env.locals->s.heap.get? b=some o->h'.get? b=some o:=fun b o hb e=>(N (b,o) (EZ hb (Att.z8 _ _) e)).1
 refine I.step (g':=s.gens) (d':=s.drawn) (ch:=[]) (fun _ z=>nomatch z) (fun b o hb _ _ e _=>kp b o hb e) (fun b o hb _ _ e _=>⟨o.slots,kp b o hb e⟩) (fun _ _ _ _ n=>n) (fun b o _ e=>?_) (fun _ _ e=>e) (fun _ _ _ e=>e) (fun b ps e=>⟨#[],by rw [e];simp⟩) (fun m' hm=>?_) (fun b u e=>?_) I.bare
 ·by_cases hb:b=X.env.locals
  ·obtain ⟨o',_,_,q,_⟩:=F.ns
   exact ⟨o',by rw [hb];exact q⟩
  ·exact ⟨o,kp b o hb e⟩
 ·have:m'=m:=by
   obtain ⟨o1,es1,ep1,a1,b1,c1,d1⟩:=hm
   obtain ⟨o2,es2,ep2,a2,b2,c2,d2⟩:=hL
   rw [a1] at a2;cases a2
   rw [b1] at b2;cases b2
   funext x
   rw [←d1 x,d2 x]
  rw [this];exact F.ns
 ·refine (I.hok b u e).stay (fun c v hc q=>kp c v ?_ q) (fun _ q=>q) fun _ _ q=>q
  rintro rfl
  rcases hc with z | z
  ·rw [←z,I.free] at e;cases e
  ·rw [I.free] at z;cases z
end
theorem bD:bootBuiltins "len"=some (.builtin "len"):=by decide +kernel
theorem bH:bootBuiltins "isinstance"=some (.builtin "isinstance"):=by decide +kernel
theorem Ef:bootBuiltins "min"=some (.builtin "min"):=by decide +kernel
theorem Hb:bootBuiltins "abs"=some (.builtin "abs"):=by decide +kernel
theorem Jt:bootBuiltins "sorted"=some (.builtin "sorted"):=by decide +kernel
theorem pL:bootBuiltins "int"=some (.type "int"):=by decide +kernel
theorem Eg:bootBuiltins "bool"=some (.type "bool"):=by decide +kernel
theorem KC:bootBuiltins "str"=some (.type "str"):=by decide +kernel
theorem dB:bootBuiltins "list"=some (.type "list"):=by decide +kernel
theorem ot:bootBuiltins "tuple"=some (.type "tuple"):=by decide +kernel
theorem O4:bootBuiltins "zip"=some (.type "zip"):=by decide +kernel
theorem pM:bootBuiltins "enumerate"=some (.type "enumerate"):=by decide +kernel
structure Def (K:PySem.W.Frag)(mg:Str->Option Value)(x:Str)(st:Stmt)(ps:List Str)(f:Addr)(fd:FuncData):Prop where
 m:mg x=some (.ref f)
 F:Fun K x x st f fd
 b:hG K fd ps []
noncomputable def Hc (X:Cx)(scope:Scope):Bool:=scope.names.all fun y=>y.2 != .free || (X.env.kindOf y.1 == some .cell || X.env.kindOf y.1 == some .free)
noncomputable def O5 (X:Cx)(scope:Scope)(Nc:List Str)(cm:List (Option Nat)):Bool:=(Nc.zip cm).all fun p=>match p.2 with
 | none=>true
 | some i=>X.N[i]? == some p.1 && (scope.names.lookup p.1 == some .free && (X.env.kindOf p.1 == some .cell || X.env.kindOf p.1 == some .free))
theorem qs {X:Cx}{tg iter elt:Expr}{ifs:List Expr}{scope:Scope}{pos:Pos}(Nc:List Str)(cm:List (Option Nat)){wi:TI}{g:TG}{tc:TT}{te:TE}
  (hi:PI X tg iter wi) (hg:∀C s₀ H₀ ex,PG (blk X Nc scope C s₀ H₀ ex) tg g) (ht:∀C s₀ H₀ ex,PIf (blk X Nc scope C s₀ H₀ ex) ifs tc) (he:∀C s₀ H₀ ex,PE (blk X Nc scope C s₀ H₀ ex) elt te)
  (hc:X.calm=true:=by rfl) (hkind:scope.kind=.function:=by rfl) (hcell:∀y∈scope.names,y.2≠.cell:=by decide +kernel) (hnames:∀y∈scope.names,y.2=.local->scope.names.lookup y.1=some .local:=by decide +kernel)
  (hfree:Hc X scope=true:=by rfl) (hlen:cm.length=Nc.length:=by rfl) (hcm:O5 X scope Nc cm=true:=by rfl)
  (hs:∀x,foldedSetIterable iter X.env x=pure x:=by intro _;rfl):PE X (.ListComp elt [⟨tg,iter,ifs,0⟩] scope pos) (z9 wi g tc te cm):=by
 refine Mt hc hi hkind hcell hnames (fun y hy e=>?_) hlen (fun j x i e1 e2=>?_) hg ht he hs
 ·have h:=List.all_eq_true.mp hfree y hy
  rw [e] at h
  simpa using h
 ·have hj:(Nc.zip cm)[j]?=some (x,some i):=by
   rw [List.getElem?_zip_eq_some];exact ⟨e1,e2⟩
  have h:=List.all_eq_true.mp hcm _ (List.mem_of_getElem? hj)
  simpa using h
theorem O6 {CX:CXT}{P:Program}{w:World}{K:PySem.W.Frag}{mg:Str->Option Value}{base:Heap}{N:List Str}{qual:Str}{scope:Scope}{f:Addr}{cd:Value}{A:Around}{outer:List Env}{s:Shared}{H:Hp}{E:XK} :
  (vQ CX P w K mg base N qual scope f cd A outer s H E).K=K:=rfl
theorem eQ {ns:List Int}{k:Int}(h0:0<=k)(h1:k < ns.length):atI (ns.map V.int) k=some (.int (ns.getD k.toNat 0)):=by
 have hl:k.toNat < ns.length:=by omega
 have q:(ns.map V.int)[k.toNat]?=some (.int (ns.getD k.toNat 0)):=by
  rw [List.getElem?_map,List.getD_eq_getElem?_getD,List.getElem?_eq_getElem hl]
  rfl
 have q2:=Ir q
 rw [show ((k.toNat:Nat):Int)=k by omega] at q2
 exact q2
theorem kH {ns:List Int}{k:Nat}(h1:k < ns.length):atI (ns.map V.int) (k:Int)=some (.int (ns.getD k 0)):=by
 have:=eQ (ns:=ns) (k:=(k:Int)) (by omega) (by omega)
 simpa using this
theorem KD {ns:List Int}{k:Nat}(h:ns.length<=k):ns.getD k 0=0:=by
 rw [List.getD_eq_getElem?_getD,List.getElem?_eq_none_iff.mpr h];rfl
structure cM (ds:List Int):Prop where
 l2:2<=ds.length
 l6:ds.length<=6
 lo:∀d∈ds,0<=d
 hi:∀d∈ds,d<=500
 up:ds.Pairwise (· < ·)
theorem cM.get {ds:List Int}(h:cM ds){i:Nat}(hi:i < ds.length):0<=ds.getD i 0/\ds.getD i 0<=500:=by
 rw [List.getD_eq_getElem?_getD,List.getElem?_eq_getElem hi,Option.getD_some]
 exact ⟨h.lo _ (List.getElem_mem hi),h.hi _ (List.getElem_mem hi)⟩
theorem cM.lt {ds:List Int}(h:cM ds){i j:Nat}(hij:i < j)(hj:j < ds.length):ds.getD i 0 < ds.getD j 0:=by
 have hi:i < ds.length:=Nat.lt_trans hij hj
 rw [List.getD_eq_getElem?_getD,List.getElem?_eq_getElem hi,List.getD_eq_getElem?_getD,List.getElem?_eq_getElem hj,Option.getD_some,Option.getD_some]
 exact List.pairwise_iff_getElem.mp h.up i j hi hj hij
noncomputable def cv (ds:List Int):Int:=ds.getD (ds.length - 1) 0
theorem cM.le_whole {ds:List Int}(h:cM ds){d:Int}(hd:d∈ds):d<=cv ds:=by
 obtain ⟨i,hi,rfl⟩:=List.getElem_of_mem hd
 have e:ds[i]=ds.getD i 0:=by rw [List.getD_eq_getElem?_getD,List.getElem?_eq_getElem hi];rfl
 rw [e]
 unfold cv
 by_cases hl:i=ds.length - 1
 ·rw [hl];exact Int.le_refl _
 ·exact Int.le_of_lt (h.lt (by omega) (by have:=h.l2;omega))
theorem cM.whole_mem {ds:List Int}(h:cM ds):cv ds∈ds:=by
 have hl:=h.l2
 unfold cv
 rw [List.getD_eq_getElem?_getD,List.getElem?_eq_getElem (by omega:ds.length - 1 < ds.length),Option.getD_some]
 exact List.getElem_mem _
theorem cM.even {n:Nat}{g:Int}(h2:2<=n)(h6:n<=6)(g1:1<=g)(g2:g<=100):cM ((List.range n).map fun (i:Nat)=>g * (i:Int)):=by
 refine ⟨by simpa using h2,by simpa using h6,fun d hd=>?_,fun d hd=>?_,?_⟩
 ·obtain ⟨i,hi,rfl⟩:=List.mem_map.mp hd
  exact Int.mul_nonneg (by omega) (by omega)
 ·obtain ⟨i,hi,rfl⟩:=List.mem_map.mp hd
  have hi':=List.mem_range.mp hi
  have a:g * (i:Int)<=g * 5:=Int.mul_le_mul_of_nonneg_left (by omega) (by omega)
  omega
 ·rw [List.pairwise_map]
  refine List.Pairwise.imp_of_mem (fun {a b} ha hb hab=>?_) List.pairwise_lt_range
  exact Int.mul_lt_mul_of_pos_left (by omega) (by omega)
structure pN (ds:List Int)(l:Int):Prop where
 lo:∀d∈ds,0<=d
 hi:∀d∈ds,d<=l
 up:ds.Pairwise (· < ·)
 l0:-1<=l
theorem pN.nil:pN [] (-1):=⟨by simp,by simp,List.Pairwise.nil,by omega⟩
theorem pN.snoc {ds:List Int}{l r:Int}(h:pN ds l)(h0:0<=r):pN (ds++[l+1+r]) (l+1+r):=by
 have l0:=h.l0
 refine ⟨fun d hd=>?_,fun d hd=>?_,?_,by omega⟩
 ·rcases List.mem_append.mp hd with z | z
  ·exact h.lo d z
  ·have:d=l+1+r:=by simpa using z
   omega
 ·rcases List.mem_append.mp hd with z | z
  ·have:=h.hi d z;omega
  ·have:d=l+1+r:=by simpa using z
   omega
 ·rw [List.pairwise_append]
  refine ⟨h.up,by simp,fun a ha b hb=>?_⟩
  have hb':b=l+1+r:=by simpa using hb
  have:=h.hi a ha;omega
theorem pN.shaft {ds:List Int}{l:Int}(h:pN ds l)(hl:l<=500)(h2:2<=ds.length)(h6:ds.length<=6):cM ds:=
 ⟨h2,h6,h.lo,fun d hd=>Int.le_trans (h.hi d hd) hl,h.up⟩
theorem cM.ends {ds:List Int}(h:cM ds):cM ([0]++(ds.drop 1).take (ds.length - 1 - 1)++[500]):=by
 have l2:=h.l2
 have l6:=h.l6
 have hlen:((ds.drop 1).take (ds.length - 1 - 1)).length=ds.length - 2:=by
  rw [List.length_take,List.length_drop];omega
 have hmem:∀d,d∈(ds.drop 1).take (ds.length - 1 - 1)->0 < d/\d < 500:=fun d hd=>by
  obtain ⟨i,hi,rfl⟩:=List.getElem_of_mem hd
  rw [hlen] at hi
  have e:((ds.drop 1).take (ds.length - 1 - 1))[i]'(by rw [hlen];exact hi)=ds.getD (1+i) 0:=by
   rw [List.getElem_take,List.getElem_drop,List.getD_eq_getElem?_getD,List.getElem?_eq_getElem (by omega)]
   rfl
  rw [e]
  have a:=h.lt (i:=0) (j:=1+i) (by omega) (by omega)
  have b:=h.lt (i:=1+i) (j:=ds.length - 1) (by omega) (by omega)
  have c:=(h.get (i:=0) (by omega)).1
  have d:=(h.get (i:=ds.length - 1) (by omega)).2
  omega
 refine ⟨by simp [hlen]<;>omega,by simp [hlen]<;>omega,fun d hd=>?_,fun d hd=>?_,?_⟩
 ·rcases List.mem_append.mp hd with z | z
  ·rcases List.mem_append.mp z with z | z
   ·have:d=0:=by simpa using z
    omega
   ·have:=hmem d z;omega
  ·have:d=500:=by simpa using z
   omega
 ·rcases List.mem_append.mp hd with z | z
  ·rcases List.mem_append.mp z with z | z
   ·have:d=0:=by simpa using z
    omega
   ·have:=hmem d z;omega
  ·have:d=500:=by simpa using z
   omega
 ·rw [List.pairwise_append,List.pairwise_append]
  refine ⟨⟨by simp,(h.up.drop).take,fun a ha b hb=>?_⟩,by simp,fun a ha b hb=>?_⟩
  ·have ha':a=0:=by simpa using ha
   have:=hmem b hb;omega
  ·have hb':b=500:=by simpa using hb
   rcases List.mem_append.mp ha with z | z
   ·have:a=0:=by simpa using z
    omega
   ·have:=hmem a z;omega
def Iy (J:It)(g:TG)(tb:TS)(D:mY)(σ:St)(H1:Hp):Prop:=∃W:Nat->Nat->St->Hp->Prop,(∃m,W 0 m σ H1)/\∀i m σ H,W i m σ H->
 (J.stop i H/\D.nx σ H)\/(J.go i H/\∃N:St->Hp->Prop,(∀σ' H',N σ' H'->∃m',m' < m/\W (i+1) m' σ' H')/\∀x H',J.yld i H x H'->g x σ H' fun σ2 H2=>tb {D with nx:=N,ct:=N,bk:=D.nx} σ2 H2)
theorem Mu (wi:TI)(g:TG)(tb:TS)(D:mY)(σ:St)(H:Hp):Qv wi g tb D σ H=wi σ H fun J H1=>Iy J g tb D σ H1:=rfl
def vY (J:It)(g:TG)(tc:TT)(te:TE)(cm:List (Option Nat))(σ:St)(Q:VK)(H1:Hp):Prop:=∃W:Nat->Nat->List V->Hp->Prop,(∃m,W 0 m [] H1)/\∀i m acc H,W i m acc H->
 (J.stop i H/\∀p,H p=none->Q (.ref p) (upd H p (.lst acc)))\/
 (J.go i H/\acc.length < sizeLine/\∀x H',J.yld i H x H'->g x (cK cm σ) H' fun σ2 H2=>Wk (cK cm σ) σ2/\tc σ2 H2 fun b H3=>if b=true then te σ2 H3 fun v H4=>∃m',m' < m/\W (i+1) m' (acc++[v]) H4 else ∃m',m' < m/\W (i+1) m' acc H3)
theorem KG (wi:TI)(g:TG)(tc:TT)(te:TE)(cm:List (Option Nat))(σ:St)(H:Hp)(Q:VK):z9 wi g tc te cm σ H Q=wi σ H fun J H1=>vY J g tc te cm σ Q H1:=rfl
theorem cN {lo:Int}{n:Nat}{g:TG}{tb:TS}{D:mY}{σ:St}{H:Hp}(Pv:Nat->St->Hp->Prop)(h0:Pv 0 σ H)
  (hs:∀i σ H,i < n->Pv i σ H->g (.int (lo+i)) σ H fun σ2 H2=>tb {D with nx:=Pv (i+1),ct:=Pv (i+1),bk:=D.nx} σ2 H2) (hd:∀σ H,Pv n σ H->D.nx σ H):Iy (Itr lo n) g tb D σ H:=Jm Pv h0 hs hd
theorem jc {K:PySem.W.Frag}{a:Addr}(xs:List V){g:TG}{tb:TS}{D:mY}{σ:St}{H:Hp}(Pv:Nat->St->Hp->Prop)(h0:Pv 0 σ H)(hl:∀i σ H,i<=xs.length->Pv i σ H->SqL K H a xs)
  (hs:∀i x σ H,xs[i]?=some x->Pv i σ H->g x σ H fun σ2 H2=>tb {D with nx:=Pv (i+1),ct:=Pv (i+1),bk:=D.nx} σ2 H2) (hd:∀σ H,Pv xs.length σ H->D.nx σ H):Iy (Itl K a) g tb D σ H:=Kl Pv h0 hl hs hd
theorem Eh {lo:Int}{n:Nat}{te:TE}{cm:List (Option Nat)}{σ:St}{H:Hp}{Q:VK}(f:Nat->V)(hn:n<=sizeLine){j:Nat}(hj:(cK cm σ)[j]?=some none)
  (hs:∀i,i < n->∀N:VK,N (f i) H->te ((cK cm σ).set j (some (.int (lo+i)))) H N)
  (hd:∀p,H p=none->Q (.ref p) (upd H p (.lst ((List.range n).map f)))):vY (Itr lo n) (g9 j) zv te cm σ Q H:=Aa f hn hj hs hd
theorem iW {lo:Int}{n:Nat}{tc:TT}{te:TE}{cm:List (Option Nat)}{σ:St}{H:Hp}{Q:VK}(p:Nat->Bool)(f:Nat->V)(hn:n<=sizeLine){j:Nat}(hj:(cK cm σ)[j]?=some none)
  (hc:∀i,i < n->∀N:Bool->Hp->Prop,N (p i) H->tc ((cK cm σ).set j (some (.int (lo+i)))) H N)
  (hs:∀i,i < n->p i=true->∀N:VK,N (f i) H->te ((cK cm σ).set j (some (.int (lo+i)))) H N)
  (hd:∀b,H b=none->Q (.ref b) (upd H b (.lst (((List.range n).filter p).map f)))):vY (Itr lo n) (g9 j) tc te cm σ Q H:=vW p f hn hj hc hs hd
theorem yK {K:PySem.W.Frag}{a:Addr}{xs:List V}{tc:TT}{te:TE}{cm:List (Option Nat)}{σ:St}{H:Hp}{Q:VK}(p:V->Bool)(f:V->V)(hl:SqL K H a xs)(hn:xs.length<=sizeLine){j:Nat}(hj:(cK cm σ)[j]?=some none)
  (hc:∀x,x∈xs->∀N:Bool->Hp->Prop,N (p x) H->tc ((cK cm σ).set j (some x)) H N)
  (hs:∀x,x∈xs->p x=true->∀N:VK,N (f x) H->te ((cK cm σ).set j (some x)) H N)
  (hd:∀b,H b=none->Q (.ref b) (upd H b (.lst ((xs.filter p).map f)))):vY (Itl K a) (g9 j) tc te cm σ Q H:=BF p f hl hn hj hc hs hd
section
variable {K:PySem.W.Frag}{H:Hp}{Q:VK}
theorem E9 {i:Int}(q:Q (.bl true) H):O3 K [.int i,.ty "int"] H Q:=⟨_,_,_,_,rfl,.int i,Ab,q⟩
theorem Ei {i:Int}(q:Q (.bl false) H):O3 K [.int i,.ty "bool"] H Q:=⟨_,_,_,_,rfl,.int i,Ee,q⟩
end
theorem upo {H:Hp}{a b:Addr}{o u:HO}(h:H b=some u)(hn:H a=none):upd H a o b=some u:=by rw [aV (aq h hn)];exact h
theorem upn {H:Hp}{a b:Addr}{o:HO}(h:upd H a o b=none):H b=none:=by
 by_cases e:b=a
 ·subst e;rw [ai] at h;cases h
 ·rw [aV e] at h;exact h
theorem av.lay {H H':Hp}{a:Addr}{o:HO}(s:av H H')(hn:H' a=none):av H (upd H' a o):=fun b u e=>upo (s b u e) hn
theorem av.rewr {H H':Hp}{a:Addr}{o:HO}(s:av H H')(hn:H a=none):av H (upd H' a o):=fun b u e=>by rw [aV (aq e hn)];exact s b u e
theorem Mv {n d:Nat}(h:1<=n):HT.sIx n d (some 1)=1:=by
 have:=HT.Mp n d 1
 rw [show ((1:Nat):Int)=1 from rfl] at this
 omega
theorem O7 {n d:Nat}(h:1<=n):HT.sIx n d (some (-1))=n - 1:=by
 have:=HT.Ea (-1) n d
 rw [if_pos (by decide)] at this
 omega
theorem KH (ds:List Int)(h:2<=ds.length):vS (ds.map V.int) (some 1) (some (-1))=((ds.drop 1).take (ds.length - 1 - 1)).map V.int:=by
 unfold vS
 rw [List.length_map,Mv (by omega),O7 (by omega),List.map_take,List.map_drop]
theorem Ej {ds:List Int}(h:0 < ds.length):atI (ds.map V.int) (-1)=some (.int (cv ds)):=by
 unfold atI ixN
 rw [if_neg (by decide),List.length_map,if_pos (by omega),Option.bind_some,List.getElem?_map,show (-1+(ds.length:Int)).toNat=ds.length - 1 by omega,List.getElem?_eq_getElem (by omega)]
 unfold cv
 rw [List.getD_eq_getElem?_getD,List.getElem?_eq_getElem (by omega)]
 rfl
theorem Ek (a b:Int):eqV (.int a) (.int b)=decide (a=b):=by
 simp [eqV,Bool.beq_eq_decide_eq]
theorem vZ (d:Int)(ds:List Int):inV (.int d) (ds.map V.int)=decide (d∈ds):=by
 unfold inV
 rw [List.any_map]
 by_cases h:d∈ds
 ·rw [decide_eq_true h,List.any_eq_true]
  exact ⟨d,h,by simp [Ek]⟩
 ·rw [decide_eq_false h,List.any_eq_false]
  intro x hx
  simp [Ek]
  rintro rfl
  exact h hx
theorem pO {xs:List Int}{i:Nat}{x:V}(h:(xs.map V.int)[i]?=some x):∃z,x=V.int z/\xs[i]?=some z/\z∈xs:=by
 rw [List.getElem?_map] at h
 cases e:xs[i]? with
 | none=>rw [e] at h;cases h
 | some z=>rw [e] at h;exact ⟨z,(Option.some.inj h).symm,rfl,List.mem_of_getElem? e⟩
theorem Iz (d x y:Int):inV (.int d) [.int x,.int y]=decide (d=x\/d=y):=by
 have:=vZ d [x,y]
 simpa [eq_comm] using this
section
variable {X:Cx}
def QM (i j:Int):Prop:=i.natAbs < 2 ^ 300/\j.natAbs < 2 ^ 300
theorem Mw:OpR X (binaryOp .Mult) (rI QM fun i j=>.int (i * j)):=opI fun _ _ _ _ _ _ _ hc q=>mul_int q
 (IntMulOk.of_bits (Nat.le_trans (PyProof.Rows.intBits_le hc.1) (by decide)) (Nat.le_trans (PyProof.Rows.intBits_le hc.2) (by decide)))
end
theorem Hd {w s:Int}(hw:0<=w)(hs:0 < s):0<=(w+s - 1) / s/\w<=(w+s - 1) / s * s/\((w+s - 1) / s - 1) * s < w/\(w+s - 1) / s<=w:=by
 have e:=Int.emod_add_mul_ediv (w+s - 1) s
 have r0:=Int.emod_nonneg (w+s - 1) (by omega:s≠0)
 have r1:=Int.emod_lt_of_pos (w+s - 1) hs
 have e2:s * ((w+s - 1) / s)=(w+s - 1) / s * s:=Int.mul_comm _ _
 have e3:((w+s - 1) / s - 1) * s=(w+s - 1) / s * s - s:=by rw [Int.sub_mul,Int.one_mul]
 have q0:0<=(w+s - 1) / s:=Int.ediv_nonneg (by omega) (by omega)
 refine ⟨q0,by omega,by omega,?_⟩
 by_cases h:(w+s - 1) / s<=w
 ·exact h
 ·exfalso
  have h1:((w+s - 1) / s - 1) * 1<=((w+s - 1) / s - 1) * s:=Int.mul_le_mul_of_nonneg_left (by omega) (by omega)
  omega
end L2
namespace L2
theorem Mx {x y i:Int}(h:i=0\/i=1):∃m,(m=x\/m=y)/\atI [V.int x,V.int y] i=some (.int m):=by
 rcases h with rfl | rfl
 ·exact ⟨x,.inl rfl,rfl⟩
 ·exact ⟨y,.inr rfl,rfl⟩
end L2
namespace L2
open PySem PySem.Spec PyProof.Rows
noncomputable def CXf (P:Program)(w:World):CXT:=fun outer H s E e s'=>
 ∃(x:Addr) (cls a0:Value) (H':Hp) (B:Heap),e=.ref x/\s'.os=s.os/\AllBare s'.gens/\Un (frs outer) [] H H' s.heap s'.heap/\HOk P w H' s'.heap/\Heap.FlyingW B outer x cls a0 s'.heap/\
  (∀b o,s'.heap.get? b=some o->(H' b≠none\/∃o0,s.heap.get? b=some o0)->b∉frs outer->B.get? b=some o)/\(∀o,s.heap.get? x≠some o)/\H' x=none/\E cls none H'
theorem gj.there {P:Program}{w:World}{H:Hp}{h:Heap}{a:Addr}{o:HO}(l:gj P w H h a o):∃ob,h.get? a=some ob:=by
 cases o with
 | lst xs=>obtain ⟨_,its,n,_,e⟩:=l;exact ⟨_,e⟩
 | tup xs=>obtain ⟨_,its,_,ob,e,_⟩:=l;exact ⟨_,e⟩
 | dK kvs=>obtain ⟨_,_,_,_,ob,_,_,e,_⟩:=l;exact ⟨_,e⟩
 | dT kvs=>obtain ⟨_,_,_,_,ob,_,_,e,_⟩:=l;exact ⟨_,e⟩
 | set S n=>obtain ⟨ob,_,_,_,e,_⟩:=l;exact ⟨_,e⟩
 | ins C dx fs=>obtain ⟨_,_,_,e,_⟩:=l;exact ⟨_,e⟩
 | own y=>exact l
 | xd fs=>obtain ⟨mA,⟨od,_,_,e,_⟩,_⟩:=l;exact ⟨_,e⟩
 | rng lo hi=>obtain ⟨_,_,_,e⟩:=l;exact ⟨_,e⟩
 | frz ob u=>obtain ⟨e,_⟩:=l;exact ⟨_,e⟩
 | tbl ps=>exact ⟨_,l⟩
 | met f y=>exact ⟨_,l⟩
 | ext φ=>obtain ⟨_,h,_⟩:=l;exact h
section
variable {P:Program}{w:World}{K:PySem.W.Frag}{mg:Str->Option Value}{base:Heap}{N:List Str}{qual:Str}{scope:Scope}{f:Addr}{cd:Value}{A:Around}{outer:List Env}{s:Shared}{H:Hp}{E:XK}
noncomputable abbrev cxF (P:Program)(w:World)(K:PySem.W.Frag)(mg:Str->Option Value)(base:Heap)(N:List Str)(qual:Str)(scope:Scope)(f:Addr)(cd:Value)(A:Around)(outer:List Env)(s:Shared)(H:Hp)(E:XK):Cx:=
 vQ (CXf P w) P w K mg base N qual scope f cd A outer s H E
theorem IA {pins:List (Addr×Obj)}{σ:St}{H1:Hp}{s1:Shared}{h2:Heap}{x:Addr}{cls a0:Value}{B:Heap}(I:Inv (cxF P w K mg base N qual scope f cd A outer s H E) pins σ H1 s1)
  (hB:∀b o,s1.heap.get? b=some o->(H1 b≠none\/∃o0,s.heap.get? b=some o0)->b∉frs (cxF P w K mg base N qual scope f cd A outer s H E).stack->B.get? b=some o)
  (hfl:Heap.FlyingW B outer x cls a0 h2) (hsl:∀b o,s1.heap.get? b=some o->(∀vs,o.data≠.fields vs)->∃sl,h2.get? b=some {o with slots:=sl}) (hx:∀o,s.heap.get? x≠some o) (hx1:H1 x=none) (q:E cls none H1) :
  CXf P w outer H s E (.ref x) {s1 with heap:=h2}:=by
 have neL:∀b o,s.heap.get? b=some o->b≠s.heap.objs.size:=fun b o e=>Nat.ne_of_lt (Heap.lt_size e)
 have stk:∀b,b∈frs (cxF P w K mg base N qual scope f cd A outer s H E).stack->b=s.heap.objs.size\/b∈frs outer:=fun b hb=>by
  rcases List.mem_cons.mp (I.stkSub b hb) with z | z
  ·exact .inl z
  ·exact .inr z
 have hfree:H1 s.heap.objs.size=none:=I.free
 have st:B.StaysIn h2:=hfl.1
 have frD:∀b∈frs outer,∃o,s.heap.get? b=some o/\∀vs,o.data≠.fields vs:=fun b hb=>(I.ok.funs.mem hb).2
 have u:=I.base
 have nf:∀b o,s.heap.get? b=some o->b∉frs outer->b∉frs (cxF P w K mg base N qual scope f cd A outer s H E).stack:=fun b o e hb z=>(stk b z).elim (neL b o e) hb
 have up:∀b∈frs outer,∀o,s.heap.get? b=some o->∃sl,h2.get? b=some {o with slots:=sl}:=fun b hb o e=>by
  obtain ⟨o',e',d⟩:=frD b hb
  rw [e] at e';cases e'
  obtain ⟨sl,q1⟩:=u.any (b:=b) e (I.ok.frf b hb) (by intro z;exact nomatch z)
  obtain ⟨sl',q2⟩:=hsl b _ q1 d
  exact ⟨sl',q2⟩
 refine ⟨x,cls,a0,H1,B,rfl,I.os,I.bare,⟨fun b o e n hb _=>?_,fun b o e n hb _=>up b hb o e,u.free,fun b o e _=>?_,u.tups,u.frzs,u.tbls⟩,fun b o e=>?_,hfl,fun b o e hh hb=>?_,hx,hx1,q⟩
 ·exact st b o (hB b o (u.keep b o e n hb (by intro z;exact nomatch z)) (.inr ⟨o,e⟩) (nf b o e hb))
 ·by_cases hb:b∈frs outer
  ·obtain ⟨sl,q⟩:=up b hb o e
   exact ⟨_,q⟩
  ·obtain ⟨o',e'⟩:=u.there b o e (by intro z;exact nomatch z)
   exact ⟨o',st b o' (hB b o' e' (.inr ⟨o,e⟩) (nf b o e hb))⟩
 ·have ne:b≠s.heap.objs.size:=fun z=>by rw [z,hfree] at e;cases e
  have inB:∀c v,H1 c≠none->s1.heap.get? c=some v->h2.get? c=some v:=fun c v hc q=>st c v (hB c v q (.inl hc) fun z=>by
   rcases stk c z with y | y
   ·rw [y] at hc;exact hc hfree
   ·obtain ⟨o',e',_⟩:=frD c y
    exact hc (u.free c o' e' (I.ok.frf c y) (by intro z;exact nomatch z)))
  refine (I.hok b o e).stay (fun c v hc q=>inB c v ?_ q) (fun _ q=>q) fun _ _ q=>q
  rcases hc with z | z
  ·rw [z,e];simp
  ·rw [z];simp
 ·
  have there1:∃o1,s1.heap.get? b=some o1:=by
   rcases hh with z | ⟨o0,z⟩
   ·cases q:H1 b with
    | none=>exact absurd q z
    | some v=>exact (I.hok b v q).there
   ·exact u.there b o0 z (by intro z;exact nomatch z)
  obtain ⟨o1,e1⟩:=there1
  have nfb:b∉frs (cxF P w K mg base N qual scope f cd A outer s H E).stack:=fun z=>by
   rcases stk b z with y | y
   ·rcases hh with t | ⟨o0,t⟩
    ·rw [y] at t;exact t hfree
    ·exact neL b o0 t y
   ·exact hb y
  have e2:=hB b o1 e1 hh nfb
  have e3:=st b o1 e2
  have e':h2.get? b=some o:=e
  rw [e3] at e';cases e'
  exact e2
theorem Ju {pins:List (Addr×Obj)}{σ:St}{H1:Hp}{s1:Shared}{h':Heap}{x:Addr}{cls:Value}{args:List Value}(I:Inv (cxF P w K mg base N qual scope f cd A outer s H E) pins σ H1 s1)
  (hx:Heap.MadeExcOf s1.heap h' x cls args) (q:E cls none H1):(cxF P w K mg base N qual scope f cd A outer s H E).xe (.ref x) {s1 with heap:=h'}:=by
 have hn:=hx.new
 have hin:∀env∈(cxF P w K mg base N qual scope f cd A outer s H E).stack,∀b,env.frame=some b->b∈frs (cxF P w K mg base N qual scope f cd A outer s H E).stack:=fun env he b hb=>List.mem_filterMap.mpr ⟨env,he,hb⟩
 have hx1:H1 x=none:=by
  cases q:H1 x with
  | none=>rfl
  | some v=>
   obtain ⟨ob,e⟩:=(I.hok x v q).there
   rw [hn] at e;cases e
 refine wpAny_leaves_madeW (base:=PySem.W.hideAll s1.heap (frs (cxF P w K mg base N qual scope f cd A outer s H E).stack)) (h:=s1.heap) (s:={s1 with heap:=h'}) I.ok.frames rfl (fun b o q=>PySem.W.of_hideAll _ q) (PySem.W.funFrames_hide I.stack hin) hx fun h2 t f1 f2 f3 f4=>?_
 refine IA (s1:=s1) I (fun b o e _ hb=>PySem.W.hideAll_get _ e hb) f1 (fun b o e d=>f4 b o (hx.keeps b o e) d) (fun o e=>?_) hx1 q
 obtain ⟨o',e'⟩:=I.base.there x o e (by intro z;exact nomatch z)
 rw [hn] at e';cases e'
theorem bT:qX (CXf P w) (cxF P w K mg base N qual scope f cd A outer s H E) E:=by
 rintro pins σ H1 s1 e s2 I ⟨x,cls,a0,H2,B,rfl,os,bare,un,hok,hfl,hB,hx,hx2,q⟩
 have I2:Inv (cxF P w K mg base N qual scope f cd A outer s H E) pins σ H2 s2:=I.call' os un hok bare fun b hb=>absurd hb (by simp)
 refine wpAny_leaves_onW (s:=s2) I.ok.frames rfl hfl fun h2 f1 f2=>?_
 refine IA I2 (fun b o e hh hb=>hB b o e ?_ hb) f1 (fun b o e d=>f2 b o e d) (fun o e=>?_) hx2 q
 ·rcases hh with z | ⟨o0,z⟩
  ·exact .inl z
  ·obtain ⟨o1,e1⟩:=I.base.there b o0 z (by intro z;exact nomatch z)
   exact .inr ⟨o1,e1⟩
 ·obtain ⟨o1,e1⟩:=I.base.there x o e (by intro z;exact nomatch z)
  exact hx o1 e1
theorem yh:PassesOwn (model P w) (cxF P w K mg base N qual scope f cd A outer s H E).A (cxF P w K mg base N qual scope f cd A outer s H E).env (cxF P w K mg base N qual scope f cd A outer s H E).xe:=PassesOwn.leaving
structure ExC (K:PySem.W.Frag)(C:Addr):Prop where
 ex:∃(nm q:Str) (N:Addr) (bs bm:List Value) (hdct:Bool) (sn:List Str) (sub:List Value) (ab:Bool) (col:Option Bool) (dd:Option Addr) (k0 k1 k2 k3 k5:Option Value) (mN:Str->Option Value),
  ∀h,K.In h->h.get? C=some (excClassObj nm q C N bs bm hdct sn sub ab col dd k0 k1 k2 k3 k5 "ValueError.__new__")/\h.Ns N mN/\(∀n∈quietNames,mN n=none)/\OwnTailQ h [.type "ValueError",.type "Exception",.type "BaseException",.type "object"] bm
noncomputable def tG (es:Array DictEntry):Bool:=es.toList.all fun e=>match e.key with | .str _ _=>true | _=>false
theorem N5 {K:PySem.W.Frag}{h:Heap}{N:Addr}{c:Value}{d:Option Addr}{es:Array DictEntry}{ep:Nat}{sl:Array (Option Value)}(X:K.In h)(l:K.lookup N=some ⟨c,d,.dict es ep,sl⟩)(k:tG es=true):h.Ns N (nsFind es):=by
 refine ⟨_,es,ep,X _ _ l,rfl,fun e he=>?_,fun _=>rfl⟩
 have z:=List.all_eq_true.mp k e (by simpa using he)
 split at z
 ·rename_i n t q;exact ⟨n,t,q⟩
 ·cases z
theorem O8 {K:PySem.W.Frag}{C N C0 N0:Addr}{nm q:Str}{bs:List Value}{hdct:Bool}{sn:List Str}{sub:List Value}{ab:Bool}{col:Option Bool}{dd:Option Addr}{k0 k1 k2 k3 k5:Option Value}
  {c1 c2 c0:Value} {d1 d2 dd0:Option Addr} {es es0:Array DictEntry} {ep ep0:Nat} {sl1 sl2 sl0:Array (Option Value)} {cd0:ClassData}
  (lC:K.lookup C=some (excClassObj nm q C N bs [.ref C0,.type "ValueError",.type "Exception",.type "BaseException",.type "object"] hdct sn sub ab col dd k0 k1 k2 k3 k5 "ValueError.__new__"))
  (lN:K.lookup N=some ⟨c1,d1,.dict es ep,sl1⟩) (kN:tG es=true) (iN:(quietNames.all fun n=>(nsFind es n).isNone)=true)
  (l0:K.lookup C0=some ⟨c0,dd0,.cls cd0,sl0⟩) (e0:cd0.ns=N0) (lN0:K.lookup N0=some ⟨c2,d2,.dict es0 ep0,sl2⟩) (kN0:tG es0=true) (iN0:(quietNames.all fun n=>(nsFind es0 n).isNone)=true):ExC K C:=
 ⟨nm,q,N,bs,_,hdct,sn,sub,ab,col,dd,k0,k1,k2,k3,k5,nsFind es,fun h X=>⟨X _ _ lC,N5 X lN kN,fun n hn=>Option.isNone_iff_eq_none.mp (List.all_eq_true.mp iN n hn),.own (X _ _ l0) (e0▸N5 X lN0 kN0) (fun n hn=>Option.isNone_iff_eq_none.mp (List.all_eq_true.mp iN0 n hn)) .base⟩⟩
noncomputable def KJ (E:XK)(C:Addr)(t:TA):TS:=fun _ σ H=>t σ H fun vs H1=>vs.length<=sizeLine/\E (.ref C) none H1
theorem bE {x:Str}{C:Addr}{e:Expr}{es:List Expr}{t:TA}{np cpos pos:Pos}(O:ExC K C)(hg:Gl (cxF P w K mg base N qual scope f cd A outer s H E) x)(hm:mg x=some (.ref C))
  (ha:PA (cxF P w K mg base N qual scope f cd A outer s H E) (e::es) t) (hdb:(x == ("__debug__":Str))=false:=by decide)
  (he:starEach (e::es) (cxF P w K mg base N qual scope f cd A outer s H E).env=(false,eval e (cxF P w K mg base N qual scope f cd A outer s H E).env)::starEach es (cxF P w K mg base N qual scope f cd A outer s H E).env:=by rfl)
  (hpl:(backTo cpos (starEach es (cxF P w K mg base N qual scope f cd A outer s H E).env)).any (·.1)=false:=by rfl) :
  PS (cxF P w K mg base N qual scope f cd A outer s H E) (.Raise (some (.Call (.Name x np) (e::es) [] cpos)) none pos) (KJ E C t):=by
 intro pins s1 σ H1 D I h
 obtain ⟨nm,q,N,bs,bm,hdct,sn,sub,ab,col,dd,k0,k1,k2,k3,k5,mN,O⟩:=O.ex
 obtain ⟨_,_,hni,T0⟩:=O _ I.kIn
 refine wpAny_Raise_call_subU (C:=C) (nm:=nm) (q:=q) (N:=N) (bs:=bs) (bm:=bm) (hdct:=hdct) (sn:=sn) (sub:=sub) (ab:=ab) (col:=col) (dd:=dd) (k0:=k0) (k1:=k1) (k2:=k2) (k3:=k3) (k5:=k5)
  PySem.F.excBase_ValueError (by decide +kernel) PySem.F.excBase_ValueError (mN:=mN) (T0.tail.hasType PySem.F.excBase_ValueError.hasBase) (I.ok.hd rfl) (by rw [he];show (false || (backTo cpos (starEach es _)).any (·.1))=false;rw [hpl];rfl) (hni _ (.head _)) (vP I hg hm ⟨rfl,?_⟩ hdb)
 have ha':=ha cpos pins s1 σ H1 _ I h
 rw [he] at ha' ⊢
 refine Calls.evalArgs_plain (wpAny_mono ha' (fun us s2 h2=>?_) fun _ _ y=>y)
 obtain ⟨vs,H2,I2,rv,hlen,qE⟩:=h2
 obtain ⟨a1,a2,_,a4⟩:=O _ I2.kIn
 exact ⟨rfl,by rw [←rv.length];exact hlen,a1,a2,a4.tail,fun h' e hx=>Ju I2 hx qE⟩
theorem Fun.okF {x qual:Str}{st:Stmt}{f:Addr}{fd:FuncData}{N ps:List Str}{k:Nat}{sp:Sp}(F:Fun K x qual st f fd)(S:ay N ps (ao st))(len:∀vs H Q E,sp vs H Q E->vs.length=ps.length)
  (hbody:∀(cdv:Value) (A:Around) (outer:List Env) (s:Shared) (H:Hp) (vs:List V) (Q:VK) (E:XK),jk k (A.deeper (envOfC qual (ao st) s.heap.objs.size f cdv))->sp vs H Q E->
   ∃t,PSs (cxF P w K mg base N qual (ao st) f cdv A outer s H E) (cJ st) t/\t {nx:=fun _ H'=>Q .non H',rt:=Q} (t9 N vs) H):aI P w K mg base (CXf P w) (k+1) f fd ps sp:=by
 obtain ⟨oc,od,kV,doc,pm,an,cdv,ct,osl,rfl,lk,hcd⟩:=F.ex
 refine N1 lk hcd S len fun A outer s H vs Q E hr hsp=>?_
 exact hbody cdv A outer s H vs Q E hr hsp
end
noncomputable abbrev XT:=Value->St->Hp->Prop
noncomputable def Xt (X:Cx)(pins:List (Addr×Obj))(E':XT):Cx:=
 {X with pn:=X.pn++pins,xe:=fun e s'=>∃σ H s,Inv X pins σ H s/\CXf X.prog X.w X.stack H s (fun cls _ H'=>E' cls σ H') e s'}
noncomputable def Xh (X:Cx)(e:Value):Cx:={X with A:=X.A.mark (some e),calm:=false,xe:=fun _ _=>False}
section
variable {X:Cx}{pins pins':List (Addr×Obj)}{σ:St}{H:Hp}{s:Shared}{E':XT}{e:Value}
theorem Cx.Ok.toT (ok:X.Ok):(Xt X pins E').Ok:=⟨ok.mod,ok.kind,ok.glob,ok.blt,ok.above,ok.inj,ok.has,ok.cab,ok.hd,ok.frames,ok.stk,ok.exf,ok.bs,ok.bsz,ok.noex,ok.exfs,ok.funs,ok.frf⟩
theorem Cx.Ok.ofT (ok:(Xt X pins E').Ok):X.Ok:=⟨ok.mod,ok.kind,ok.glob,ok.blt,ok.above,ok.inj,ok.has,ok.cab,ok.hd,ok.frames,ok.stk,ok.exf,ok.bs,ok.bsz,ok.noex,ok.exfs,ok.funs,ok.frf⟩
theorem Inv.toT (I:Inv X pins σ H s):Inv (Xt X pins E') [] σ H s:=⟨I.ok.toT,I.os,I.bare,I.base,I.loc,I.cell,I.free,I.freeC,fun p hp=>I.pin p (by simpa [Xt] using hp),I.hok,I.len⟩
theorem Inv.ofT (I:Inv (Xt X pins E') pins' σ H s):Inv X pins σ H s:=⟨I.ok.ofT,I.os,I.bare,I.base,I.loc,I.cell,I.free,I.freeC,fun p hp=>I.pin p (List.mem_append_left _ hp),I.hok,I.len⟩
theorem Inv.toH (I:Inv X pins σ H s):Inv (Xh X e) pins σ H s:=
 ⟨⟨I.ok.mod,I.ok.kind,I.ok.glob,I.ok.blt,I.ok.above,I.ok.inj,I.ok.has,I.ok.cab,fun z=>(Bool.false_ne_true z).elim,I.ok.frames,I.ok.stk,I.ok.exf,I.ok.bs,I.ok.bsz,I.ok.noex,I.ok.exfs,I.ok.funs,I.ok.frf⟩,I.os,I.bare,I.base,I.loc,I.cell,I.free,I.freeC,I.pin,I.hok,I.len⟩
theorem Inv.ofH (ok:X.Ok)(I:Inv (Xh X e) pins σ H s):Inv X pins σ H s:=⟨ok,I.os,I.bare,I.base,I.loc,I.cell,I.free,I.freeC,I.pin,I.hok,I.len⟩
theorem Inv.flown {H1:Hp}{s1:Shared}{h2:Heap}{B:Heap}(I:Inv X pins σ H s)(os:s1.os=s.os)(bare:AllBare s1.gens)(un:Un (frs X.stack) [] H H1 s.heap s1.heap)(hok:HOk X.prog X.w H1 s1.heap)
  (hB:∀b o,s1.heap.get? b=some o->(H1 b≠none\/∃o0,s.heap.get? b=some o0)->b∉frs X.stack->B.get? b=some o) (st:B.StaysIn h2) (hsl:s1.heap.UpToSlots h2):Inv X pins σ H1 {s1 with heap:=h2}:=by
 have frD:∀b∈frs X.stack,∃o,s.heap.get? b=some o/\∀vs,o.data≠.fields vs:=fun b hb=>(I.stack.mem hb).2
 have up:∀b∈frs X.stack,∀o,s.heap.get? b=some o->∃sl,h2.get? b=some {o with slots:=sl}:=fun b hb o e=>by
  obtain ⟨o',e',d⟩:=frD b hb
  rw [e] at e';cases e'
  obtain ⟨sl,q1⟩:=un.any (b:=b) e (I.stkFree b hb) (by intro z;exact nomatch z)
  obtain ⟨sl',q2⟩:=hsl b _ q1 d
  exact ⟨sl',q2⟩
 refine I.call' (s':={s1 with heap:=h2}) (ch:=[]) os ⟨fun b o e n hb _=>?_,fun b o e n hb _=>up b hb o e,un.free,fun b o e _=>?_,un.tups,un.frzs,un.tbls⟩ (fun b o e=>?_) bare fun b hb=>absurd hb (by simp)
 ·exact st b o (hB b o (un.keep b o e n hb (by intro z;exact nomatch z)) (.inr ⟨o,e⟩) hb)
 ·by_cases hb:b∈frs X.stack
  ·obtain ⟨sl,q⟩:=up b hb o e
   exact ⟨_,q⟩
  ·obtain ⟨o',e'⟩:=un.there b o e (by intro z;exact nomatch z)
   exact ⟨o',st b o' (hB b o' e' (.inr ⟨o,e⟩) hb)⟩
 ·have inB:∀c v,H1 c≠none->s1.heap.get? c=some v->h2.get? c=some v:=fun c v hc q=>st c v (hB c v q (.inl hc) fun z=>by
   obtain ⟨o',e',_⟩:=frD c z
   exact hc (un.free c o' e' (I.stkFree c z) (by intro z;exact nomatch z)))
  refine (hok b o e).stay (fun c v hc q=>inB c v ?_ q) (fun _ q=>q) fun _ _ q=>q
  rcases hc with z | z
  ·rw [z,e];simp
  ·rw [z];simp
noncomputable def My (y:Addr)(cls:Value):HO:=.ext fun h=>∃o vs,h.get? y=some o/\o.cls=cls/\o.data=.fields vs
theorem Jv {H1:Hp}{s1:Shared}{x:Addr}{cls:Value}{oe:Obj}{vs:Array Value}(I0:Inv X pins σ H s)(I:Inv X pins σ H1 s1)(hx:∀o,s.heap.get? x≠some o)(hx1:H1 x=none)(he:s1.heap.get? x=some oe)(hc:oe.cls=cls)(hd:oe.data=.fields vs)
  (hxl:x≠X.env.locals) (hxc:∀y c,X.env.cells.lookup y=some c->c≠x):Inv X pins σ (upd H1 x (My x cls)) s1:=by
 have hb:∀b u,X.s₀.heap.get? b=some u->b∉X.ex->b≠x:=fun b u e hbx z=>by
  obtain ⟨o',e'⟩:=I0.base.there b u e hbx
  rw [z] at e'
  exact hx o' e'
 refine ⟨I.ok,I.os,I.bare,⟨I.base.keep,I.base.slot,fun b u e n hbx=>?_,I.base.there,fun b xs e=>?_,fun b u xs e=>?_,fun b ps e=>?_⟩,I.loc,I.cell,?_,fun y c e=>?_,fun p hpp=>?_,fun b u e=>?_,I.len⟩
 ·rw [aV (hb b u e hbx)];exact I.base.free b u e n hbx
 ·have q:=I.base.tups b xs e;rw [aV (aq q hx1)];exact q
 ·have q:=I.base.frzs b u xs e;rw [aV (aq q hx1)];exact q
 ·obtain ⟨more,q⟩:=I.base.tbls b ps e;exact ⟨more,by rw [aV (aq q hx1)];exact q⟩
 ·rw [aV (Ne.symm hxl)];exact I.free
 ·rw [aV (hxc y c e)];exact I.freeC y c e
 ·obtain ⟨a,b,c⟩:=I.pin p hpp
  refine ⟨a,?_,c⟩
  rw [aV (fun z=>?_)];exact b
  have:=(I0.pin p hpp).1
  rw [z] at this
  exact hx _ this
 ·by_cases hbb:b=x
  ·subst hbb;rw [ai] at e;cases e
   exact ⟨⟨oe,vs,he,hc,hd⟩,⟨oe,he⟩,fun h1 h2 ⟨o,v,a,b,c⟩ k=>⟨o,v,k _ a,b,c⟩⟩
  ·rw [aV hbb] at e
   exact (I.hok b u e).stay (fun c v _ q=>q) (fun c q=>by rw [aV (aq q hx1)];exact q) fun c xs q=>by rw [aV (aq q hx1)];exact q
theorem tH {i:Nat}{n:Str}{pos:Pos}{A:Around}{M:Model}{Er:Value->Shared->Prop}{Q:Unit->Shared->Prop}(I:Inv X pins σ H s)(hN:X.N.Nodup)(hi:X.N[i]?=some n)(hk:X.env.scope.names.lookup n=some .local)
  (h:∀s',Inv X pins (σ.set i none) H s'->Q () s'):wpAny M A (do bindName X.env n .none;unbindBehindTheSuite X.env n pos) Q Er s:=by
 refine wpAny_bind (wpAny_bindName (oo (v:=V.non) I hN hi (.inl hk) rfl (fun s1 I1=>?_) (.inr hk)))
 unfold unbindBehindTheSuite
 refine wpAny_onRaise ?_
 obtain ⟨m,hn,hl⟩:=id I1.loc
 have hiσ:i < σ.length:=by rw [I.len];exact (List.getElem?_eq_some_iff.mp hi).1
 obtain ⟨u,ru,lk⟩:=hl i n .non hi (List.getElem?_set_self hiσ) (.inl hk)
 have hv:m n=some u:=by
  rcases lk with ⟨_,z⟩ | ⟨z,_⟩
  ·exact z
  ·have hk':X.env.kindOf n=some .local:=hk
   rcases z with z | z
   ·rw [hk'] at z;cases z
   ·rw [hk'] at z;cases z
 have hcls:(X.env.scope.kind == .class || (X.env.scope.kind == .module && X.env.locals != X.env.globals))=false:=by rw [I.ok.kind];rfl
 refine wpAny_unbindName_local hk hn hv hcls fun h' u' hn' hs=>?_
 have ne:∀b o,X.s₀.heap.get? b=some o->b≠X.env.locals:=fun b o e=>Nat.ne_of_lt (Nat.lt_of_lt_of_le (Heap.lt_size e) I.ok.above)
 refine h _ ⟨I1.ok,I1.os,I1.bare,⟨fun b o e n hb hx=>(hs.2 b (ne b o e)).trans (I1.base.keep b o e n hb hx),fun b o e n hb hx=>?_,I1.base.free,fun b o e hx=>?_,I1.base.tups,I1.base.frzs,I1.base.tbls⟩,⟨_,hn',fun j y v' e1 e2 e3=>?_⟩,fun y c e=>?_,I1.free,I1.freeC,fun p hp=>?_,fun b ob e=>?_,?_⟩
 ·obtain ⟨sl,e1⟩:=I1.base.slot b o e n hb hx
  exact ⟨sl,(hs.2 b (ne b o e)).trans e1⟩
 ·obtain ⟨o',e1⟩:=I1.base.there b o e hx
  exact ⟨o',(hs.2 b (ne b o e)).trans e1⟩
 ·by_cases hj:j=i
  ·subst hj
   rw [List.getElem?_set_self hiσ] at e2
   cases e2
  ·rw [List.getElem?_set_ne (Ne.symm hj)] at e2
   obtain ⟨u2,r2,q⟩:=hl j y v' e1 (by rw [List.getElem?_set_ne (Ne.symm hj)];exact e2) e3
   refine ⟨u2,r2,?_⟩
   rcases q with ⟨k,e⟩ | ⟨k,c,e,z⟩
   ·refine .inl ⟨k,?_⟩
    have:y≠n:=fun e=>hj (zU hN e1 (e▸hi))
    simp [this,e]
   ·exact .inr ⟨k,c,e,z.sameBut hs (I1.cne y c e)⟩
 ·obtain ⟨w',z⟩:=I1.cell y c e
  exact ⟨w',z.sameBut hs (I1.cne y c e)⟩
 ·obtain ⟨e,n,ne',nf,d⟩:=I1.pin p hp
  exact ⟨(hs.2 p.1 ne').trans e,n,ne',nf,d⟩
 ·refine (I1.hok b ob e).stay (fun c w' hc q=>(hs.2 c ?_).trans q) (fun _ q=>q) fun _ _ q=>q
  rintro rfl
  rcases hc with z | z
  ·rw [←z,I1.free] at e;cases e
  ·rw [I1.free] at z;cases z
 ·rw [List.length_set];exact I.len
end
section
variable {X:Cx}
noncomputable def QN (K:PySem.W.Frag)(C:Addr)(i:Nat)(tb:XT->TS)(th:TS):TS:=fun D σ H=>
 tb (fun cls σ' H'=>PySem.W.exmOne K cls (.ref C)=some true/\∀y,H' y=none->
  th {nx:=fun σ H=>D.nx (σ.set i none) H,rt:=D.rt,bk:=fun σ H=>D.bk (σ.set i none) H,ct:=fun σ H=>D.ct (σ.set i none) H} (σ'.set i (some (.ref y))) (upd H' y (My y cls))) D σ H
theorem O9 {body suite:List Stmt}{b₀:Stmt}{x n:Str}{C:Addr}{i:Nat}{tb:XT->TS}{th:TS}{np hpos pos:Pos}(hst:X.stack=X.env::X.outer)(hfr:X.env.frame=some X.env.locals)
  (hb:∀pins E',PSs (Xt X pins E') body (tb E')) (hh:∀e,PSs (Xh X e) (b₀::suite) th) (hN:X.N.Nodup) (hi:X.N[i]?=some n) (hk:X.env.scope.names.lookup n=some .local) (hg:Gl X x) (hm:X.mg x=some (.ref C))
  (hdb:(x == ("__debug__":Str))=false:=by decide):PS X (.Try body [.ExceptHandler (some (.Name x np)) (some n) (b₀::suite) hpos] [] [] pos) (QN X.K C i tb th):=by
 intro pins s σ H D I h
 refine wpAny_Try_except (wpAny_mono (hb pins _ [] s σ H D I.toT h) (fun f s1 h1=>?_) fun e s1 h1=>?_)
 ·cases f with
  | next=>obtain ⟨σ',H',J,q⟩:=h1;exact wpAny_execs_nil ⟨σ',H',J.ofT,q⟩
  | brk=>obtain ⟨σ',H',J,q⟩:=h1;exact ⟨σ',H',J.ofT,q⟩
  | cont=>obtain ⟨σ',H',J,q⟩:=h1;exact ⟨σ',H',J.ofT,q⟩
  | ret u=>obtain ⟨v,σ',H',J,r,q⟩:=h1;exact ⟨v,σ',H',J.ofT,r,q⟩
 ·obtain ⟨σ0,H0,s0,I0,y,cls,a0,H1,B,rfl,os,bare,un,hok,hfl,hB,hx,hx1,em,q⟩:=h1
  have frames:X.A.frames=some (X.env::X.outer):=by rw [←hst];exact I0.ok.frames
  rw [hst] at hfl
  refine wpAny_looks_onW frames hfr hfl fun h4 held4 sm4=>wpAny_landsW held4 fun h5 fl5 sm5=>?_
  have I5:Inv X pins σ0 H1 {s1 with heap:=h5}:=I0.flown os bare un hok hB fl5.1 (sm4.trans sm5)
  refine wpAny_handleBy_cons (codeAny_handlers_test (vP (X:=Xh X (.ref y)) (I5.toH) hg hm ?_ hdb)) (by intro q;cases q)
  obtain ⟨ob,hob,hobc⟩:=fl5.there
  have LT:PySem.W.Looks (model X.prog X.w) h5 (typeOf (.ref y)) cls:=hobc▸(PySem.W.Looks.ld hob).andThen .now
  refine (PySem.W.exm_one (M:=model X.prog X.w) I5.kIn LT em) _ _ _ _ (fun _ _ e=>e) ?_
  refine codeAny_handlers_suite_as ?_
  refine lands_againW fl5 fun h6 fl6 sm6=>?_
  have I6:Inv X pins σ0 H1 {s1 with heap:=h6}:=I0.flown os bare un hok hB fl6.1 ((sm4.trans sm5).trans sm6)
  obtain ⟨_,_,_,oe,vs,T,oT,ts,he,hc,hd,_⟩:=id fl6
  have hyl:y≠X.env.locals:=fun z=>by
   obtain ⟨m,⟨o,es,ep,ho,hod,_⟩,_⟩:=I0.loc
   rw [←z] at ho
   exact hx o ho
  have hyc:∀z c,X.env.cells.lookup z=some c->c≠y:=fun z c e t=>by
   obtain ⟨v,o,ho,_⟩:=I0.cell z c e
   rw [t] at ho
   exact hx o ho
  have I6t:=Jv (s1:={s1 with heap:=h6}) I0 I6 hx hx1 he hc.1 hd hyl hyc
  refine oo (X:=Xh X (.ref y)) (v:=V.ref y) (I6t.toH) hN hi (.inl hk) rfl (fun s7 I7=>?_) (.inr hk)
  refine wpAny_mono (hh (.ref y) pins s7 _ _ _ I7 (q y hx1)) (fun f s8 h8=>?_) fun _ _ z=>z.elim
  cases f with
  | next=>obtain ⟨σ8,H8,J,q8⟩:=h8;exact tH (J.ofH I.ok) hN hi hk fun s9 J9=>⟨_,_,J9,q8⟩
  | brk=>obtain ⟨σ8,H8,J,q8⟩:=h8;exact tH (J.ofH I.ok) hN hi hk fun s9 J9=>⟨_,_,J9,q8⟩
  | cont=>obtain ⟨σ8,H8,J,q8⟩:=h8;exact tH (J.ofH I.ok) hN hi hk fun s9 J9=>⟨_,_,J9,q8⟩
  | ret u=>obtain ⟨v,σ8,H8,J,r,q8⟩:=h8;exact tH (J.ofH I.ok) hN hi hk fun s9 J9=>⟨v,_,_,J9,r,q8⟩
noncomputable def Pa (sp:Sp)(dvs:List V)(E':XT)(t:TA):TE:=fun σ H Q=>t σ H fun vs H1=>sp (vs++dvs) H1 Q fun cls _ H'=>E' cls σ H'
end
end L2
namespace L2
open PySem PySem.W PySem.Spec PyProof.Rows
structure ExI (K:Frag)(C:Addr):Prop where
 ex:ExC K C
 ca:findIn K (.ref C) "__class__"=some (some (.builtin "object.__class__"))
 mo:mroIn K C (.type "object")=some true
section
variable {prog:Program}{w:World}{A:Around}{E:Value->Shared->Prop}{h:Heap}{g:Array GenState}{d:Drawn}{t:Nat}{os:OsState}{a:Addr}{o:Obj}{vs:Array Value}{K:Frag}{C:Addr}
theorem Mz {R:Result->Shared->Prop}{tp:Value}(X:K.In h)(O:ExI K C)(hx:h.get? a=some o)(hc:o.cls=.ref C)(hq:R (.ok (.ret (.ref C))) ⟨h,g,d,t,os⟩) :
  codeAny (model prog w) A (.call (.builtin "getset_descriptor.__get__") ⟨[.builtin "object.__class__",.ref a,tp],[]⟩) R ⟨h,g,d,t,os⟩:=by
 have L0:Looks (model prog w) h (typeOf (.ref a)) (.ref C):=hc▸(Looks.ld hx).andThen .now
 have L1:=looks_mroIn (M:=model prog w) X O.mo
 refine codeAny_call_builtin KF.slot_gs.plain KF.entry_gs (KF.slot_gs.check _ _ _ _ _ _ _ _ KF.type_class (KF.args_gs _ _ _) ?_)
 unfold Builtin.«getset_descriptor.__get__» Builtin.Getset_descriptor.descrGet
 rw [dga_obj]
 refine wpAny_bind (wpAny_pure ?_)
 unfold Builtin.Getset_descriptor.descrGetter Builtin.Getset_descriptor.descrCheckInstance Builtin.Getset_descriptor.descrNameAndClass isInstance
 simp only [KF.owner_class]
 repeat lk
 refine ⟨Code.quiet_builtin _ (by decide +kernel),codeAny_builtin KF.entry_class ?_⟩
 unfold Builtin.«object.__class__» shownTypeOf
 repeat lk
 exact hq
theorem Jw {tk:Tok}{Q:PySem.Fin->Shared->Prop}(X:K.In h)(O:ExI K C)(hx:h.get? a=some o)(hc:o.cls=.ref C)(hq:Q (.done (.ret (.ref C))) ⟨h,g,d,t,os⟩) :
  wpAny (model prog w) A (Builtin.«object.__getattribute__» ⟨[.ref a,.str "__class__" tk],[]⟩) Q E ⟨h,g,d,t,os⟩:=by
 have L2:=looks_findIn (M:=model prog w) X O.ca
 have f5:=KF.type_class
 have f6:=KF.slot_gs.lookup
 have f7:=PySem.F.slot_gs_set.lookup
 repeat (any_goals (first | assumption | (with_reducible refine wpAny_loadPart_at hx ?_;rw [hc]) | with_reducible refine L2.at ?_ | wp_step))
 refine Mz X O hx hc ?_
 repeat (any_goals (first | assumption | wp_step))
theorem KL {tk:Tok}{R:Result->Shared->Prop}(X:K.In h)(O:ExI K C)(hx:h.get? a=some o)(hc:o.cls=.ref C)(hq:R (.ok (.ret (.ref C))) ⟨h,g,d,t,os⟩) :
  codeAny (model prog w) A (.call (.builtin "BaseException.__getattribute__") ⟨[.ref a,.str "__class__" tk],[]⟩) R ⟨h,g,d,t,os⟩:=by
 obtain ⟨nm,q,N,bs,bm,hdct,sn,sub,ab,col,dd,k0,k1,k2,k3,k5,mN,Oe⟩:=O.ex.ex
 obtain ⟨hC,hN,hmN,T⟩:=Oe h X
 exact codeAny_call_builtin PySem.F.attrBase_ValueError.ga.plain PySem.F.entry_bexc_ga (wpAny_check_ga_own PySem.F.attrBase_ValueError hC T hx hc (Jw X O hx hc hq))
theorem Pb {tk:Tok}{fill expr:Bool}{Q:Value->Shared->Prop}(X:K.In h)(O:ExI K C)(hx:h.get? a=some o)(hc:o.cls=.ref C)(hq:Q (.ref C) ⟨h,g,d,t,os⟩) :
  wpAny (model prog w) A (getAttrBy (.ref a) (.str "__class__" tk) fill expr) Q E ⟨h,g,d,t,os⟩:=by
 obtain ⟨nm,q,N,bs,bm,hdct,sn,sub,ab,col,dd,k0,k1,k2,k3,k5,mN,Oe⟩:=O.ex.ex
 obtain ⟨hC,hN,hmN,T⟩:=Oe h X
 have FB:=PySem.F.attrBase_ValueError
 have f3:=FB.ga.bind (.ref a)
 have hx0:(expr && onTheHeap (Value.builtin "BaseException.__getattribute__"))=false:=by cases expr<;>rfl
 have hx2:(Value.builtin "BaseException.__getattribute__" == Value.builtin "object.__getattribute__")=false:=by decide +kernel
 have hx1:(onTheHeap (Value.ref C) && Value.builtin "BaseException.__getattribute__" == Value.builtin "object.__getattribute__")=false:=by rw [hx2];rfl
 have hm1:("__getattribute__":Str)∈quietNames:=.tail _ (.head _)
 have hm2:("__getattr__":Str)∈quietNames:=.tail _ (.tail _ (.head _))
 repeat (any_goals (first | assumption | (with_reducible refine wpAny_loadPart_at hx ?_;rw [hc]) | with_reducible refine wpAny_typeLookup_tailQ hm1 hC hN hmN T FB.mro FB.ga.lookup ?_ | with_reducible refine wpAny_typeLookup_tailQ hm2 hC hN hmN T FB.mro FB.noGetattr ?_ | wp_step))
 refine KL X O hx hc ?_
 repeat (any_goals (first | assumption | wp_step))
theorem KN {Q:Option Value->Shared->Prop}(X:K.In h)(O:ExI K C)(hx:h.get? a=some o)(hc:o.cls=.ref C)(hq:Q (some (.ref C)) ⟨h,g,d,t+1,os⟩) :
  wpAny (model prog w) A (getAttr? (.ref a) "__class__") Q E ⟨h,g,d,t,os⟩:=by
 unfold getAttr? getAttrBy?
 repeat (any_goals (first | assumption | with_reducible apply Pb X O hx hc | wp_step))
theorem KO (O:ExI K C):KitX K (.ref a) (.ref C) (fun h=>∃o vs,h.get? a=some o/\o.cls=.ref C/\o.data=.fields vs) where
 ty:=fun _ _ _ ⟨o,vs,h1,h2,_⟩=>h2▸(Looks.ld h1).andThen .now
 it:=fun M h X _=>by
  obtain ⟨nm,q,N,bs,bm,hdct,sn,sub,ab,col,dd,k0,k1,k2,k3,k5,mN,Oe⟩:=O.ex.ex
  obtain ⟨hC,_⟩:=Oe h X
  intro A' Q' E' s' k q
  unfold isType loadHead
  exact wpAny_bind (wpAny_loadPart (k _ _ hC) (wpAny_pure q))
 ne:=fun h tp dd its n sl X htp=>by
  obtain ⟨nm,q,N,bs,bm,hdct,sn,sub,ab,col,dd',k0,k1,k2,k3,k5,mN,Oe⟩:=O.ex.ex
  obtain ⟨hC,_⟩:=Oe h X
  refine Bool.eq_false_iff.mpr fun q=>?_
  have e:C=tp:=Value.ref.inj (beq_iff_eq.mp q)
  subst e
  have z:=congrArg Obj.data (Option.some.inj (hC.symm.trans htp))
  exact nomatch z
 ca:=fun {_ _ _ _ _ s} X ⟨o,vs,h1,h2,_⟩ k=>by
  obtain ⟨h,g,d,t,os⟩:=s
  exact KN X O h1 h2 k
end
noncomputable def Jx:V->Value
 | .ref a=>.ref a
 | .ty n=>.type n
 | _=>.none
noncomputable def MA (K:Frag):List V->Hp->VK->Prop:=fun xs H Q=>∃y c C b,xs=[.ref y,c]/\Jx c≠.none/\H y=some (My y (.ref C))/\ExI K C/\kitOne K (.ref C) (Jx c)=some b/\Q (.bl b) H
theorem Fb {X:Cx}:kG X (.builtin "isinstance") (MA X.K):=by
 intro pins s σ H xs us Q I r h
 obtain ⟨y,c,C,b,rfl,hc,hy,O,e,q⟩:=h
 obtain ⟨u,v,rfl,ru,rv⟩:=E4 r
 cases ru
 have hv:v=Jx c:=by
  cases c with
  | ref a=>exact rv
  | ty n=>exact rv
  | _=>exact absurd rfl hc
 rw [hv]
 obtain ⟨φ,_,_⟩:=I.hok y _ hy
 exact kia_one (KO O) I.kIn φ e (fun z=>nomatch z) fun tk=>⟨.bl b,H,I.tok tk,rfl,q⟩
end L2
namespace L2
open PySem PySem.Spec PyProof.Rows
theorem eT {X:Cx}{x:Str}{v:V}{pos:Pos}(hg:Gl X x)(h:∃u,X.mg x=some u/\cq v u)(hd:(x == ("__debug__":Str))=false:=by decide):PE X (.Name x pos) (tC v):=
 let ⟨_,hm,r⟩:=h
 DV hg hm r hd
theorem MB {K:PySem.W.Frag}{H:Hp}{Q:VK}{y C:Addr}{c:V}{b:Bool}(hy:H y=some (My y (.ref C)))(O:ExI K C)(e:PySem.W.kitOne K (.ref C) (Jx c)=some b)(hc:Jx c≠.none)(q:Q (.bl b) H):MA K [.ref y,c] H Q:=
 ⟨y,c,C,b,rfl,hc,hy,O,e,q⟩
theorem v7 {a:Addr}:Jx (.ref a)≠.none:=by intro h;cases h
noncomputable def eqL:List V->List V->Bool
 | [],[]=>true
 | x::xs,y::ys=>eqV x y && eqL xs ys
 | _,_=>false
theorem zL:∀{xs ys:List V},eqL xs ys=true->xs.length=ys.length
 | [],[],_=>rfl
 | _::_,_::_,h=>by
  unfold eqL at h
  rw [Bool.and_eq_true] at h
  simp [zL h.2]
 | [],_::_,h=>by cases h
 | _::_,[],h=>by cases h
noncomputable def Pc (K:PySem.W.Frag):R2:=fun x y H Q=>∃a b xs ys,x=.ref a/\y=.ref b/\SqL K H a xs/\SqL K H b ys/\xs.all cL=true/\ys.all cL=true/\Q (.bl (eqL xs ys)) H
theorem zM:∀{xs ys:List V},xs.length=ys.length->(List.range xs.length).all (fun j=>eqV (xs.getD j .non) (ys.getD j .non))=eqL xs ys
 | [],[],_=>rfl
 | x::xs,y::ys,h=>by
  have ih:=zM (xs:=xs) (ys:=ys) (by simpa using h)
  rw [List.length_cons,List.range_succ_eq_map,List.all_cons,List.all_map]
  show (eqV x y && (List.range xs.length).all (fun j=>eqV (xs.getD j .non) (ys.getD j .non)))=(eqV x y && eqL xs ys)
  rw [ih]
 | [],_::_,h=>by simp at h
 | _::_,[],h=>by simp at h
theorem Pd {X:Cx}(hu:X.A.units < cLine):OpR X (compareOp .Eq) (Pc X.K):=by
 intro pins s σ H x y u v Q I rx ry h
 obtain ⟨a,b,xs,ys,rfl,rfl,ha,hb,fa,fb,q⟩:=h
 cases rx;cases ry
 obtain ⟨ia,ra,pa,za⟩:=I.list ha
 obtain ⟨ib,rb,pb,zb⟩:=I.list hb
 have la:=ra.length
 have lb:=rb.length
 by_cases hl:xs.length=ys.length
 ·refine PySem.SeqAt.eq_listAt (e:=fun j=>eqV (xs.getD j .non) (ys.getD j .non)) pa.isList pb.isList (by simp only [List.size_toArray];omega) hu (fun j h1 h2=>?_) ?_
  ·simp only [List.size_toArray] at h1 h2
   have hx:xs[j]?=some (xs.getD j .non):=by
    rw [List.getD_eq_getElem?_getD,List.getElem?_eq_getElem (by omega)];rfl
   have hy:ys[j]?=some (ys.getD j .non):=by
    rw [List.getD_eq_getElem?_getD,List.getElem?_eq_getElem (by omega)];rfl
   obtain ⟨u,eu,ru⟩:=ra.get hx
   obtain ⟨v,ev,rv⟩:=rb.get hy
   have e1:ia.toArray[j]=u:=by
    have:=List.getElem?_eq_some_iff.mp eu
    simpa using this.2
   have e2:ib.toArray[j]=v:=by
    have:=List.getElem?_eq_some_iff.mp ev
    simpa using this.2
   rw [e1,e2]
   exact yg ru rv (List.all_eq_true.mp fa _ (List.mem_of_getElem? hx)) (List.all_eq_true.mp fb _ (List.mem_of_getElem? hy))
  ·have e:(List.range ia.toArray.size).all (fun j=>eqV (xs.getD j .non) (ys.getD j .non))=eqL xs ys:=by
    rw [List.size_toArray,←la]
    exact zM hl
   rw [e]
   exact ⟨.bl (eqL xs ys),H,I,rfl,q⟩
 ·refine PySem.SeqAt.eq_list_lengthsAt pa.isList pb.isList (by simp only [List.size_toArray,bne_iff_ne,ne_eq];omega) hu ?_
  have e:eqL xs ys=false:=by
   cases z:eqL xs ys with
   | false=>rfl
   | true=>exact absurd (zL z) hl
  rw [e] at q
  exact ⟨.bl false,H,I,rfl,q⟩
noncomputable def RA (K:PySem.W.Frag)(te:TE)(ts:TO):TE:=fun σ H Q=>te σ H fun x H1=>ts σ H1 fun k H2=>k=some (-1)/\∃a xs,x=.ref a/\SqL K H2 a xs/\∀p,H2 p=none->Q (.ref p) (upd H2 p (.lst xs.reverse))
end L2
namespace L2
theorem cM.of {ds:List Int}(l2:2<=ds.length)(l6:ds.length<=6)(b:∀i,i < ds.length->0<=ds.getD i 0/\ds.getD i 0<=500)(u:∀i,i+1 < ds.length->ds.getD i 0 < ds.getD (i+1) 0):cM ds:=by
 have get:∀i (h:i < ds.length),ds[i]=ds.getD i 0:=fun i h=>by rw [List.getD_eq_getElem?_getD,List.getElem?_eq_getElem h];rfl
 have up:∀k i,i+k+1 < ds.length->ds.getD i 0 < ds.getD (i+k+1) 0:=by
  intro k
  induction k with
  | zero=>intro i h;exact u i h
  | succ k ih=>
   intro i h
   have h1:=ih i (by omega)
   have h2:=u (i+k+1) (by omega)
   rw [show i+(k+1)+1=i+k+1+1 by omega]
   omega
 refine ⟨l2,l6,fun d hd=>?_,fun d hd=>?_,List.pairwise_iff_getElem.mpr fun i j hi hj hij=>?_⟩
 ·obtain ⟨i,hi,rfl⟩:=List.getElem_of_mem hd
  rw [get i hi];exact (b i hi).1
 ·obtain ⟨i,hi,rfl⟩:=List.getElem_of_mem hd
  rw [get i hi];exact (b i hi).2
 ·rw [get i hi,get j hj]
  have:=up (j - i - 1) i (by omega)
  rw [show i+(j - i - 1)+1=j by omega] at this
  exact this
end L2
namespace L2
end L2
namespace L2
open PySem PySem.W PySem.Spec PyProof.Rows
noncomputable def Ac:V->Option String
 | .non=>some "NoneType"
 | .bl _=>some "bool"
 | .int _=>some "int"
 | .str _=>some "str"
 | _=>none
def TyX (K:Frag)(H:Hp)(x:V)(T:String):Prop:=Ac x=some T\/(∃a xs,x=.ref a/\SqL K H a xs/\T="list")\/∃a xs,x=.ref a/\SqT K H a xs/\T="tuple"
noncomputable def nu:List String:=["NoneType","bool","int","str","list","tuple"]
noncomputable def Fc (T n:String):Bool:=T == n || (T == "bool" && n == "int")
theorem IB {K:Frag}{T n:String}(hT:T∈nu)(hn:n∈nu):kitOne K (.type T) (.type n)=some (Fc T n):=by
 simp only [nu,List.mem_cons,List.not_mem_nil,or_false] at hT hn
 rcases hT with rfl | rfl | rfl | rfl | rfl | rfl<;>rcases hn with rfl | rfl | rfl | rfl | rfl | rfl<;>with_unfolding_all rfl
theorem IC {K:Frag}{T:String}(hT:T∈nu):∀{ns:List String},(∀n∈ns,n∈nu)->kitAny K (.type T) (ns.map Value.type)=some (ns.any (Fc T))
 | [],_=>rfl
 | n::r,h=>by
  have ih:=IC (K:=K) hT (ns:=r) fun m hm=>h m (List.mem_cons_of_mem _ hm)
  rw [List.map_cons,List.any_cons]
  unfold kitAny
  rw [IB hT (h n List.mem_cons_self)]
  cases e:Fc T n with
  | true=>rfl
  | false=>rw [Bool.false_or];exact ih
section
variable {X:Cx}{pins:List (Addr×Obj)}{σ:St}{H:Hp}{s:Shared}
theorem CF {K:Frag}{x:V}{T:String}(h:TyX K H x T):T∈nu:=by
 rcases h with h | ⟨_,_,_,_,rfl⟩ | ⟨_,_,_,_,rfl⟩
 ·cases x<;>simp only [Ac,Option.some.injEq,reduceCtorEq] at h<;>subst h<;>decide
 ·decide
 ·decide
theorem Fd (I:Inv X pins σ H s){x:V}{u:Value}{T:String}(rx:cq x u)(ty:TyX X.K H x T):∃φ:Heap->Prop,KitX X.K u (.type T) φ/\φ s.heap/\u≠.builtin "__main__.__loader__#opaque":=by
 rcases ty with h | ⟨a,xs,rfl,h,rfl⟩ | ⟨a,xs,rfl,h,rfl⟩
 ·cases x with
  | non=>cases rx;cases h;exact ⟨_,kitx_none,trivial,fun z=>nomatch z⟩
  | bl b=>cases rx;cases h;exact ⟨_,kitx_bool,trivial,fun z=>nomatch z⟩
  | int i=>obtain ⟨t,rfl⟩:=rx;cases h;exact ⟨_,kitx_int,trivial,fun z=>nomatch z⟩
  | str i=>obtain ⟨t,rfl⟩:=rx;cases h;exact ⟨_,kitx_str,trivial,fun z=>nomatch z⟩
  | _=>cases h
 ·cases rx
  obtain ⟨its,r,pl,hz⟩:=I.list h
  obtain ⟨o,ho,hc,_⟩:=pl.isList
  exact ⟨_,kitx_list,⟨o,ho,hc⟩,fun z=>nomatch z⟩
 ·cases rx
  obtain ⟨its,r,⟨o,ho,hc,_⟩,hz⟩:=I.tuple h
  exact ⟨_,kitx_tuple,⟨o,ho,hc⟩,fun z=>nomatch z⟩
noncomputable def QO (K:Frag):List V->Hp->VK->Prop:=fun xs H Q=>∃x n T,xs=[x,.ty n]/\TyX K H x T/\n∈nu/\Q (.bl (Fc T n)) H
theorem lX:kG X (.builtin "isinstance") (QO X.K):=by
 intro pins s σ H xs us Q I r h
 obtain ⟨x,n,T,rfl,ty,hn,q⟩:=h
 obtain ⟨u,v,rfl,ru,rv⟩:=E4 r
 cases rv
 obtain ⟨φ,Z,p,ne⟩:=Fd I ru ty
 exact kia_one Z I.kIn p (IB (CF ty) hn) ne fun tk=>⟨.bl _,H,I.tok tk,rfl,q⟩
noncomputable def QP (K:Frag):List V->Hp->VK->Prop:=fun xs H Q=>∃(x:V) (tp:Addr) (ns:List String) (T:String),xs=[x,.ref tp]/\SqT K H tp (ns.map V.ty)/\TyX K H x T/\(∀n∈ns,n∈nu)/\Q (.bl (ns.any (Fc T))) H
theorem ID:∀{ns:List String} {its:List Value},bJ (ns.map V.ty) its->its=ns.map Value.type
 | [],_,h=>by cases h;rfl
 | n::r,_,h=>by
  cases h with
  | cons a b=>rw [ID b];cases a;rfl
theorem yi:kG X (.builtin "isinstance") (QP X.K):=by
 intro pins s σ H xs us Q I r h
 obtain ⟨x,tp,ns,T,rfl,ht,ty,hn,q⟩:=h
 obtain ⟨u,v,rfl,ru,rv⟩:=E4 r
 cases rv
 obtain ⟨φ,Z,p,ne⟩:=Fd I ru ty
 obtain ⟨its,rt,⟨o,ho,hc,n,hd⟩,hz⟩:=I.tuple ht
 obtain rfl:=ID rt
 obtain ⟨c,d,dt,sl⟩:=o
 dsimp only at hc hd
 subst hc hd
 exact kia_tup Z I.kIn p ho (IC (CF ty) hn) ne fun tk=>⟨.bl _,H,I.tok tk,rfl,q⟩
end
inductive Dt where
 | flat (v:V)
 | lst (ds:List Dt)
 | tup (ds:List Dt)
inductive Rep (K:Frag)(H:Hp):Nat->V->Dt->Prop
 | flat {n:Nat} {v:V} (h:cL v=true):Rep K H n v (.flat v)
 | lst {n:Nat} {a:Addr} {xs:List V} {ds:List Dt} (hs:SqL K H a xs) (hb:xs.length<=100000) (hl:xs.length=ds.length) (hr:∀(i:Nat) x d,xs[i]?=some x->ds[i]?=some d->Rep K H n x d):Rep K H (n+1) (.ref a) (.lst ds)
 | tup {n:Nat} {a:Addr} {xs:List V} {ds:List Dt} (hs:SqT K H a xs) (hb:xs.length<=100000) (hl:xs.length=ds.length) (hr:∀(i:Nat) x d,xs[i]?=some x->ds[i]?=some d->Rep K H n x d):Rep K H (n+1) (.ref a) (.tup ds)
theorem av.tup {K:Frag}{H H':Hp}{a:Addr}{xs:List V}(e:av H H')(h:SqT K H a xs):SqT K H' a xs:=by
 rcases h with (h | ⟨o,h⟩) | h
 ·exact .inl (.inl (e _ _ h))
 ·exact .inl (.inr ⟨o,e _ _ h⟩)
 ·exact .inr h
theorem Rep.same {K:Frag}{H H':Hp}(s:av H H'){n:Nat}{x:V}{d:Dt}(h:Rep K H n x d):Rep K H' n x d:=by
 induction h with
 | flat h=>exact .flat h
 | lst hs hb hl _ ih=>exact .lst (s.seq hs) hb hl ih
 | tup hs hb hl _ ih=>exact .tup (s.tup hs) hb hl ih
theorem KP {P:Program}{w:World}{K:Frag}{mg:Str->Option Value}{base:Heap}{CX:CXT}{k:Nat}{f:Addr}{fd:FuncData}{ps:List Str}:aI P w K mg base CX k f fd ps (fun _ _ _ _=>False):=
 ⟨fun _ _ _ _ h=>h.elim,fun _ _ _ _ _ _ _ _ _ _ _ _ _ h=>h.elim⟩
theorem pP {α:Type}{xs:List α}{k:Nat}{v:α}(h:xs[k]?=some v):atI xs (k:Int)=some v:=Ir h
end L2
namespace L2
open PySem PySem.Spec PyProof.Rows
noncomputable abbrev Ld:=Str×Int×Int
noncomputable def ldV (x:Ld):List V:=[.str x.1,.int x.2.1,.int x.2.2]
def n6 (K:PySem.W.Frag)(H:Hp)(as:List Addr)(ls:List Ld):Prop:=as.length=ls.length/\∀(i:Nat) a x,as[i]?=some a->ls[i]?=some x->SqT K H a (ldV x)
def iX (K:PySem.W.Frag)(H:Hp)(l:Addr)(ls:List Ld):Prop:=∃as:List Addr,SqL K H l (as.map V.ref)/\n6 K H as ls
def l4 (m:Int)(x:Ld):Prop:=(0<=x.2.1/\x.2.1 < m)/\(0<=x.2.2/\x.2.2 < m)
def He (x:Ld):Prop:=x.1="men"\/x.1="coal"
theorem n6.same {K:PySem.W.Frag}{H H':Hp}{as:List Addr}{ls:List Ld}(s:av H H')(h:n6 K H as ls):n6 K H' as ls:=⟨h.1,fun i a x e1 e2=>s.tup (h.2 i a x e1 e2)⟩
theorem iX.same {K:PySem.W.Frag}{H H':Hp}{l:Addr}{ls:List Ld}(s:av H H')(h:iX K H l ls):iX K H' l ls:=by
 obtain ⟨as,a,b⟩:=h
 exact ⟨as,s.seq a,b.same s⟩
theorem n6.nil {K:PySem.W.Frag}{H:Hp}:n6 K H [] []:=⟨rfl,fun i a x e _=>by simp at e⟩
theorem n6.app {K:PySem.W.Frag}{H:Hp}{as bs:List Addr}{ls ks:List Ld}(h:n6 K H as ls)(g:n6 K H bs ks):n6 K H (as++bs) (ls++ks):=by
 refine ⟨by rw [List.length_append,List.length_append,h.1,g.1],fun i a x e1 e2=>?_⟩
 by_cases hi:i < as.length
 ·rw [List.getElem?_append_left hi] at e1
  rw [List.getElem?_append_left (by rw [←h.1];exact hi)] at e2
  exact h.2 i a x e1 e2
 ·rw [List.getElem?_append_right (by omega)] at e1
  rw [List.getElem?_append_right (by rw [←h.1];omega),←h.1] at e2
  exact g.2 _ a x e1 e2
theorem n6.one {K:PySem.W.Frag}{H:Hp}{a:Addr}{x:Ld}(h:SqT K H a (ldV x)):n6 K H [a] [x]:=by
 refine ⟨rfl,fun i b y e1 e2=>?_⟩
 cases i with
 | zero=>cases e1;cases e2;exact h
 | succ i=>simp at e1
theorem SqT.rew {K:PySem.W.Frag}{H:Hp}{a l:Addr}{xs ys:List V}{o:HO}(h:SqT K H a xs)(hl:H l=some (.lst ys)):SqT K (upd H l o) a xs:=by
 rcases h with (h | ⟨o',h⟩) | h
 ·refine .inl (.inl ?_)
  rw [aV (fun e=>by rw [e,hl] at h;cases h)];exact h
 ·refine .inl (.inr ⟨o',?_⟩)
  rw [aV (fun e=>by rw [e,hl] at h;cases h)];exact h
 ·exact .inr h
theorem n6.rew {K:PySem.W.Frag}{H:Hp}{as:List Addr}{ls:List Ld}{l:Addr}{ys:List V}{o:HO}(h:n6 K H as ls)(hl:H l=some (.lst ys)):n6 K (upd H l o) as ls:=⟨h.1,fun i a x e1 e2=>(h.2 i a x e1 e2).rew hl⟩
theorem KQ {r:Int}(h0:0<=r)(h1:r < 2):∃k:Str,(k="men"\/k="coal")/\atI [V.str "men",V.str "coal"] r=some (.str k):=by
 rcases (by omega:r=0\/r=1) with rfl | rfl
 ·exact ⟨"men",.inl rfl,rfl⟩
 ·exact ⟨"coal",.inr rfl,rfl⟩
theorem yj {J:It}{g:TG}{tc:TT}{te:TE}{cm:List (Option Nat)}{σ:St}{Q:VK}{H:Hp}(n:Nat)(Pv:Nat->List V->Hp->Prop)(h0:Pv 0 [] H)
  (hgo:∀i acc H,i < n->Pv i acc H->J.go i H) (hst:∀acc H,Pv n acc H->J.stop n H)
  (hs:∀i acc H,i < n->Pv i acc H->acc.length < sizeLine/\∀x H',J.yld i H x H'->∀M:List V->Hp->Prop,(∀acc' H',Pv (i+1) acc' H'->M acc' H')->g x (cK cm σ) H' fun σ2 H2=>Wk (cK cm σ) σ2/\tc σ2 H2 fun b H3=>if b=true then te σ2 H3 fun v H4=>M (acc++[v]) H4 else M acc H3)
  (hd:∀acc H,Pv n acc H->∀p,H p=none->Q (.ref p) (upd H p (.lst acc))):vY J g tc te cm σ Q H:=by
 refine ⟨fun i m acc H=>m=n - i/\i<=n/\Pv i acc H,⟨n,by simp,Nat.zero_le _,h0⟩,?_⟩
 rintro i m acc H ⟨rfl,hi,p⟩
 by_cases hlt:i < n
 ·obtain ⟨hz,q⟩:=hs i acc H hlt p
  refine .inr ⟨hgo i acc H hlt p,hz,fun x H' y=>q x H' y (fun acc' H4=>∃m',m' < n - i/\m'=n - (i+1)/\i+1<=n/\Pv (i+1) acc' H4) fun acc' H4 q=>⟨n - (i+1),by omega,rfl,hlt,q⟩⟩
 ·have e:i=n:=by omega
  subst e
  exact .inl ⟨hst acc H p,hd acc H p⟩
theorem KR {σ:St}{j:Nat}{x:V}(hj:σ[j]?=some none):Wk σ (σ.set j (some x)):=by
 refine ⟨by simp,fun k v e=>?_⟩
 by_cases hk:j=k
 ·subst hk;rw [hj] at e;cases e
 ·rw [List.getElem?_set_ne hk];exact e
theorem v8 {lo:Int}{n:Nat}{te:TE}{cm:List (Option Nat)}{σ:St}{H:Hp}{Q:VK}(Pv:Nat->List V->Hp->Prop)(h0:Pv 0 [] H){j:Nat}(hj:(cK cm σ)[j]?=some none)
  (hs:∀i acc H,i < n->Pv i acc H->acc.length < sizeLine/\∀N:VK,(∀v H',Pv (i+1) (acc++[v]) H'->N v H')->te ((cK cm σ).set j (some (.int (lo+i)))) H N)
  (hd:∀acc H,Pv n acc H->∀p,H p=none->Q (.ref p) (upd H p (.lst acc))):vY (Itr lo n) (g9 j) zv te cm σ Q H:=by
 refine yj n Pv h0 (fun i _ _ hi _=>hi) (fun _ _ _=>Nat.le_refl _) (fun i acc H hi p=>⟨(hs i acc H hi p).1,fun x H' y M hM=>?_⟩) hd
 obtain ⟨e,y⟩:=y
 subst e y
 refine ⟨KR hj,?_⟩
 unfold zv;dsimp only
 split
 ·exact (hs i acc H' hi p).2 _ fun v H4 q=>hM _ _ q
 ·rename_i z;exact absurd rfl z
theorem gO {K:PySem.W.Frag}{H:Hp}{a:Addr}{xs:List V}{n:Nat}(h:SqT K H a xs)(hb:xs.length<=100000)(hf:∀x∈xs,cL x=true):Rep K H (n+1) (.ref a) (.tup (xs.map Dt.flat)):=by
 refine .tup h hb (by rw [List.length_map]) fun i y d e1 e2=>?_
 rw [List.getElem?_map,e1] at e2
 cases e2
 exact .flat (hf y (List.mem_of_getElem? e1))
section
variable {X:Cx}{e:Expr}{te:TE}{p1 p2 pos1 pos2:Pos}
noncomputable def KS (K:PySem.W.Frag)(te:TE):TE:=fun σ H Q=>te σ H fun x H1=>∃(a:Addr) (ns:List Int),x=.ref a/\SqL K H1 a (ns.map V.int)/\ns.length < 64/\
 ∀(l:Addr) (ms:List Int),H1 l=none->ms.Pairwise (· < ·)->(∀k,k∈ms↔k∈ns)->Q (.ref l) (upd H1 l (.lst (ms.map V.int)))
theorem CG:∀{vs:List Value} {ms:List Int},IntsAre vs ms->bJ (ms.map V.int) vs
 | _,_,.nil=>.nil
 | _,_,.cons n t h=>.cons ⟨t,rfl⟩ (CG h)
theorem tI:∀{ms:List Int} {vs:List Value},bJ (ms.map V.int) vs->IntsAre vs ms
 | [],_,h=>by cases h;exact .nil
 | m::ms,_,h=>by
  cases h with
  | cons a b=>
   obtain ⟨t,rfl⟩:=a
   exact .cons m t (tI b)
end
section
variable {X:Cx}
theorem Inv.turnedL {pins:List (Addr×Obj)}{σ:St}{H:Hp}{s:Shared}{h':Heap}{t':Nat}{fp:List Addr}(I:Inv X pins σ H s)(k:∀b o,b∉fp->s.heap.get? b=some o->h'.get? b=some o)(hf:∀b∈fp,qU X pins H b) :
  Inv X pins σ H {s with heap:=h',toks:=t'}:=by
 have nit:∀b u,H b=some u->b∉fp:=fun b u e z=>by rw [(hf b z).1] at e;cases e
 refine I.step (g':=s.gens) (d':=s.drawn) (ch:=fp) (fun b hb=>⟨(hf b hb).2.2.2.1,(hf b hb).2.1,(hf b hb).2.2.2.2.1,(hf b hb).2.2.2.2.2⟩) (fun b o _ _ hc e _=>k b o hc e) (fun b o _ _ hc e _=>⟨o.slots,k b o hc e⟩) (fun _ _ _ _ n=>n)
  (fun b o hc e=>⟨o,k b o hc e⟩) (fun _ _ e=>e) (fun _ _ _ e=>e) (fun b ps e=>⟨#[],by rw [e];simp⟩) (fun m hm=>?_) (fun b u e=>?_) I.bare
 ·obtain ⟨o,es,ep,ho,r⟩:=hm
  exact ⟨o,es,ep,k _ o (fun z=>(hf _ z).2.1 rfl) ho,r⟩
 ·refine (I.hok b u e).stay (fun c v hc q=>k c v ?_ q) (fun _ q=>q) fun _ _ q=>q
  rcases hc with z | z
  ·exact z▸nit b u e
  ·exact nit c _ z
theorem Inv.handed {pins:List (Addr×Obj)}{σ:St}{H:Hp}{s:Shared}{h':Heap}{t':Nat}{fp:List Addr}{xs:List V}{us:List Value}{T:Addr}{n:Nat}(I:Inv X pins σ H s)(k:∀b o,b∉fp->s.heap.get? b=some o->h'.get? b=some o)(hf:∀b∈fp,qU X pins H b)
  (hT:s.heap.objs.size<=T) (hz:xs.length<=sizeLine) (r:bJ xs us) (e:h'.get? T=some {cls:=.type "tuple",data:=.seq us.toArray n}):Inv X pins σ (upd H T (.tup xs)) {s with heap:=h',toks:=t'}:=by
 have I1:Inv X pins σ H {s with heap:=h',toks:=t'}:=I.turnedL k hf
 have hn:H T=none:=I.hok.fresh hT
 obtain ⟨f0,f1,f2,f3,f4,f5⟩:=I.fpOk hT hn
 have h0:X.s₀.heap.objs.size<=T:=Nat.le_trans I.sz hT
 exact I1.track hn h0 f1 f4 f5 ⟨hz,us,r,⟨_,e,⟨rfl,_,rfl⟩,rfl⟩⟩
noncomputable def Ite (K:PySem.W.Frag)(a:Addr):It:=
 ⟨fun i H=>∃xs x,SqL K H a xs/\xs[i]?=some x,fun i H y H'=>∃t x,y=.ref t/\H t=none/\H'=upd H t (.tup [.int (i:Nat),x])/\∀xs,SqL K H a xs->xs[i]?=some x,fun i H=>∃xs,SqL K H a xs/\xs.length<=i⟩
theorem Jy {P:Program}{w:World}{K:PySem.W.Frag}{elts:List Expr}{x1:Nat}{tpos:Pos}(a e it:Addr)(hne:e≠it):Kk P w K (.Tuple elts x1 tpos) (Ite K a) [e,it] e (fun i h=>(∃old,IsEnum h e it (i:Nat) old)/\h.IsListIter it a i) where
 mem:=by simp
 obj:=fun i h st b hb=>by
  obtain ⟨⟨old,h1⟩,o,h2,_,h3⟩:=st
  rcases List.mem_cons.mp hb with rfl | hb
  ·exact ⟨_,h1,fun v z=>by
    have z':Data.fields _=Data.cell v:=z
    cases z'⟩
  ·rw [List.mem_singleton] at hb
   subst hb
   exact ⟨o,h2,fun v z=>by rw [h3] at z;cases z⟩
 keep:=fun i h h' st k=>by
  obtain ⟨⟨old,h1⟩,h2⟩:=st
  exact ⟨⟨old,k e (by simp) _ h1⟩,h2.at fun o q=>k it (by simp) o q⟩
 item:=by
  intro X hP hw hK hc i pins s σ H E I hf st hg
  subst hP hw hK
  obtain ⟨xs,x,hq,hx⟩:=hg
  obtain ⟨its,rv,p,hz⟩:=I.list hq
  obtain ⟨u,hu,ru⟩:=rv.get hx
  obtain ⟨⟨old,h1⟩,h2⟩:=st
  have hel:e < s.heap.objs.size:=Heap.lt_size h1
  have hil:it < s.heap.objs.size:=by
   obtain ⟨o,q,_⟩:=h2
   exact Heap.lt_size q
  refine wpAny_pyNext_enum_item h1 h2 p.isList (x:=u) (by simpa using hu) hne fun h' g1 g2 g3 g4 g5=>?_
  have kf:∀b o,b∉[e,it]->s.heap.get? b=some o->h'.get? b=some o:=fun b o hb q=>g5 b o (fun z=>hb (by simp [z])) (fun z=>hb (by simp [z])) q
  have I1:Inv X pins σ (upd H s.heap.objs.size (.tup [.int (i:Nat),x])) {s with heap:=h',toks:=s.toks+1}:=I.handed (us:=[Value.int (i:Nat) s.toks,u]) kf hf (Nat.le_refl _) (by show 2<=sizeLine;decide) (.cons ⟨_,rfl⟩ (.cons ru .nil)) g3
  have hn:H s.heap.objs.size=none:=I.hok.fresh (Nat.le_refl _)
  have hf1:∀b∈[e,it],upd H s.heap.objs.size (.tup [.int (i:Nat),x]) b=none:=fun b hb=>by
   have hlt:b < s.heap.objs.size:=by
    rcases List.mem_cons.mp hb with rfl | hb
    ·exact hel
    ·rw [List.mem_singleton] at hb
     subst hb
     exact hil
   rw [aV (Nat.ne_of_lt hlt)]
   exact (hf b hb).1
  refine ⟨_,rfl,wpAny_letOwnedTupleGo_enum (s:={s with heap:=h',toks:=s.toks+1}) g1 fun h2' q1 q2=>?_⟩
  have I2:Inv X pins σ (upd H s.heap.objs.size (.tup [.int (i:Nat),x])) {s with heap:=h2',toks:=s.toks+1}:=I1.turnedL (s:={s with heap:=h',toks:=s.toks+1}) (t':=s.toks+1) (fp:=[e,it]) (fun b o hb q=>(q2.2 b (fun z=>hb (by simp [z]))).trans q) fun b hb=>⟨hf1 b hb,(hf b hb).2⟩
  refine ⟨.ref s.heap.objs.size,_,I2,rfl,⟨_,x,rfl,hn,rfl,fun ys hy=>by rw [I.list_inj hy hq];exact hx⟩,⟨⟨u,?_⟩,?_⟩,hf1⟩
  ·have:((i+1:Nat):Int)=(i:Int)+1:=by omega
   rw [this]
   exact q1
  ·exact g2.at fun o q=>(q2.2 it (Ne.symm hne)).trans q
 done:=by
  intro X hP hw hK hc i pins s σ H E I hf st hg
  subst hP hw hK
  obtain ⟨xs,hq,hx⟩:=hg
  obtain ⟨its,rv,p,hz⟩:=I.list hq
  have hl:=rv.length
  obtain ⟨⟨old,h1⟩,h2⟩:=st
  exact wpAny_pyNext_enum_end (I.ok.hd hc) h1 h2 p.isList (by simp;omega) fun h' eb=>⟨rfl,I.turnedL (t':=s.toks) (fun b o hb q=>eb b o (fun z=>hb (by simp [z])) q) hf⟩
 self:=fun _ _ _ _ _ st h=>by
  obtain ⟨⟨old,h1⟩,h2⟩:=st
  exact wpAny_pyIter_enum h1 h
noncomputable def N6 (K:PySem.W.Frag)(te:TE):TI:=fun σ H R=>te σ H fun x H1=>∃a,x=.ref a/\(∃xs,SqL K H1 a xs)/\R (Ite K a) H1
theorem El {a:Expr}{te:TE}{p pos tpos:Pos}{elts:List Expr}{x1:Nat}(hg:Gl X "enumerate")(hm:X.mg "enumerate"=none)(hb:bootBuiltins "enumerate"=some (.type "enumerate"))(he:PE X a te)(hs:starEach [a] X.env=[(false,eval a X.env)]:=by rfl) :
  PI X (.Tuple elts x1 tpos) (.Call (.Name "enumerate" p) [a] [] pos) (N6 X.K te):=by
 intro pins s σ H R I h
 refine Call_ (vo I hg hm hb (PyProof.Rows.callWith_type1 ?_ hs rfl))
 rw [hs]
 refine Calls.spliced_cons (thn (he pins s σ H _ I h) fun u s1 ⟨x,H1,I1,r1,l,ex,⟨xs,hq⟩,q⟩=>?_)
 subst ex
 cases r1
 refine Calls.spliced_nil ?_
 obtain ⟨its,rv,pl,hz⟩:=I1.list hq
 refine call_enumerate_list pl.isList fun h' h1 h2 h3 h4=>?_
 refine wpAny_pyIter_enum h1 ?_
 have hne:s1.heap.objs.size+1≠s1.heap.objs.size:=Nat.ne_of_gt (Nat.lt_succ_self _)
 refine ⟨s1.heap.objs.size+1,[s1.heap.objs.size+1,s1.heap.objs.size],_,_,H1,rfl,I1.kept (t':=s1.toks) h4,Jy l _ _ hne,⟨⟨_,h1⟩,h2⟩,fun b hb=>?_,q⟩
 rcases List.mem_cons.mp hb with rfl | hb
 ·exact I1.fpOk (Nat.le_succ _) (I1.hok.fresh (Nat.le_succ _))
 ·rw [List.mem_singleton] at hb
  subst hb
  exact I1.fpOk (Nat.le_refl _) (I1.hok.fresh (Nat.le_refl _))
noncomputable def Itz (K:PySem.W.Frag)(a b:Addr):It:=
 ⟨fun i H=>∃xs ys x y,SqL K H a xs/\SqL K H b ys/\xs[i]?=some x/\ys[i]?=some y,fun i H v H'=>∃t x y,v=.ref t/\H t=none/\H'=upd H t (.tup [x,y])/\(∀xs,SqL K H a xs->xs[i]?=some x)/\∀ys,SqL K H b ys->ys[i]?=some y,
  fun i H=>∃xs ys,SqL K H a xs/\SqL K H b ys/\(xs.length<=i\/ys.length<=i)⟩
theorem KU {P:Program}{w:World}{K:PySem.W.Frag}{elts:List Expr}{x1:Nat}{tpos:Pos}(l1 l2 z TI TO i1 i2:Addr)(D:ZipApart z TI TO i1 i2 l1 l2) :
  Kk P w K (.Tuple elts x1 tpos) (Itz K l1 l2) [z,TI,TO,i1,i2] z (fun i h=>IsZip h z TI TO .none/\IsPair h TI (.ref i1) (.ref i2)/\(∃u v,IsPair h TO u v)/\h.IsListIter i1 l1 i/\h.IsListIter i2 l2 i) where
 mem:=by simp
 obj:=fun i h st b hb=>by
  obtain ⟨h1,h2,⟨u,v,h3⟩,⟨o4,h4,_,d4⟩,⟨o5,h5,_,d5⟩⟩:=st
  simp only [List.mem_cons,List.not_mem_nil,or_false] at hb
  rcases hb with rfl | rfl | rfl | rfl | rfl
  ·exact ⟨_,h1,fun v z=>by
    have z':Data.fields _=Data.cell v:=z
    cases z'⟩
  ·exact ⟨_,h2,fun v z=>by
    have z':Data.seq _ _=Data.cell v:=z
    cases z'⟩
  ·exact ⟨_,h3,fun v z=>by
    have z':Data.seq _ _=Data.cell v:=z
    cases z'⟩
  ·exact ⟨o4,h4,fun v z=>by rw [d4] at z;cases z⟩
  ·exact ⟨o5,h5,fun v z=>by rw [d5] at z;cases z⟩
 keep:=fun i h h' st k=>by
  obtain ⟨h1,h2,⟨u,v,h3⟩,h4,h5⟩:=st
  exact ⟨k z (by simp) _ h1,k TI (by simp) _ h2,⟨u,v,k TO (by simp) _ h3⟩,h4.at fun o q=>k i1 (by simp) o q,h5.at fun o q=>k i2 (by simp) o q⟩
 item:=by
  intro X hP hw hK hc i pins s σ H E I hf st hg
  subst hP hw hK
  obtain ⟨xs,ys,x,y,hq1,hq2,hx,hy⟩:=hg
  obtain ⟨its1,rv1,p1,hz1⟩:=I.list hq1
  obtain ⟨its2,rv2,p2,hz2⟩:=I.list hq2
  obtain ⟨u,hu,ru⟩:=rv1.get hx
  obtain ⟨v,hv,rv⟩:=rv2.get hy
  obtain ⟨h1,h2,⟨c1,c2,h3⟩,h4,h5⟩:=st
  have lt:∀b∈[z,TI,TO,i1,i2],b < s.heap.objs.size:=fun b hb=>by
   simp only [List.mem_cons,List.not_mem_nil,or_false] at hb
   rcases hb with rfl | rfl | rfl | rfl | rfl
   ·exact Heap.lt_size h1
   ·exact Heap.lt_size h2
   ·exact Heap.lt_size h3
   ·obtain ⟨o,q,_⟩:=h4;exact Heap.lt_size q
   ·obtain ⟨o,q,_⟩:=h5;exact Heap.lt_size q
  refine wpAny_pyNext_zip_item D h1 h2 h3 h4 h5 p1.isList p2.isList (x:=u) (y:=v) (by simpa using hu) (by simpa using hv) fun h' g1 g2 g3 g4 g5 g6 g7=>?_
  have kf:∀b o,b∉[z,TI,TO,i1,i2]->s.heap.get? b=some o->h'.get? b=some o:=fun b o hb q=>g7 b o (fun e=>hb (by simp [e])) (fun e=>hb (by simp [e])) (fun e=>hb (by simp [e])) (fun e=>hb (by simp [e])) q
  have I1:Inv X pins σ (upd H s.heap.objs.size (.tup [x,y])) {s with heap:=h',toks:=s.toks}:=I.handed (us:=[u,v]) kf hf (Nat.le_refl _) (by show 2<=sizeLine;decide) (.cons ru (.cons rv .nil)) g5
  have hn:H s.heap.objs.size=none:=I.hok.fresh (Nat.le_refl _)
  have hf1:∀b∈[z,TI,TO,i1,i2],upd H s.heap.objs.size (.tup [x,y]) b=none:=fun b hb=>by
   rw [aV (Nat.ne_of_lt (lt b hb))]
   exact (hf b hb).1
  refine ⟨_,rfl,wpAny_letOwnedTupleGo_zip (s:={s with heap:=h'}) g1 fun h2' q1 q2=>?_⟩
  have I2:Inv X pins σ (upd H s.heap.objs.size (.tup [x,y])) {s with heap:=h2',toks:=s.toks}:=I1.turnedL (s:={s with heap:=h',toks:=s.toks}) (t':=s.toks) (fp:=[z,TI,TO,i1,i2]) (fun b o hb q=>(q2.2 b (fun e=>hb (by simp [e]))).trans q) fun b hb=>⟨hf1 b hb,(hf b hb).2⟩
  have k2:∀b o,b≠z->h'.get? b=some o->h2'.get? b=some o:=fun b o hb q=>(q2.2 b hb).trans q
  have gTI:IsPair h' TI (.ref i1) (.ref i2):=g7 TI _ D.TIz D.TITO D.TIi1 D.TIi2 h2
  refine ⟨.ref s.heap.objs.size,_,I2,rfl,⟨_,x,y,rfl,hn,rfl,fun zs hz=>by rw [I.list_inj hz hq1];exact hx,fun zs hz=>by rw [I.list_inj hz hq2];exact hy⟩,⟨q1,k2 _ _ D.TIz gTI,⟨u,v,k2 _ _ D.TOz g2⟩,g3.at fun o q=>k2 _ _ D.i1z q,g4.at fun o q=>k2 _ _ D.i2z q⟩,hf1⟩
 done:=by
  intro X hP hw hK hc i pins s σ H E I hf st hg
  subst hP hw hK
  obtain ⟨xs,ys,hq1,hq2,hend⟩:=hg
  obtain ⟨its1,rv1,p1,hz1⟩:=I.list hq1
  obtain ⟨its2,rv2,p2,hz2⟩:=I.list hq2
  have hl1:=rv1.length
  have hl2:=rv2.length
  obtain ⟨h1,h2,⟨c1,c2,h3⟩,h4,h5⟩:=st
  refine wpAny_pyNext_zip_end (I.ok.hd hc) D h1 h2 h3 h4 h5 p1.isList p2.isList ?_ fun h' eb=>⟨rfl,I.turnedL (t':=s.toks) (fun b o hb q=>eb b o (fun e=>hb (by simp [e])) (fun e=>hb (by simp [e])) (fun e=>hb (by simp [e])) (fun e=>hb (by simp [e])) q) hf⟩
  rcases hend with e | e
  ·left;simp;omega
  ·right;simp;omega
 self:=fun _ _ _ _ _ st h=>wpAny_pyIter_zip st.1 h
noncomputable def QQ (K:PySem.W.Frag)(ta tb:TE):TI:=fun σ H R=>ta σ H fun x H1=>tb σ H1 fun y H2=>∃a b,x=.ref a/\y=.ref b/\(∃xs,SqL K H2 a xs)/\(∃ys,SqL K H2 b ys)/\R (Itz K a b) H2
theorem Pe {a b:Expr}{ta tb:TE}{p pos tpos:Pos}{elts:List Expr}{x1:Nat}(hg:Gl X "zip")(hm:X.mg "zip"=none)(hb:bootBuiltins "zip"=some (.type "zip"))(ha:PE X a ta)(hb2:PE X b tb)(hs:starEach [a,b] X.env=[(false,eval a X.env),(false,eval b X.env)]:=by rfl)(hs2:starEach [b] X.env=[(false,eval b X.env)]:=by rfl) :
  PI X (.Tuple elts x1 tpos) (.Call (.Name "zip" p) [a,b] [] pos) (QQ X.K ta tb):=by
 intro pins s σ H R I h
 refine Call_ (vo I hg hm hb (PyProof.Rows.callWith_type1 ?_ (by rw [hs,hs2]) (by rw [hs2];rfl)))
 rw [hs]
 refine Calls.spliced_cons (thn (ha pins s σ H _ I h) fun u s1 ⟨x,H1,I1,r1,q1⟩=>?_)
 refine Calls.spliced_cons (thn (hb2 pins s1 σ H1 _ I1 q1) fun v s2 ⟨y,H2,I2,r2,l1,l2,ex,ey,⟨xs,hq1⟩,⟨ys,hq2⟩,q⟩=>?_)
 subst ex ey
 cases r1
 cases r2
 refine Calls.spliced_nil ?_
 obtain ⟨its1,rv1,p1,hz1⟩:=I2.list hq1
 obtain ⟨its2,rv2,p2,hz2⟩:=I2.list hq2
 have a1:l1 < s2.heap.objs.size:=by obtain ⟨o,q,_⟩:=p1.isList;exact Heap.lt_size q
 have a2:l2 < s2.heap.objs.size:=by obtain ⟨o,q,_⟩:=p2.isList;exact Heap.lt_size q
 refine call_zip_2 p1.isList p2.isList fun h' h1 h2 h3 h4 h5 h6 h7=>?_
 refine wpAny_pyIter_zip h1 ?_
 have n0:∀l:Nat,l < s2.heap.objs.size->∀k:Nat,l≠s2.heap.objs.size+k:=fun l hl k=>by omega
 have n1:∀j k:Nat,j≠k->s2.heap.objs.size+j≠s2.heap.objs.size+k:=fun j k hjk=>by omega
 refine ⟨s2.heap.objs.size+4,[s2.heap.objs.size+4,s2.heap.objs.size+2,s2.heap.objs.size+3,s2.heap.objs.size+0,s2.heap.objs.size+1],_,_,H2,rfl,I2.kept (t':=s2.toks) h7,
  KU l1 l2 _ _ _ _ _ ⟨n1 2 4 (by decide),n1 3 4 (by decide),n1 0 4 (by decide),n1 1 4 (by decide),n1 2 3 (by decide),n1 2 0 (by decide),n1 2 1 (by decide),n1 3 0 (by decide),n1 3 1 (by decide),n1 0 1 (by decide),n0 _ a1 4,n0 _ a1 3,n0 _ a1 0,n0 _ a1 1,n0 _ a2 4,n0 _ a2 3,n0 _ a2 0,n0 _ a2 1⟩,⟨h1,h2,⟨_,_,h3⟩,h4,h5⟩,fun b hb=>?_,q⟩
 have hle:s2.heap.objs.size<=b:=by
  simp only [List.mem_cons,List.not_mem_nil,or_false] at hb
  rcases hb with rfl | rfl | rfl | rfl | rfl<;>exact Nat.le_add_right _ _
 exact I2.fpOk hle (I2.hok.fresh hle)
end
structure bu (K:PySem.W.Frag)(C:Addr)(m qual:Str)(st:Stmt)(ps:List Str)(f:Addr)(fd:FuncData):Prop where
 M:GK K C m f
 F:Fun K m qual st f fd
 b:hG K fd ps []
structure BG (K:PySem.W.Frag)(C:Addr)(qual:Str)(st:Stmt)(ps:List Str)(f:Addr)(fd:FuncData):Prop where
 M:Mk K C f
 F:Fun K "__init__" qual st f fd
 b:hG K fd ps []
theorem Fe {J:It}{g:TG}{tb:TS}{D:mY}{σ:St}{H:Hp}(n:Nat)(Pv:Nat->St->Hp->Prop)(h0:Pv 0 σ H)(hgo:∀i σ H,i < n->Pv i σ H->J.go i H)(hst:∀σ H,Pv n σ H->J.stop n H)
  (hs:∀i σ H,i < n->Pv i σ H->∀x H',J.yld i H x H'->g x σ H' fun σ2 H2=>tb {D with nx:=Pv (i+1),ct:=Pv (i+1),bk:=D.nx} σ2 H2) (hd:∀σ H,Pv n σ H->D.nx σ H):Iy J g tb D σ H:=by
 refine ⟨fun i m σ H=>m=n - i/\i<=n/\Pv i σ H,⟨n,by simp,Nat.zero_le _,h0⟩,?_⟩
 rintro i m σ H ⟨rfl,hi,p⟩
 by_cases hlt:i < n
 ·exact .inr ⟨hgo i σ H hlt p,Pv (i+1),fun σ' H' q=>⟨n - (i+1),by omega,rfl,hlt,q⟩,fun x H' y=>hs i σ H hlt p x H' y⟩
 ·have e:i=n:=by omega
  subst e
  exact .inl ⟨hst σ H p,hd σ H p⟩
section
variable {X:Cx}
noncomputable def Pf (K:PySem.W.Frag):V->List V->Hp->VK->Prop:=fun x vs H Q=>∃(l:Addr) (ns:List Int) (k:Int),x=.ref l/\vs=[.int k]/\SqL K H l (ns.map V.int)/\k∈ns/\Q (.int (ns.idxOf k:Nat)) H
end
def aA (p:Addr)(H H':Hp):Prop:=∀b o,b≠p->H b=some o->H' b=some o
theorem aA.of {p:Addr}{H H':Hp}(s:av H H'):aA p H H':=fun b o _ e=>s b o e
theorem aA.trans {p:Addr}{H H1 H2:Hp}(a:aA p H H1)(b:aA p H1 H2):aA p H H2:=fun c o n e=>b c o n (a c o n e)
theorem aA.put {p:Addr}{H H':Hp}{o:HO}(s:aA p H H'):aA p H (upd H' p o):=fun b u n e=>by rw [aV n];exact s b u n e
theorem Rd.keep {p a:Addr}{H H':Hp}{u:HO}(s:aA p H H')(n:a≠p)(h:Rd H a u):Rd H' a u:=by
 rcases h with h | ⟨o,h⟩
 ·exact .inl (s _ _ n h)
 ·exact .inr ⟨o,s _ _ n h⟩
theorem SqT.keep {K:PySem.W.Frag}{p a:Addr}{H H':Hp}{xs ys:List V}(s:aA p H H')(hp:H p=some (.lst ys))(h:SqT K H a xs):SqT K H' a xs:=by
 rcases h with h | h
 ·refine .inl (h.keep s fun z=>?_)
  subst z
  rcases h with h | ⟨o,h⟩
  ·rw [hp] at h;cases h
  ·rw [hp] at h;cases h
 ·exact .inr h
theorem Rd.keepI {p a C dx:Addr}{H H':Hp}{fs:List (Str×V)}{u:HO}(s:aA p H H')(hp:H p=some (.ins C dx fs))(hu:∀C dx fs,u≠.ins C dx fs)(h:Rd H a u):Rd H' a u:=by
 refine h.keep s fun z=>?_
 subst z
 rcases h with h | ⟨o,h⟩
 ·rw [hp] at h;cases h;exact hu _ _ _ rfl
 ·rw [hp] at h;cases h
theorem SqL.keepI {K:PySem.W.Frag}{p a C dx:Addr}{H H':Hp}{xs:List V}{fs:List (Str×V)}(s:aA p H H')(hp:H p=some (.ins C dx fs))(h:SqL K H a xs):SqL K H' a xs:=by
 rcases h with h | h
 ·exact .inl (h.keepI s hp fun _ _ _ z=>HO.noConfusion z)
 ·exact .inr h
theorem SqT.keepI {K:PySem.W.Frag}{p a C dx:Addr}{H H':Hp}{xs:List V}{fs:List (Str×V)}(s:aA p H H')(hp:H p=some (.ins C dx fs))(h:SqT K H a xs):SqT K H' a xs:=by
 rcases h with h | h
 ·exact .inl (h.keepI s hp fun _ _ _ z=>HO.noConfusion z)
 ·exact .inr h
theorem iX.keepI {K:PySem.W.Frag}{p l C dx:Addr}{H H':Hp}{ls:List Ld}{fs:List (Str×V)}(s:aA p H H')(hp:H p=some (.ins C dx fs))(h:iX K H l ls):iX K H' l ls:=by
 obtain ⟨as,a,b⟩:=h
 exact ⟨as,a.keepI s hp,b.1,fun i a x e1 e2=>(b.2 i a x e1 e2).keepI s hp⟩
structure dS (C:Addr)(H:Hp)(y kn wh:Addr)(ks:List Str)(ws:List Int)(m:Int):Prop where
 ob:∃dx,H y=some (.ins C dx [("kinds",.ref kn),("where",.ref wh),("many",.int m)])
 okn:H kn=some (.lst (ks.map V.str))
 owh:H wh=some (.lst (ws.map V.int))
theorem dS.same {C:Addr}{H H':Hp}{y kn wh:Addr}{ks:List Str}{ws:List Int}{m:Int}(h:dS C H y kn wh ks ws m)(s:av H H'):dS C H' y kn wh ks ws m:=by
 obtain ⟨⟨dx,a⟩,b,c⟩:=h
 exact ⟨⟨dx,s _ _ a⟩,s _ _ b,s _ _ c⟩
theorem dS.off {C:Addr}{H H':Hp}{p y kn wh:Addr}{ks:List Str}{ws:List Int}{m:Int}{ys:List V}(h:dS C H y kn wh ks ws m)(s:aA p H H')(hp:H p=some (.lst ys))(n1:kn≠p)(n2:wh≠p):dS C H' y kn wh ks ws m:=by
 obtain ⟨⟨dx,a⟩,b,c⟩:=h
 exact ⟨⟨dx,s _ _ (fun z=>by rw [z,hp] at a;cases a) a⟩,s _ _ n1 b,s _ _ n2 c⟩
theorem dS.put {C:Addr}{H H':Hp}{y kn wh:Addr}{ks:List Str}{ws ws':List Int}{m:Int}(h:dS C H y kn wh ks ws m)(s:aA wh H H')(n1:kn≠wh)(e:H' wh=some (.lst (ws'.map V.int))):dS C H' y kn wh ks ws' m:=by
 obtain ⟨⟨dx,a⟩,b,c⟩:=h
 exact ⟨⟨dx,s _ _ (fun z=>by rw [z,c] at a;cases a) a⟩,s _ _ n1 b,e⟩
theorem KW {K:PySem.W.Frag}{l:Addr}{ls:List Ld}{te:TE}{cm:List (Option Nat)}{σ:St}{H:Hp}{Q:VK}(f:Ld->V)(hL:iX K H l ls)(hn:ls.length<=sizeLine)(hcm:cK cm σ=[none,none,none])
  (he:∀x∈ls,∀N:VK,N (f x) H->te [some (.str x.1),some (.int x.2.1),some (.int x.2.2)] H N)
  (hd:∀p,H p=none->Q (.ref p) (upd H p (.lst (ls.map f)))):vY (Itl K l) (DY K 3 (E2 (g9 0) (E2 (g9 1) (E2 (g9 2) OR)))) zv te cm σ Q H:=by
 obtain ⟨as,hS,hlen,hT⟩:=hL
 refine yj ls.length (fun i acc H'=>H'=H/\acc=(ls.take i).map f) ⟨rfl,by simp⟩ ?_ ?_ ?_ ?_
 ·rintro i acc H' hi ⟨rfl,_⟩
  have ha:as[i]?=some as[i]:=List.getElem?_eq_getElem (by omega)
  exact ⟨_,.ref as[i],hS,by rw [List.getElem?_map,ha];rfl⟩
 ·rintro acc H' ⟨rfl,_⟩
  exact ⟨_,hS,by rw [List.length_map];omega⟩
 ·rintro i acc H' hi ⟨rfl,rfl⟩
  have ha:as[i]?=some as[i]:=List.getElem?_eq_getElem (by omega)
  have hx:ls[i]?=some ls[i]:=List.getElem?_eq_getElem hi
  refine ⟨by rw [List.length_map,List.length_take];omega,fun x H2 y M hM=>?_⟩
  obtain ⟨e,y⟩:=y
  subst e
  have hy:=y _ hS
  rw [List.getElem?_map,ha] at hy
  cases hy
  rw [hcm]
  refine ⟨_,_,rfl,hT i _ _ ha hx,rfl,_,_,rfl,_,_,rfl,_,_,rfl,rfl,⟨rfl,fun k v e=>?_⟩,?_⟩
  ·match k,e with
   | 0,e=>cases e
   | 1,e=>cases e
   | 2,e=>cases e
  ·unfold zv;dsimp only
   split
   ·refine he ls[i] (List.getElem_mem _) _ (hM _ _ ⟨rfl,?_⟩)
    rw [List.take_succ_eq_append_getElem hi,List.map_append];rfl
   ·rename_i z;exact absurd rfl z
 ·rintro acc H' ⟨rfl,rfl⟩ p hp
  rw [List.take_length]
  exact hd p hp
theorem Em {n:Nat}{i:Int}(h0:0<=i)(h1:i < n):ixN n i=some i.toNat:=by
 unfold ixN
 rw [if_pos h0,if_pos h1]
theorem df {ds:List Int}{i:Nat}(h:i < ds.length):ds.getD i 0∈ds:=by
 rw [List.getD_eq_getElem?_getD,List.getElem?_eq_getElem h]
 exact List.getElem_mem h
theorem ou {ds:List Int}{i:Nat}(h:i < ds.length):ds[i]?=some (ds.getD i 0):=by
 rw [List.getD_eq_getElem?_getD,List.getElem?_eq_getElem h];rfl
theorem CH {c:Int}(h0:0<=c)(h1:c < 2):atI [V.int 10,V.int 11] c=some (.int (10+c)):=by
 rcases (by omega:c=0\/c=1) with rfl | rfl<;>rfl
theorem Jz {ws:List Int}{k:Int}{i:Nat}(hi:i < ws.length)(he:ws.getD i 0=k)(hn:∀j,j < i->ws.getD j 0≠k):ws.idxOf k=i:=by
 have hm:k∈ws:=he▸df hi
 have hlt:ws.idxOf k < ws.length:=List.idxOf_lt_length_iff.mpr hm
 have e1:ws.getD (ws.idxOf k) 0=k:=by
  rw [List.getD_eq_getElem?_getD,List.getElem?_eq_getElem hlt]
  exact List.getElem_idxOf hlt
 rcases Nat.lt_trichotomy (ws.idxOf k) i with h | h | h
 ·exact absurd e1 (hn _ h)
 ·exact h
 ·have:=ne_of_lt_idxOf (ns:=ws) (k:=k) h (by omega)
  rw [List.getD_eq_getElem?_getD,List.getElem?_eq_getElem hi] at he
  exact absurd he (by simpa using this)
section
variable {X:Cx}
theorem Hf {tg iter elt:Expr}{ifs:List Expr}{scope:Scope}{pos spos py:Pos}{Nc:List Str}{cm:List (Option Nat)}{wi:TI}{g:TG}{tc:TT}{te:TE}{iy:Nat}{y:Str}(hN:X.N.Nodup)(hiy:X.N[iy]?=some y)(hly:X.env.scope.names.lookup y=some .local)
  (hsw:swapsWith (.ListComp elt [⟨tg,iter,ifs,0⟩] scope pos) (some (.Name y py)) spos.line X.env=pure true)
  (hc:X.calm=true) (hi:PI X tg iter wi) (hkind:scope.kind=.function) (hcell:∀y∈scope.names,y.2≠.cell) (hnames:∀y∈scope.names,y.2=.local->scope.names.lookup y.1=some .local)
  (hfree:∀y∈scope.names,y.2=.free->X.env.kindOf y.1=some .cell\/X.env.kindOf y.1=some .free) (hlen:cm.length=Nc.length)
  (hcm:∀(j:Nat) (x:Str) (i:Nat),Nc[j]?=some x->cm[j]?=some (some i)->X.N[i]?=some x/\scope.names.lookup x=some .free/\(X.env.kindOf x=some .cell\/X.env.kindOf x=some .free))
  (hg:∀C s₀ H₀ ex,PG (blk X Nc scope C s₀ H₀ ex) tg g) (ht:∀C s₀ H₀ ex,PIf (blk X Nc scope C s₀ H₀ ex) ifs tc) (he:∀C s₀ H₀ ex,PE (blk X Nc scope C s₀ H₀ ex) elt te)
  (hs:∀x,foldedSetIterable iter X.env x=pure x:=by intro _;rfl):PS X (.Assign [.Name y py] (.ListComp elt [⟨tg,iter,ifs,0⟩] scope pos) spos) (GG (z9 wi g tc te cm) (g9 iy)):=by
 intro pins s σ H D0 I h
 rw [exec_Assign_Name_used _ _ _ _ hsw]
 refine wpAny_bind (wpAny_standAt (wpAny_bind ?_))
 show wpAny _ X.A (do let _ ←comprehension (.ListComp elt [⟨tg,iter,ifs,0⟩] scope pos) scope X.env _ (newList []) false (eval iter X.env) (some (assign (.Name y py) X.env))) _ _ s
 refine wpAny_bind (wpAny_mono (Q:=fun _ s'=>SP X pins D0 .next s') ?_ (fun _ s' hq=>wpAny_pure (wpAny_pure hq)) fun _ _ e=>e)
 have hfr:∀y∈scope.names,y.2=.free->∃c,X.env.cells.lookup y.1=some c:=fun y hy e=>I.ok.has y.1 (hfree y hy e)
 refine wpAny_comprehension_free (use:=some (assign (.Name y py) X.env)) (Q:=fun _ s'=>SP X pins D0 .next s') rfl hs (l3 hfr) hkind hnames (thn (hi pins s σ H _ I h) fun v s1 h1=>thn h1 fun itv s2 h2=>?_)
 obtain ⟨it,fp,tn,J,H2,e,I2,T,st2,f2,W,⟨m0,w0⟩,turn⟩:=h2
 subst e
 refine wpAny_newObj_type (wpAny_newFunctionEnv hcell (by intro y hy;simp at hy) (fun h₁ hns₁ hsb₁=>?_) hkind)
 dsimp only at hns₁ hsb₁ ⊢
 have hk3:∀b u,s2.heap.get? b=some u->(s2.heap.push {cls:=.type "list",dict:=none,data:=.seq ([]:List Value).toArray}).get? b=some u:=fun b u q=>Heap.get?_push_of_some _ q
 have I3:Inv X pins σ H2 {s2 with heap:=s2.heap.push {cls:=.type "list",dict:=none,data:=.seq ([]:List Value).toArray},toks:=s2.toks}:=I2.kept hk3
 have hD3:(s2.heap.push {cls:=.type "list",dict:=none,data:=.seq ([]:List Value).toArray}).get? s2.heap.objs.size=some {cls:=.type "list",data:=.seq ([]:List Value).toArray}:=Heap.get?_push_size _ rfl
 have hCs:(s2.heap.push {cls:=.type "list",dict:=none,data:=.seq ([]:List Value).toArray}).objs.size=s2.heap.objs.size+1:=Heap.size_push _ _
 have hDn:H2 s2.heap.objs.size=none:=I2.hok.fresh (Nat.le_refl _)
 have st3:tn 0 (s2.heap.push {cls:=.type "list",dict:=none,data:=.seq ([]:List Value).toArray}):=T.keep _ _ _ st2 fun b _ o q=>hk3 b o q
 have fpD:∀b∈fp,b < s2.heap.objs.size:=fun b hb=>by
  obtain ⟨o,e,_⟩:=T.obj _ _ st2 b hb
  exact Heap.lt_size e
 have DX:qU X pins H2 s2.heap.objs.size:=I2.fpOk (Nat.le_refl _) hDn
 generalize hs3:s2.heap.push {cls:=.type "list",dict:=none,data:=.seq ([]:List Value).toArray}=h3 at *
 generalize hDg:s2.heap.objs.size=D at *
 have exX:∀b∈D::fp,qU X pins H2 b:=fun b hb=>by
  rcases List.mem_cons.mp hb with z | z
  ·rw [z];exact DX
  ·exact f2 b z
 have exC:∀b∈D::fp,b < h3.objs.size:=fun b hb=>by
  rcases List.mem_cons.mp hb with z | z
  ·rw [z,hCs];exact Nat.lt_succ_self _
  ·rw [hCs];exact Nat.lt_succ_of_lt (fpD b z)
 have exS:∀b∈D::fp,b∉frs X.stack:=fun b hb z=>by
  obtain ⟨_,n1,n2,_⟩:=exX b hb
  rcases List.mem_cons.mp (I2.stkSub b z) with y | y
  ·exact n1 y
  ·exact n2 y
 have clo:∀x c,(jo X.env.cells scope.names []).lookup x=some c->X.env.cells.lookup x=some c:=fun x c e=>tE (acc:=[]) (fun _ _ z=>by simp at z) e
 have keep1:∀b u,h3.get? b=some u->h₁.get? b=some u:=fun b u q=>
  (hsb₁.2 b (Nat.ne_of_lt (Heap.lt_size q))).trans (Heap.get?_push_of_some _ q)
 let s3:Shared:={s2 with heap:=h3}
 let X':Cx:=blk X Nc scope h3.objs.size s3 H2 (D::fp)
 have hX':X'=blk X Nc scope h3.objs.size s3 H2 (D::fp):=rfl
 have okX:X'.Ok:=by
  refine ⟨I3.ok.mod,hkind,I3.ok.glob,I3.ok.blt,Nat.le_refl _,fun x y c e1 e2=>I3.ok.inj x y c (clo x c e1) (clo y c e2),fun x hx=>?_,fun x c e=>(Bool.false_ne_true e).elim,I3.ok.hd,I3.ok.frames,.inl rfl,fun b hb=>⟨Nat.ne_of_lt (exC b hb),fun x c e=>(exX b hb).2.2.2.2.1 x c (clo x c e)⟩,
   I3.bs,?_,fun b o e hb=>?_,exS,I3.stack,I3.stkFree⟩
  ·have hx':scope.names.lookup x=some .free:=gZ (env:=X.env) hcell hx
   have hmem:(x,NameKind.free)∈scope.names:=by
    have:∀(l:List (Str×NameKind)),l.lookup x=some .free->(x,NameKind.free)∈l:=by
     intro l
     induction l with
     | nil=>intro z;simp at z
     | cons a r ih=>
      obtain ⟨n,k⟩:=a
      intro z
      rw [List.lookup_cons] at z
      split at z
      ·rename_i y
       have yn:x=n:=by simpa using y
       cases z
       rw [yn];exact List.mem_cons_self
      ·exact List.mem_cons_of_mem _ (ih z)
    exact this _ hx'
   exact jq hx' (hfr (x,.free) hmem rfl)
  ·exact Nat.le_trans I3.ok.bsz I3.sz
  ·rcases (exX b hb).2.2.2.1 with z | z
   ·exact I3.ok.noex b o e z
   ·exact absurd (Nat.lt_of_lt_of_le (Heap.lt_size (I3.ok.bs b o e).1) z) (Nat.lt_irrefl _)
 have hσl:(cK cm σ).length=Nc.length:=by
  unfold cK
  rw [List.length_map];exact hlen
 have I4:Inv X' [] (cK cm σ) H2 {s2 with heap:=h₁,toks:=s2.toks+([]:List (Str×Value)).length}:=by
  refine ⟨okX,rfl,I3.bare,Un.kept keep1,⟨_,hns₁,fun j x v e1 e2 e3=>?_⟩,fun x c e=>?_,?_,fun x c e=>I3.freeC x c (clo x c e),(fun p hp=>absurd (show p∈([]:List (Addr×Obj)) from hp) (by simp)),I3.hok.kept keep1,hσl⟩
  ·have e2':∃i,cm[j]?=some (some i)/\σ[i]?=some (some v):=by
    unfold cK at e2
    rw [List.getElem?_map] at e2
    cases q:cm[j]? with
    | none=>rw [q] at e2;simp at e2
    | some o=>
     rw [q] at e2
     cases o with
     | none=>simp at e2
     | some i=>
      refine ⟨i,rfl,?_⟩
      simp only [Option.map_some,Option.some.injEq] at e2
      cases q2:σ[i]? with
      | none=>rw [q2] at e2;simp at e2
      | some o2=>rw [q2] at e2;simp at e2;rw [e2]
   obtain ⟨i,ej,ei⟩:=e2'
   obtain ⟨n1,n2,n3⟩:=hcm j x i e1 ej
   obtain ⟨m,hn,hl⟩:=I3.loc
   have n3':Vis X.env.scope x:=by
    rcases n3 with z | z
    ·exact .inr (.inl z)
    ·exact .inr (.inr z)
   obtain ⟨u,r,l⟩:=hl i x v n1 ei n3'
   refine ⟨u,r,?_⟩
   rcases l with ⟨l,_⟩ | ⟨_,c,ec,ic⟩
   ·rcases n3 with z | z
    ·rw [l] at z;cases z
    ·rw [l] at z;cases z
   ·obtain ⟨c',ec'⟩:=jq (cells:=X.env.cells) (acc:=[]) n2 ⟨c,ec⟩
    have hcc:=clo x c' ec'
    rw [ec] at hcc;cases hcc
    obtain ⟨oc,hoc,hdc⟩:=ic
    refine .inr ⟨?_,c,ec',oc,keep1 _ _ hoc,hdc⟩
    exact eP (env:=X.env) n2
  ·obtain ⟨v,oc,hoc,hdc⟩:=I3.cell x c (clo x c e)
   exact ⟨v,oc,keep1 _ _ hoc,hdc⟩
  ·exact I3.hok.fresh (Nat.le_refl _)
 have stat:∀{H':Hp} {pl:List (Addr×Obj)},(∀b∈fp,H' b=none)->(∀p∈pl,p.1=D)->∀b∈fp,qU X' pl H' b:=fun {H' pl} hn hpl b hb=>
  ⟨hn b hb,Nat.ne_of_lt (exC b (List.mem_cons_of_mem _ hb)),exS b (List.mem_cons_of_mem _ hb),.inl (List.mem_cons_of_mem _ hb),fun x c e=>(f2 b hb).2.2.2.2.1 x c (clo x c e),fun p hp z=>by
   have:p∈pl:=(List.mem_append.mp hp).elim (fun z=>absurd (show p∈([]:List (Addr×Obj)) from z) (by simp)) fun z=>z
   have e:=hpl p this
   rw [e] at z
   exact absurd (fpD b hb) (by rw [←z];exact Nat.lt_irrefl _)⟩
 have hDC:D≠h3.objs.size:=by rw [hCs];exact Nat.ne_of_lt (Nat.lt_succ_self _)
 have hDs:D∉frs X.stack:=exS D List.mem_cons_self
 have loop:∀s5:Shared,s5={s2 with heap:=h₁,toks:=s2.toks+([]:List (Str×Value)).length}->
   codeAny (model X.prog X.w) X.A (.compLoop (.ListComp elt [⟨tg,iter,ifs,0⟩] scope pos) 0 (.ref it) (.ref D) (compEnvC scope (jo X.env.cells scope.names []) h3.objs.size X.env))
    (compPost (model X.prog X.w) X.A X.xe (some (assign (.Name y py) X.env)) (fun _ s'=>SP X pins D0 .next s') (.ref D) h3.objs.size) s5:=by
  rintro s5 rfl
  refine codeAny_loop rfl (fun n s'=>∃i acc its k H',Inv X' [] (cK cm σ) H' s'/\tn i s'.heap/\(∀b∈fp,H' b=none)/\s'.heap.get? D=some {cls:=.type "list",data:=.seq (List.toArray its) k}/\H' D=none/\bJ acc its/\acc.length<=sizeLine/\W i n acc H') (fun n s' hI=>?_) m0
   ⟨0,[],[],0,H2,I4,T.keep _ _ _ st3 fun b _ o q=>keep1 b o q,fun b hb=>(f2 b hb).1,keep1 _ _ hD3,hDn,.nil,Nat.zero_le _,w0⟩
  obtain ⟨i,acc,its,k,H5,J5,t5,fr5,d5,dn5,va5,ac5,w5⟩:=hI
  show wpAny _ X.A ((compTurn (.ListComp elt [⟨tg,iter,ifs,0⟩] scope pos) 0 (.ref it) (.ref D) (compEnvC scope (jo X.env.cells scope.names []) h3.objs.size X.env)).onRaise (fun x=>do noteFrame x (compEnvC scope (jo X.env.cells scope.names []) h3.objs.size X.env);theTreesLotGoes x)) _ _ s'
  refine wpAny_noted ?_
  rw [compTurn_list]
  have nocell:∀v,({cls:=.type "list",data:=.seq (List.toArray its) k}:Obj).data≠.cell v:=fun v z=>nomatch z
  have P5:Inv X' [(D,{cls:=.type "list",data:=.seq (List.toArray its) k})] (cK cm σ) H5 s':=J5.pins_of fun p hp=>by
   have e:p=(D,{cls:=.type "list",data:=.seq (List.toArray its) k}):=by simpa using hp
   subst e
   exact ⟨d5,dn5,hDC,hDs,nocell⟩
  have pl1:∀p∈[((D,{cls:=.type "list",data:=.seq (List.toArray its) k}):Addr×Obj)],p.1=D:=fun p hp=>by
   have e:p=(D,{cls:=.type "list",data:=.seq (List.toArray its) k}):=by simpa using hp
   rw [e]
  rcases turn i n acc H5 w5 with ⟨stop,qn⟩ | ⟨go,hsz,step⟩
  ·refine wpAny_bind (wpAny_standAt (wpAny_bind (wpAny_mono (T.done X' rfl rfl rfl hc i _ s' _ H5 (fun _ _=>False) P5 (stat fr5 pl1) t5 stop) (fun r s6 ⟨hr,J6⟩=>?_) fun _ _ f=>f.elim)))
   subst hr
   refine wpAny_pure ?_
   obtain ⟨mC,hnC,_⟩:=J6.loc
   have hsb:Heap.SameBut h3.objs.size s6.heap s6.heap:=⟨rfl,fun _ _=>rfl⟩
   let h':Heap:=s6.heap
   have hCn:H5 h3.objs.size=none:=J6.free
   have toh:∀b u,b≠h3.objs.size->s6.heap.get? b=some u->h'.get? b=some u:=fun b u hb q=>(hsb.2 b hb).trans q
   have hok':HOk X.prog X.w H5 h':=fun a o e=>(J6.hok a o e).stay (fun b u hb q=>toh b u (by
    rintro rfl
    rcases hb with z | z
    ·rw [←z,hCn] at e;cases e
    ·rw [hCn] at z;cases z) q) (fun _ q=>q) fun _ _ q=>q
   have ltC:∀{b:Addr} {u:Obj},h3.get? b=some u->b≠h3.objs.size:=fun q=>Nat.ne_of_lt (Heap.lt_size q)
   have un':Un (frs X.stack) (D::fp) H2 H5 h3 h':=by
    have u:=J6.base
    refine ⟨fun b o e n hb hx=>toh b o (ltC e) (u.keep b o e n hb hx),fun b o e n hb hx=>?_,u.free,fun b o e hx=>?_,u.tups,u.frzs,u.tbls⟩
    ·obtain ⟨sl,q⟩:=u.slot b o e n hb hx
     exact ⟨sl,toh b _ (ltC e) q⟩
    ·obtain ⟨o',q⟩:=u.there b o e hx
     exact ⟨o',toh b _ (ltC e) q⟩
   have J7:Inv X pins σ H5 {s6 with heap:=h'}:=Inv.call' (s':={s6 with heap:=h'}) (ch:=D::fp) I3 J6.os un' hok' J6.bare fun b hb=>by
    obtain ⟨_,n1,n2,n3,n4,n5⟩:=exX b hb
    exact ⟨n3,n1,n4,n5⟩
   obtain ⟨dg,dg2,_⟩:=J6.pin (D,{cls:=.type "list",data:=.seq (List.toArray its) k}) (by simp)
   obtain ⟨_,n1,n2,n3,n4,n5⟩:=exX D List.mem_cons_self
   have n3':X.s₀.heap.objs.size<=D:=by
    have:=I2.sz
    rw [hDg] at this
    exact this
   have J8:=J7.track (o:=.lst acc) dg2 n3' n1 n4 n5 ⟨ac5,its,k,va5,toh _ _ hDC dg⟩
   obtain ⟨fc0,fc1,fc2,fc3,fc4,fc5⟩:=I3.fpOk (b:=h3.objs.size) (H':=upd H5 D (.lst acc)) (Nat.le_refl _) (by rw [aV (Ne.symm hDC)];exact hCn)
   refine wpAny_assign_Name (xY (s:=s6) (v:=.ref D) J8 hN hiy (.inl hly) rfl (fun s7 J9 hsa=>?_) (.inr hly))
   obtain ⟨aa,hsa,hwh⟩:=hsa
   have hca:h3.objs.size≠aa:=by
    rcases hwh with z | z
    ·rw [z];exact fc1
    ·exact (fc4 _ _ z).symm
   refine ⟨mC,hnC.sameBut hsa hca,fun h7 hs7=>?_⟩
   exact ⟨_,_,J9.turned (it:=h3.objs.size) (t':=s7.toks) (fun b o hb hu=>(hs7.2 b hb).trans hu) fc0 fc1 fc3 fc4 fc5,qn D dg2⟩
  ·refine wpAny_bind (wpAny_standAt (wpAny_bind (wpAny_mono (T.item X' rfl rfl rfl hc i _ s' _ H5 (fun _ _=>False) P5 (stat fr5 pl1) t5 go) (fun r s6 ⟨u,hr,h6⟩=>?_) fun _ _ f=>f.elim)))
   subst hr
   refine wpAny_bind (wpAny_mono h6 (fun _ s7 ⟨x,H7,J7,r7,y7,t7,fr7⟩=>?_) fun _ _ f=>f.elim)
   have P7:=J7.pinned (stat fr7 pl1) (T.obj _ _ t7)
   refine wpAny_bind (wpAny_mono (hg _ _ _ _ _ s7 _ H7 x u _ P7 r7 (step x H7 y7)) (fun _ s8 ⟨σ8,H8,J8,wk8,q8⟩=>?_) fun _ _ f=>f.elim)
   refine wpAny_bind (wpAny_mono (ht _ _ _ _ _ s8 σ8 H8 _ J8 q8) (fun b s9 ⟨H9,J9,q9⟩=>?_) fun _ _ f=>f.elim)
   have back:∀{Ha:Hp} {sa:Shared},Inv X' ([(D,{cls:=.type "list",data:=.seq (List.toArray its) k})]++vp fp s7.heap) σ8 Ha sa->
     Inv X' [] (cK cm σ) Ha sa/\tn (i+1) sa.heap/\(∀b∈fp,Ha b=none)/\sa.heap.get? D=some {cls:=.type "list",data:=.seq (List.toArray its) k}/\Ha D=none:=fun {Ha sa} Ja=>by
    refine ⟨(Ja.weak wk8.1 wk8.2).pins_of fun p hp=>absurd hp (by simp),T.keep _ _ _ t7 fun b hb o e=>(Ja.pin (b,o) (List.mem_append_right _ (List.mem_append_right _ (gw hb e)))).1,fun b hb=>?_,?_⟩
    ·obtain ⟨o,e,d⟩:=T.obj _ _ t7 b hb
     exact (Ja.pin (b,o) (List.mem_append_right _ (List.mem_append_right _ (gw hb e)))).2.1
    ·obtain ⟨z1,z2,_⟩:=Ja.pin (D,{cls:=.type "list",data:=.seq (List.toArray its) k}) (by simp)
     exact ⟨z1,z2⟩
   cases b with
   | false=>
    simp only [Bool.false_eq_true,if_false] at q9 ⊢
    obtain ⟨m',hm,w'⟩:=q9
    obtain ⟨z0,z1,z2,z3,z4⟩:=back J9
    exact wpAny_pure ⟨rfl,m',hm,i+1,acc,its,k,H9,z0,z1,z2,z3,z4,va5,ac5,w'⟩
   | true=>
    simp only [if_true] at q9 ⊢
    refine wpAny_bind (wpAny_bind (wpAny_mono (he _ _ _ _ _ s9 σ8 H9 _ J9 q9) (fun y s10 ⟨v,H10,J10,rv,q10⟩=>wpAny_bind ?_) fun _ _ f=>f.elim))
    obtain ⟨m',hm,w'⟩:=q10
    obtain ⟨z0,z1,z2,z3,z4⟩:=back J10
    have hli:=va5.length
    refine call_meets F.slot_list_append ⟨_,z3,rfl⟩ F.entry_list_append (F.args_list_append_2 _ _) (PySem.list_append D its.toArray k y (by rw [List.size_toArray];omega)) ⟨z3,?_⟩
    obtain ⟨k',q⟩:∃k',(s10.heap.update D (Obj.mapSeq (·.push y))).get? D=some {cls:=.type "list",data:=.seq (List.toArray (its++[y])) k'}:=by
     have q:=PySem.IsL.update z3 (·.push y)
     have e:its.toArray.push y=(its++[y]).toArray:=by simp
     rw [e] at q
     exact ⟨_,q⟩
    refine wpAny_pure (wpAny_pure ⟨rfl,m',hm,i+1,acc++[v],its++[y],k',H10,z0.turned (it:=D) (fun b o hb hu=>(Heap.get?_update_other s10.heap (Obj.mapSeq (·.push y)) (Ne.symm hb)).trans hu) z4 hDC (.inl List.mem_cons_self) (fun x c e=>(exX D List.mem_cons_self).2.2.2.2.1 x c (clo x c e)) (fun p hp=>absurd (show p∈([]:List (Addr×Obj)) from hp) (by simp)),
     T.keep _ _ _ z1 fun b hb o e=>(Heap.get?_update_other s10.heap (Obj.mapSeq (·.push y)) (Nat.ne_of_gt (fpD b hb))).trans e,z2,q,z4,va5.append (.cons rv .nil),by rw [List.length_append,List.length_singleton];omega,w'⟩)
 exact codeAny_compStart_list (loop _ rfl) (T.self X.A 0 _ _ _ (T.keep _ _ _ st3 fun b _ o q=>keep1 b o q) (loop _ rfl))
end
theorem KY {X:Cx}{tg iter elt:Expr}{ifs:List Expr}{scope:Scope}{pos spos py:Pos}(Nc:List Str)(cm:List (Option Nat)){wi:TI}{g:TG}{tc:TT}{te:TE}{iy:Nat}{y:Str}(hN:X.N.Nodup)(hiy:X.N[iy]?=some y)(hly:X.env.scope.names.lookup y=some .local)
  (hi:PI X tg iter wi) (hg:∀C s₀ H₀ ex,PG (blk X Nc scope C s₀ H₀ ex) tg g) (ht:∀C s₀ H₀ ex,PIf (blk X Nc scope C s₀ H₀ ex) ifs tc) (he:∀C s₀ H₀ ex,PE (blk X Nc scope C s₀ H₀ ex) elt te)
  (hsw:swapsWith (.ListComp elt [⟨tg,iter,ifs,0⟩] scope pos) (some (.Name y py)) spos.line X.env=pure true:=by rfl)
  (hc:X.calm=true:=by rfl) (hkind:scope.kind=.function:=by rfl) (hcell:∀y∈scope.names,y.2≠.cell:=by decide +kernel) (hnames:∀y∈scope.names,y.2=.local->scope.names.lookup y.1=some .local:=by decide +kernel)
  (hfree:Hc X scope=true:=by rfl) (hlen:cm.length=Nc.length:=by rfl) (hcm:O5 X scope Nc cm=true:=by rfl)
  (hs:∀x,foldedSetIterable iter X.env x=pure x:=by intro _;rfl):PS X (.Assign [.Name y py] (.ListComp elt [⟨tg,iter,ifs,0⟩] scope pos) spos) (GG (z9 wi g tc te cm) (g9 iy)):=by
 refine Hf hN hiy hly hsw hc hi hkind hcell hnames (fun y hy e=>?_) hlen (fun j x i e1 e2=>?_) hg ht he hs
 ·have h:=List.all_eq_true.mp hfree y hy
  rw [e] at h
  simpa using h
 ·have hj:(Nc.zip cm)[j]?=some (x,some i):=by
   rw [List.getElem?_zip_eq_some];exact ⟨e1,e2⟩
  have h:=List.all_eq_true.mp hcm _ (List.mem_of_getElem? hj)
  simpa using h
theorem aI.calm {P:Program}{w:World}{K:PySem.W.Frag}{mg:Str->Option Value}{base:Heap}{k:Nat}{f:Addr}{fd:FuncData}{ps:List Str}{sp:Sp}(F:aI P w K mg base (CXf P w) k f fd ps sp)
  (h:∀vs H Q E,sp vs H Q E->sp vs H Q E0):aI P w K mg base CX0 k f fd ps sp:=by
 refine ⟨F.len,fun A outer s H args us vs Q E hr he hb hv hs=>?_⟩
 refine codeAny_mono (F.run A outer s H args us vs Q E0 hr he hb hv (h _ _ _ _ hs)) fun r s' q=>?_
 cases r with
 | ok fl=>cases fl<;>exact q
 | error e=>
  obtain ⟨x,cls,a0,H',B,_,_,_,_,_,_,_,_,_,z⟩:=q
  exact z.elim
def dI {α:Type}(f:α->List V)(K:PySem.W.Frag)(H:Hp)(as:List Addr)(ls:List α):Prop:=as.length=ls.length/\∀(i:Nat) a x,as[i]?=some a->ls[i]?=some x->SqT K H a (f x)
def n8 {α:Type}(f:α->List V)(K:PySem.W.Frag)(H:Hp)(l:Addr)(ls:List α):Prop:=∃as:List Addr,SqL K H l (as.map V.ref)/\dI f K H as ls
section
variable {α:Type}{f:α->List V}{K:PySem.W.Frag}{H H':Hp}{as bs:List Addr}{ls ks:List α}{l p:Addr}
theorem dI.same (s:av H H')(h:dI f K H as ls):dI f K H' as ls:=⟨h.1,fun i a x e1 e2=>s.tup (h.2 i a x e1 e2)⟩
theorem n8.same (s:av H H')(h:n8 f K H l ls):n8 f K H' l ls:=by
 obtain ⟨as,a,b⟩:=h
 exact ⟨as,s.seq a,b.same s⟩
theorem dI.nil:dI f K H [] []:=⟨rfl,fun i a x e _=>by simp at e⟩
theorem dI.app (h:dI f K H as ls)(g:dI f K H bs ks):dI f K H (as++bs) (ls++ks):=by
 refine ⟨by rw [List.length_append,List.length_append,h.1,g.1],fun i a x e1 e2=>?_⟩
 by_cases hi:i < as.length
 ·rw [List.getElem?_append_left hi] at e1
  rw [List.getElem?_append_left (by rw [←h.1];exact hi)] at e2
  exact h.2 i a x e1 e2
 ·rw [List.getElem?_append_right (by omega)] at e1
  rw [List.getElem?_append_right (by rw [←h.1];omega),←h.1] at e2
  exact g.2 _ a x e1 e2
theorem dI.one {a:Addr}{x:α}(h:SqT K H a (f x)):dI f K H [a] [x]:=by
 refine ⟨rfl,fun i b y e1 e2=>?_⟩
 cases i with
 | zero=>cases e1;cases e2;exact h
 | succ i=>simp at e1
theorem dI.rew {ys:List V}{o:HO}(h:dI f K H as ls)(hl:H l=some (.lst ys)):dI f K (upd H l o) as ls:=⟨h.1,fun i a x e1 e2=>(h.2 i a x e1 e2).rew hl⟩
theorem dI.keep {ys:List V}(s:aA p H H')(hp:H p=some (.lst ys))(h:dI f K H as ls):dI f K H' as ls:=⟨h.1,fun i a x e1 e2=>(h.2 i a x e1 e2).keep s hp⟩
theorem dI.keepI {C dx:Addr}{fs:List (Str×V)}(s:aA p H H')(hp:H p=some (.ins C dx fs))(h:dI f K H as ls):dI f K H' as ls:=⟨h.1,fun i a x e1 e2=>(h.2 i a x e1 e2).keepI s hp⟩
theorem n8.keepI {C dx:Addr}{fs:List (Str×V)}(s:aA p H H')(hp:H p=some (.ins C dx fs))(h:n8 f K H l ls):n8 f K H' l ls:=by
 obtain ⟨as,a,b⟩:=h
 exact ⟨as,a.keepI s hp,b.keepI s hp⟩
end
noncomputable abbrev Cd:=Int×Int
noncomputable def cdV (x:Cd):List V:=[.int x.1,.int x.2]
def gx (x:Cd):Prop:=(1<=x.1/\x.1<=9)/\(1<=x.2/\x.2<=9)/\x.1≠x.2
end L2
namespace L2
open PySem PySem.Spec PyProof.Rows PySem.SeqAt
theorem zw {M:Model}{A:Around}{E:Value->Shared->Prop}{s:Shared}{β:Type}{c:β}{f:Nat->β->Sem (ForInStep β)}{Q:β->Shared->Prop}{n:Nat}(hn:n=2)
  (h:wpAny M A (f 0 c) (fun r s1=>match r with | .done b=>Q b s1 | .yield b=>wpAny M A (f 1 b) (fun r s2=>match r with | .done b=>Q b s2 | .yield b=>Q b s2) E s1) E s) :
  wpAny M A (forIn ([:n]:Std.Legacy.Range) c f) Q E s:=by
 subst hn
 rw [Std.Legacy.Range.forIn_eq_forIn_range']
 show wpAny M A (forIn [0,1] c f) Q E s
 rw [List.forIn_cons]
 refine wpAny_bind (wpAny_mono h ?_ (fun _ _ z=>z))
 intro r s1 h1
 cases r with
 | done b=>exact wpAny_pure h1
 | yield b=>
  show wpAny M A (forIn [1] b f) Q E s1
  rw [List.forIn_cons]
  refine wpAny_bind (wpAny_mono h1 ?_ (fun _ _ z=>z))
  intro r s2 h2
  cases r with
  | done b=>exact wpAny_pure h2
  | yield b=>
   show wpAny M A (forIn [] b f) Q E s2
   rw [List.forIn_nil]
   exact wpAny_pure h2
theorem En (l:Addr)(items:Array Value)(a b:Value)(n:Nat)(dd:Option Addr)(sl:Array (Option Value))(x:Value)(e0 e1:Bool)(he:(e0 || e1)=true)(hsz:items.size=2)(i0:items[0]?=some a)(i1:items[1]?=some b) :
  Meets (Builtin.«tuple.index» ⟨[.ref l,x],[]⟩)
   (fun A R s=>s.heap.get? l=some {cls:=.type "tuple",dict:=dd,data:=.seq items n,slots:=sl}/\EqAt A.in1 s a x e0/\EqAt A.in1 s b x e1/\R (.ok (.ret (.int (if e0=true then 0 else 1) s.toks))) {s with toks:=s.toks+1}):=
 .of_wp fun prog w A R s h=>by
  obtain ⟨hp,g,d,tk,os⟩:=s;obtain ⟨hl,h0,h1,h⟩:=h
  wp_walk using wpAny_loadPart' hl,zw (show min items.size items.size=2 by omega)
  rw [i0]
  refine wpAny_bind (h0 prog w _ _ ?_)
  cases e0 with
  | true=>
   wp_walk
   exact ⟨_,rfl,h⟩
  | false=>
   wp_walk
   rw [i1]
   refine wpAny_bind (h1 prog w _ _ ?_)
   have e1t:e1=true:=by simpa using he
   subst e1t
   wp_walk
   exact ⟨_,rfl,h⟩
section
variable {X:Cx}
noncomputable def IE (K:PySem.W.Frag):V->List V->Hp->VK->Prop:=fun x vs H Q=>∃(l:Addr) (a b k:V),x=.ref l/\vs=[k]/\SqT K H l [a,b]/\cL a=true/\cL b=true/\cL k=true/\(eqV a k || eqV b k)=true/\Q (.int (if eqV a k=true then 0 else 1)) H
theorem JA:MtR X "tuple.index" (IE X.K):=by
 intro pins s σ H x vs v us Q I rx rv h
 obtain ⟨l,a,b,k,rfl,rfl,hq,fa,fb,fk,hk,q⟩:=h
 cases rx
 obtain ⟨u,rfl,ru⟩:=rv.one
 obtain ⟨its,r,pl,hz⟩:=I.tuple hq
 obtain ⟨u1,u2,rfl,r1,r2⟩:=r.two
 obtain ⟨⟨cls,dd,data,sl⟩,ho,hc,n,hd⟩:=id pl
 simp only at hc hd
 subst hc hd
 refine call_meets PySem.F.slot_tuple_index ⟨_,ho,rfl⟩ PySem.F.entry_tuple_index (PySem.F.args_tuple_index_2 _ _)
  (En l _ u1 u2 n dd sl u (eqV a k) (eqV b k) hk rfl rfl rfl) ⟨ho,yg r1 ru fa fk,yg r2 ru fb fk,?_⟩
 exact ⟨.int _,H,I.tok _,⟨_,rfl⟩,q⟩
noncomputable def QR (K:PySem.W.Frag):R2:=fun x y H Q=>∃a b xs ys,x=.ref a/\y=.ref b/\SqT K H a xs/\SqT K H b ys/\xs.all cL=true/\ys.all cL=true/\Q (.bl (!eqL xs ys)) H
theorem MC {xs ys:List V}:((List.range (min xs.length ys.length)).all (fun j=>eqV (xs.getD j .non) (ys.getD j .non)) && xs.length == ys.length)=eqL xs ys:=by
 by_cases hl:xs.length=ys.length
 ·rw [show min xs.length ys.length=xs.length by omega,zM hl,hl]
  simp
 ·have e:eqL xs ys=false:=by
   cases z:eqL xs ys with
   | false=>rfl
   | true=>exact absurd (zL z) hl
  rw [e]
  simp [hl]
theorem Pg (hu:X.A.units < cLine):OpR X (compareOp .NotEq) (QR X.K):=by
 intro pins s σ H x y u v Q I rx ry h
 obtain ⟨a,b,xs,ys,rfl,rfl,ha,hb,fa,fb,q⟩:=h
 cases rx;cases ry
 obtain ⟨ia,ra,pa,za⟩:=I.tuple ha
 obtain ⟨ib,rb,pb,zb⟩:=I.tuple hb
 have la:=ra.length
 have lb:=rb.length
 refine RcNeAt.tuples (e:=fun j=>eqV (xs.getD j .non) (ys.getD j .non)) pa pb hu (fun j h1 h2=>?_) X.prog X.w _ _ ?_
 ·simp only [List.size_toArray] at h1 h2
  have hx:xs[j]?=some (xs.getD j .non):=by
   rw [List.getD_eq_getElem?_getD,List.getElem?_eq_getElem (by omega)];rfl
  have hy:ys[j]?=some (ys.getD j .non):=by
   rw [List.getD_eq_getElem?_getD,List.getElem?_eq_getElem (by omega)];rfl
  obtain ⟨u,eu,ru⟩:=ra.get hx
  obtain ⟨v,ev,rv⟩:=rb.get hy
  have e1:ia.toArray[j]=u:=by
   have:=List.getElem?_eq_some_iff.mp eu
   simpa using this.2
  have e2:ib.toArray[j]=v:=by
   have:=List.getElem?_eq_some_iff.mp ev
   simpa using this.2
  rw [e1,e2]
  exact yg ru rv (List.all_eq_true.mp fa _ (List.mem_of_getElem? hx)) (List.all_eq_true.mp fb _ (List.mem_of_getElem? hy))
 ·have e:=MC (xs:=xs) (ys:=ys)
  simp only [List.size_toArray]
  rw [←la,←lb,e]
  exact ⟨.bl (!eqL xs ys),H,I,rfl,q⟩
end
end L2
namespace L2
open PySem PySem.Spec PyProof.Rows
inductive Eng where
 | no | wait (l r:Int) | armed (l r:Int) | other (l r s:Int) | used (l r:Int)
 deriving DecidableEq
noncomputable def pQ:Eng->List V
 | .no=>[.str "not rung",.non,.non,.non]
 | .wait l r=>[.str "not repeated",.int l,.int r,.non]
 | .armed l r=>[.str "armed",.int l,.int r,.int r]
 | .other l r s=>[.str "repeated otherwise",.int l,.int r,.int s]
 | .used l r=>[.str "used up",.int l,.int r,.int r]
theorem yk (e:Eng):∀x∈pQ e,cL x=true:=by cases e<;>simp [pQ,cL]
theorem Ff (e:Eng):(pQ e).length=4:=by cases e<;>rfl
theorem aA.free {p x:Addr}{H H':Hp}(k:aA p H H')(n:x≠p)(h:H' x=none):H x=none:=by
 cases e:H x with
 | none=>rfl
 | some o=>have:=k x o n e;rw [h] at this;cases this
theorem Ph {ls:List Cd}{n:Nat}:(ls.map fun _=>false).getD n false=false:=by
 rw [List.getD_eq_getElem?_getD,List.getElem?_map]
 cases ls[n]?<;>rfl
structure bR (C:Addr)(K:PySem.W.Frag)(H:Hp)(b cs fl st:Addr)(ls:List Cd)(fs:List Bool)(e:Eng):Prop where
 ob:∃dx,H b=some (.ins C dx [("codes",.ref cs),("failed",.ref fl),("state",.ref st)])
 oc:∃as:List Addr,H cs=some (.lst (as.map V.ref))/\dI cdV K H as ls
 of:H fl=some (.lst (fs.map V.bl))
 os:SqT K H st (pQ e)
 nn:cs≠fl
 ln:fs.length=ls.length
theorem bR.rows {C:Addr}{K:PySem.W.Frag}{H:Hp}{b cs fl st:Addr}{ls:List Cd}{fs:List Bool}{e:Eng}(h:bR C K H b cs fl st ls fs e):n8 cdV K H cs ls:=by
 obtain ⟨as,a,t⟩:=h.oc
 exact ⟨as,SqL.of a,t⟩
theorem bR.same {C:Addr}{K:PySem.W.Frag}{H H':Hp}{b cs fl st:Addr}{ls:List Cd}{fs:List Bool}{e:Eng}(h:bR C K H b cs fl st ls fs e)(s:av H H'):bR C K H' b cs fl st ls fs e:=by
 obtain ⟨⟨dx,a⟩,⟨as,c,t⟩,f,g,n,l⟩:=h
 exact ⟨⟨dx,s _ _ a⟩,⟨as,s _ _ c,t.same s⟩,s _ _ f,s.tup g,n,l⟩
theorem bR.state {C:Addr}{K:PySem.W.Frag}{H H':Hp}{b cs fl st st' dx:Addr}{ls:List Cd}{fs:List Bool}{e e':Eng}(h:bR C K H b cs fl st ls fs e)(k:aA b H H')
  (a:H' b=some (.ins C dx [("codes",.ref cs),("failed",.ref fl),("state",.ref st')])) (g:SqT K H' st' (pQ e')):bR C K H' b cs fl st' ls fs e':=by
 obtain ⟨⟨dx0,a0⟩,⟨as,c,t⟩,f,_,n,l⟩:=h
 exact ⟨⟨dx,a⟩,⟨as,k _ _ (fun z=>by rw [z,a0] at c;cases c) c,t.keepI k a0⟩,k _ _ (fun z=>by rw [z,a0] at f;cases f) f,g,n,l⟩
theorem bR.fail {C:Addr}{K:PySem.W.Frag}{H H':Hp}{b cs fl st:Addr}{ls:List Cd}{fs fs':List Bool}{e:Eng}(h:bR C K H b cs fl st ls fs e)(k:aA fl H H')(g:H' fl=some (.lst (fs'.map V.bl)))(hl:fs'.length=fs.length):bR C K H' b cs fl st ls fs' e:=by
 obtain ⟨⟨dx0,a0⟩,⟨as,c,t⟩,f,o,n,l⟩:=h
 exact ⟨⟨dx0,k _ _ (fun z=>by rw [z,f] at a0;cases a0) a0⟩,⟨as,k _ _ n c,t.keep k f⟩,g,o.keep k f,n,hl.trans l⟩
noncomputable def jr (ls:List Cd)(l:Int):Cd:=ls.getD l.toNat (0,0)
noncomputable def dC (ls:List Cd)(l:Int)(k:Str):Int:=if k="men" then (jr ls l).1 else (jr ls l).2
theorem v9 {K:PySem.W.Frag}{H:Hp}{as:List Addr}{ls:List Cd}{l:Int}(t:dI cdV K H as ls)(h0:0<=l)(h1:l < ls.length):∃a,atI (as.map V.ref) l=some (.ref a)/\SqT K H a (cdV (jr ls l)):=by
 obtain ⟨n,rfl⟩:=Int.eq_ofNat_of_zero_le h0
 have hn:n < ls.length:=by omega
 have ha:as[n]?=some (as[n]'(by rw [t.1];exact hn)):=List.getElem?_eq_getElem _
 refine ⟨as[n]'(by rw [t.1];exact hn),pP (by rw [List.getElem?_map,ha];rfl),t.2 n _ _ ha ?_⟩
 rw [jr,Int.toNat_natCast,List.getD_eq_getElem?_getD,List.getElem?_eq_getElem hn];rfl
theorem pR {fs:List Bool}{l:Int}(h0:0<=l)(h1:l < fs.length):atI (fs.map V.bl) l=some (.bl (fs.getD l.toNat false)):=by
 obtain ⟨n,rfl⟩:=Int.eq_ofNat_of_zero_le h0
 have hn:n < fs.length:=by omega
 refine pP ?_
 rw [List.getElem?_map,List.getElem?_eq_getElem hn,Int.toNat_natCast,List.getD_eq_getElem?_getD,List.getElem?_eq_getElem hn];rfl
noncomputable def lvl (ds:List Int)(d:Int):Option Int:=if d∈ds then some (ds.idxOf d:Nat) else none
noncomputable def lvV:Option Int->V
 | none=>.non
 | some i=>.int i
theorem l5 {ds:List Int}(h:cM ds){i:Nat}{d:Int}(hi:i < ds.length)(e:ds.getD i 0=d):lvl ds d=some (i:Int):=by
 have hm:d∈ds:=e▸df hi
 rw [lvl,if_pos hm]
 have hlt:=List.idxOf_lt_length_iff.mpr hm
 have e2:ds.getD (ds.idxOf d) 0=d:=by
  rw [List.getD_eq_getElem?_getD,List.getElem?_eq_getElem hlt]
  exact List.getElem_idxOf hlt
 have:ds.idxOf d=i:=by
  rcases Nat.lt_trichotomy (ds.idxOf d) i with z | z | z
  ·have:=h.lt z hi;omega
  ·exact z
  ·have:=h.lt z hlt;omega
 rw [this]
theorem Fg {ds:List Int}{d:Int}(h:∀i,i < ds.length->ds.getD i 0≠d):lvl ds d=none:=by
 rw [lvl,if_neg fun hm=>?_]
 have hlt:=List.idxOf_lt_length_iff.mpr hm
 refine h _ hlt ?_
 rw [List.getD_eq_getElem?_getD,List.getElem?_eq_getElem hlt]
 exact List.getElem_idxOf hlt
noncomputable def cj (ds:List Int)(p c:Int):Option Int:=if c=0 then lvl ds p else lvl ds (cv ds - p)
inductive Stp where
 | wind (c l:Int) | load (k c:Int) | unload (k c:Int)
noncomputable def QS (lv:Option Int)(x:List Int):Stp->Option (List Int)
 | .wind _ _=>none
 | .load k c=>match lv with | none=>none | some l=>if x.getD (k.toNat+1) 0=l/\¬10+c∈x.tail then some (x.set (k.toNat+1) (10+c)) else none
 | .unload k c=>match lv with | none=>none | some l=>if x.getD (k.toNat+1) 0=10+c then some (x.set (k.toNat+1) l) else none
noncomputable def Pj:Stp->Int
 | .wind c _=>c
 | .load _ c=>c
 | .unload _ c=>c
noncomputable def stK:Stp->Int
 | .wind _ _=>0
 | .load k _=>k
 | .unload k _=>k
noncomputable def after (ds dead:List Int)(x:List Int):Stp->Option (List Int)
 | .wind c l=>if l < 0\/(ds.length:Int)<=l\/l∈dead then none else some ((if c=0 then ds.getD l.toNat 0 else cv ds - ds.getD l.toNat 0)::x.tail)
 | s=>if stK s < 0\/(x.length:Int)<=stK s+1 then none else QS (cj ds (x.getD 0 0) (Pj s)) x s
theorem QT {K:PySem.W.Frag}{H:Hp}{Q:VK}{a b:Addr}{xs ys:List V}(ha:SqT K H a xs)(hb:SqT K H b ys)(n0:xs≠[])(hn:xs.length+ys.length<=1000)(q:∀p H',av H H'->SqT K H' p (xs++ys)->Q (.ref p) H'):N3 K (.ref a) (.ref b) H Q:=by
 refine ⟨a,b,xs,ys,rfl,rfl,ha,hb,n0,Nat.le_of_lt (dX hn),fun e=>?_,fun _ p hp=>q p _ ((av.refl H).lay hp) (SqT.of ai)⟩
 subst e
 exact q a H (av.refl H) (by rw [List.append_nil];exact ha)
theorem js {K:PySem.W.Frag}{H:Hp}{a:Addr}{xs:List Int}{n:Nat}(h:SqL K H a (xs.map V.int))(hb:xs.length<=100000):Rep K H (n+1) (.ref a) (.lst ((xs.map V.int).map Dt.flat)):=by
 refine .lst h (by rw [List.length_map];exact hb) (by simp) fun i y d e1 e2=>?_
 rw [List.getElem?_map,e1] at e2
 cases e2
 obtain ⟨z,rfl,_⟩:=pO e1
 exact .flat rfl
theorem Fh {K:PySem.W.Frag}{H:Hp}{a:Addr}{x y:V}{d e:Dt}{n:Nat}(h:SqL K H a [x,y])(h1:Rep K H n x d)(h2:Rep K H n y e):Rep K H (n+1) (.ref a) (.lst [d,e]):=by
 refine .lst h (by show 2<=100000;decide) rfl fun i v w e1 e2=>?_
 match i,e1,e2 with
 | 0,e1,e2=>cases e1;cases e2;exact h1
 | 1,e1,e2=>cases e1;cases e2;exact h2
 | i+2,e1,e2=>simp at e1
section
variable {X:Cx}
noncomputable def RB (neg:Bool):R2:=fun x y H Q=>∃(r:Addr) (lo hi i:Int),x=.int i/\y=.ref r/\H r=some (.rng lo hi)/\Q (.bl (if neg=true then !decide (lo<=i/\i < hi) else decide (lo<=i/\i < hi))) H
noncomputable def N7 (K:PySem.W.Frag):R2:=fun x y H Q=>∃a b xs ys,x=.ref a/\y=.ref b/\SqT K H a xs/\SqT K H b ys/\xs.length+ys.length<=1000/\∀p H',av H H'->SqT K H' p (xs++ys)->Q (.ref p) H'
theorem MD:OpR X (binaryOp .Add) (N7 X.K):=by
 intro pins s σ H x y v u Q I rx ry h
 obtain ⟨a,b,xs,ys,rfl,rfl,ha,hb,hz,q⟩:=h
 by_cases hx:xs=[]
 ·subst hx
  cases rx
  cases ry
  obtain ⟨its,r1,p1,_⟩:=I.tuple ha
  obtain ⟨its2,r2,p2,_⟩:=I.tuple hb
  have e1:=r1.zero
  subst e1
  obtain ⟨⟨cls,dd,data,sl⟩,ho,hc,n,hd⟩:=id p1
  obtain ⟨⟨cls2,dd2,data2,sl2⟩,ho2,hc2,n2,hd2⟩:=id p2
  simp only at hc hd hc2 hd2
  subst hc hd hc2 hd2
  exact concat_meets ⟨_,ho,rfl⟩ ⟨_,ho2,rfl⟩ noFill_tuple_add seq_tuple_add PySem.F.slot_tuple_add PySem.F.entry_tuple_add (PySem.F.args_tuple_add_2 _ _)
   (tuple_addW0 a b _ its2.toArray n n2 dd dd2 sl sl2 rfl) ⟨ho,ho2,⟨.ref b,H,I,rfl,q b H (av.refl H) hb⟩⟩
 ·exact Ip pins s σ H _ _ v u Q I rx ry (QT ha hb hx hz q)
end
theorem KZ:∀{xs ys:List Int},xs.Pairwise (· < ·)->ys.Pairwise (· < ·)->(∀k,k∈xs↔k∈ys)->xs=ys
 | [],[],_,_,_=>rfl
 | [],y::ys,_,_,h=>absurd ((h y).mpr List.mem_cons_self) (by simp)
 | x::xs,[],_,_,h=>absurd ((h x).mp List.mem_cons_self) (by simp)
 | x::xs,y::ys,hx,hy,h=>by
  obtain ⟨x1,x2⟩:=List.pairwise_cons.mp hx
  obtain ⟨y1,y2⟩:=List.pairwise_cons.mp hy
  have e:x=y:=by
   rcases List.mem_cons.mp ((h x).mp List.mem_cons_self) with e | e
   ·exact e
   ·rcases List.mem_cons.mp ((h y).mpr List.mem_cons_self) with e' | e'
    ·exact e'.symm
    ·have:=y1 x e
     have:=x1 y e'
     omega
  subst e
  rw [KZ x2 y2 fun k=>?_]
  constructor
  ·intro hk
   rcases List.mem_cons.mp ((h k).mp (List.mem_cons_of_mem _ hk)) with e | e
   ·have:=x1 k hk
    omega
   ·exact e
  ·intro hk
   rcases List.mem_cons.mp ((h k).mpr (List.mem_cons_of_mem _ hk)) with e | e
   ·have:=y1 k hk
    omega
   ·exact e
structure Cl where
 (B Y S K W:Addr)
structure aY where
 place:Int
 gates:List Bool
 fs:List Bool
 e:Eng
 ws:List Int
structure Cfg where
 ds:List Int
 ls:List Cd
 slow:Int
 fast:Int
 goals:List Int
 ks:List Str
 N:Addr->Prop:=fun _=>False
structure SA where
 (dx ol b cs fl st y kn wh:Addr)
structure QU (rl:Addr)(A:SA):Prop where
 r1:A.ol≠rl
 r2:A.cs≠rl
 r3:A.fl≠rl
 r4:A.kn≠rl
 r5:A.wh≠rl
 o1:A.cs≠A.ol
 o2:A.fl≠A.ol
 o3:A.kn≠A.ol
 o4:A.wh≠A.ol
 f1:A.ol≠A.fl
 f2:A.kn≠A.fl
 f3:A.wh≠A.fl
 w1:A.ol≠A.wh
 w2:A.cs≠A.wh
 w3:A.fl≠A.wh
 w4:A.kn≠A.wh
structure Off (H:Hp)(rl:Addr)(N:Addr->Prop)(A:SA):Prop where
 al:∀p,N p->∃ys,H p=some (.lst ys)
 nr:∀p,N p->rl≠p
 no:∀p,N p->A.ol≠p
 nc:∀p,N p->A.cs≠p
 nf:∀p,N p->A.fl≠p
 nk:∀p,N p->A.kn≠p
 nw:∀p,N p->A.wh≠p
theorem Off.keep {H H':Hp}{rl q:Addr}{N:Addr->Prop}{A:SA}(h:Off H rl N A)(k:aA q H H')(hq:∀p,N p->q≠p):Off H' rl N A:=⟨fun p hp=>by
 obtain ⟨ys,e⟩:=h.al p hp
 exact ⟨ys,k _ _ (hq p hp).symm e⟩,h.nr,h.no,h.nc,h.nf,h.nk,h.nw⟩
theorem Off.same {H H':Hp}{rl:Addr}{N:Addr->Prop}{A:SA}(h:Off H rl N A)(k:av H H'):Off H' rl N A:=⟨fun p hp=>by
 obtain ⟨ys,e⟩:=h.al p hp
 exact ⟨ys,k _ _ e⟩,h.nr,h.no,h.nc,h.nf,h.nk,h.nw⟩
theorem Off.keepI {H H':Hp}{rl q C dx:Addr}{fs:List (Str×V)}{N:Addr->Prop}{A:SA}(h:Off H rl N A)(k:aA q H H')(hq:H q=some (.ins C dx fs)):Off H' rl N A:=h.keep k fun p hp z=>by
 obtain ⟨ys,e⟩:=h.al p hp
 rw [←z,hq] at e
 cases e
structure br (C:Cl)(K:PySem.W.Frag)(H:Hp)(rl:Addr)(g:Cfg)(s:Addr)(A:SA)(n:aY):Prop where
 ob:H s=some (.ins C.S A.dx [("place",.int n.place),("opened",.ref A.ol),("bells",.ref A.b),("yard",.ref A.y)])
 go:H A.ol=some (.lst (n.gates.map V.bl))
 be:bR C.B K H A.b A.cs A.fl A.st g.ls n.fs n.e
 ya:dS C.Y H A.y A.kn A.wh g.ks n.ws g.ds.length
 ap:QU rl A
 nn:Off H rl g.N A
def gn (C:Cl)(K:PySem.W.Frag)(H:Hp)(rl:Addr)(g:Cfg)(s:Addr)(n:aY):Prop:=∃A,br C K H rl g s A n
theorem bR.off {C:Addr}{K:PySem.W.Frag}{H H':Hp}{p b cs fl st:Addr}{ls:List Cd}{fs:List Bool}{e:Eng}{ys:List V}(h:bR C K H b cs fl st ls fs e)(s:aA p H H')(hp:H p=some (.lst ys))(n1:cs≠p)(n2:fl≠p):bR C K H' b cs fl st ls fs e:=by
 obtain ⟨⟨dx,a⟩,⟨as,c,t⟩,f,g,n,l⟩:=h
 exact ⟨⟨dx,s _ _ (fun z=>by rw [z,hp] at a;cases a) a⟩,⟨as,s _ _ n1 c,t.keep s hp⟩,s _ _ n2 f,g.keep s hp,n,l⟩
theorem bR.offI {C D dp:Addr}{K:PySem.W.Frag}{H H':Hp}{p b cs fl st:Addr}{ls:List Cd}{fs:List Bool}{e:Eng}{us:List (Str×V)}(h:bR C K H b cs fl st ls fs e)(s:aA p H H')(hp:H p=some (.ins D dp us))(n1:b≠p):bR C K H' b cs fl st ls fs e:=by
 obtain ⟨⟨dx,a⟩,⟨as,c,t⟩,f,g,n,l⟩:=h
 exact ⟨⟨dx,s _ _ n1 a⟩,⟨as,s _ _ (fun z=>by rw [z,hp] at c;cases c) c,t.keepI s hp⟩,s _ _ (fun z=>by rw [z,hp] at f;cases f) f,g.keepI s hp,n,l⟩
theorem dS.offI {C D dp:Addr}{H H':Hp}{p y kn wh:Addr}{ks:List Str}{ws:List Int}{m:Int}{us:List (Str×V)}(h:dS C H y kn wh ks ws m)(s:aA p H H')(hp:H p=some (.ins D dp us))(n1:y≠p):dS C H' y kn wh ks ws m:=by
 obtain ⟨⟨dx,a⟩,b,c⟩:=h
 exact ⟨⟨dx,s _ _ n1 a⟩,s _ _ (fun z=>by rw [z,hp] at b;cases b) b,s _ _ (fun z=>by rw [z,hp] at c;cases c) c⟩
section
variable {C:Cl}{K:PySem.W.Frag}{H H':Hp}{rl s a w bk:Addr}{g:Cfg}{A:SA}{n n0:aY}
theorem br.same (h:br C K H rl g s A n)(e:av H H'):br C K H' rl g s A n:=⟨e _ _ h.ob,e _ _ h.go,h.be.same e,h.ya.same e,h.ap,h.nn.same e⟩
theorem br.keep {ys:List V}(h:br C K H rl g s A n)(e:aA rl H H')(hr:H rl=some (.lst ys)):br C K H' rl g s A n:=
 ⟨e _ _ (fun z=>by have:=h.ob;rw [z,hr] at this;cases this) h.ob,e _ _ h.ap.r1 h.go,h.be.off e hr h.ap.r2 h.ap.r3,h.ya.off e hr h.ap.r4 h.ap.r5,h.ap,h.nn.keep e h.nn.nr⟩
theorem br.at (h:br C K H rl g s A n):gn C K H rl g s n:=⟨A,h⟩
theorem gn.same (h:gn C K H rl g s n)(e:av H H'):gn C K H' rl g s n:=by
 obtain ⟨A,h⟩:=h
 exact ⟨A,h.same e⟩
theorem gn.keep {ys:List V}(h:gn C K H rl g s n)(e:aA rl H H')(hr:H rl=some (.lst ys)):gn C K H' rl g s n:=by
 obtain ⟨A,h⟩:=h
 exact ⟨A,h.keep e hr⟩
theorem br.gates (h:br C K H rl g s A n)(e:aA A.ol H H'){gs:List Bool}(hg:H' A.ol=some (.lst (gs.map V.bl))):br C K H' rl g s A {n with gates:=gs}:=
 ⟨e _ _ (fun z=>by have:=h.ob;rw [z,h.go] at this;cases this) h.ob,hg,h.be.off e h.go h.ap.o1 h.ap.o2,h.ya.off e h.go h.ap.o3 h.ap.o4,h.ap,h.nn.keep e h.nn.no⟩
structure Row where
 began:Int
 ended:Int
 deed:List V
 speed:Int
 sn:aY
def wa (C:Cl)(K:PySem.W.Frag)(H:Hp)(rl:Addr)(g:Cfg)(a:Addr)(r:Row):Prop:=∃dd s,SqT K H a [.int r.began,.int r.ended,.ref dd,.int r.speed,.ref s]/\SqT K H dd r.deed/\gn C K H rl g s r.sn
theorem wa.same {r:Row}(h:wa C K H rl g a r)(e:av H H'):wa C K H' rl g a r:=by
 obtain ⟨dd,s,h1,h2,h3⟩:=h
 exact ⟨dd,s,e.tup h1,e.tup h2,h3.same e⟩
theorem wa.keep {r:Row}{ys:List V}(h:wa C K H rl g a r)(e:aA rl H H')(hr:H rl=some (.lst ys)):wa C K H' rl g a r:=by
 obtain ⟨dd,s,h1,h2,h3⟩:=h
 exact ⟨dd,s,h1.keep e hr,h2.keep e hr,h3.keep e hr⟩
def yl (C:Cl)(K:PySem.W.Frag)(H:Hp)(rl:Addr)(g:Cfg)(as:List Addr)(rs:List Row):Prop:=as.length=rs.length/\∀(i:Nat) a r,as[i]?=some a->rs[i]?=some r->wa C K H rl g a r
theorem yl.same {as:List Addr}{rs:List Row}(h:yl C K H rl g as rs)(e:av H H'):yl C K H' rl g as rs:=⟨h.1,fun i a r e1 e2=>(h.2 i a r e1 e2).same e⟩
theorem yl.keep {as:List Addr}{rs:List Row}{ys:List V}(h:yl C K H rl g as rs)(e:aA rl H H')(hr:H rl=some (.lst ys)):yl C K H' rl g as rs:=⟨h.1,fun i a r e1 e2=>(h.2 i a r e1 e2).keep e hr⟩
theorem yl.push {as:List Addr}{rs:List Row}{r:Row}(h:yl C K H rl g as rs)(hr:wa C K H rl g a r):yl C K H rl g (as++[a]) (rs++[r]):=by
 refine ⟨by rw [List.length_append,List.length_append,h.1];rfl,fun i b x e1 e2=>?_⟩
 by_cases hi:i < as.length
 ·rw [List.getElem?_append_left hi] at e1
  rw [List.getElem?_append_left (by rw [←h.1];exact hi)] at e2
  exact h.2 i b x e1 e2
 ·rw [List.getElem?_append_right (by omega)] at e1
  rw [List.getElem?_append_right (by rw [←h.1];omega),←h.1] at e2
  have hz:i - as.length=0:=by
   have:=(List.getElem?_eq_some_iff.mp e1).1
   simp at this
   omega
  rw [hz] at e1 e2
  cases e1
  cases e2
  exact hr
noncomputable def ak (n0:aY)(rs:List Row):aY:=match rs.getLast? with | none=>n0 | some r=>r.sn
noncomputable def bw (rs:List Row):Int:=match rs.getLast? with | none=>0 | some r=>r.ended
structure BAt (C:Cl)(K:PySem.W.Frag)(H:Hp)(bk rl:Addr)(g:Cfg)(n0:aY)(rs:List Row):Prop where
 ob:∃dx f,H bk=some (.ins C.K dx [("first",.ref f),("most",.int 300),("rows",.ref rl)])/\gn C K H rl g f n0
 ro:∃as,H rl=some (.lst (as.map V.ref))/\yl C K H rl g as rs
theorem BAt.same {rs:List Row}(h:BAt C K H bk rl g n0 rs)(e:av H H'):BAt C K H' bk rl g n0 rs:=by
 obtain ⟨⟨dx,f,h1,h2⟩,as,h3,h4⟩:=h
 exact ⟨⟨dx,f,e _ _ h1,h2.same e⟩,as,e _ _ h3,h4.same e⟩
structure WAt (C:Cl)(K:PySem.W.Frag)(H:Hp)(w bk rl:Addr)(g:Cfg)(n0:aY)(rs:List Row):Prop where
 ob:∃dx dl gl,H w=some (.ins C.W dx [("depths",.ref dl),("slow",.int g.slow),("fast",.int g.fast),("goals",.ref gl),("log",.ref bk)])/\H dl=some (.lst (g.ds.map V.int))/\H gl=some (.lst (g.goals.map V.int))/\dl≠rl/\gl≠rl/\(∀p,g.N p->dl≠p)/\∀p,g.N p->gl≠p
 bo:BAt C K H bk rl g n0 rs
theorem WAt.same {rs:List Row}(h:WAt C K H w bk rl g n0 rs)(e:av H H'):WAt C K H' w bk rl g n0 rs:=by
 obtain ⟨⟨dx,dl,gl,h1,h2,h3,h4⟩,h5⟩:=h
 exact ⟨⟨dx,dl,gl,e _ _ h1,e _ _ h2,e _ _ h3,h4⟩,h5.same e⟩
theorem WAt.keep {rs rs':List Row}{ys:List V}(h:WAt C K H w bk rl g n0 rs)(e:aA rl H H')(hr:H rl=some (.lst ys))(hb:BAt C K H' bk rl g n0 rs'):WAt C K H' w bk rl g n0 rs':=by
 obtain ⟨⟨dx,dl,gl,h1,h2,h3,h4,h6⟩,h5⟩:=h
 exact ⟨⟨dx,dl,gl,e _ _ (fun z=>by rw [z,hr] at h1;cases h1) h1,e _ _ h4 h2,e _ _ h6.1 h3,h4,h6⟩,hb⟩
end
theorem dE {α:Type}(l:List α):l=[]\/∃l' a,l=l'++[a]:=by
 rcases List.eq_nil_or_concat l with h | ⟨l',a,h⟩
 ·exact .inl h
 ·exact .inr ⟨l',a,by rw [h,List.concat_eq_append]⟩
theorem yl.last {C:Cl}{K:PySem.W.Frag}{H:Hp}{rl:Addr}{g:Cfg}{as:List Addr}{rs:List Row}{r:Row}(h:yl C K H rl g as (rs++[r])):∃as' a,as=as'++[a]/\yl C K H rl g as' rs/\wa C K H rl g a r:=by
 have hl:=h.1
 rw [List.length_append,List.length_singleton] at hl
 rcases dE as with rfl | ⟨as',a,rfl⟩
 ·cases hl
 ·have hl':as'.length=rs.length:=by rw [List.length_append,List.length_singleton] at hl;omega
  refine ⟨as',a,rfl,⟨hl',fun i b x e1 e2=>?_⟩,?_⟩
  ·have hi:=(List.getElem?_eq_some_iff.mp e1).1
   exact h.2 i b x (by rw [List.getElem?_append_left hi];exact e1) (by rw [List.getElem?_append_left (by omega)];exact e2)
  ·refine h.2 as'.length a r ?_ ?_
   ·rw [List.getElem?_append_right (Nat.le_refl _)];simp
   ·rw [List.getElem?_append_right (by omega),hl'];simp
theorem CI {as:List Addr}{a:Addr}:atI ((as++[a]).map V.ref) (((as++[a]).map V.ref).length - 1:Int)=some (.ref a):=by
 rw [show ((((as++[a]).map V.ref).length:Int) - 1)=((as.length:Nat):Int) by rw [List.length_map,List.length_append];simp]
 exact pP (by rw [List.map_append,List.getElem?_append_right (by rw [List.length_map];exact Nat.le_refl _),List.length_map];simp)
theorem jd (rs:List Row)(r:Row):bw (rs++[r])=r.ended:=by simp [bw]
theorem kI (n0:aY)(rs:List Row)(r:Row):ak n0 (rs++[r])=r.sn:=by simp [ak]
theorem kJ {H H':Hp}{x dx:Addr}{o1 o2:HO}(hx:H x=none)(hdx:H dx=none)(kp:aA x (upd (upd H dx o1) x o2) H'):av H H':=fun b o e=>kp b o (aq e hx) (by rw [aV (aq e hx),aV (aq e hdx)];exact e)
theorem jt {H:Hp}{x dx z:Addr}{o1 o2:HO}(h:upd (upd H dx o1) x o2 z=none):H z=none:=upn (upn h)
noncomputable def Fi (ks:List Str)(ws:List Int):Bool:=(ks.zip ws).any fun p=>decide (p.1="men") && decide (p.2=10\/p.2=11)
theorem CJ {ks:List Str}{ws:List Int}{i:Nat}(h:∀j k x,j < i->ks[j]?=some k->ws[j]?=some x->(decide (k="men") && decide (x=10\/x=11))=false)(hi:ks.length<=i\/ws.length<=i):Fi ks ws=false:=by
 unfold Fi
 rw [List.any_eq_false]
 intro p hp
 obtain ⟨j,hj⟩:=List.getElem?_of_mem hp
 rw [List.getElem?_zip_eq_some] at hj
 have h1:=(List.getElem?_eq_some_iff.mp hj.1).1
 have h2:=(List.getElem?_eq_some_iff.mp hj.2).1
 rw [h j p.1 p.2 (by omega) hj.1 hj.2]
 exact Bool.false_ne_true
theorem Fj {ks:List Str}{ws:List Int}{i:Nat}{k:Str}{x:Int}(h1:ks[i]?=some k)(h2:ws[i]?=some x)(hk:k="men")(hx:x=10\/x=11):Fi ks ws=true:=by
 unfold Fi
 rw [List.any_eq_true]
 refine ⟨(k,x),List.mem_of_getElem? (i:=i) (by rw [List.getElem?_zip_eq_some];exact ⟨h1,h2⟩),?_⟩
 simp [hk,hx]
theorem CK (x:Int):inV (.int x) [.int 10,.int 11]=decide (x=10\/x=11):=by
 have:=vZ x [10,11]
 rw [show ([10,11]:List Int).map V.int=[V.int 10,V.int 11] from rfl] at this
 rw [this]
 simp
noncomputable def inC (ws:List Int)(c:Int):V:=if 10+c∈ws then .int (ws.idxOf (10+c):Nat) else .non
noncomputable def BH (ws:List Int)(lv:Int)(i:Nat):List Int:=((List.range i).filter fun j=>decide (ws.getD j 0=lv)).map fun (j:Nat)=>(j:Int)
noncomputable def l7 (ws:List Int)(lv:Int):List Int:=BH ws lv ws.length
theorem JB (ws:List Int)(lv:Int)(i:Nat):BH ws lv (i+1)=BH ws lv i++(if ws.getD i 0=lv then [(i:Int)] else []):=by
 unfold BH
 rw [List.range_succ,List.filter_append,List.map_append]
 by_cases h:ws.getD i 0=lv
 ·rw [if_pos h,List.filter_cons,if_pos (by simpa using h)];rfl
 ·rw [if_neg h,List.filter_cons,if_neg (by simpa using h)];rfl
theorem Fk (ws:List Int)(lv:Int)(i:Nat):(BH ws lv i).length<=i:=by
 unfold BH
 rw [List.length_map]
 exact Nat.le_trans (List.length_filter_le _ _) (by rw [List.length_range];exact Nat.le_refl _)
noncomputable def nv (ds:List Int)(pl:Int):List Int:=((List.range ds.length).filter fun i=>decide (ds.getD i 0=pl\/ds.getD i 0=cv ds - pl)).map fun (i:Nat)=>(i:Int)
structure fu (g:Cfg):Prop where
 sh:cM g.ds
 lc:g.ls.length=g.ds.length
 gc:∀x∈g.ls,gx x
 s1:1<=g.slow
 sf:g.slow<=g.fast
 f5:g.fast<=500
 gk:g.goals.length=g.ks.length
 k30:g.ks.length<=30
noncomputable def cS (g:Cfg)(n:aY):Int:=if Fi g.ks n.ws=true then g.slow else g.fast
theorem fu.speed {g:Cfg}(h:fu g)(n:aY):1<=cS g n/\cS g n<=500:=by
 have:=h.s1;have:=h.sf;have:=h.f5
 unfold cS;split<;>omega
inductive Dd where
 | ring (l s:Int) | rept (s:Int) | opn (l:Int) | sht (l:Int) | load (k c:Int) | unload (c:Int) | wind (c l:Int) (k:Str) | fail (l:Int)
noncomputable def ddV:Dd->List V
 | .ring l s=>[.str "ring",.int l,.int s]
 | .rept s=>[.str "repeat",.int s]
 | .opn l=>[.str "open",.int l]
 | .sht l=>[.str "shut",.int l]
 | .load k c=>[.str "load",.int k,.int c]
 | .unload c=>[.str "unload",.int c]
 | .wind c l k=>[.str "wind",.int c,.int l,.str k]
 | .fail l=>[.str "fail",.int l]
theorem Ad (d:Dd):∀x∈ddV d,cL x=true:=by
 cases d<;>intro x hx<;>simp only [ddV,List.mem_cons,List.not_mem_nil,or_false] at hx<;>rcases hx with h | h | h | h<;>(try subst h)<;>(try rfl)<;>simp_all [cL]
theorem IF (d:Dd):(ddV d).length<=4:=by cases d<;>simp [ddV]
noncomputable def Eo:Dd->Prop
 | .load _ c=>0<=c/\c < 2
 | .unload c=>0<=c/\c < 2
 | .wind c _ k=>(0<=c/\c < 2)/\(k="men"\/k="coal")
 | _=>True
inductive Rw where
 | lv | db | nc | nr | ch | na | ul | nt | ct | gs | ce | go
 deriving DecidableEq
def unk (l:Int)(m:Nat):Prop:=¬(0<=l/\l < m)
instance (l:Int) (m:Nat):Decidable (unk l m):=inferInstanceAs (Decidable (¬_))
noncomputable def l8 (g:Cfg)(n:aY):Bool:=(nv g.ds n.place).any fun x=>n.gates.getD x.toNat false
noncomputable def g0 (g:Cfg)(n:aY):Dd->Option Rw
 | .ring l s=>if unk l g.ds.length then some .lv else if n.fs.getD l.toNat false=true then some .db else if s=(jr g.ls l).1\/s=(jr g.ls l).2 then none else some .nc
 | .rept s=>match n.e with | .wait _ _=>if 1<=s/\s<=9 then none else some .nc | _=>some .nr
 | .opn l=>if unk l g.ds.length then some .lv else if n.gates.getD l.toNat false=true then some .ch else none
 | .sht l=>if unk l g.ds.length then some .lv else if n.gates.getD l.toNat false=false then some .ch else none
 | .load k c=>if unk k n.ws.length then some .ul else match cj g.ds n.place c with
  | none=>some .nt
  | some l=>if n.ws.getD k.toNat 0≠l then some .nt else if 10+c∈n.ws then some .ct else if n.gates.getD l.toNat false=true then none else some .gs
 | .unload c=>if ¬10+c∈n.ws then some .ce else match cj g.ds n.place c with
  | none=>some .nt
  | some l=>if n.gates.getD l.toNat false=true then none else some .gs
 | .wind _ l k=>if unk l g.ds.length then some .lv else if l8 g n=true then some .go else if n.e=.armed l (dC g.ls l k) then none else some .na
 | .fail l=>if unk l g.ds.length then some .lv else if n.fs.getD l.toNat false=true then some .ch else none
noncomputable def dU (ds:List Int)(c l:Int):Int:=if c=0 then ds.getD l.toNat 0 else cv ds - ds.getD l.toNat 0
noncomputable def Ae (g:Cfg)(n:aY):Dd->Eng
 | .ring l s=>.wait l s
 | .rept s=>match n.e with | .wait l r=>if s=r then .armed l r else .other l r s | e=>e
 | .wind _ l k=>.used l (dC g.ls l k)
 | _=>n.e
noncomputable def cC (g:Cfg)(n:aY)(d:Dd):aY:=
 {place:=match d with | .wind c l _=>dU g.ds c l | _=>n.place
  gates:=match d with | .opn l=>n.gates.set l.toNat true | .sht l=>n.gates.set l.toNat false | _=>n.gates
  fs:=match d with | .fail l=>n.fs.set l.toNat true | _=>n.fs
  e:=Ae g n d
  ws:=match d with | .load k c=>n.ws.set k.toNat (10+c) | .unload c=>n.ws.set (n.ws.idxOf (10+c)) ((cj g.ds n.place c).getD (-1)) | _=>n.ws}
noncomputable def BI (x:Int):Int:=if x < 0 then -x else x
noncomputable def l9 (way sp:Int):Int:=(way+sp - 1) / sp
noncomputable def fC (g:Cfg)(n:aY):Dd->Int
 | .wind c l _=>l9 (BI (dU g.ds c l - n.place)) (cS g n)
 | _=>1
noncomputable def ny (g:Cfg)(n0:aY)(rs:List Row)(d:Dd):Row:=⟨bw rs,bw rs+fC g (ak n0 rs) d,ddV d,cS g (cC g (ak n0 rs) d),cC g (ak n0 rs) d⟩
structure dD (g:Cfg)(n:aY):Prop where
 gl:n.gates.length=g.ds.length
 fl:n.fs.length=g.ds.length
 wl:n.ws.length=g.ks.length
 wr:∀x∈n.ws,(0<=x/\x < g.ds.length)\/x=10\/x=11
 un:∀i j,i < n.ws.length->j < n.ws.length->10<=n.ws.getD i 0->n.ws.getD i 0=n.ws.getD j 0->i=j
 st:∃c,(c=0\/c=1)/\∃l,cj g.ds n.place c=some l
 ew:∀l r,n.e=.wait l r\/n.e=.armed l r->0<=l/\l < g.ds.length/\(r=(jr g.ls l).1\/r=(jr g.ls l).2)
theorem tJ (ws:List Int)(n i:Nat)(v:Int)(hi:i < ws.length):(ws.set n v).getD i 0=if n=i then v else ws.getD i 0:=by
 rw [List.getD_eq_getElem?_getD,List.getD_eq_getElem?_getD,List.getElem?_set]
 split
 ·rename_i e
  subst e
  rw [if_pos hi];rfl
 ·rfl
theorem Fl {ds:List Int}{d l:Int}(h:lvl ds d=some l):0<=l/\l < ds.length/\ds.getD l.toNat 0=d:=by
 unfold lvl at h
 split at h
 ·rename_i hm
  cases h
  have hlt:=List.idxOf_lt_length_iff.mpr hm
  refine ⟨Int.natCast_nonneg _,by omega,?_⟩
  rw [Int.toNat_natCast,List.getD_eq_getElem?_getD,List.getElem?_eq_getElem hlt]
  exact List.getElem_idxOf hlt
 ·cases h
theorem i6 {ds:List Int}{p c l:Int}(h:cj ds p c=some l):0<=l/\l < ds.length/\ds.getD l.toNat 0=(if c=0 then p else cv ds - p):=by
 unfold cj at h
 split at h
 ·rename_i e;rw [if_pos e];exact Fl h
 ·rename_i e;rw [if_neg e];exact Fl h
theorem ym {ws:List Int}{k:Int}(h:k∈ws):ws.idxOf k < ws.length/\ws.getD (ws.idxOf k) 0=k:=by
 have hlt:=List.idxOf_lt_length_iff.mpr h
 refine ⟨hlt,?_⟩
 rw [List.getD_eq_getElem?_getD,List.getElem?_eq_getElem hlt]
 exact List.getElem_idxOf hlt
theorem Fm {ws:List Int}{n:Nat}{v x:Int}(h:x∈ws.set n v):x∈ws\/x=v:=List.mem_or_eq_of_mem_set h
theorem Hg {ds:List Int}(hs:cM ds){c l:Int}(hc:0<=c/\c < 2)(hl:0<=l/\l < ds.length):cj ds (dU ds c l) c=some l:=by
 obtain ⟨k,rfl⟩:=Int.eq_ofNat_of_zero_le hl.1
 unfold cj dU
 split
 ·exact l5 hs (by omega) (by rw [Int.toNat_natCast])
 ·exact l5 hs (by omega) (by rw [Int.toNat_natCast];omega)
theorem ifn {c:Prop}[Decidable c]{a:Rw}{x:Option Rw}(h:(if c then some a else x)=none):¬c/\x=none:=by
 split at h
 ·cases h
 ·rename_i n;exact ⟨n,h⟩
theorem ify {c:Prop}[Decidable c]{a:Rw}(h:(if c then none else some a)=none):c:=by
 split at h
 ·assumption
 ·cases h
theorem tK {l:Int}{m:Nat}(h:¬unk l m):0<=l/\l < m:=Decidable.not_not.mp h
theorem K0 {g:Cfg}{n:aY}{l s:Int}(h:g0 g n (.ring l s)=none):(0<=l/\l < g.ds.length)/\n.fs.getD l.toNat false=false/\(s=(jr g.ls l).1\/s=(jr g.ls l).2):=by
 obtain ⟨h1,h⟩:=ifn h
 obtain ⟨h2,h⟩:=ifn h
 exact ⟨tK h1,by simpa using h2,ify h⟩
theorem Fn {g:Cfg}{n:aY}{s:Int}(h:g0 g n (.rept s)=none):∃l r,n.e=.wait l r/\1<=s/\s<=9:=by
 simp only [g0] at h
 split at h
 ·rename_i l r e;exact ⟨l,r,e,ify h⟩
 ·cases h
theorem ME {g:Cfg}{n:aY}{l:Int}(h:g0 g n (.opn l)=none):(0<=l/\l < g.ds.length)/\n.gates.getD l.toNat false=false:=by
 obtain ⟨h1,h⟩:=ifn h
 obtain ⟨h2,h⟩:=ifn h
 exact ⟨tK h1,by simpa using h2⟩
theorem MF {g:Cfg}{n:aY}{l:Int}(h:g0 g n (.sht l)=none):(0<=l/\l < g.ds.length)/\n.gates.getD l.toNat false=true:=by
 obtain ⟨h1,h⟩:=ifn h
 obtain ⟨h2,h⟩:=ifn h
 exact ⟨tK h1,by simpa using h2⟩
theorem K1 {g:Cfg}{n:aY}{l:Int}(h:g0 g n (.fail l)=none):(0<=l/\l < g.ds.length)/\n.fs.getD l.toNat false=false:=by
 obtain ⟨h1,h⟩:=ifn h
 obtain ⟨h2,h⟩:=ifn h
 exact ⟨tK h1,by simpa using h2⟩
theorem Fo {g:Cfg}{n:aY}{k c:Int}(h:g0 g n (.load k c)=none):(0<=k/\k < n.ws.length)/\∃l,cj g.ds n.place c=some l/\n.ws.getD k.toNat 0=l/\¬10+c∈n.ws/\n.gates.getD l.toNat false=true:=by
 obtain ⟨h1,h⟩:=ifn h
 refine ⟨tK h1,?_⟩
 cases e:cj g.ds n.place c with
 | none=>rw [e] at h;cases h
 | some l=>
  rw [e] at h
  obtain ⟨h2,h⟩:=ifn h
  obtain ⟨h3,h⟩:=ifn h
  exact ⟨l,rfl,Decidable.not_not.mp h2,h3,ify h⟩
theorem Af {g:Cfg}{n:aY}{c:Int}(h:g0 g n (.unload c)=none):10+c∈n.ws/\∃l,cj g.ds n.place c=some l/\n.gates.getD l.toNat false=true:=by
 obtain ⟨h1,h⟩:=ifn h
 refine ⟨Decidable.not_not.mp h1,?_⟩
 cases e:cj g.ds n.place c with
 | none=>rw [e] at h;cases h
 | some l=>rw [e] at h;exact ⟨l,rfl,ify h⟩
theorem qZ {g:Cfg}{n:aY}{c l:Int}{k:Str}(h:g0 g n (.wind c l k)=none):(0<=l/\l < g.ds.length)/\l8 g n=false/\n.e=.armed l (dC g.ls l k):=by
 obtain ⟨h1,h⟩:=ifn h
 obtain ⟨h2,h⟩:=ifn h
 exact ⟨tK h1,by simpa using h2,ify h⟩
theorem dD.next {g:Cfg}{n:aY}{d:Dd}(hg:fu g)(h:dD g n)(ok:Eo d)(hr:g0 g n d=none):dD g (cC g n d):=by
 have hds:=hg.sh.l6
 cases d with
 | ring l s=>
  obtain ⟨h1,_,h3⟩:=K0 hr
  exact ⟨h.gl,h.fl,h.wl,h.wr,h.un,h.st,fun l' r e=>by
   simp only [cC,Ae] at e
   rcases e with e | e
   ·cases e;exact ⟨h1.1,h1.2,h3⟩
   ·cases e⟩
 | rept s=>
  refine ⟨h.gl,h.fl,h.wl,h.wr,h.un,h.st,fun l' r e=>?_⟩
  simp only [cC,Ae] at e
  obtain ⟨l0,r0,e0,_⟩:=Fn hr
  rw [e0] at e
  simp only at e
  have:=h.ew l0 r0 (.inl e0)
  split at e
  ·rcases e with e | e
   ·cases e
   ·cases e;exact this
  ·rcases e with e | e<;>cases e
 | opn l=>exact ⟨by simp only [cC];rw [List.length_set];exact h.gl,h.fl,h.wl,h.wr,h.un,h.st,h.ew⟩
 | sht l=>exact ⟨by simp only [cC];rw [List.length_set];exact h.gl,h.fl,h.wl,h.wr,h.un,h.st,h.ew⟩
 | fail l=>exact ⟨h.gl,by simp only [cC];rw [List.length_set];exact h.fl,h.wl,h.wr,h.un,h.st,h.ew⟩
 | load k c=>
  obtain ⟨h1,l,hl,h3,h4,_⟩:=Fo hr
  have hc:0<=c/\c < 2:=ok
  refine ⟨h.gl,h.fl,by simp only [cC];rw [List.length_set];exact h.wl,fun x hx=>?_,fun i j hi hj h10 e=>?_,h.st,h.ew⟩
  ·rcases Fm hx with hx | rfl
   ·exact h.wr x hx
   ·omega
  ·simp only [cC,List.length_set] at hi hj h10 e
   rw [tJ _ _ _ _ hi] at h10 e
   rw [tJ _ _ _ _ hj] at e
   split at e<;>split at e
   ·omega
   ·exact absurd (e▸df hj) h4
   ·exact absurd (e▸df hi) h4
   ·rename_i n1 n2;rw [if_neg n1] at h10;exact h.un i j hi hj h10 e
 | unload c=>
  obtain ⟨h1,l,hl,_⟩:=Af hr
  obtain ⟨l0,l1,l2⟩:=i6 hl
  refine ⟨h.gl,h.fl,by simp only [cC];rw [List.length_set];exact h.wl,fun x hx=>?_,fun i j hi hj h10 e=>?_,h.st,h.ew⟩
  ·simp only [cC,hl,Option.getD_some] at hx
   rcases Fm hx with hx | rfl
   ·exact h.wr x hx
   ·exact .inl ⟨l0,l1⟩
  ·simp only [cC,List.length_set,hl,Option.getD_some] at hi hj h10 e
   rw [tJ _ _ _ _ hi] at h10 e
   rw [tJ _ _ _ _ hj] at e
   split at e
   ·rename_i n1;rw [if_pos n1] at h10;omega
   ·rename_i n1
    rw [if_neg n1] at h10
    split at e
    ·omega
    ·exact h.un i j hi hj h10 e
 | wind c l k=>
  obtain ⟨h1,_⟩:=qZ hr
  refine ⟨h.gl,h.fl,h.wl,h.wr,h.un,⟨c,by have:=ok.1;omega,l,Hg hg.sh ok.1 h1⟩,fun l' r e=>?_⟩
  simp only [cC,Ae] at e
  rcases e with e | e<;>cases e
theorem dD.place {g:Cfg}{n:aY}(hg:fu g)(h:dD g n):0<=n.place/\n.place<=cv g.ds:=by
 obtain ⟨c,hc,l,hl⟩:=h.st
 obtain ⟨l0,l1,l2⟩:=i6 hl
 have hm:g.ds.getD l.toNat 0∈g.ds:=df (by omega)
 have:=hg.sh.lo _ hm
 have:=hg.sh.le_whole hm
 split at l2<;>omega
noncomputable def n9 (fs:List Bool)(i:Nat):List Int:=((List.range i).filter fun j=>fs.getD j false).map fun (j:Nat)=>(j:Int)
noncomputable def dJ (fs:List Bool):List Int:=n9 fs fs.length
theorem Fp (fs:List Bool)(i:Nat):n9 fs (i+1)=n9 fs i++(if fs.getD i false=true then [(i:Int)] else []):=by
 unfold n9
 rw [List.range_succ,List.filter_append,List.map_append]
 by_cases h:fs.getD i false=true
 ·rw [if_pos h,List.filter_cons,if_pos h];rfl
 ·rw [if_neg h,List.filter_cons,if_neg h];rfl
theorem Ag (fs:List Bool)(i:Nat):(n9 fs i).length<=i:=by
 unfold n9
 rw [List.length_map]
 exact Nat.le_trans (List.length_filter_le _ _) (by rw [List.length_range];exact Nat.le_refl _)
theorem ow {fs:List Bool}{x:Int}:x∈dJ fs↔0<=x/\x < fs.length/\fs.getD x.toNat false=true:=by
 unfold dJ n9
 rw [List.mem_map]
 constructor
 ·rintro ⟨j,hj,rfl⟩
  rw [List.mem_filter,List.mem_range] at hj
  exact ⟨Int.natCast_nonneg _,by omega,by rw [Int.toNat_natCast];exact hj.2⟩
 ·rintro ⟨h0,h1,h2⟩
  refine ⟨x.toNat,?_,by omega⟩
  rw [List.mem_filter,List.mem_range]
  exact ⟨by omega,h2⟩
theorem Fq (fs:List Bool):(dJ fs).Pairwise (· < ·):=by
 unfold dJ n9
 rw [List.pairwise_map]
 exact (List.pairwise_lt_range.sublist List.filter_sublist).imp fun h=>by omega
theorem av.keeps {H H1 H2:Hp}{p:Addr}(s:av H H1)(k:aA p H1 H2)(hp:H p=none):av H H2:=fun b o e=>k b o (aq e hp) (s b o e)
section
variable {C:Cl}{K:PySem.W.Frag}{H H':Hp}{rl s:Addr}{g:Cfg}{A:SA}{n:aY}
theorem br.ne_b (h:br C K H rl g s A n):s≠A.b:=fun z=>by
 obtain ⟨dx,hb⟩:=h.be.ob
 have:=h.ob
 rw [z,hb] at this
 injection this with this
 injection this with _ _ this
 injection this with this _
 injection this with this _
 exact absurd this (by decide)
theorem br.ne_y (h:br C K H rl g s A n):s≠A.y:=fun z=>by
 obtain ⟨dx,hb⟩:=h.ya.ob
 have:=h.ob
 rw [z,hb] at this
 injection this with this
 injection this with _ _ this
 injection this with this _
 injection this with this _
 exact absurd this (by decide)
theorem br.ne_by (h:br C K H rl g s A n):A.y≠A.b:=fun z=>by
 obtain ⟨dx,hb⟩:=h.ya.ob
 obtain ⟨dx2,hb2⟩:=h.be.ob
 rw [z,hb2] at hb
 injection hb with this
 injection this with _ _ this
 injection this with this _
 injection this with this _
 exact absurd this (by decide)
theorem br.bells {st':Addr}{e':Eng}(h:br C K H rl g s A n)(k:aA A.b H H')(hb:bR C.B K H' A.b A.cs A.fl st' g.ls n.fs e'):br C K H' rl g s {A with st:=st'} {n with e:=e'}:=by
 obtain ⟨dx,hb0⟩:=h.be.ob
 refine ⟨k _ _ h.ne_b h.ob,k _ _ (fun z=>?_) h.go,hb,h.ya.offI k hb0 h.ne_by,⟨h.ap.r1,h.ap.r2,h.ap.r3,h.ap.r4,h.ap.r5,h.ap.o1,h.ap.o2,h.ap.o3,h.ap.o4,h.ap.f1,h.ap.f2,h.ap.f3,h.ap.w1,h.ap.w2,h.ap.w3,h.ap.w4⟩,⟨(h.nn.keepI k hb0).al,h.nn.nr,h.nn.no,h.nn.nc,h.nn.nf,h.nn.nk,h.nn.nw⟩⟩
 have:=h.go
 rw [z,hb0] at this
 cases this
theorem br.fail {fs':List Bool}(h:br C K H rl g s A n)(k:aA A.fl H H')(hf:H' A.fl=some (.lst (fs'.map V.bl)))(hl:fs'.length=n.fs.length):br C K H' rl g s A {n with fs:=fs'}:=by
 refine ⟨k _ _ (fun z=>?_) h.ob,k _ _ h.ap.f1 h.go,h.be.fail k hf hl,h.ya.off k h.be.of h.ap.f2 h.ap.f3,h.ap,h.nn.keep k h.nn.nf⟩
 have:=h.be.of
 rw [←z,h.ob] at this
 cases this
theorem br.spots {ws':List Int}(h:br C K H rl g s A n)(k:aA A.wh H H')(hw:H' A.wh=some (.lst (ws'.map V.int))):br C K H' rl g s A {n with ws:=ws'}:=by
 refine ⟨k _ _ (fun z=>?_) h.ob,k _ _ h.ap.w1 h.go,h.be.off k h.ya.owh h.ap.w2 h.ap.w3,h.ya.put k h.ap.w4 hw,h.ap,h.nn.keep k h.nn.nw⟩
 have:=h.ya.owh
 rw [←z,h.ob] at this
 cases this
theorem br.placed {pl:Int}(h:br C K H rl g s A n)(k:aA s H H')(hp:H' s=some (.ins C.S A.dx [("place",.int pl),("opened",.ref A.ol),("bells",.ref A.b),("yard",.ref A.y)])):br C K H' rl g s A {n with place:=pl}:=by
 refine ⟨hp,k _ _ (fun z=>?_) h.go,h.be.offI k h.ob h.ne_b.symm,h.ya.offI k h.ob h.ne_y.symm,h.ap,h.nn.keepI k h.ob⟩
 have:=h.go
 rw [z,h.ob] at this
 cases this
theorem br.own {p:Addr}{ys:List V}(h:br C K H rl g s A n)(hp:g.N p)(k:aA p H H')(e:H' p=some (.lst ys)):br C K H' rl g s A n:=by
 obtain ⟨zs,hz⟩:=h.nn.al p hp
 refine ⟨k _ _ (fun z=>by have:=h.ob;rw [z,hz] at this;cases this) h.ob,k _ _ (h.nn.no p hp) h.go,h.be.off k hz (h.nn.nc p hp) (h.nn.nf p hp),h.ya.off k hz (h.nn.nk p hp) (h.nn.nw p hp),h.ap,⟨fun q hq=>?_,h.nn.nr,h.nn.no,h.nn.nc,h.nn.nf,h.nn.nk,h.nn.nw⟩⟩
 by_cases e1:q=p
 ·subst e1;exact ⟨ys,e⟩
 ·obtain ⟨us,hu⟩:=h.nn.al q hq
  exact ⟨us,k _ _ e1 hu⟩
noncomputable def Cfg.plus (g:Cfg)(p:Addr):Cfg:={g with N:=fun q=>g.N q\/q=p}
theorem br.grow {p:Addr}{ys:List V}(h:br C K H rl g s A n)(hr:rl≠p)(hn:H p=none)(k:av H H')(e:H' p=some (.lst ys)):br C K H' rl (g.plus p) s A n:=by
 have h':=h.same k
 obtain ⟨_,⟨as,oc,_⟩,of,_⟩:=id h.be
 obtain ⟨_,okn,owh⟩:=id h.ya
 refine ⟨h'.ob,h'.go,h'.be,h'.ya,h'.ap,⟨fun q hq=>?_,fun q hq=>?_,fun q hq=>?_,fun q hq=>?_,fun q hq=>?_,fun q hq=>?_,fun q hq=>?_⟩⟩
 ·rcases hq with hq | rfl
  ·exact h'.nn.al q hq
  ·exact ⟨ys,e⟩
 ·rcases hq with hq | rfl
  ·exact h.nn.nr q hq
  ·exact hr
 ·rcases hq with hq | rfl
  ·exact h.nn.no q hq
  ·exact aq h.go hn
 ·rcases hq with hq | rfl
  ·exact h.nn.nc q hq
  ·exact aq oc hn
 ·rcases hq with hq | rfl
  ·exact h.nn.nf q hq
  ·exact aq of hn
 ·rcases hq with hq | rfl
  ·exact h.nn.nk q hq
  ·exact aq okn hn
 ·rcases hq with hq | rfl
  ·exact h.nn.nw q hq
  ·exact aq owh hn
end
section
variable {C:Cl}{K:PySem.W.Frag}{H H':Hp}{rl s w bk:Addr}{g:Cfg}{n n0:aY}{rs:List Row}
theorem WAt.rows (h:WAt C K H w bk rl g n0 rs):∃as:List Addr,H rl=some (.lst (as.map V.ref)):=by
 obtain ⟨as,hr,_⟩:=h.bo.ro
 exact ⟨as,hr⟩
theorem WAt.own {p:Addr}{ys:List V}(h:WAt C K H w bk rl g n0 rs)(hp:g.N p)(k:aA p H H')(e:H' p=some (.lst ys)):WAt C K H' w bk rl g n0 rs:=by
 obtain ⟨⟨dx,dl,gl,h1,h2,h3,h4,h5,h6,h7⟩,⟨dy,f,h8,A,h9⟩,as,h10,h11⟩:=h
 obtain ⟨zs,hz⟩:=h9.nn.al p hp
 refine ⟨⟨dx,dl,gl,k _ _ (fun z=>by rw [z,hz] at h1;cases h1) h1,k _ _ (h6 p hp) h2,k _ _ (h7 p hp) h3,h4,h5,h6,h7⟩,⟨dy,f,k _ _ (fun z=>by rw [z,hz] at h8;cases h8) h8,A,h9.own hp k e⟩,as,k _ _ (h9.nn.nr p hp) h10,h11.1,fun i a r e1 e2=>?_⟩
 obtain ⟨dd,s,u1,u2,A',u3⟩:=h11.2 i a r e1 e2
 exact ⟨dd,s,u1.keep k hz,u2.keep k hz,A',u3.own hp k e⟩
theorem WAt.grow {p:Addr}{ys:List V}(h:WAt C K H w bk rl g n0 rs)(hn:H p=none)(k:av H H')(e:H' p=some (.lst ys)):WAt C K H' w bk rl (g.plus p) n0 rs:=by
 obtain ⟨⟨dx,dl,gl,h1,h2,h3,h4,h5,h6,h7⟩,⟨dy,f,h8,A,h9⟩,as,h10,h11⟩:=h
 have hr:rl≠p:=aq h10 hn
 refine ⟨⟨dx,dl,gl,k _ _ h1,k _ _ h2,k _ _ h3,h4,h5,fun q hq=>?_,fun q hq=>?_⟩,⟨dy,f,k _ _ h8,A,h9.grow hr hn k e⟩,as,k _ _ h10,h11.1,fun i a r e1 e2=>?_⟩
 ·rcases hq with hq | rfl
  ·exact h6 q hq
  ·exact aq h2 hn
 ·rcases hq with hq | rfl
  ·exact h7 q hq
  ·exact aq h3 hn
 ·obtain ⟨dd,s,u1,u2,A',u3⟩:=h11.2 i a r e1 e2
  exact ⟨dd,s,k.tup u1,k.tup u2,A',u3.grow hr hn k e⟩
end
noncomputable def fI (ds:List Int)(ls:List Cd)(slow fast:Int)(lds:List Ld)(N:Addr->Prop):Cfg:=⟨ds,ls,slow,fast,lds.map (·.2.2),lds.map (·.1),N⟩
noncomputable def eU (ds:List Int)(ls:List Cd)(lds:List Ld):aY:=⟨ds.getD 0 0,ds.map fun _=>false,ls.map fun _=>false,.no,lds.map (·.2.1)⟩
theorem br.keepI {C:Cl}{K:PySem.W.Frag}{H H':Hp}{rl s x D dp:Addr}{g:Cfg}{A:SA}{n:aY}{us:List (Str×V)}(h:br C K H rl g s A n)(k:aA x H H')(hx:H x=some (.ins D dp us))(n1:s≠x)(n2:A.b≠x)(n3:A.y≠x):br C K H' rl g s A n:=by
 refine ⟨k _ _ n1 h.ob,k _ _ (fun z=>?_) h.go,h.be.offI k hx n2,h.ya.offI k hx n3,h.ap,h.nn.keepI k hx⟩
 have:=h.go
 rw [z,hx] at this
 cases this
theorem Pk {ds:List Int}{ls:List Cd}{slow fast:Int}{lds:List Ld}{N:Addr->Prop}(h1:cM ds)(h2:ls.length=ds.length)(h3:∀x∈ls,gx x)(h4:1<=slow/\slow<=fast/\fast<=500)(h5:lds.length<=30):fu (fI ds ls slow fast lds N):=
 ⟨h1,h2,h3,h4.1,h4.2.1,h4.2.2,by simp [fI],by simpa [fI] using h5⟩
theorem MG {ds:List Int}{ls:List Cd}{slow fast:Int}{lds:List Ld}{N:Addr->Prop}(h1:cM ds)(h2:ls.length=ds.length)(h6:∀x∈lds,l4 ds.length x):dD (fI ds ls slow fast lds N) (eU ds ls lds):=by
 have l2:=h1.l2
 have l6:=h1.l6
 refine ⟨by simp [fI,eU],by simp [fI,eU,h2],by simp [fI,eU],fun x hx=>?_,fun i j hi hj h10 e=>?_,⟨0,.inl rfl,0,?_⟩,fun l r e=>?_⟩
 ·simp only [eU,List.mem_map] at hx
  obtain ⟨y,hy,rfl⟩:=hx
  exact .inl (h6 y hy).1
 ·exfalso
  have hm:(eU ds ls lds).ws.getD i 0∈(eU ds ls lds).ws:=df hi
  simp only [eU,List.mem_map] at hm
  obtain ⟨y,hy,e1⟩:=hm
  have:=(h6 y hy).1
  simp only [eU] at h10
  omega
 ·exact l5 h1 (i:=0) (by omega) rfl
 ·rcases e with e | e<;>cases e
end L2
namespace PySem
open PySem.Spec PyProof.Rows
section
variable {prog:Program}{w:World}{A:Around}{E:Value->Shared->Prop}{s:Shared}
theorem CL {it t:Addr}{items:Array Value}(hne:t≠it):∀(n i:Nat) (s:Shared) (Q:List Value->Shared->Prop),s.heap.IsListIter it t i->s.heap.IsList t items->i+n<=items.size->
  (∀h',Heap.IsListIter h' it t (i+n)->Heap.SameBut it s.heap h'->Q ((items.toList.drop i).take n) {s with heap:=h'})->wpAny (model prog w) A (draw (.ref it) n) Q E s
 | 0,i,s,Q,hit,_,_,hQ=>by
  show wpAny _ _ (pure []) Q E s
  exact wpAny_pure (by simpa using hQ s.heap hit (Heap.SameBut.refl ..))
 | n+1,i,s,Q,hit,ht,hle,hQ=>by
  have hlt:i < items.size:=by omega
  show wpAny _ _ (pyNext (.ref it) >>= _) Q E s
  refine wpAny_bind (wpAny_pyNext_list_item hit ht (x:=items[i]) (by simp [hlt]) fun h₁ hit₁ hs₁=>?_)
  refine wpAny_bind (wpAny_holding (CL hne n (i+1) _ _ hit₁ (ht.extBut hs₁.extBut hne) (by omega) fun h₂ hit₂ hs₂=>wpAny_pure ?_))
  have hd:items.toList.drop i=items[i]::items.toList.drop (i+1):=by simp [List.drop_eq_getElem_cons,hlt]
  have:=hQ h₂ (by rw [show i+(n+1)=i+1+n by omega];exact hit₂) (hs₁.trans hs₂)
  rw [hd,List.take_succ_cons] at this
  exact this
theorem yo {t:Addr}{items:Array Value}{Q:List Value->Shared->Prop}(hh:A.handled=none)(ht:s.heap.IsList t items)
  (hQ:∀h',Heap.ExtBut s.heap.objs.size s.heap h'->Q items.toList {s with heap:=h'}):wpAny (model prog w) A (unpackItems (.ref t) items.size none) Q E s:=by
 have hlt:t≠s.heap.objs.size:=by obtain ⟨o,ho,_⟩:=ht;exact Nat.ne_of_lt (Heap.lt_size ho)
 unfold unpackItems
 refine wpAny_bind ?_
 ·unfold notIterableAtAll
  refine wpAny_bind (wpAny_specialOf ht.typeIs slot_list_iter.lookup ?_)
  refine wpAny_pure ?_
  simp only [Bool.false_eq_true,if_false]
  refine wpAny_bind (wpAny_holding (wpAny_pyIter_list ht ?_))
  refine wpAny_bind (wpAny_holding (CL hlt items.size 0 _ _ ⟨_,Heap.get?_push_size _ rfl,rfl,rfl⟩ (ht.push _) (by omega) fun h₁ hit₁ hs₁=>?_))
  have hall:List.take items.size (List.drop 0 items.toList)=items.toList:=by
   rw [List.drop_zero];exact List.take_of_length_le (by simp)
  rw [hall]
  rw [if_neg (by simp)]
  have ht₁:Heap.IsList h₁ t items:=(ht.push _).extBut hs₁.extBut hlt
  refine wpAny_bind (wpAny_holding (wpAny_pyNext_list_end hh hit₁ ht₁ (by simp) fun h₂ he₂=>?_))
  simp only [Option.isSome_none,Bool.false_eq_true,if_false]
  refine wpAny_pure (hQ h₂ fun b o hb e=>he₂ b o hb (hs₁.extBut b o hb (Heap.get?_push_of_some _ e)))
theorem Fs {t:Addr}{items:Array Value}{targets:List (Bool×(Value->Sem Unit))}{Q:Unit->Shared->Prop}(hh:A.handled=none)(ht:s.heap.IsList t items)
  (hn:targets.length=items.size) (hstar:targets.findIdx? (·.1)=none)
  (h:∀h',Heap.ExtBut s.heap.objs.size s.heap h'->wpAny (model prog w) A (assignInOrder (targets.map (·.2)) items.toList) Q E {s with heap:=h'}) :
  wpAny (model prog w) A (unpack (.ref t) targets) Q E s:=by
 unfold unpack
 rw [hn,hstar]
 exact wpAny_bind (wpAny_holding (yo hh ht h))
theorem wc {env:Env}{elts:List Expr}{x1}{pos:Pos}{t:Addr}{items:Array Value}{Q:Unit->Shared->Prop}(hh:A.handled=none)(ht:s.heap.IsList t items)
  (hn:(assignEach elts env).length=items.size) (hstar:(assignEach elts env).findIdx? (·.1)=none)
  (h:∀h',Heap.ExtBut s.heap.objs.size s.heap h'->wpAny (model prog w) A (assignInOrder ((assignEach elts env).map (·.2)) items.toList) Q E {s with heap:=h'}) :
  wpAny (model prog w) A (assign (.Tuple elts x1 pos) env (.ref t)) Q E s:=by
 rw [assign_Tuple]
 exact wpAny_bind (wpAny_standAt (Fs hh ht hn hstar h))
end
end PySem
namespace L2
open PySem PySem.Spec PyProof.Rows PySem.SeqAt
section
variable {X:Cx}{pos:Pos}
noncomputable def N8 (K:PySem.W.Frag)(n:Nat)(t:TGs):TG:=fun v σ H Q=>∃a xs,v=.ref a/\SqL K H a xs/\xs.length=n/\t xs σ H Q
theorem Ah {es:List Expr}{k:Nat}{t:TGs}{n:Nat}(hc:X.calm=true)(h:PGs X es t)
  (hn:(assignEach es X.env).length=n:=by rfl) (hst:(assignEach es X.env).findIdx? (·.1)=none:=by rfl):PG X (.Tuple es k pos) (N8 X.K n t):=by
 intro pins s σ H v u Q I r hw
 obtain ⟨a,xs,e1,hq,hl,hw⟩:=hw
 subst e1
 cases r
 obtain ⟨its,rv,ht,hz⟩:=I.list hq
 refine wc (I.ok.hd hc) ht.isList (by simp [hn,←hl,rv.length]) hst fun h' hx=>?_
 have I1:Inv X pins σ H {s with heap:=h'}:=I.kept (t':=s.toks) fun b o e=>hx b o (Nat.ne_of_lt (Heap.lt_size e)) e
 exact h pins _ σ H xs _ Q I1 (by simpa using rv) hw
noncomputable def Pl (K:PySem.W.Frag):R2:=fun x y H Q=>∃a b xs ys,x=.ref a/\y=.ref b/\SqL K H a xs/\SqL K H b ys/\xs.all cL=true/\ys.all cL=true/\Q (.bl (!eqL xs ys)) H
theorem Hh (hu:X.A.units < cLine):OpR X (compareOp .NotEq) (Pl X.K):=by
 intro pins s σ H x y u v Q I rx ry h
 obtain ⟨a,b,xs,ys,rfl,rfl,ha,hb,fa,fb,q⟩:=h
 cases rx;cases ry
 obtain ⟨ia,ra,pa,za⟩:=I.list ha
 obtain ⟨ib,rb,pb,zb⟩:=I.list hb
 have la:=ra.length
 have lb:=rb.length
 by_cases hl:xs.length=ys.length
 ·refine RcNeAt.lists (e:=fun j=>eqV (xs.getD j .non) (ys.getD j .non)) pa.isList pb.isList (by simp only [List.size_toArray];omega) hu (fun j h1 h2=>?_) X.prog X.w _ _ ?_
  ·simp only [List.size_toArray] at h1 h2
   have hx:xs[j]?=some (xs.getD j .non):=by
    rw [List.getD_eq_getElem?_getD,List.getElem?_eq_getElem (by omega)];rfl
   have hy:ys[j]?=some (ys.getD j .non):=by
    rw [List.getD_eq_getElem?_getD,List.getElem?_eq_getElem (by omega)];rfl
   obtain ⟨u,eu,ru⟩:=ra.get hx
   obtain ⟨v,ev,rv⟩:=rb.get hy
   have e1:ia.toArray[j]=u:=by
    have:=List.getElem?_eq_some_iff.mp eu
    simpa using this.2
   have e2:ib.toArray[j]=v:=by
    have:=List.getElem?_eq_some_iff.mp ev
    simpa using this.2
   rw [e1,e2]
   exact yg ru rv (List.all_eq_true.mp fa _ (List.mem_of_getElem? hx)) (List.all_eq_true.mp fb _ (List.mem_of_getElem? hy))
  ·have e:(List.range ia.toArray.size).all (fun j=>eqV (xs.getD j .non) (ys.getD j .non))=eqL xs ys:=by
    rw [List.size_toArray,←la]
    exact zM hl
   rw [e]
   exact ⟨.bl (!eqL xs ys),H,I,rfl,q⟩
 ·refine RcNeAt.lists_lengths pa.isList pb.isList (by simp only [List.size_toArray,bne_iff_ne,ne_eq];omega) hu X.prog X.w _ _ ?_
  have e:eqL xs ys=false:=by
   cases he:eqL xs ys with
   | false=>rfl
   | true=>exact absurd (zL he) hl
  rw [e] at q
  exact ⟨.bl true,H,I,rfl,q⟩
end
end L2
namespace L2
open PySem PySem.Spec PyProof.Rows
inductive Run (g:Cfg)(n0:aY):List Row->Prop
 | nil:Run g n0 []
 | snoc {rs:List Row} {d:Dd} (h:Run g n0 rs) (ok:Eo d) (hr:g0 g (ak n0 rs) d=none):Run g n0 (rs++[ny g n0 rs d])
theorem Ft {α:Type}{xs ys:List α}{a b:α}(h:xs++[a]=ys++[b]):xs=ys/\a=b:=by
 have:=List.append_inj' h rfl
 exact ⟨this.1,by simpa using this.2⟩
theorem Run.inv {g:Cfg}{n0:aY}{rs:List Row}{r:Row}(h:Run g n0 (rs++[r])):Run g n0 rs/\∃d,Eo d/\g0 g (ak n0 rs) d=none/\r=ny g n0 rs d:=by
 generalize e:rs++[r]=rs' at h
 cases h with
 | nil=>simp at e
 | @snoc rs2 d h ok hr=>
  obtain ⟨rfl,rfl⟩:=Ft e
  exact ⟨h,d,ok,hr,rfl⟩
theorem Run.snap {g:Cfg}{n0:aY}{rs:List Row}(hg:fu g)(h0:dD g n0)(h:Run g n0 rs):dD g (ak n0 rs):=by
 induction h with
 | nil=>exact h0
 | snoc h ok hr ih=>
  rw [kI]
  exact ih.next hg ok hr
theorem Run.deeds {g:Cfg}{n0:aY}{rs:List Row}(h:Run g n0 rs):∀r∈rs,∃d,r.deed=ddV d:=by
 induction h with
 | nil=>intro r hr;cases hr
 | @snoc rs d h ok hr ih=>
  intro r hr
  rcases List.mem_append.mp hr with hr | hr
  ·exact ih r hr
  ·rw [List.mem_singleton] at hr
   subst hr
   exact ⟨d,rfl⟩
theorem BJ {w s:Int}(hw:0<=w)(hs:1<=s):0<=l9 w s:=Int.ediv_nonneg (by omega) (by omega)
theorem yL (x:Int):0<=BI x:=by unfold BI;split<;>omega
theorem ky {g:Cfg}(hg:fu g)(n:aY)(d:Dd):0<=fC g n d:=by
 cases d<;>first | (simp only [fC];exact BJ (yL _) (hg.speed n).1) | (simp only [fC];decide)
theorem Run.now {g:Cfg}{n0:aY}{rs:List Row}(hg:fu g)(h:Run g n0 rs):0<=bw rs:=by
 induction h with
 | nil=>exact Int.le_refl 0
 | @snoc rs d h ok hr ih=>
  rw [jd]
  have:=ky hg (ak n0 rs) d
  show 0<=bw rs+_
  omega
def zN (K:PySem.W.Frag)(H:Hp)(a:Addr)(r:Row):Prop:=∃dd,SqT K H a [.int r.began,.int r.ended,.ref dd]/\SqT K H dd r.deed
def dW (K:PySem.W.Frag)(H:Hp)(as:List Addr)(rs:List Row):Prop:=as.length=rs.length/\∀(i:Nat) a r,as[i]?=some a->rs[i]?=some r->zN K H a r
theorem dW.same {K:PySem.W.Frag}{H H':Hp}{as:List Addr}{rs:List Row}(h:dW K H as rs)(e:av H H'):dW K H' as rs:=⟨h.1,fun i a r e1 e2=>by
 obtain ⟨dd,h1,h2⟩:=h.2 i a r e1 e2
 exact ⟨dd,e.tup h1,e.tup h2⟩⟩
theorem dW.keep {K:PySem.W.Frag}{H H':Hp}{p:Addr}{ys:List V}{as:List Addr}{rs:List Row}(h:dW K H as rs)(e:aA p H H')(hp:H p=some (.lst ys)):dW K H' as rs:=⟨h.1,fun i a r e1 e2=>by
 obtain ⟨dd,h1,h2⟩:=h.2 i a r e1 e2
 exact ⟨dd,h1.keep e hp,h2.keep e hp⟩⟩
theorem dW.nil {K:PySem.W.Frag}{H:Hp}:dW K H [] []:=⟨rfl,fun i a r e _=>by simp at e⟩
theorem dW.push {K:PySem.W.Frag}{H:Hp}{as:List Addr}{rs:List Row}{a:Addr}{r:Row}(h:dW K H as rs)(hr:zN K H a r):dW K H (as++[a]) (rs++[r]):=by
 refine ⟨by rw [List.length_append,List.length_append,h.1];rfl,fun i b x e1 e2=>?_⟩
 by_cases hi:i < as.length
 ·rw [List.getElem?_append_left hi] at e1
  rw [List.getElem?_append_left (by rw [←h.1];exact hi)] at e2
  exact h.2 i b x e1 e2
 ·rw [List.getElem?_append_right (by omega)] at e1
  rw [List.getElem?_append_right (by rw [←h.1];omega),←h.1] at e2
  have hz:i - as.length=0:=by
   have:=(List.getElem?_eq_some_iff.mp e1).1
   simp at this
   omega
  rw [hz] at e1 e2
  cases e1
  cases e2
  exact hr
theorem dW.last {K:PySem.W.Frag}{H:Hp}{as:List Addr}{rs:List Row}{r:Row}(h:dW K H as (rs++[r])):∃as' a,as=as'++[a]/\dW K H as' rs/\zN K H a r:=by
 have hl:=h.1
 rw [List.length_append,List.length_singleton] at hl
 rcases dE as with rfl | ⟨as',a,rfl⟩
 ·cases hl
 ·have hl':as'.length=rs.length:=by rw [List.length_append,List.length_singleton] at hl;omega
  refine ⟨as',a,rfl,⟨hl',fun i b x e1 e2=>?_⟩,?_⟩
  ·have hi:=(List.getElem?_eq_some_iff.mp e1).1
   exact h.2 i b x (by rw [List.getElem?_append_left hi];exact e1) (by rw [List.getElem?_append_left (by omega)];exact e2)
  ·refine h.2 as'.length a r ?_ ?_
   ·rw [List.getElem?_append_right (Nat.le_refl _)];simp
   ·rw [List.getElem?_append_right (by omega),hl'];simp
noncomputable def N9 (r:Row):Dt:=.tup [.flat (.int r.began),.flat (.int r.ended),.tup (r.deed.map Dt.flat)]
noncomputable def Oa (rs:List Row):Dt:=.lst (rs.map N9)
theorem JC {K:PySem.W.Frag}{H:Hp}{a:Addr}{r:Row}{n:Nat}(h:zN K H a r)(hd:∃d,r.deed=ddV d):Rep K H (n+2) (.ref a) (N9 r):=by
 obtain ⟨dd,h1,h2⟩:=h
 obtain ⟨d,hd⟩:=hd
 refine .tup h1 (by show 3<=100000;decide) rfl fun i x y e1 e2=>?_
 match i,e1,e2 with
 | 0,e1,e2=>cases e1;cases e2;exact .flat rfl
 | 1,e1,e2=>cases e1;cases e2;exact .flat rfl
 | 2,e1,e2=>
  cases e1;cases e2
  have:=IF d
  exact gO h2 (by rw [hd];omega) (by rw [hd];exact Ad d)
 | i+3,e1,e2=>simp at e1
theorem Fu {K:PySem.W.Frag}{H:Hp}{p:Addr}{as:List Addr}{rs:List Row}{n:Nat}(hp:SqL K H p (as.map V.ref))(h:dW K H as rs)(hd:∀r∈rs,∃d,r.deed=ddV d)(hl:rs.length<=100000):Rep K H (n+3) (.ref p) (Oa rs):=by
 refine .lst hp (by rw [List.length_map,h.1];exact hl) (by rw [List.length_map,List.length_map,h.1]) fun i x y e1 e2=>?_
 rw [List.getElem?_map] at e1 e2
 cases ea:as[i]? with
 | none=>rw [ea] at e1;cases e1
 | some a=>
  cases er:rs[i]? with
  | none=>rw [er] at e2;cases e2
  | some r=>
   rw [ea] at e1;rw [er] at e2
   cases e1;cases e2
   exact JC (h.2 i a r ea er) (hd r (List.mem_of_getElem? er))
theorem tL {K:PySem.W.Frag}{H:Hp}{a:Addr}{bs:List Bool}{n:Nat}(h:SqL K H a (bs.map V.bl))(hb:bs.length<=100000):Rep K H (n+1) (.ref a) (.lst ((bs.map V.bl).map Dt.flat)):=by
 refine .lst h (by rw [List.length_map];exact hb) (by simp) fun i x y e1 e2=>?_
 rw [List.getElem?_map,e1] at e2
 cases e2
 rw [List.getElem?_map] at e1
 cases eb:bs[i]? with
 | none=>rw [eb] at e1;cases e1
 | some b=>rw [eb] at e1;cases e1;exact .flat rfl
theorem WAt.off {C:Cl}{K:PySem.W.Frag}{H:Hp}{w bk rl:Addr}{g:Cfg}{n0:aY}{rs:List Row}(h:WAt C K H w bk rl g n0 rs)(p:Addr)(hp:g.N p):rl≠p:=by
 obtain ⟨dx,f,_,A,hA⟩:=h.bo.ob
 exact hA.nn.nr p hp
section
variable {X:Cx}
noncomputable def K2 (C:Addr)(m:Str)(sp:Sp)(dvs:List V)(E':XT)(ta:TE)(t:TA):TE:=fun σ H Q=>Il C m sp dvs (fun cls _ H'=>E' cls σ H') ta t σ H Q
theorem MH {pins pins':List (Addr×Obj)}{E':XT}{k:Nat}{f:Addr}{fd:FuncData}{ps:List Str}{sp:Sp}{dvs vs:List V}{ds us:List Value}{σ:St}{H1:Hp}{s1:Shared}{Q:VK}
  (F:aI X.prog X.w X.K X.mg X.base (CXf X.prog X.w) k f fd ps sp) (hr:jk k X.A) (hb:hG X.K fd ps ds) (hd:bJ dvs ds) (I1:Inv (Xt X pins E') pins' σ H1 s1) (r:bJ vs us)
  (q:sp (vs++dvs) H1 Q fun cls _ H'=>E' cls σ H'):wpAny (model X.prog X.w) X.A (call (.ref f) us) (fun v s'=>∃x H',Inv (Xt X pins E') pins' σ H' s'/\cq x v/\Q x H') (Xt X pins E').xe s1:=by
 have r2:bJ (vs++dvs) (us++ds):=r.append hd
 have hl:(us++ds).length=ps.length:=by rw [←r2.length];exact F.len _ _ _ _ q
 refine wpAny_call (codeAny_mono (F.run X.A X.stack s1 H1 ⟨us,[]⟩ (us++ds) (vs++dvs) Q _ hr I1.env0 (hb s1 us I1.kIn hl) r2 q) fun r s' hq=>?_)
 cases r with
 | error e=>exact ⟨σ,H1,s1,I1.ofT,hq⟩
 | ok fl=>
  cases fl with
  | ret u=>exact I1.after hq
  | next=>exact False.elim hq
  | brk=>exact False.elim hq
  | cont=>exact False.elim hq
theorem Fv {pins:List (Addr×Obj)}{E':XT}{k:Nat}{f C:Addr}{fd:FuncData}{ps:List Str}{sp:Sp}{dvs:List V}{ds:List Value}{m:Str}{pos apos:Pos}{e o:Expr}{es:List Expr}{ta:TE}{t:TA}{pl:Sem Bool}
  (he:PE (Xt X pins E') o ta) (c:Cls X.K C) (hm:GK X.K C m f) (F:aI X.prog X.w X.K X.mg X.base (CXf X.prog X.w) k f fd ps sp) (hr:jk k X.A) (hb:hG X.K fd ps ds) (hd:bJ dvs ds) (ha:PA (Xt X pins E') (e::es) t)
  (hst:starEach (e::es) X.env=(false,eval e X.env)::starEach es X.env:=by rfl) (hpl:(backTo pos (starEach es X.env)).any (·.1)=false:=by rfl)
  (ht:eval (.Call (.Attribute o m apos) (e::es) [] pos) X.env=(do
   let ov ←eval o X.env
   standAt apos.atName
   let (f,first) ←holding [ov] (getMethod ov m pl)
   callWith pos f first (backTo pos (starEach (e::es) X.env)) (backToKw pos (keywordEach [] X.env))):=by rfl) :
  PE (Xt X pins E') (.Call (.Attribute o m apos) (e::es) [] pos) (K2 C m sp dvs E' ta t):=by
 intro pins' s σ H Q I h
 refine PySem.W.methodCall_KW (pl:=pl) (thn (he pins' s σ H _ I h) fun u s1 ⟨x,H1,I1,rx,a,dx,fs,ex,ea,l,q⟩=>?_) ht
 subst ex
 obtain rfl:u=Value.ref a:=rx
 refine pJ I1 ea c hm l ?_
 refine PySem.W.callWith_K (first:=[.ref a]) (h₀:=X.base) I.ok.mod.kin hm.kp (thn (ha pos pins' s1 σ H1 _ I1 q) fun us s2 ⟨vs,H2,I2,r,q2⟩=>⟨I2.kIn,?_⟩) hst hpl
 exact MH (us:=.ref a::us) (vs:=.ref a::vs) F hr hb hd I2 (.cons rfl r) q2
end
end L2
namespace PySem
open Sem (wp)
open Builtin PySem.Spec PyProof.Rows PySem.SeqAt
theorem yp:fillsNumberSlot (.type "tuple") "mul"=pure false:=
 fillsNumberSlot_seq (id:="tuple.__mul__") (r:=some (.builtin "tuple.__rmul__")) F.slot_tuple_mul.lookup (by decide +kernel) F.slot_tuple_rmul.lookup (by decide +kernel)
theorem Ep:seqRepeat? (.type "tuple")=pure (some (.builtin "tuple.__mul__")):=by
 unfold seqRepeat?
 rw [seqSlot_of (T:="tuple") (name:="__mul__") (id:="tuple.__mul__") F.slot_tuple_mul.lookup (by decide +kernel),seqSlot_of (T:="tuple") (name:="__rmul__") (id:="tuple.__rmul__") F.slot_tuple_rmul.lookup (by decide +kernel)]
 rfl
theorem pS (a:Int)(t:Tok)(l:Addr)(items:Array Value)(n:Nat)(dd:Option Addr)(sl:Array (Option Value)) :
  Meets (Builtin.«int.__rmul__» ⟨[.int a t,.ref l],[]⟩) (fun _ R s=>s.heap.get? l=some {cls:=.type "tuple",dict:=dd,data:=.seq items n,slots:=sl}/\R (.ok (.ret Value.notImplemented)) s):=
 .of_wp fun prog w A R s h=>by obtain ⟨hp,g,d,tk,os⟩:=s;obtain ⟨hl,h⟩:=h;wp_walk;exact ⟨_,rfl,h⟩
theorem Hi (l:Addr)(items:Array Value)(n:Nat)(dd:Option Addr)(sl:Array (Option Value))(x:Int)(u:Tok)(h2:2<=x)(h3:x<=100)(hz:items.size=1) :
  Meets (Builtin.«tuple.__mul__» ⟨[.ref l,.int x u],[]⟩) (fun A R s=>s.heap.get? l=some {cls:=.type "tuple",dict:=dd,data:=.seq items n,slots:=sl}/\
   R (.ok (.ret (.ref s.heap.objs.size))) {s with heap:=s.heap.push {cls:=.type "tuple",data:=.seq ((List.replicate x.toNat items).foldl (·++·) #[])}}):=
 .of_wp fun prog w A R s h=>by
  obtain ⟨hp,g,d,tk,os⟩:=s;obtain ⟨hl,h⟩:=h
  have c1:¬(decide (x < -(2 ^ 63)) || decide (x≥2 ^ 63))=true:=by simp;omega
  have c2:¬(items.isEmpty || x == 1)=true:=by
   simp only [Array.isEmpty,Bool.or_eq_true,beq_iff_eq,decide_eq_true_eq];omega
  have c3:¬(decide (x<=0) || items.isEmpty)=true:=by
   simp only [Array.isEmpty,Bool.or_eq_true,beq_iff_eq,decide_eq_true_eq];omega
  have c4:¬((items.size:Int) * x > (2 ^ 63 - 1) / 8):=by rw [hz];omega
  have c5:¬Builtin.Tuple.tupleTooMany ((items.size:Int) * x)=true:=by
   simp only [Builtin.Tuple.tupleTooMany,decide_eq_true_eq,hz,sizeLine_eq];omega
  have c6:¬((List.foldl (fun x1 x2=>x1++x2) #[] (List.replicate x.toNat items)).size > sizeLine):=by
   have f0:∀(m:Nat) (b:Array Value),(List.foldl (fun x1 x2=>x1++x2) b (List.replicate m items)).size=b.size+m:=fun m=>by
    induction m with
    | zero=>intro b;rfl
    | succ m ih=>intro b;rw [List.replicate_succ,List.foldl_cons,ih,Array.size_append,hz];omega
   rw [f0,sizeLine_eq]
   show ¬(0+x.toNat > _)
   omega
  wp_walk using wpAny_loadPart' hl
  rw [if_neg c1]
  wp_walk using wpAny_loadPart' hl
  rw [if_neg c4]
  wp_walk using wpAny_loadPart' hl
  rw [if_neg c5]
  wp_walk using wpAny_loadPart' hl
  exact ⟨_,rfl,h⟩
theorem rd {M:Model}{A:Around}{E:Value->Shared->Prop}{s:Shared}{β:Type}{c:β}{f:Nat->β->Sem (ForInStep β)}{Q:β->Shared->Prop} :
  ∀(l:List Nat) (j:Nat) (hj:j < l.length) (hno:∀i (hi:i < l.length),i < j->∀Q',Q' (.yield c) s->wpAny M A (f l[i] c) Q' E s) (hit:wpAny M A (f l[j] c) (fun r s1=>match r with | .done b=>Q b s1 | .yield _=>False) E s),wpAny M A (forIn l c f) Q E s
 | [],j,hj,_,_=>absurd hj (Nat.not_lt_zero _)
 | x::l,0,hj,_,hit=>by
  rw [List.forIn_cons]
  refine wpAny_bind (wpAny_mono hit ?_ (fun _ _ z=>z))
  intro r s1 h1
  cases r with
  | done b=>exact wpAny_pure h1
  | yield b=>exact h1.elim
 | x::l,j+1,hj,hno,hit=>by
  rw [List.forIn_cons]
  refine wpAny_bind (hno 0 (Nat.succ_pos _) (Nat.succ_pos _) _ ?_)
  exact rd l j (by simpa using hj) (fun i hi hij=>hno (i+1) (by simpa using hi) (by omega)) hit
theorem Ai {M:Model}{A:Around}{E:Value->Shared->Prop}{s:Shared}{β:Type}{c:β}{f:Nat->β->Sem (ForInStep β)}{Q:β->Shared->Prop}{n:Nat}(j:Nat)(hj:j < n)
  (h:(∀i,i < j->∀Q',Q' (.yield c) s->wpAny M A (f i c) Q' E s)/\wpAny M A (f j c) (fun r s1=>match r with | .done b=>Q b s1 | .yield _=>False) E s) :
  wpAny M A (forIn ([:n]:Std.Legacy.Range) c f) Q E s:=by
 rw [Std.Legacy.Range.forIn_eq_forIn_range']
 have hl:([:n]:Std.Legacy.Range).size=n:=by simp [Std.Legacy.Range.size]
 refine rd _ j (by simp [hl];exact hj) (fun i hi hij Q' q=>?_) ?_
 ·have:=h.1 i hij Q' q
  simpa using this
 ·have:=h.2
  simpa using this
theorem BK (l:Addr)(items:Array Value)(n:Nat)(dd:Option Addr)(sl:Array (Option Value))(x:Value)(e:Value->Bool)(j:Nat)(hj:j < items.size)
  (hit:e items[j]=true) (hno:∀m (hm:m < items.size),m < j->e items[m]=false) :
  Meets (Builtin.«tuple.index» ⟨[.ref l,x],[]⟩)
   (fun A R s=>s.heap.get? l=some {cls:=.type "tuple",dict:=dd,data:=.seq items n,slots:=sl}/\(∀y,y∈items->EqAt A.in1 s y x (e y))/\R (.ok (.ret (.int j s.toks))) {s with toks:=s.toks+1}):=
 .of_wp fun prog w A R s h=>by
  obtain ⟨hp,g,d,tk,os⟩:=s;obtain ⟨hl,he,h⟩:=h
  wp_walk using wpAny_loadPart' hl,Ai j (show j < min items.size items.size by omega)
  refine ⟨fun i hi Q' q=>?_,?_⟩
  ·have hm:i < items.size:=by omega
   simp only [getElem?_pos items i hm]
   refine wpAny_bind (he _ (Array.getElem_mem hm) prog w _ _ ?_)
   rw [hno i hm hi,if_neg Bool.false_ne_true]
   exact wpAny_pure q
  ·simp only [getElem?_pos items j hj]
   refine wpAny_bind (he _ (Array.getElem_mem hj) prog w _ _ ?_)
   rw [hit,if_pos rfl]
   wp_walk
   exact ⟨_,rfl,h⟩
section
variable {prog:Program}{w:World}{A:Around}{E:Value->Shared->Prop}{s:Shared}
theorem BL {l:Addr}{vs:List Value}{Q:List Value->Shared->Prop}(hl:IsTup s.heap l vs.toArray)
  (h:Q vs {s with heap:=(s.heap.push (seqObj "list" #[] 0)).update s.heap.objs.size (Obj.mapSeq (·++vs.toArray))}) (hsz:vs.length<=sizeLine:=by size_fits) :
  wpAny (model prog w) A (collect (.ref l)) Q E s:=by
 obtain ⟨o,ho,hc,n,hd⟩:=id hl
 unfold collect
 refine wpAny_bind (wpAny_runValue (codeAny_builtin entry_proto_collect' ?_))
 show wpAny _ _ (do again (.builtin "list.__iadd__" ⟨[←newList [],.ref l],[]⟩)) _ _ s
 refine wpAny_bind (wpAny_newList (wpAny_pure ⟨Code.quiet_builtin _ (by decide +kernel),codeAny_builtin entry_list_iadd' ?_⟩))
 show wpAny _ _ (Builtin.List.listExtendWith (.ref s.heap.objs.size) (.ref l) (.ref s.heap.objs.size)) _ _ {s with heap:=s.heap.push (seqObj "list" #[] 0)}
 unfold Builtin.List.listExtendWith
 have ho':(s.heap.push (seqObj "list" #[] 0)).get? l=some o:=Heap.get?_push_of_some _ ho
 refine wpAny_bind (wpAny_typeOf (T:="tuple") ⟨o,ho',hc⟩ ?_)
 have ht:(Value.type "tuple" == Value.type "tuple")=true:=by rfl
 rw [if_pos (by rw [ht];simp)]
 refine wpAny_bind (listItems_at ho' hd ?_)
 refine wpAny_bind (listItems_at (xs:=#[]) (n:=0) (Heap.get?_push_size _ rfl) rfl ?_)
 rw [if_neg (by simp)]
 refine wpAny_bind (listUpdate_at (xs:=#[]) (n:=0) (Heap.get?_push_size _ rfl) rfl ?_ (Nat.zero_le _) (by show (#[]++vs.toArray).size<=sizeLine+1;simp only [Array.size_append,List.size_toArray,List.length_nil];omega))
 refine wpAny_pure ?_
 show wpAny (model prog w) A (do
   let o ←load s.heap.objs.size
   match o.data with
   | .seq xs _=>pure xs.toList
   | _=>unsupported "internal:collect") Q E {s with heap:=(s.heap.push (seqObj "list" #[] 0)).update s.heap.objs.size (Obj.mapSeq (·++vs.toArray))}
 refine wpAny_bind (wpAny_load (get?_update_seq (Heap.get?_push_size _ rfl) _) ?_)
 show wpAny _ _ (pure ((#[]:Array Value)++vs.toArray).toList) Q E _
 rw [show ((#[]:Array Value)++vs.toArray).toList=vs by simp]
 exact wpAny_pure h
theorem Es {l:Addr}{vs:List Value}{ns:List Int}{Q:Value->Shared->Prop}(hl:IsTup s.heap l vs.toArray)(hI:IntsAre vs ns)(h64:vs.length < 64)
  (h:∀(out:Array Value) (ns':List Int),IntsAre out.toList ns'->ns'.Perm ns->ns'.Pairwise (·<=·)->Q (.ref (s.heap.objs.size+1)) {s with heap:=sortedAll s.heap vs out}) :
  wpAny (model prog w) A (call (.builtin "sorted") [.ref l]) Q E s:=by
 refine Calls.call_function_entry kind_sorted plain_sorted entry_sorted (args_sorted1 _) ?_
 unfold Builtin.«sorted»
 refine wpAny_bind (m:=checkCount "sorted" 1 1 _) (wpAny_pure ?_)
 refine wpAny_bind (BL hl ?_ (by rw [sizeLine_eq];omega))
 refine wpAny_bind (wpAny_newList ?_)
 have hsz:((s.heap.push (seqObj "list" #[] 0)).update s.heap.objs.size (Obj.mapSeq (·++vs.toArray))).objs.size=s.heap.objs.size+1:=by
  rw [Heap.size_update,size_push']
 have hoL:(((s.heap.push (seqObj "list" #[] 0)).update s.heap.objs.size (Obj.mapSeq (·++vs.toArray))).push (seqObj "list" vs.toArray 0)).get? (s.heap.objs.size+1)=some (seqObj "list" vs.toArray 0):=by
  rw [←hsz];exact Heap.get?_push_size _ rfl
 show wpAny _ _ _ _ _ {s with heap:=((s.heap.push (seqObj "list" #[] 0)).update s.heap.objs.size (Obj.mapSeq (·++vs.toArray))).push (seqObj "list" vs.toArray 0)}
 rw [hsz]
 refine wpAny_bind (wpAny_holding (wpAny_call_entry slot_list_sort ⟨_,hoL,rfl⟩ entry_list_sort (list_sort_tree hoL hI h64 fun out ns' a1 a2 a3=>⟨_,rfl,?_⟩) (args_list_sort _)))
 exact wpAny_pure ⟨_,rfl,h out ns' a1 a2 a3⟩
end
end PySem
namespace L2
open PySem PySem.Spec PyProof.Rows PySem.SeqAt
section
variable {X:Cx}
noncomputable def Ob (K:PySem.W.Frag):R2:=fun x y H Q=>∃l k v,x=.ref l/\y=.int k/\SqT K H l [v]/\2<=k/\k<=100/\∀p,H p=none->Q (.ref p) (upd H p (.tup (List.replicate k.toNat v)))
theorem K3 {α:Type}(n:Nat)(x:α):(List.replicate n [x]).flatten=List.replicate n x:=by
 induction n with
 | zero=>rfl
 | succ n ih=>rw [List.replicate_succ,List.replicate_succ,List.flatten_cons,ih];rfl
theorem Fw {v:V}{u:Value}(r:cq v u):∀n,bJ (List.replicate n v) (List.replicate n u)
 | 0=>.nil
 | n+1=>.cons r (Fw r n)
theorem MJ:OpR X (binaryOp .Mult) (Ob X.K):=by
 intro pins s σ H x y v u Q I rx ry h
 obtain ⟨l,k,z,rfl,rfl,hS,h1,h2,q⟩:=h
 cases rx
 obtain ⟨t,rfl⟩:=ry
 obtain ⟨its,r,ht,hz⟩:=I.tuple hS
 obtain ⟨w,rfl,rw1⟩:=r.one
 obtain ⟨⟨cls,dd,data,sl⟩,ho,hc,n,hd⟩:=id ht
 simp only at hc hd
 subst hc hd
 have e:List.foldl (fun x1 x2=>x1++x2) #[] (List.replicate k.toNat [w].toArray)=(List.replicate k.toNat w).toArray:=by
  have:=CC [w] k.toNat []
  rw [List.nil_append,K3] at this
  exact this
 refine wpAny_binaryOp_repeat_ref (T:="tuple") (U:="int") (by decide) ⟨_,ho,rfl⟩ (fun s'=>typeIs_int s' k t) yp F.fills_int_mul F.slot_int_rmul Ep F.slot_int_index.lookup
  (call_meets F.slot_int_rmul (typeIs_int s k t) F.entry_int_rmul (F.args_int_rmul_2 _ _) (pS k t l [w].toArray n dd sl)
   ⟨ho,rfl,⟨_,ho,rfl⟩,call_meets F.slot_tuple_mul ⟨_,ho,rfl⟩ F.entry_tuple_mul (F.args_tuple_mul_2 _ _) (Hi l [w].toArray n dd sl k t h1 h2 rfl) ⟨ho,?_⟩⟩)
 rw [e]
 refine ⟨.ref s.heap.objs.size,_,I.laid (t':=s.toks) (o:=.tup (List.replicate k.toNat z)) (fun b ob q=>Heap.get?_push_of_some _ q) (Nat.le_refl _) ?_,rfl,q _ (I.hok.fresh (Nat.le_refl _))⟩
 exact ⟨by rw [List.length_replicate,sizeLine_eq];omega,_,Fw rw1 _,lZ.new _ _⟩
noncomputable def IG:V->List V->Hp->VK->Prop:=fun x vs H Q=>∃(l:Addr) (ns:List Int) (k:Int),x=.ref l/\vs=[.int k]/\H l=some (.tup (ns.map V.int))/\k∈ns/\Q (.int (ns.idxOf k:Nat)) H
theorem JD:MtR X "tuple.index" IG:=by
 intro pins s σ H x vs v us Q I rx rv h
 obtain ⟨l,ns,k,rfl,rfl,hq,hk,q⟩:=h
 cases rx
 obtain ⟨u,rfl,t,rfl⟩:=rv.one
 obtain ⟨its,r,pl,hz⟩:=I.tuple (SqT.of hq)
 have hi:IntsAre its ns:=tI r
 obtain ⟨⟨cls,dd,data,sl⟩,ho,hc,n,hd⟩:=id pl
 simp only at hc hd
 subst hc hd
 have hlen:=hi.length
 have hj:ns.idxOf k < ns.length:=List.idxOf_lt_length_iff.mpr hk
 refine call_meets PySem.F.slot_tuple_index ⟨_,ho,rfl⟩ PySem.F.entry_tuple_index (PySem.F.args_tuple_index_2 _ _)
  (BK l its.toArray n dd sl (.int k t) (isInt k) (ns.idxOf k) (by simpa [hlen] using hj) ?_ ?_) ⟨ho,fun y hy=>(eq_isInt k t hi y (by simpa using hy)).at _ _,?_⟩
 ·show isInt k its[ns.idxOf k]=true
  rw [isInt_at k hi _ (by omega) hj]
  simpa using List.getElem_idxOf hj
 ·intro j hjs hlt
  show isInt k its[j]=false
  rw [isInt_at k hi j (by simpa using hjs) (by omega)]
  exact ne_of_lt_idxOf hlt _
 ·exact ⟨.int (ns.idxOf k:Nat),H,I.tok _,⟨_,rfl⟩,q⟩
noncomputable def QV (r:V->List V->Hp->VK->Prop)(to:TE)(t:TA):TE:=fun σ H Q=>to σ H fun x H1=>(∃a xs,x=.ref a/\H1 a=some (.tup xs))/\t σ H1 fun xs H2=>r x xs H2 Q
theorem Pm {o e:Expr}{es:List Expr}{to:TE}{t:TA}{name:Str}{apos cpos:Pos}{id:String}{r:V->List V->Hp->VK->Prop}(pa:PlainAttrs "tuple")(slot:Slot "tuple" name id)(hty:typeOf (.builtin id)=pure (.type "method_descriptor"))(hm:MtR X id r)(ho:PE X o to)(ha:PA X (e::es) t)
  (hbase:attributeBase o name X.env (eval o X.env)=eval o X.env:=by rfl)
  (hfew:((backTo cpos (starEach (e::es) X.env)).all (fun x=>!x.1) && (backToKw cpos (keywordEach [] X.env)).all (fun x=>x.1.isSome)
   && decide ((e::es).length+([]:List Keyword).length+(if ([]:List Keyword).isEmpty then 0 else 1) < 30))=true:=by rfl)
  (hline:(apos.endLine == cpos.line)=true:=by rfl) (hs:starEach (e::es) X.env=(false,eval e X.env)::starEach es X.env:=by rfl) (hplain:(backTo cpos (starEach es X.env)).any (·.1)=false:=by rfl) :
  PE X (.Call (.Attribute o name apos) (e::es) [] cpos) (QV r to t):=by
 intro pins s σ H Q I h
 refine wpAny_Call_method_late hbase hfew hline rfl (thn (ho pins s σ H _ I h) fun v s1 ⟨x,H1,I1,r1,ty,q1⟩=>?_)
 obtain ⟨a,xs,rfl,hH⟩:=ty
 cases r1
 obtain ⟨_,its,_,ob,e1,⟨c1,_⟩,d1⟩:=I1.hok a _ hH
 refine ⟨"tuple",id,pa,slot,hty,⟨ob,e1,c1⟩,fun b eb=>?_,?_⟩
 ·cases eb;exact ⟨ob,e1,d1⟩
 have hA:=ha cpos pins s1 σ H1 _ I1 q1
 rw [hs] at hA ⊢
 refine Calls.callWith_builtin (by show (false || (backTo cpos (starEach es X.env)).any (·.1))=false;rw [hplain]<;>rfl) (Calls.evalArgs_plain ?_)
 exact thn hA fun us s2 ⟨vs,H2,I2,r2,q2⟩=>hm pins s2 σ H2 (.ref a) vs (.ref a) us Q I2 rfl r2 q2
end
section
variable {X:Cx}
noncomputable def K4 (K:PySem.W.Frag):List V->Hp->VK->Prop:=fun xs H Q=>∃(a:Addr) (ns:List Int),xs=[.ref a]/\SqT K H a (ns.map V.int)/\ns.length < 64/\∀(l:Addr) (ms:List Int),H l=none->ms.Perm ns->ms.Pairwise (·<=·)->Q (.ref l) (upd H l (.lst (ms.map V.int)))
theorem Hj:kG X (.builtin "sorted") (K4 X.K):=by
 intro pins s σ H xs us Q I r h
 obtain ⟨a,ns,rfl,hS,hn,q⟩:=h
 obtain ⟨u,rfl,ru⟩:=yI r
 cases ru
 obtain ⟨its,rv,pl,hz⟩:=I.tuple hS
 have hI:IntsAre its ns:=tI rv
 have hlen:its.length=ns.length:=hI.length
 refine Es pl hI (by omega) fun out ms a1 a2 a3=>?_
 obtain ⟨c,hc⟩:=sortedAll_at s.heap its out
 have hml:ms.length=ns.length:=a2.length_eq
 have J:=I.laid (a:=s.heap.objs.size+1) (o:=.lst (ms.map V.int)) (t':=s.toks) (h':=sortedAll s.heap its out) (fun b o e=>sortedAll_old e) (Nat.le_succ _) (show gj X.prog X.w _ _ _ (.lst (ms.map V.int)) from ⟨by rw [List.length_map,hml];exact Nat.le_of_lt (dX (by omega)),out.toList,c,CG a1,by rw [Array.toArray_toList];exact hc⟩)
 exact ⟨.ref (s.heap.objs.size+1),_,J,rfl,q _ ms (I.hok.fresh (Nat.le_succ _)) a2 a3⟩
end
end L2
namespace L2
open PySem PySem.Spec PyProof.Rows
def je {α:Type}(P:Addr->α->Prop)(as:List Addr)(xs:List α):Prop:=as.length=xs.length/\∀(i:Nat) a x,as[i]?=some a->xs[i]?=some x->P a x
section
variable {α:Type}{P Q:Addr->α->Prop}{as:List Addr}{xs:List α}{a:Addr}{x:α}
theorem je.imp (h:je P as xs)(f:∀a x,P a x->Q a x):je Q as xs:=⟨h.1,fun i a x e1 e2=>f _ _ (h.2 i a x e1 e2)⟩
theorem je.nil:je P [] []:=⟨rfl,fun i a r e _=>by simp at e⟩
theorem je.push (h:je P as xs)(hr:P a x):je P (as++[a]) (xs++[x]):=by
 refine ⟨by rw [List.length_append,List.length_append,h.1];rfl,fun i b y e1 e2=>?_⟩
 by_cases hi:i < as.length
 ·rw [List.getElem?_append_left hi] at e1
  rw [List.getElem?_append_left (by rw [←h.1];exact hi)] at e2
  exact h.2 i b y e1 e2
 ·rw [List.getElem?_append_right (by omega)] at e1
  rw [List.getElem?_append_right (by rw [←h.1];omega),←h.1] at e2
  have hz:i - as.length=0:=by
   have:=(List.getElem?_eq_some_iff.mp e1).1
   simp at this
   omega
  rw [hz] at e1 e2
  cases e1
  cases e2
  exact hr
theorem je.last (h:je P as (xs++[x])):∃as' a,as=as'++[a]/\je P as' xs/\P a x:=by
 have hl:=h.1
 rw [List.length_append,List.length_singleton] at hl
 rcases dE as with rfl | ⟨as',a,rfl⟩
 ·cases hl
 ·have hl':as'.length=xs.length:=by rw [List.length_append,List.length_singleton] at hl;omega
  refine ⟨as',a,rfl,⟨hl',fun i b y e1 e2=>?_⟩,?_⟩
  ·have hi:=(List.getElem?_eq_some_iff.mp e1).1
   exact h.2 i b y (by rw [List.getElem?_append_left hi];exact e1) (by rw [List.getElem?_append_left (by omega)];exact e2)
  ·refine h.2 as'.length a x ?_ ?_
   ·rw [List.getElem?_append_right (Nat.le_refl _)];simp
   ·rw [List.getElem?_append_right (by omega),hl'];simp
theorem je.get (h:je P as xs){i:Nat}{x:α}(e:xs[i]?=some x):∃a,as[i]?=some a/\P a x:=by
 have hi:=(List.getElem?_eq_some_iff.mp e).1
 have hi2:i < as.length:=by rw [h.1];exact hi
 have ha:as[i]?=some as[i]:=List.getElem?_eq_getElem hi2
 exact ⟨_,ha,h.2 i _ _ ha e⟩
end
def ma (K:PySem.W.Frag)(H:Hp)(a:Addr)(x:aY×Int):Prop:=∃gt lt ht dt:Addr,SqT K H a [.int x.1.place,.ref gt,.ref lt,.ref ht,.ref dt,.int x.2]/\SqT K H gt (x.1.gates.map V.bl)/\H lt=some (.tup (x.1.ws.map V.int))/\SqT K H ht (pQ x.1.e)/\SqT K H dt ((dJ x.1.fs).map V.int)
theorem ma.same {K:PySem.W.Frag}{H H':Hp}{a:Addr}{x:aY×Int}(h:ma K H a x)(s:av H H'):ma K H' a x:=by
 obtain ⟨gt,lt,ht,dt,h1,h2,h3,h4,h5⟩:=h
 exact ⟨gt,lt,ht,dt,s.tup h1,s.tup h2,s _ _ h3,s.tup h4,s.tup h5⟩
theorem ma.keep {K:PySem.W.Frag}{H H':Hp}{a p:Addr}{ys:List V}{x:aY×Int}(h:ma K H a x)(s:aA p H H')(hp:H p=some (.lst ys)):ma K H' a x:=by
 obtain ⟨gt,lt,ht,dt,h1,h2,h3,h4,h5⟩:=h
 exact ⟨gt,lt,ht,dt,h1.keep s hp,h2.keep s hp,s _ _ (fun z=>by rw [z,hp] at h3;cases h3) h3,h4.keep s hp,h5.keep s hp⟩
noncomputable def nz (n0:aY)(rs:List Row):List (aY×Int):=(n0,0)::rs.map fun r=>(r.sn,r.ended)
theorem vt (n0:aY)(rs:List Row)(r:Row):nz n0 (rs++[r])=nz n0 rs++[(r.sn,r.ended)]:=by simp [nz]
theorem Hk (n0:aY)(rs:List Row):(nz n0 rs).getLast?=some (ak n0 rs,bw rs):=by
 rcases dE rs with rfl | ⟨rs',r,rfl⟩
 ·rfl
 ·rw [vt,List.getLast?_concat,kI,jd]
theorem CM (n0:aY)(rs:List Row):(nz n0 rs).length=rs.length+1:=by simp [nz]
theorem Et {K:PySem.W.Frag}{H:Hp}{as:List Addr}{n0:aY}{rs:List Row}(h:je (ma K H) as (nz n0 rs)):∃as' a,as=as'++[a]/\ma K H a (ak n0 rs,bw rs):=by
 have hl:=Hk n0 rs
 rcases dE (nz n0 rs) with e | ⟨l,x,e⟩
 ·rw [e] at hl;cases hl
 ·rw [e,List.getLast?_concat] at hl
  cases hl
  rw [e] at h
  obtain ⟨as',a,ea,_,ha⟩:=h.last
  exact ⟨as',a,ea,ha⟩
theorem nA {as:List Addr}{a:Addr}:atI ((as++[a]).map V.ref) (-1)=some (.ref a):=by
 rw [List.map_append]
 exact Ku _ _
structure gp (K:PySem.W.Frag)(H:Hp)(p dl cl ll:Addr)(g:Cfg)(lds:List Ld):Prop where
 ob:H p=some (.lst [.ref dl,.ref cl,.int g.slow,.int g.fast,.ref ll])
 od:H dl=some (.lst (g.ds.map V.int))
 oc:∃as:List Addr,H cl=some (.lst (as.map V.ref))/\dI cdV K H as g.ls
 ol:∃as:List Addr,H ll=some (.lst (as.map V.ref))/\n6 K H as lds
 ek:g.ks=lds.map (·.1)
theorem gp.same {K:PySem.W.Frag}{H H':Hp}{p dl cl ll:Addr}{g:Cfg}{lds:List Ld}(h:gp K H p dl cl ll g lds)(s:av H H'):gp K H' p dl cl ll g lds:=by
 obtain ⟨h1,h2,⟨as,h3,h4⟩,⟨bs,h5,h6⟩,h7⟩:=h
 exact ⟨s _ _ h1,s _ _ h2,⟨as,s _ _ h3,h4.same s⟩,⟨bs,s _ _ h5,h6.same s⟩,h7⟩
def cD (a b c:Addr)(H H':Hp):Prop:=∀d o,d≠a->d≠b->d≠c->H d=some o->H' d=some o
theorem cD.of {a b c:Addr}{H H':Hp}(s:av H H'):cD a b c H H':=fun d o _ _ _ e=>s d o e
theorem cD.a {a b c:Addr}{H H':Hp}(s:aA a H H'):cD a b c H H':=fun d o n _ _ e=>s d o n e
theorem cD.b {a b c:Addr}{H H':Hp}(s:aA b H H'):cD a b c H H':=fun d o _ n _ e=>s d o n e
theorem cD.c {a b c:Addr}{H H':Hp}(s:aA c H H'):cD a b c H H':=fun d o _ _ n e=>s d o n e
theorem cD.trans {a b c:Addr}{H H1 H2:Hp}(s:cD a b c H H1)(t:cD a b c H1 H2):cD a b c H H2:=fun d o n m k e=>t d o n m k (s d o n m k e)
theorem av.keeps3 {a b c:Addr}{H H1 H2:Hp}(s:av H H1)(k:cD a b c H1 H2)(ha:H a=none)(hb:H b=none)(hc:H c=none):av H H2:=fun d o e=>k d o (aq e ha) (aq e hb) (aq e hc) (s d o e)
structure Fx (C:Cl)(K:PySem.W.Frag)(H:Hp)(w bk rl sl wl:Addr)(g:Cfg)(n0:aY)(rs:List Row):Prop where
 wk:WAt C K H w bk rl g n0 rs
 st:∃as:List Addr,H sl=some (.lst (as.map V.ref))/\je (ma K H) as (nz n0 rs)
 ro:∃as:List Addr,H wl=some (.lst (as.map V.ref))/\dW K H as rs
 ns:g.N sl
 nw:g.N wl
 ne:sl≠wl
 run:Run g n0 rs
theorem Fx.same {C:Cl}{K:PySem.W.Frag}{H H':Hp}{w bk rl sl wl:Addr}{g:Cfg}{n0:aY}{rs:List Row}(h:Fx C K H w bk rl sl wl g n0 rs)(s:av H H'):Fx C K H' w bk rl sl wl g n0 rs:=by
 obtain ⟨h1,⟨as,h2,h3⟩,⟨bs,h4,h5⟩,h6,h7,h8,h9⟩:=h
 exact ⟨h1.same s,⟨as,s _ _ h2,h3.imp fun a x q=>q.same s⟩,⟨bs,s _ _ h4,h5.same s⟩,h6,h7,h8,h9⟩
noncomputable def BM (K:PySem.W.Frag)(H:Hp)(n:aY)(t:Int):Dd->V->Prop
 | .rept s,v=>∃(p:Addr) (l r:Int),v=.ref p/\n.e=.wait l r/\SqT K H p [.bl (decide (s=r)),.int r,.int s]
 | _,v=>v=.int t
theorem MK {K:PySem.W.Frag}{l:Addr}{ls:List Ld}{te:TE}{cm:List (Option Nat)}{σ:St}{H:Hp}{Q:VK}{j:Nat}(f:Ld->V)(hL:iX K H l ls)(hn:ls.length<=sizeLine)(hj:(cK cm σ)[j]?=some none)
  (he:∀a x,SqT K H a (ldV x)->∀N:VK,N (f x) H->te ((cK cm σ).set j (some (.ref a))) H N)
  (hd:∀p,H p=none->Q (.ref p) (upd H p (.lst (ls.map f)))):vY (Itl K l) (g9 j) zv te cm σ Q H:=by
 obtain ⟨as,hS,hlen,hT⟩:=hL
 refine yj ls.length (fun i acc H'=>H'=H/\acc=(ls.take i).map f) ⟨rfl,by simp⟩ ?_ ?_ ?_ ?_
 ·rintro i acc H' hi ⟨rfl,_⟩
  have ha:as[i]?=some as[i]:=List.getElem?_eq_getElem (by omega)
  exact ⟨_,.ref as[i],hS,by rw [List.getElem?_map,ha];rfl⟩
 ·rintro acc H' ⟨rfl,_⟩
  exact ⟨_,hS,by rw [List.length_map];omega⟩
 ·rintro i acc H' hi ⟨rfl,rfl⟩
  have ha:as[i]?=some as[i]:=List.getElem?_eq_getElem (by omega)
  have hx:ls[i]?=some ls[i]:=List.getElem?_eq_getElem hi
  refine ⟨by rw [List.length_map,List.length_take];omega,fun x H2 y M hM=>?_⟩
  obtain ⟨e,y⟩:=y
  subst e
  have hy:=y _ hS
  rw [List.getElem?_map,ha] at hy
  cases hy
  refine ⟨KR hj,?_⟩
  unfold zv;dsimp only
  split
  ·refine he as[i] ls[i] (hT i _ _ ha hx) _ (hM _ _ ⟨rfl,?_⟩)
   rw [List.take_succ_eq_append_getElem hi,List.map_append];rfl
  ·rename_i z;exact absurd rfl z
 ·rintro acc H' ⟨rfl,rfl⟩ p hp
  rw [List.take_length]
  exact hd p hp
theorem Pn {n:Nat}(h:0 < n):ixN n (-1)=some (n - 1):=by
 unfold ixN
 rw [if_neg (by omega),if_pos (by omega)]
 congr 1
 omega
end L2
namespace L2
open PySem PySem.Spec PyProof.Rows PySem.SeqAt
theorem JE (fs:List Bool)(n i:Nat)(v:Bool):(fs.set n v).getD i false=if n=i/\i < fs.length then v else fs.getD i false:=by
 rw [List.getD_eq_getElem?_getD,List.getD_eq_getElem?_getD,List.getElem?_set]
 by_cases e:n=i
 ·subst e
  by_cases h:n < fs.length
  ·rw [if_pos rfl,if_pos h,if_pos ⟨rfl,h⟩];rfl
  ·rw [if_pos rfl,if_neg h,if_neg (fun z=>h z.2),List.getElem?_eq_none (by omega)]
 ·rw [if_neg e,if_neg (fun z=>e z.1)]
theorem JF {fs:List Bool}{l:Int}{ms:List Int}(h0:0<=l)(h1:l < fs.length)(h2:fs.getD l.toNat false=false)(hp:ms.Perm (dJ fs++[l]))(hs:ms.Pairwise (·<=·)):ms=dJ (fs.set l.toNat true):=by
 have hl:¬l∈dJ fs:=fun z=>by rw [(ow.mp z).2.2] at h2;cases h2
 have hnd:(dJ fs++[l]).Nodup:=by
  rw [List.nodup_append]
  refine ⟨(Fq fs).imp fun h=>by omega,by simp,fun a ha b hb e=>?_⟩
  rw [List.mem_singleton] at hb
  subst hb e
  exact hl ha
 have hn:ms.Nodup:=hp.nodup_iff.mpr hnd
 have hu:ms.Pairwise (· < ·):=(hs.and hn).imp fun ⟨x,y⟩=>by omega
 refine KZ hu (Fq _) fun k=>?_
 rw [hp.mem_iff,List.mem_append,List.mem_singleton,ow,ow,List.length_set,JE]
 constructor
 ·rintro (⟨a,b,c⟩ | rfl)
  ·refine ⟨a,b,?_⟩
   split
   ·rfl
   ·exact c
  ·exact ⟨h0,h1,by rw [if_pos ⟨rfl,by omega⟩]⟩
 ·rintro ⟨a,b,c⟩
  split at c
  ·rename_i e
   exact .inr (by omega)
  ·exact .inl ⟨a,b,c⟩
theorem yq (fs:List Bool):(dJ fs).length<=fs.length:=Ag fs fs.length
theorem we {α:Type}(f:α->V)(xs:List α)(n:Nat)(v:α):(xs.map f).set n (f v)=(xs.set n v).map f:=(List.map_set ..).symm
section
variable {X:Cx}
noncomputable def Oc:R2:=fun x y H Q=>∃a b xs ys,x=.ref a/\y=.ref b/\H a=some (.tup xs)/\H b=some (.tup ys)/\xs.length+ys.length<=1000/\∀p H',av H H'->H' p=some (.tup (xs++ys))->Q (.ref p) H'
theorem IH:OpR X (binaryOp .Add) Oc:=by
 intro pins s σ H x y v u Q I rx ry h
 obtain ⟨a,b,xs,ys,rfl,rfl,ha,hb,hz,q⟩:=h
 by_cases hx:xs=[]
 ·subst hx
  cases rx
  cases ry
  obtain ⟨its,r1,p1,_⟩:=I.tuple (SqT.of ha)
  obtain ⟨its2,r2,p2,_⟩:=I.tuple (SqT.of hb)
  have e1:=r1.zero
  subst e1
  obtain ⟨⟨cls,dd,data,sl⟩,ho,hc,n,hd⟩:=id p1
  obtain ⟨⟨cls2,dd2,data2,sl2⟩,ho2,hc2,n2,hd2⟩:=id p2
  simp only at hc hd hc2 hd2
  subst hc hd hc2 hd2
  exact concat_meets ⟨_,ho,rfl⟩ ⟨_,ho2,rfl⟩ noFill_tuple_add seq_tuple_add PySem.F.slot_tuple_add PySem.F.entry_tuple_add (PySem.F.args_tuple_add_2 _ _)
   (tuple_addW0 a b _ its2.toArray n n2 dd dd2 sl sl2 rfl) ⟨ho,ho2,⟨.ref b,H,I,rfl,q b H (av.refl H) hb⟩⟩
 ·refine Ip pins s σ H _ _ v u Q I rx ry ⟨a,b,xs,ys,rfl,rfl,SqT.of ha,SqT.of hb,hx,by rw [sizeLine_eq];omega,fun e=>q a H (av.refl H) (by rw [e,List.append_nil];exact ha),fun _ p hp=>q p _ ((av.refl H).lay hp) ai⟩
end
end L2
namespace L2
open PySem PySem.Spec PyProof.Rows
def onI (x:V)(P:Int->Prop):Prop:=match x with | .int i=>P i | _=>False
def onB (x:V)(P:Bool->Prop):Prop:=match x with | .bl i=>P i | _=>False
def onR (x:V)(P:Addr->Prop):Prop:=match x with | .ref i=>P i | _=>False
def onO (x:Option (Option V))(P:V->Prop):Prop:=match x with | some (some v)=>P v | _=>False
def onC (xs:List V)(P:V->List V->Prop):Prop:=match xs with | v::r=>P v r | []=>False
def onN (xs:List V)(P:Prop):Prop:=match xs with | []=>P | _=>False
theorem ML (i:Int)(P:Int->Prop):onI (.int i) P=P i:=rfl
theorem Po (i:Bool)(P:Bool->Prop):onB (.bl i) P=P i:=rfl
theorem MM (i:Addr)(P:Addr->Prop):onR (.ref i) P=P i:=rfl
theorem K5 (v:V)(P:V->Prop):onO (some (some v)) P=P v:=rfl
theorem K6 (v:V)(r:List V)(P:V->List V->Prop):onC (v::r) P=P v r:=rfl
theorem MN (P:Prop):onN [] P=P:=rfl
theorem Eu {x:V}{P:Int->Prop}:(∃i,x=.int i/\P i)↔onI x P:=by cases x<;>simp [onI]
theorem zO {x:V}{P:Bool->Prop}:(∃i,x=.bl i/\P i)↔onB x P:=by cases x<;>simp [onB]
theorem zP {x:V}{P:Addr->Prop}:(∃i,x=.ref i/\P i)↔onR x P:=by cases x<;>simp [onR]
theorem g8 {x:V}{P:Addr->Prop}(h:onR x P):∃i,x=.ref i/\P i:=zP.mpr h
theorem vv {x:V}{P:Int->Prop}(h:onI x P):∃i,x=.int i/\P i:=Eu.mpr h
theorem MO {x:Option (Option V)}{P:V->Prop}:(∃v,x=some (some v)/\P v)↔onO x P:=by
 rcases x with _ | _ | v<;>simp [onO]
theorem MP {xs:List V}{P:V->List V->Prop}:(∃v r,xs=v::r/\P v r)↔onC xs P:=by
 cases xs with
 | nil=>exact ⟨fun ⟨_,_,e,_⟩=>(List.cons_ne_nil _ _ e.symm).elim,fun h=>False.elim h⟩
 | cons v r=>exact ⟨fun ⟨_,_,e,h⟩=>by cases e;exact h,fun h=>⟨v,r,rfl,h⟩⟩
theorem MQ {xs:List V}{P:Prop}:(xs=[]/\P)↔onN xs P:=by cases xs<;>simp [onN]
theorem RC {α β:Type}(f:α->β)(a:α)(l:List α):List.map f (a::l)=f a::List.map f l:=rfl
theorem RD {α β:Type}(f:α->β):List.map f ([]:List α)=[]:=rfl
theorem RE {α:Type}(a:α)(l m:List α):(a::l)++m=a::(l++m):=rfl
theorem RF {α:Type}(m:List α):([]:List α)++m=m:=rfl
theorem QW {α:Type}(a:α)(l:List α):(a::l)[0]?=some a:=rfl
theorem QX {α:Type}(a:α)(l:List α)(n:Nat):(a::l)[n+1]?=l[n]?:=rfl
theorem QY {α:Type}(a b:α)(l:List α):(a::l).set 0 b=b::l:=rfl
theorem QZ {α:Type}(a b:α)(l:List α)(n:Nat):(a::l).set (n+1) b=a::l.set n b:=rfl
theorem RG {α:Type}(a:α)(n:Nat):List.replicate (n+1) a=a::List.replicate n a:=rfl
theorem RH {α:Type}(a:α):List.replicate 0 a=[]:=rfl
theorem Pp (N:List Str)(vs:List V):L2.t9 N vs=vs.map some++List.replicate (N.length - vs.length) none:=rfl
theorem σN (cm:List (Option Nat))(σ:St):cK (none::cm) σ=none::cK cm σ:=rfl
theorem σS (i:Nat)(cm:List (Option Nat))(σ:St):cK (some i::cm) σ=(σ[i]?).getD none::cK cm σ:=rfl
theorem σ0 (σ:St):cK [] σ=[]:=rfl
theorem Q0 {α:Type}(a b:α):(some a).getD b=a:=rfl
theorem RI {α:Type}(a:α)(l:List α):(a::l).length=l.length+1:=rfl
theorem RJ {α:Type}:([]:List α).length=0:=rfl
theorem Q1 {A B:Prop}:(if true=true then A else B)=A:=rfl
theorem Q2 {A B:Prop}:(if false=true then A else B)=B:=rfl
theorem RK {p:Prop}[Decidable p]{A B:Prop}(h:if p then A else B):if decide p=true then A else B:=by
 by_cases e:p
 ·rw [if_pos e] at h;rw [if_pos (decide_eq_true e)];exact h
 ·rw [if_neg e] at h;rw [if_neg (by simp [e])];exact h
section
variable {α β:Type}
theorem ceq {f g:α->β->Prop}(h:∀x y,f x y↔g x y):f=g:=funext fun x=>funext fun y=>propext (h x y)
noncomputable def Od (i:Nat):TE:=fun σ H Q=>onO σ[i]? fun v=>Q v H
theorem MR (i:Nat):ON i=Od i:=funext fun σ=>funext fun H=>funext fun Q=>propext MO
noncomputable def tB' (t:TE):TT:=fun σ H Q=>t σ H fun x H1=>onB x fun c=>Q c H1
theorem Of (t:TE):tB t=tB' t:=funext fun σ=>funext fun H=>funext fun Q=>congrArg (t σ H) (ceq fun _ _=>zO)
theorem K7 (t:TE):qV t=tB' t:=Of t
noncomputable def Q3 (g:Int->Int->V):R2:=fun x y H Q=>onI x fun i=>onI y fun j=>Q (g i j) H
theorem two_iff {x y:V}{P:Int->Int->Prop}:(∃i j,x=.int i/\y=.int j/\P i j)↔onI x fun i=>onI y fun j=>P i j:=⟨fun ⟨i,j,e,f,h⟩=>by subst e f;exact h,fun h=>let ⟨i,e,h⟩:=vv h;let ⟨j,f,h⟩:=vv h;⟨i,j,e,f,h⟩⟩
theorem Pq (g:Int->Int->V):rI0 g=Q3 g:=funext fun x=>funext fun y=>ceq fun _ _=>two_iff
noncomputable def rI' (C:Int->Int->Prop)(g:Int->Int->V):R2:=fun x y H Q=>onI x fun i=>onI y fun j=>C i j/\Q (g i j) H
theorem Q4 (C:Int->Int->Prop)(g:Int->Int->V):rI C g=rI' C g:=funext fun x=>funext fun y=>ceq fun _ _=>two_iff
noncomputable def rU' (g:Int->V):V->Hp->VK->Prop:=fun x H Q=>onI x fun i=>Q (g i) H
theorem Q5 (g:Int->V):rU g=rU' g:=funext fun x=>ceq fun _ _=>Eu
def eqP (x y:V)(P:Bool->Prop):Prop:=match x,y with
 | .int i,.int j=>P (decide (i=j))
 | .str i,.str j=>P (decide (i=j))
 | .bl i,.bl j=>P (decide (i=j))
 | x,y=>BD x y=true/\P (decide (x=y))
theorem Ew {x y:V}{P:Bool->Prop}:(BD x y=true/\P (decide (x=y)))↔eqP x y P:=by
 cases x<;>cases y<;>simp [eqP,BD]
theorem MS (i j:Int)(P:Bool->Prop):eqP (.int i) (.int j) P=P (decide (i=j)):=rfl
theorem MT (i j:Str)(P:Bool->Prop):eqP (.str i) (.str j) P=P (decide (i=j)):=rfl
theorem Pr (i j:Bool)(P:Bool->Prop):eqP (.bl i) (.bl j) P=P (decide (i=j)):=rfl
noncomputable def Q6:R2:=fun x y H Q=>eqP x y fun b=>Q (.bl b) H
theorem Pt:rEq=Q6:=funext fun x=>funext fun y=>ceq fun H Q=>Ew (P:=fun b=>Q (.bl b) H)
noncomputable def Q7:R2:=fun x y H Q=>eqP x y fun b=>Q (.bl (!b)) H
theorem Pu:rNe=Q7:=funext fun x=>funext fun y=>ceq fun H Q=>Ew (P:=fun b=>Q (.bl (!b)) H)
noncomputable def CN (p:Int->Int->Prop)[d:∀i j,Decidable (p i j)](ta tb:TE):TT:=fun σ H Q=>ta σ H fun x H1=>tb σ H1 fun y H2=>onI x fun i=>onI y fun j=>if p i j then Q true H2 else Q false H2
theorem Hl {p:Prop}[Decidable p]{Q:Bool->Prop}:Q (decide p)=if p then Q true else Q false:=by
 by_cases h:p
 ·rw [if_pos h,decide_eq_true h]
 ·rw [if_neg h,decide_eq_false h]
theorem zQ (p:Int->Int->Prop)[d:∀i j,Decidable (p i j)](ta tb:TE):qV (tOp (rI0 fun i j=>.bl (decide (p i j))) ta tb)=CN p ta tb:=by
 funext σ H Q
 refine congrArg (ta σ H) (funext fun x=>funext fun H1=>congrArg (tb σ H1) (ceq fun y H2=>?_))
 cases x<;>cases y<;>simp [rI0,onI,Hl (Q:=fun b=>Q b H2)]
theorem Pw (ta tb:TE):qV (tOp (rI0 fun i j=>.bl (decide (i < j))) ta tb)=CN (fun i j=>i < j) ta tb:=zQ _ ta tb
theorem Px (ta tb:TE):qV (tOp (rI0 fun i j=>.bl (decide (i<=j))) ta tb)=CN (fun i j=>i<=j) ta tb:=zQ _ ta tb
theorem Py (ta tb:TE):qV (tOp (rI0 fun i j=>.bl (decide (j < i))) ta tb)=CN (fun i j=>j < i) ta tb:=zQ _ ta tb
theorem Pz (ta tb:TE):qV (tOp (rI0 fun i j=>.bl (decide (j<=i))) ta tb)=CN (fun i j=>j<=i) ta tb:=zQ _ ta tb
def eqT (x y:V)(Y N:Prop):Prop:=match x,y with
 | .int i,.int j=>if i=j then Y else N
 | .str i,.str j=>if i=j then Y else N
 | .bl i,.bl j=>if i=j then Y else N
 | x,y=>BD x y=true/\if x=y then Y else N
theorem MU (i j:Int)(Y N:Prop):eqT (.int i) (.int j) Y N=if i=j then Y else N:=rfl
theorem MV (i j:Str)(Y N:Prop):eqT (.str i) (.str j) Y N=if i=j then Y else N:=rfl
theorem PB (i j:Bool)(Y N:Prop):eqT (.bl i) (.bl j) Y N=if i=j then Y else N:=rfl
theorem IJ {x y:V}{Q:Bool->Prop}:(BD x y=true/\Q (decide (x=y)))↔eqT x y (Q true) (Q false):=by
 rw [Hl (Q:=Q)]
 cases x<;>cases y<;>simp [eqT,BD]
def neT (x y:V)(Y N:Prop):Prop:=match x,y with
 | .int i,.int j=>if ¬i=j then Y else N
 | .str i,.str j=>if ¬i=j then Y else N
 | .bl i,.bl j=>if ¬i=j then Y else N
 | x,y=>BD x y=true/\if ¬x=y then Y else N
theorem MW (i j:Int)(Y N:Prop):neT (.int i) (.int j) Y N=if ¬i=j then Y else N:=rfl
theorem MX (i j:Str)(Y N:Prop):neT (.str i) (.str j) Y N=if ¬i=j then Y else N:=rfl
theorem PD (i j:Bool)(Y N:Prop):neT (.bl i) (.bl j) Y N=if ¬i=j then Y else N:=rfl
theorem MY {x y:V}{Y N:Prop}:eqT x y N Y↔neT x y Y N:=by
 have h:∀(p:Prop) [Decidable p],(if p then N else Y)=if ¬p then Y else N:=fun p _=>by by_cases e:p<;>simp [e]
 cases x<;>cases y<;>first | exact iff_of_eq (h _) | exact and_congr Iff.rfl (iff_of_eq (h _))
noncomputable def Q8 (ta tb:TE):TT:=fun σ H Q=>ta σ H fun x H1=>tb σ H1 fun y H2=>eqT x y (Q true H2) (Q false H2)
noncomputable def Q9 (ta tb:TE):TT:=fun σ H Q=>ta σ H fun x H1=>tb σ H1 fun y H2=>neT x y (Q true H2) (Q false H2)
theorem MZ (ta tb:TE):qV (tOp rEq ta tb)=Q8 ta tb:=by
 funext σ H Q
 refine congrArg (ta σ H) (funext fun x=>funext fun H1=>congrArg (tb σ H1) (ceq fun y H2=>?_))
 refine Iff.trans ?_ (IJ (Q:=fun b=>Q b H2))
 exact ⟨fun ⟨a,k,e,q⟩=>⟨a,by cases e;exact q⟩,fun ⟨a,q⟩=>⟨a,_,rfl,q⟩⟩
theorem M0 (ta tb:TE):qV (tOp rNe ta tb)=Q9 ta tb:=by
 funext σ H Q
 refine congrArg (ta σ H) (funext fun x=>funext fun H1=>congrArg (tb σ H1) (ceq fun y H2=>?_))
 refine Iff.trans (Iff.trans ?_ (IJ (Q:=fun b=>Q (!b) H2))) MY
 exact ⟨fun ⟨a,k,e,q⟩=>⟨a,by cases e;exact q⟩,fun ⟨a,q⟩=>⟨a,_,rfl,q⟩⟩
noncomputable def K8 (K:PySem.W.Frag)(n:Nat)(t:TGs):TG:=fun v σ H Q=>onR v fun a=>∃xs,SqT K H a xs/\xs.length=n/\t xs σ H Q
theorem wg {x:V}{γ:Type}{P:Addr->γ->Prop}:(∃a z,x=.ref a/\P a z)↔onR x fun a=>∃z,P a z:=by cases x<;>simp [onR]
theorem IK (K:PySem.W.Frag)(n:Nat)(t:TGs):DY K n t=K8 K n t:=funext fun v=>funext fun σ=>ceq fun _ _=>wg
noncomputable def K9 (K:PySem.W.Frag)(n:Nat)(t:TGs):TG:=fun v σ H Q=>onR v fun a=>∃xs,SqL K H a xs/\xs.length=n/\t xs σ H Q
theorem La (K:PySem.W.Frag)(n:Nat)(t:TGs):N8 K n t=K9 K n t:=funext fun v=>funext fun σ=>ceq fun _ _=>wg
noncomputable def Aj (t:TG)(u:TGs):TGs:=fun vs σ H Q=>onC vs fun v r=>t v σ H fun σ' H'=>u r σ' H' Q
theorem wj (t:TG)(u:TGs):E2 t u=Aj t u:=funext fun v=>funext fun σ=>ceq fun _ _=>MP
noncomputable def Lb:TGs:=fun vs σ H Q=>onN vs (Q σ H)
theorem IL:OR=Lb:=funext fun v=>funext fun σ=>ceq fun _ _=>MQ
noncomputable def Og (K:PySem.W.Frag):R2:=fun x y H Q=>onR x fun p=>onI y fun i=>∃xs,SqL K H p xs/\∃v,atI xs i=some v/\Q v H
theorem M1 (K:PySem.W.Frag):Mq K=Og K:=funext fun x=>funext fun y=>ceq fun H Q=>⟨fun ⟨p,xs,i,v,e,f,h1,h2,h3⟩=>by subst e f;exact ⟨xs,h1,v,h2,h3⟩,fun h=>let ⟨p,e,h⟩:=g8 h;let ⟨i,f,xs,h1,v,h2,h3⟩:=vv h;⟨p,xs,i,v,e,f,h1,h2,h3⟩⟩
noncomputable def Oh (K:PySem.W.Frag):R2:=fun x y H Q=>onR x fun p=>onI y fun i=>∃xs,SqT K H p xs/\∃v,atI xs i=some v/\Q v H
theorem M3 (K:PySem.W.Frag):E6 K=Oh K:=funext fun x=>funext fun y=>ceq fun H Q=>⟨fun ⟨p,xs,i,v,e,f,h1,h2,h3⟩=>by subst e f;exact ⟨xs,h1,v,h2,h3⟩,fun h=>let ⟨p,e,h⟩:=g8 h;let ⟨i,f,xs,h1,v,h2,h3⟩:=vv h;⟨p,xs,i,v,e,f,h1,h2,h3⟩⟩
noncomputable def Lc (ta tb:TE):TE:=fun σ H Q=>ta σ H fun x H1=>onB x fun c=>if c=true then tb σ H1 Q else Q (.bl false) H1
theorem Le (ta tb:TE):NO ta tb=Lc ta tb:=funext fun σ=>funext fun H=>funext fun Q=>congrArg (ta σ H) (ceq fun _ _=>zO)
noncomputable def Oi (ta tb:TE):TE:=fun σ H Q=>ta σ H fun x H1=>onB x fun c=>if c=true then Q (.bl true) H1 else tb σ H1 Q
theorem M4 (ta tb:TE):Ru ta tb=Oi ta tb:=funext fun σ=>funext fun H=>funext fun Q=>congrArg (ta σ H) (ceq fun _ _=>zO)
noncomputable def Lf (ta:TE):TE:=fun σ H Q=>ta σ H fun x H1=>onB x fun c=>Q (.bl (!c)) H1
theorem Lg (ta:TE):NP ta=Lf ta:=funext fun σ=>funext fun H=>funext fun Q=>congrArg (ta σ H) (ceq fun _ _=>zO)
noncomputable def Oj (K:PySem.W.Frag)(ta:TE)(f:Str):TE:=fun σ H Q=>ta σ H fun x H1=>onR x fun a=>∃C dx fs,H1 a=some (.ins C dx fs)/\Cls K C/\bz K C f/\∃v,fs.lookup f=some v/\Q v H1
theorem M5 (K:PySem.W.Frag)(ta:TE)(f:Str):Qz K ta f=Oj K ta f:=funext fun σ=>funext fun H=>funext fun Q=>congrArg (ta σ H) (ceq fun x H1=>by cases x<;>simp [onR])
noncomputable def Ol (K:PySem.W.Frag)(ta tv:TE)(f:Str):TS:=fun D σ H=>tv σ H fun y H1=>ta σ H1 fun x H2=>onR x fun a=>∃C dx fs,H2 a=some (.ins C dx fs)/\Cls K C/\bz K C f/\fs.length < 1000/\D.nx σ (upd H2 a (.ins C dx (bL f y fs)))
theorem M6 (K:PySem.W.Frag)(ta tv:TE)(f:Str):QA K ta tv f=Ol K ta tv f:=funext fun D=>funext fun σ=>funext fun H=>congrArg (tv σ H) (funext fun y=>funext fun H1=>congrArg (ta σ H1) (ceq fun x H2=>by cases x<;>simp [onR]))
noncomputable def Lh (C:Addr)(m:Str)(sp:Sp)(dvs:List V)(E:XK)(ta:TE)(t:TA):TE:=fun σ H Q=>ta σ H fun x H1=>onR x fun a=>∃dx fs,H1 a=some (.ins C dx fs)/\fs.lookup m=none/\t σ H1 fun vs H2=>sp (.ref a::(vs++dvs)) H2 Q E
theorem Li (C:Addr)(m:Str)(sp:Sp)(dvs:List V)(E:XK)(ta:TE)(t:TA):Il C m sp dvs E ta t=Lh C m sp dvs E ta t:=funext fun σ=>funext fun H=>funext fun Q=>congrArg (ta σ H) (ceq fun x H1=>by cases x<;>simp [onR])
noncomputable def Fy:V->List V->Hp->VK->Prop:=fun x vs H Q=>onR x fun l=>onC vs fun y r=>onN r (∃xs,H l=some (.lst xs)/\xs.length < sizeLine/\Q .non (upd H l (.lst (xs++[y]))))
theorem Hm:Iv=Fy:=funext fun x=>funext fun vs=>ceq fun H Q=>⟨fun ⟨l,xs,y,e,f,h⟩=>by subst e f;exact ⟨xs,h⟩,fun h=>by
 obtain ⟨l,rfl,z⟩:=g8 h
 match vs,z with
 | [v],⟨xs,z⟩=>exact ⟨l,xs,v,rfl,rfl,z⟩⟩
noncomputable def Lj (t:TE):TO:=fun σ H Q=>t σ H fun x H1=>onI x fun i=>Q (some i) H1
theorem Lk (t:TE):N2 t=Lj t:=funext fun σ=>funext fun H=>funext fun Q=>congrArg (t σ H) (ceq fun _ _=>Eu)
noncomputable def Ll (K:PySem.W.Frag)(tl:TE):TI:=fun σ H R=>tl σ H fun x H1=>onR x fun a=>(∃xs,SqL K H1 a xs)/\R (Itl K a) H1
theorem Lm (K:PySem.W.Frag)(tl:TE):NT K tl=Ll K tl:=funext fun σ=>funext fun H=>funext fun R=>congrArg (tl σ H) (ceq fun _ _=>zP)
noncomputable def Ln (ta:TA):TI:=fun σ H R=>ta σ H fun vs H1=>onC vs fun v r=>onN r (onI v fun j=>-(2 ^ 62)<=j/\j < 2 ^ 62/\R (Itr 0 j.toNat) H1)
theorem Lo (ta:TA):NU ta=Ln ta:=funext fun σ=>funext fun H=>funext fun R=>congrArg (ta σ H) (ceq fun vs H1=>by
 rcases vs with _ | ⟨y,_ | ⟨z,vs⟩⟩<;>(try cases y)<;>simp [onI,onC,onN])
noncomputable def PF (K:PySem.W.Frag):List V->Hp->VK->Prop:=fun vs H Q=>onC vs fun v r=>onN r (onR v fun p=>∃ys,(SqL K H p ys\/SqT K H p ys)/\Q (.int ys.length) H)
theorem M7 (K:PySem.W.Frag)(t:TA):tCB (fun xs H Q=>∃p ys,xs=[.ref p]/\(SqL K H p ys\/SqT K H p ys)/\Q (.int ys.length) H) t=tCB (PF K) t:=by
 refine congrArg (fun r=>tCB r t) (funext fun vs=>ceq fun H Q=>?_)
 rcases vs with _ | ⟨y,_ | ⟨z,vs⟩⟩<;>(try cases y)<;>simp [PF,onR,onC,onN]
noncomputable def Ex (K:PySem.W.Frag):List V->Hp->VK->Prop:=fun vs H Q=>onC vs fun v r=>onN r (onR v fun p=>∃ys,(SqL K H p ys\/SqT K H p ys)/\∀l,H l=none->Q (.ref l) (upd H l (.lst ys)))
theorem Hn (K:PySem.W.Frag)(t:TA):tCB (fun xs H Q=>∃p ys,xs=[.ref p]/\(SqL K H p ys\/SqT K H p ys)/\∀l,H l=none->Q (.ref l) (upd H l (.lst ys))) t=tCB (Ex K) t:=by
 refine congrArg (fun r=>tCB r t) (funext fun vs=>ceq fun H Q=>?_)
 rcases vs with _ | ⟨y,_ | ⟨z,vs⟩⟩<;>(try cases y)<;>simp [Ex,onR,onC,onN]
noncomputable def Lp:V->V->V->Hp->(Hp->Prop)->Prop:=fun o i v H Q=>onR o fun p=>onI i fun k=>∃xs,H p=some (.lst xs)/\∃j,ixN xs.length k=some j/\Q (upd H p (.lst (xs.set j v)))
theorem Lq:N4=Lp:=funext fun o=>funext fun i=>funext fun v=>ceq fun H Q=>⟨fun ⟨p,xs,k,j,e,f,h1,h2,h3⟩=>by subst e f;exact ⟨xs,h1,j,h2,h3⟩,fun h=>let ⟨p,e,h⟩:=g8 h;let ⟨k,f,xs,h1,j,h2,h3⟩:=vv h;⟨p,xs,k,j,e,f,h1,h2,h3⟩⟩
theorem RL {p:Prop}[Decidable p]{A B:Prop}(h:if ¬p then A else B):if (!decide p)=true then A else B:=by
 by_cases e:p
 ·rw [if_neg (fun z=>z e)] at h;rw [if_neg (by simp [e])];exact h
 ·rw [if_pos e] at h;rw [if_pos (by simp [e])];exact h
noncomputable def tU1 (f:Int->V)(ta:TE):TE:=fun σ H Q=>ta σ H fun x H1=>onI x fun i=>Q (f i) H1
theorem Lr {k:Int}(hk:0 < k)(ta:TE)(g:Int->Int->V):tOp (rI (fun _ j=>0 < j) g) ta (tC (.int k))=tU1 (fun i=>g i k) ta:=funext fun σ=>funext fun H=>funext fun Q=>congrArg (ta σ H) (ceq fun x H1=>by
 cases x<;>simp [rI,tC,onI,hk])
theorem Ls {k:Int}(h1:0 < k)(h2:k < 1073741824)(ta:TE)(g:Int->Int->V):tOp (rI Kn g) ta (tC (.int k))=tU1 (fun i=>g i k) ta:=funext fun σ=>funext fun H=>funext fun Q=>congrArg (ta σ H) (ceq fun x H1=>by
 have hc:∀i,Kn i k:=fun i=>by unfold Kn;omega
 cases x<;>simp [rI,tC,onI,hc])
theorem Lu {k:Int}(h1:-4294967296 < k)(h2:k < 4294967296)(ta:TE)(g:Int->Int->V):tOp (rI BC g) ta (tC (.int k))=tU1 (fun i=>g i k) ta:=funext fun σ=>funext fun H=>funext fun Q=>congrArg (ta σ H) (ceq fun x H1=>by
 have hc:∀i,BC i k:=fun i=>by unfold BC;omega
 cases x<;>simp [rI,tC,onI,hc])
theorem JG {k:Int}(h1:-4294967296 < k)(h2:k < 4294967296)(tb:TE)(g:Int->Int->V):tOp (rI BC g) (tC (.int k)) tb=tU1 (fun i=>g k i) tb:=funext fun σ=>funext fun H=>funext fun Q=>congrArg (tb σ H) (ceq fun x H1=>by
 have hc:∀i,BC k i:=fun i=>by unfold BC;omega
 cases x<;>simp [rI,onI,hc])
noncomputable def Om (K:PySem.W.Frag):V->Option Int->Option Int->Hp->VK->Prop:=fun x lo hi H Q=>onR x fun a=>∃xs,SqL K H a xs/\∀p,H p=none->Q (.ref p) (upd H p (.lst (vS xs lo hi)))
theorem M8 (K:PySem.W.Frag):QG K=Om K:=funext fun x=>funext fun lo=>funext fun hi=>ceq fun _ _=>wg
noncomputable def Oo (K:PySem.W.Frag):V->Option Int->Option Int->Hp->VK->Prop:=fun x lo hi H Q=>onR x fun a=>∃xs,SqT K H a xs/\¬(HT.sIx xs.length 0 lo=0/\HT.sIx xs.length xs.length hi=xs.length)/\∀p,H p=none->Q (.ref p) (upd H p (.tup (vS xs lo hi)))
theorem M9 (K:PySem.W.Frag):QD K=Oo K:=funext fun x=>funext fun lo=>funext fun hi=>ceq fun _ _=>wg
noncomputable def Oq:R2:=fun x y H Q=>onR x fun l=>onR y fun b=>∃xs,H l=some (.lst xs)/\∃zs,H b=some (.lst zs)/\xs.length+zs.length<=sizeLine/\∀p,H p=none->Q (.ref p) (upd H p (.lst (xs++zs)))
theorem Na:QI=Oq:=funext fun x=>funext fun y=>ceq fun H Q=>⟨fun ⟨l,b,xs,zs,e,f,h1,h2,h3⟩=>by subst e f;exact ⟨xs,h1,zs,h2,h3⟩,fun h=>let ⟨l,e,h⟩:=g8 h;let ⟨b,f,xs,h1,zs,h2,h3⟩:=g8 h;⟨l,b,xs,zs,e,f,h1,h2,h3⟩⟩
noncomputable def Lv:R2:=fun x y H Q=>onR x fun a=>onR y fun b=>∃xs,H a=some (.tup xs)/\∃ys,H b=some (.tup ys)/\xs.length+ys.length<=1000/\∀p H',av H H'->H' p=some (.tup (xs++ys))->Q (.ref p) H'
theorem Lw:Oc=Lv:=funext fun x=>funext fun y=>ceq fun H Q=>⟨fun ⟨l,b,xs,zs,e,f,h1,h2,h3⟩=>by subst e f;exact ⟨xs,h1,zs,h2,h3⟩,fun h=>let ⟨l,e,h⟩:=g8 h;let ⟨b,f,xs,h1,zs,h2,h3⟩:=g8 h;⟨l,b,xs,zs,e,f,h1,h2,h3⟩⟩
noncomputable def Lx (K:PySem.W.Frag):R2:=fun x y H Q=>onR x fun a=>onR y fun b=>∃xs,SqT K H a xs/\∃ys,SqT K H b ys/\xs.length+ys.length<=1000/\∀p H',av H H'->SqT K H' p (xs++ys)->Q (.ref p) H'
theorem Ly (K:PySem.W.Frag):N7 K=Lx K:=funext fun x=>funext fun y=>ceq fun H Q=>⟨fun ⟨l,b,xs,zs,e,f,h1,h2,h3⟩=>by subst e f;exact ⟨xs,h1,zs,h2,h3⟩,fun h=>let ⟨l,e,h⟩:=g8 h;let ⟨b,f,xs,h1,zs,h2,h3⟩:=g8 h;⟨l,b,xs,zs,e,f,h1,h2,h3⟩⟩
noncomputable def PH (K:PySem.W.Frag)(neg:Bool):R2:=fun x y H Q=>onR y fun p=>∃xs,(SqL K H p xs\/SqT K H p xs)/\cL x=true/\xs.all cL=true/\Q (.bl (if neg=true then !inV x xs else inV x xs)) H
theorem PJ (K:PySem.W.Frag)(neg:Bool):rIn K neg=PH K neg:=funext fun x=>funext fun y=>ceq fun H Q=>by cases y<;>simp [rIn,PH,onR]
theorem Ra {b c:Bool}:(if true=true then b else c)=b:=rfl
theorem Rc {b c:Bool}:(if false=true then b else c)=c:=rfl
noncomputable def Lz (ta:TA):TI:=fun σ H R=>ta σ H fun vs H1=>onC vs fun v r=>onC r fun u r2=>onN r2 (onI v fun i=>onI u fun j=>(-(2 ^ 62)<=i/\i < 2 ^ 62/\-(2 ^ 62)<=j/\j < 2 ^ 62)/\R (Itr i (j - i).toNat) H1)
theorem CO {vs:List V}{P:Int->Int->Prop}:(∃i j,vs=[.int i,.int j]/\P i j)↔onC vs fun v r=>onC r fun u r2=>onN r2 (onI v fun i=>onI u fun j=>P i j):=by
 constructor
 ·rintro ⟨i,j,rfl,h⟩;exact h
 ·intro h
  rcases vs with _ | ⟨y,_ | ⟨z,_ | ⟨u,vs⟩⟩⟩
  ·exact h.elim
  ·exact h.elim
  ·cases y<;>cases z<;>first | exact ⟨_,_,rfl,h⟩ | exact h.elim
  ·exact h.elim
theorem LA (ta:TA):NV ta=Lz ta:=funext fun σ=>funext fun H=>funext fun R=>congrArg (ta σ H) (ceq fun vs H1=>CO)
noncomputable def Ot (K:PySem.W.Frag)(tl:TE):TI:=fun σ H R=>tl σ H fun x H1=>onR x fun a=>(∃xs,SqT K H1 a xs)/\R (Itt K a) H1
theorem Nb (K:PySem.W.Frag)(tl:TE):Rx K tl=Ot K tl:=funext fun σ=>funext fun H=>funext fun R=>congrArg (tl σ H) (ceq fun _ _=>zP)
noncomputable def LB (K:PySem.W.Frag)(te:TE):TI:=fun σ H R=>te σ H fun x H1=>onR x fun a=>(∃xs,SqL K H1 a xs)/\R (Ite K a) H1
theorem LC (K:PySem.W.Frag)(te:TE):N6 K te=LB K te:=funext fun σ=>funext fun H=>funext fun R=>congrArg (te σ H) (ceq fun _ _=>zP)
noncomputable def Ou (K:PySem.W.Frag)(ta tb:TE):TI:=fun σ H R=>ta σ H fun x H1=>tb σ H1 fun y H2=>onR x fun a=>onR y fun b=>(∃xs,SqL K H2 a xs)/\(∃ys,SqL K H2 b ys)/\R (Itz K a b) H2
theorem Nd (K:PySem.W.Frag)(ta tb:TE):QQ K ta tb=Ou K ta tb:=funext fun σ=>funext fun H=>funext fun R=>congrArg (ta σ H) (funext fun x=>funext fun H1=>congrArg (tb σ H1) (ceq fun y H2=>⟨fun ⟨a,b,e,f,h⟩=>by subst e f;exact h,fun h=>let ⟨a,e,h⟩:=g8 h;let ⟨b,f,h⟩:=g8 h;⟨a,b,e,f,h⟩⟩))
noncomputable def Ey:V->List V->Hp->VK->Prop:=fun x vs H Q=>onR x fun l=>onN vs (∃xs,H l=some (.lst xs)/\Q .non (upd H l (.lst [])))
theorem JH:GY=Ey:=funext fun x=>funext fun vs=>ceq fun H Q=>by cases vs<;>cases x<;>simp [GY,Ey,onR,onN]
noncomputable def LD:V->List V->Hp->VK->Prop:=fun x vs H Q=>onR x fun l=>onN vs (∃xs,H l=some (.lst xs)/\∃y,xs[xs.length - 1]?=some y/\Q y (upd H l (.lst xs.dropLast)))
theorem Nf:OZ=LD:=funext fun x=>funext fun vs=>ceq fun H Q=>by cases vs<;>cases x<;>simp [OZ,LD,onR,onN]
noncomputable def Fz:V->List V->Hp->VK->Prop:=fun x vs H Q=>onR x fun l=>onC vs fun v r=>onN r (onR v fun b=>∃xs,H l=some (.lst xs)/\∃zs,H b=some (.lst zs)/\xs.length+zs.length<=sizeLine/\Q .non (upd H l (.lst (xs++zs))))
theorem Ho:Iw=Fz:=funext fun x=>funext fun vs=>ceq fun H Q=>⟨fun ⟨l,b,xs,zs,e,f,h1,h2,h3⟩=>by subst e f;exact ⟨xs,h1,zs,h2,h3⟩,fun h=>by
 obtain ⟨l,rfl,z⟩:=g8 h
 match vs,z with
 | [v],z=>
  obtain ⟨b,rfl,xs,h1,zs,h2,h3⟩:=g8 (show onR v _ from z)
  exact ⟨l,b,xs,zs,rfl,rfl,h1,h2,h3⟩⟩
noncomputable def PL:List V->Hp->VK->Prop:=fun vs H Q=>onC vs fun v r=>onN r (onI v fun i=>Q (.int (if i < 0 then -i else i)) H)
theorem Ng (t:TA):tCB (fun xs H Q=>∃i,xs=[.int i]/\Q (.int (if i < 0 then -i else i)) H) t=tCB PL t:=by
 refine congrArg (fun r=>tCB r t) (funext fun vs=>ceq fun H Q=>?_)
 rcases vs with _ | ⟨y,_ | ⟨z,vs⟩⟩<;>(try cases y)<;>simp [PL,onI,onC,onN]
noncomputable def Ov:List V->Hp->VK->Prop:=fun vs H Q=>onC vs fun v r=>onC r fun u r2=>onN r2 (onI v fun i=>onI u fun j=>Q (.int (if j < i then j else i)) H)
theorem LF (t:TA):tCB (fun xs H Q=>∃i j,xs=[.int i,.int j]/\Q (.int (if j < i then j else i)) H) t=tCB Ov t:=by
 refine congrArg (fun r=>tCB r t) (funext fun vs=>ceq fun H Q=>?_)
 exact CO
noncomputable def Hq (K:PySem.W.Frag):List V->Hp->VK->Prop:=fun vs H Q=>onC vs fun v r=>onN r (onR v fun p=>∃ys,(SqL K H p ys/\∀l,H l=none->Q (.ref l) (upd H l (.tup ys)))\/(SqT K H p ys/\Q (.ref p) H))
theorem JI (K:PySem.W.Frag)(t:TA):tCB (fun xs H Q=>∃p ys,xs=[.ref p]/\((SqL K H p ys/\∀l,H l=none->Q (.ref l) (upd H l (.tup ys)))\/(SqT K H p ys/\Q (.ref p) H))) t=tCB (Hq K) t:=by
 refine congrArg (fun r=>tCB r t) (funext fun vs=>ceq fun H Q=>?_)
 rcases vs with _ | ⟨y,_ | ⟨z,vs⟩⟩<;>(try cases y)<;>simp [Hq,onR,onC,onN]
def Nh (v:V)(P:Int->Prop):Prop:=match v with | .int i=>P i | .bl k=>P (if k=true then 1 else 0) | _=>False
theorem LG (i:Int)(P:Int->Prop):Nh (.int i) P=P i:=rfl
theorem Ni (k:Bool)(P:Int->Prop):Nh (.bl k) P=P (if k=true then 1 else 0):=rfl
noncomputable def LH:List V->Hp->VK->Prop:=fun vs H Q=>onC vs fun v r=>onN r (Nh v fun i=>Q (.int i) H)
theorem LI (t:TA):tCB (fun xs H Q=>(∃i,xs=[.int i]/\Q (.int i) H)\/∃k,xs=[.bl k]/\Q (.int (if k=true then 1 else 0)) H) t=tCB LH t:=by
 refine congrArg (fun r=>tCB r t) (funext fun vs=>ceq fun H Q=>?_)
 rcases vs with _ | ⟨y,_ | ⟨z,vs⟩⟩<;>(try cases y)<;>simp [LH,onC,onN,Nh]
noncomputable def Ow (ta:TE):TT:=fun σ H Q=>ta σ H fun x H1=>if x=.non then Q true H1 else Q false H1
theorem LJ (ta:TE):qV (tOp (fun x y H Q=>y=.non/\Q (.bl (decide (x=.non))) H) ta (tC .non))=Ow ta:=funext fun σ=>funext fun H=>funext fun Q=>congrArg (ta σ H) (ceq fun x H1=>by
 refine Iff.trans ?_ (iff_of_eq (Hl (p:=x=.non) (Q:=fun b=>Q b H1)))
 exact ⟨fun ⟨_,k,e,q⟩=>by cases e;exact q,fun q=>⟨rfl,_,rfl,q⟩⟩)
noncomputable def LK (ta:TE):TT:=fun σ H Q=>ta σ H fun x H1=>if ¬x=.non then Q true H1 else Q false H1
theorem Nj {p:Prop}[Decidable p]{Q:Bool->Prop}:Q (!decide p)=if ¬p then Q true else Q false:=by
 by_cases h:p
 ·rw [if_neg (fun z=>z h),decide_eq_true h];rfl
 ·rw [if_pos h,decide_eq_false h];rfl
theorem JJ (ta:TE):qV (tOp (fun x y H Q=>y=.non/\Q (.bl (!decide (x=.non))) H) ta (tC .non))=LK ta:=funext fun σ=>funext fun H=>funext fun Q=>congrArg (ta σ H) (ceq fun x H1=>by
 refine Iff.trans ?_ (iff_of_eq (Nj (p:=x=.non) (Q:=fun b=>Q b H1)))
 exact ⟨fun ⟨_,k,e,q⟩=>by cases e;exact q,fun q=>⟨rfl,_,rfl,q⟩⟩)
theorem yr {K:PySem.W.Frag}{l:Addr}{ls:List Ld}{te:TE}{cm:List (Option Nat)}{σ:St}{H:Hp}{Q:VK}(f:Ld->V)(hL:iX K H l ls)(hn:ls.length<=sizeLine)(hcm:cK cm σ=[none,none,none])
  (he:∀x∈ls,∀N:VK,N (f x) H->te [some (.str x.1),some (.int x.2.1),some (.int x.2.2)] H N)
  (hd:∀p,H p=none->Q (.ref p) (upd H p (.lst (ls.map f)))):vY (Itl K l) (K8 K 3 (Aj (g9 0) (Aj (g9 1) (Aj (g9 2) Lb)))) zv te cm σ Q H:=by
 rw [←IK,←IL,←wj,←wj,←wj]
 exact KW f hL hn hcm he hd
noncomputable def LL (K:PySem.W.Frag):R2:=fun x y H Q=>onR x fun l=>onI y fun k=>∃v,SqT K H l [v]/\2<=k/\k<=100/\∀p,H p=none->Q (.ref p) (upd H p (.tup (List.replicate k.toNat v)))
theorem LM (K:PySem.W.Frag):Ob K=LL K:=funext fun x=>funext fun y=>ceq fun H Q=>⟨fun ⟨l,k,v,e,f,h⟩=>by subst e f;exact ⟨v,h⟩,fun h=>let ⟨l,e,h⟩:=g8 h;let ⟨k,f,v,h⟩:=vv h;⟨l,k,v,e,f,h⟩⟩
noncomputable def Ox:R2:=fun x y H Q=>onR x fun l=>onI y fun k=>∃xs,H l=some (.lst xs)/\-(2 ^ 63)<=k/\k < 2 ^ 63/\xs.length * k.toNat<=sizeLine/\∀p,H p=none->Q (.ref p) (upd H p (.lst (List.replicate k.toNat xs).flatten))
theorem Nk:Rz=Ox:=funext fun x=>funext fun y=>ceq fun H Q=>⟨fun ⟨l,k,v,e,f,h⟩=>by subst e f;exact ⟨v,h⟩,fun h=>let ⟨l,e,h⟩:=g8 h;let ⟨k,f,v,h⟩:=vv h;⟨l,k,v,e,f,h⟩⟩
theorem onI.mono {x:V}{P Q:Int->Prop}(h:∀i,P i->Q i)(p:onI x P):onI x Q:=by cases x<;>first | exact h _ p | exact p
theorem onO.mono {x:Option (Option V)}{P Q:V->Prop}(h:∀i,P i->Q i)(p:onO x P):onO x Q:=by
 rcases x with _ | _ | v
 ·exact p
 ·exact p
 ·exact h _ p
end
noncomputable def Oy (i j:Nat)(ta:TA):TS:=fun D σ H=>ta σ H fun vs H1=>onC vs fun v r=>onC r fun w r2=>onN r2 (D.nx ((σ.set i (some v)).set j (some w)) H1)
theorem Nl {vs:List V}{P:V->V->Prop}:(∃v w,vs=[v,w]/\P v w)↔onC vs fun v r=>onC r fun w r2=>onN r2 (P v w):=by
 constructor
 ·rintro ⟨v,w,rfl,h⟩;exact h
 ·intro h
  rcases vs with _ | ⟨y,_ | ⟨z,_ | ⟨u,vs⟩⟩⟩
  ·exact h.elim
  ·exact h.elim
  ·exact ⟨_,_,rfl,h⟩
  ·exact h.elim
theorem Nm (i j:Nat)(ta:TA):Qu i j ta=Oy i j ta:=funext fun D=>funext fun σ=>funext fun H=>congrArg (ta σ H) (ceq fun vs H1=>Nl)
noncomputable def LN (K:PySem.W.Frag):R2:=fun x y H Q=>onR x fun a=>onR y fun b=>∃xs,SqL K H a xs/\∃ys,SqL K H b ys/\xs.all cL=true/\ys.all cL=true/\Q (.bl (!eqL xs ys)) H
theorem Nn (K:PySem.W.Frag):Pl K=LN K:=funext fun x=>funext fun y=>ceq fun H Q=>by cases x<;>cases y<;>simp [Pl,LN,onR]
noncomputable def LO (K:PySem.W.Frag):R2:=fun x y H Q=>onR x fun a=>onR y fun b=>∃xs,SqL K H a xs/\∃ys,SqL K H b ys/\xs.all cL=true/\ys.all cL=true/\Q (.bl (eqL xs ys)) H
theorem Np (K:PySem.W.Frag):Pc K=LO K:=funext fun x=>funext fun y=>ceq fun H Q=>by cases x<;>cases y<;>simp [Pc,LO,onR]
theorem IM {xs:List V}:eqL xs []=decide (xs=[]):=by cases xs<;>simp [eqL]
theorem Rf {b:Bool}{A B:Prop}(h:if b=false then A else B):if (!b)=true then A else B:=by cases b<;>exact h
noncomputable def nB (fs:List Bool):List Int:=((List.range fs.length).filter fun j=>!fs.getD j false).map fun (j:Nat)=>(j:Int)
theorem JK {fs:List Bool}{x:Int}(h:x∈nB fs):0<=x/\x < fs.length/\fs.getD x.toNat false=false:=by
 unfold nB at h
 rw [List.mem_map] at h
 obtain ⟨j,hj,rfl⟩:=h
 rw [List.mem_filter,List.mem_range] at hj
 exact ⟨Int.natCast_nonneg _,by omega,by rw [Int.toNat_natCast];simpa using hj.2⟩
theorem JL {g:Cfg}{n:aY}(hs:cM g.ds)(h:∀c,c=0\/c=1->∀l,cj g.ds n.place c=some l->n.gates.getD l.toNat false=false):l8 g n=false:=by
 unfold l8
 rw [List.any_eq_false]
 intro x hx
 unfold nv at hx
 rw [List.mem_map] at hx
 obtain ⟨i,hi,rfl⟩:=hx
 rw [List.mem_filter,List.mem_range] at hi
 obtain ⟨h1,h2⟩:=hi
 rw [Bool.not_eq_true]
 rcases of_decide_eq_true h2 with e | e
 ·exact h 0 (.inl rfl) i (by unfold cj;rw [if_pos rfl];exact l5 hs h1 e)
 ·exact h 1 (.inr rfl) i (by unfold cj;rw [if_neg (by decide)];exact l5 hs h1 e)
theorem fu.cd {g:Cfg}(hg:fu g){l:Int}(h0:0<=l)(h1:l < g.ds.length):gx (jr g.ls l):=by
 have hl:=hg.lc
 have hi:l.toNat < g.ls.length:=by omega
 unfold jr
 rw [List.getD_eq_getElem?_getD,List.getElem?_eq_getElem hi]
 exact hg.gc _ (List.getElem_mem hi)
theorem dD.code {g:Cfg}{n:aY}(hg:fu g)(hn:dD g n){l r:Int}(h:n.e=.wait l r\/n.e=.armed l r):1<=r/\r<=9:=by
 obtain ⟨h0,h1,h2⟩:=hn.ew l r h
 obtain ⟨⟨a,b⟩,⟨c,d⟩,_⟩:=hg.cd h0 h1
 rcases h2 with rfl | rfl<;>exact ⟨by assumption,by assumption⟩
theorem IP {x y:V}{b:Bool}:atI [x,y] (if b=true then 1 else 0)=some (if b=true then y else x):=by cases b<;>rfl
theorem vw {g:Cfg}{n:aY}{l:Int}(h0:0<=l)(h1:l < g.ds.length)(h:n.gates.getD l.toNat false=false):g0 g n (.opn l)=none:=(if_neg (fun z=>z ⟨h0,h1⟩)).trans (if_neg (by rw [h];decide))
theorem pT {g:Cfg}{n:aY}{l:Int}(h0:0<=l)(h1:l < g.ds.length)(h:n.gates.getD l.toNat false=true):g0 g n (.sht l)=none:=(if_neg (fun z=>z ⟨h0,h1⟩)).trans (if_neg (by rw [h];decide))
theorem yM {g:Cfg}{n:aY}{l s:Int}(h0:0<=l)(h1:l < g.ds.length)(h:n.fs.getD l.toNat false=false)(hs:s=(jr g.ls l).1\/s=(jr g.ls l).2):g0 g n (.ring l s)=none:=(if_neg (fun z=>z ⟨h0,h1⟩)).trans ((if_neg (by rw [h];decide)).trans (if_pos hs))
theorem FA {g:Cfg}{n:aY}{l:Int}(h0:0<=l)(h1:l < g.ds.length)(h:n.fs.getD l.toNat false=false):g0 g n (.fail l)=none:=(if_neg (fun z=>z ⟨h0,h1⟩)).trans (if_neg (by rw [h];decide))
theorem yN {g:Cfg}{n:aY}{l r s:Int}(h:n.e=.wait l r)(h1:1<=s)(h2:s<=9):g0 g n (.rept s)=none:=by
 simp only [g0,h]
 exact if_pos ⟨h1,h2⟩
theorem yO {g:Cfg}{n:aY}{c l:Int}{k:Str}(h0:0<=l)(h1:l < g.ds.length)(h:l8 g n=false)(he:n.e=.armed l (dC g.ls l k)):g0 g n (.wind c l k)=none:=(if_neg (fun z=>z ⟨h0,h1⟩)).trans ((if_neg (by rw [h];decide)).trans (if_pos he))
theorem BN {g:Cfg}{n:aY}{c l:Int}(h:10+c∈n.ws)(hl:cj g.ds n.place c=some l)(ho:n.gates.getD l.toNat false=true):g0 g n (.unload c)=none:=by
 refine (if_neg (fun z=>z h)).trans ?_
 rw [hl]
 exact if_pos ho
theorem FC {g:Cfg}{n:aY}{k c l:Int}(h0:0<=k)(h1:k < n.ws.length)(hl:cj g.ds n.place c=some l)(hk:n.ws.getD k.toNat 0=l)(hc:¬10+c∈n.ws)(ho:n.gates.getD l.toNat false=true):g0 g n (.load k c)=none:=by
 refine (if_neg (fun z=>z ⟨h0,h1⟩)).trans ?_
 rw [hl]
 exact (if_neg (fun z=>z hk)).trans ((if_neg hc).trans (if_pos ho))
theorem Oz {pl:Int}{ds:List Int}{c:Int}:(cj ds pl c).getD (-1) < 0->cj ds pl c=none:=by
 intro h
 cases e:cj ds pl c with
 | none=>rfl
 | some l=>rw [e] at h;have:=(i6 e).1;simp only [Option.getD_some] at h;omega
theorem LP {pl:Int}{ds:List Int}{c:Int}:¬(cj ds pl c).getD (-1) < 0->∃l,cj ds pl c=some l/\(cj ds pl c).getD (-1)=l:=by
 intro h
 cases e:cj ds pl c with
 | none=>rw [e] at h;exact absurd (by decide) h
 | some l=>exact ⟨l,rfl,rfl⟩
theorem Rg (e:Eng):(∃l r,e=.wait l r)\/(∃l r,e=.armed l r)\/∃(w:Str) (x y z:V),pQ e=[.str w,x,y,z]/\¬w="not repeated"/\¬w="armed":=by
 cases e with
 | no=>exact .inr (.inr ⟨_,_,_,_,rfl,by decide,by decide⟩)
 | wait l r=>exact .inl ⟨l,r,rfl⟩
 | armed l r=>exact .inr (.inl ⟨l,r,rfl⟩)
 | other l r s=>exact .inr (.inr ⟨_,_,_,_,rfl,by decide,by decide⟩)
 | used l r=>exact .inr (.inr ⟨_,_,_,_,rfl,by decide,by decide⟩)
theorem LQ {ws:List Int}{lv x:Int}(h:x∈l7 ws lv):0<=x/\x < ws.length/\ws.getD x.toNat 0=lv:=by
 unfold l7 BH at h
 rw [List.mem_map] at h
 obtain ⟨j,hj,rfl⟩:=h
 rw [List.mem_filter,List.mem_range] at hj
 exact ⟨Int.natCast_nonneg _,by omega,by rw [Int.toNat_natCast];exact of_decide_eq_true hj.2⟩
theorem ma.un {K:PySem.W.Frag}{H:Hp}{a:Addr}{n:aY}{t:Int}(h:ma K H a (n,t)):∃gt lt ht dt:Addr,SqT K H a [.int n.place,.ref gt,.ref lt,.ref ht,.ref dt,.int t]/\SqT K H gt (n.gates.map V.bl)/\H lt=some (.tup (n.ws.map V.int))/\SqT K H ht (pQ n.e)/\SqT K H dt ((dJ n.fs).map V.int):=h
structure pU (C:Cl)(K:PySem.W.Frag)(H0 H:Hp)(p dl cl ll w bk rl sl wl:Addr)(g:Cfg)(lds:List Ld)(n0:aY)(rs:List Row):Prop where
 su:gp K H0 p dl cl ll g lds
 sa:av H0 H
 fr:H0 rl=none
 fs:H0 sl=none
 fw:H0 wl=none
 da:Fx C K H w bk rl sl wl g n0 rs
 cg:fu g
 c0:dD g n0
section
variable {C:Cl}{K:PySem.W.Frag}{H0 H H':Hp}{p dl cl ll w bk rl sl wl:Addr}{g:Cfg}{lds:List Ld}{n0:aY}{rs rs':List Row}
theorem pU.same (h:pU C K H0 H p dl cl ll w bk rl sl wl g lds n0 rs)(s:av H H'):pU C K H0 H' p dl cl ll w bk rl sl wl g lds n0 rs:=⟨h.su,h.sa.trans s,h.fr,h.fs,h.fw,h.da.same s,h.cg,h.c0⟩
theorem pU.setup (h:pU C K H0 H p dl cl ll w bk rl sl wl g lds n0 rs):gp K H p dl cl ll g lds:=h.su.same h.sa
theorem pU.snap (h:pU C K H0 H p dl cl ll w bk rl sl wl g lds n0 rs):dD g (ak n0 rs):=h.da.run.snap h.cg h.c0
theorem pU.to (h:pU C K H0 H p dl cl ll w bk rl sl wl g lds n0 rs)(k:cD rl sl wl H H')(d:Fx C K H' w bk rl sl wl g n0 rs'):pU C K H0 H' p dl cl ll w bk rl sl wl g lds n0 rs':=⟨h.su,h.sa.keeps3 k h.fr h.fs h.fw,h.fr,h.fs,h.fw,d,h.cg,h.c0⟩
end
theorem Nq (d:Dd):∃w:Str,atI (ddV d) 0=some (.str w)/\¬w="take back":=by
 cases d<;>exact ⟨_,rfl,by decide⟩
theorem Nr {d:Dd}(h:∀s,d≠.rept s):∃w:Str,atI (ddV d) 0=some (.str w)/\¬w="repeat":=by
 cases d<;>first | exact ⟨_,rfl,by decide⟩ | exact absurd rfl (h _)
theorem BM.int {K:PySem.W.Frag}{H:Hp}{n:aY}{t:Int}{d:Dd}{v:V}(h:BM K H n t d v)(hr:∀s,d≠.rept s):v=.int t:=by
 cases d<;>first | exact h | exact absurd rfl (hr _)
theorem BM.same {K:PySem.W.Frag}{H H':Hp}{n:aY}{t:Int}{d:Dd}{v:V}(h:BM K H n t d v)(s:av H H'):BM K H' n t d v:=by
 cases d<;>first | exact h | (obtain ⟨p,l,r,e,f,z⟩:=h;exact ⟨p,l,r,e,f,s.tup z⟩)
theorem BM.keep {K:PySem.W.Frag}{H H':Hp}{n:aY}{t:Int}{d:Dd}{v:V}{p:Addr}{ys:List V}(h:BM K H n t d v)(s:aA p H H')(hp:H p=some (.lst ys)):BM K H' n t d v:=by
 cases d<;>first | exact h | (obtain ⟨p,l,r,e,f,z⟩:=h;exact ⟨p,l,r,e,f,z.keep s hp⟩)
theorem Nt {as:List Addr}{a b:Addr}:atI ((as++[a]++[b]).map V.ref) (-2)=some (.ref a):=by
 have hl:((as++[a]++[b]).map V.ref).length=as.length+2:=by simp
 unfold atI ixN
 rw [hl,if_neg (by omega),if_pos (by omega)]
 rw [show ((-2:Int)+((as.length+2:Nat):Int)).toNat=as.length by omega]
 show ((as++[a]++[b]).map V.ref)[as.length]?=_
 simp
structure CP (ds:List Int)(ls:List Cd)(slow fast:Int)(lds:List Ld):Prop where
 sh:cM ds
 ln:ls.length=ds.length
 gd:∀x∈ls,gx x
 sp:1<=slow/\slow<=fast/\fast<=500
 l30:lds.length<=30
 gl:∀x∈lds,l4 (ds.length:Nat) x
theorem CP.cfg {ds:List Int}{ls:List Cd}{slow fast:Int}{lds:List Ld}(h:CP ds ls slow fast lds)(N:Addr->Prop):fu (fI ds ls slow fast lds N):=Pk h.sh h.ln h.gd h.sp h.l30
theorem CP.snap {ds:List Int}{ls:List Cd}{slow fast:Int}{lds:List Ld}(h:CP ds ls slow fast lds)(N:Addr->Prop):dD (fI ds ls slow fast lds N) (eU ds ls lds):=MG h.sh h.ln h.gl
def HV (ws:List Int)(i:Nat)(c:Int)(x:V):Prop:=(x=.non/\∀j,j < i->ws.getD j 0≠10+c)\/∃j:Nat,j < i/\x=.int (j:Int)/\ws.getD j 0=10+c
theorem HV.nil {ws:List Int}{c:Int}:HV ws 0 c .non:=.inl ⟨rfl,fun j h=>absurd h (Nat.not_lt_zero _)⟩
theorem HV.no {ws:List Int}{i:Nat}{c:Int}{x:V}(h:HV ws i c x)(n:ws.getD i 0≠10+c):HV ws (i+1) c x:=by
 rcases h with ⟨e,h⟩ | ⟨j,hj,e,h⟩
 ·exact .inl ⟨e,fun j hj=>by
   by_cases z:j=i
   ·rw [z];exact n
   ·exact h j (by omega)⟩
 ·exact .inr ⟨j,by omega,e,h⟩
theorem HV.yes {ws:List Int}{i:Nat}{c:Int}(n:ws.getD i 0=10+c):HV ws (i+1) c (.int (i:Int)):=.inr ⟨i,by omega,rfl,n⟩
theorem HV.all {g:Cfg}{n:aY}(hn:dD g n){c:Int}{x:V}(hc:0<=c)(h:HV n.ws n.ws.length c x):x=inC n.ws c:=by
 unfold inC
 rcases h with ⟨e,h⟩ | ⟨j,hj,e,h⟩
 ·rw [if_neg,e]
  intro z
  obtain ⟨h1,h2⟩:=ym z
  exact h _ h1 h2
 ·have hm:10+c∈n.ws:=h▸df hj
  obtain ⟨h1,h2⟩:=ym hm
  rw [if_pos hm,e,hn.un j _ hj h1 (by omega) (h.trans h2.symm)]
theorem wo (ws:List Int)(c:Int):cL (inC ws c)=true:=by unfold inC;split<;>rfl
def gq (H:Hp)(ws:List Int)(as:List Addr)(m:Nat):Prop:=as.length=m/\∀(j:Nat) a,as[j]?=some a->H a=some (.lst ((l7 ws (j:Int)).map V.int))
theorem gq.same {H H':Hp}{ws:List Int}{as:List Addr}{m:Nat}(h:gq H ws as m)(s:av H H'):gq H' ws as m:=⟨h.1,fun j a e=>s _ _ (h.2 j a e)⟩
theorem gq.nil {H:Hp}{ws:List Int}:gq H ws [] 0:=⟨rfl,fun j a e=>by simp at e⟩
theorem gq.push {H:Hp}{ws:List Int}{as:List Addr}{m:Nat}{a:Addr}(h:gq H ws as m)(e:H a=some (.lst ((l7 ws (m:Int)).map V.int))):gq H ws (as++[a]) (m+1):=by
 refine ⟨by rw [List.length_append,h.1];rfl,fun j b hb=>?_⟩
 by_cases hj:j < as.length
 ·rw [List.getElem?_append_left hj] at hb
  exact h.2 j b hb
 ·rw [List.getElem?_append_right (by omega)] at hb
  have hz:j - as.length=0:=by
   have:=(List.getElem?_eq_some_iff.mp hb).1
   simp at this
   omega
  rw [hz] at hb
  cases hb
  have:j=m:=by rw [←h.1];omega
  rw [this]
  exact e
noncomputable def Hr (ws:List Int)(m:Nat):Dt:=.lst ((List.range m).map fun (j:Nat)=>.lst (((l7 ws (j:Int)).map V.int).map Dt.flat))
theorem CQ {K:PySem.W.Frag}{H:Hp}{p:Addr}{ws:List Int}{as:List Addr}{m n:Nat}(hp:SqL K H p (as.map V.ref))(h:gq H ws as m)(hm:m<=1000)(hw:ws.length<=1000):Rep K H (n+2) (.ref p) (Hr ws m):=by
 refine .lst hp (by rw [List.length_map,h.1];omega) (by rw [List.length_map,List.length_map,List.length_range,h.1]) fun i x y e1 e2=>?_
 rw [List.getElem?_map] at e1 e2
 cases ea:as[i]? with
 | none=>rw [ea] at e1;cases e1
 | some a=>
  cases er:(List.range m)[i]? with
  | none=>rw [er] at e2;cases e2
  | some r=>
   rw [ea] at e1;rw [er] at e2
   cases e1;cases e2
   have hi:=(List.getElem?_eq_some_iff.mp er).1
   rw [List.length_range] at hi
   rw [List.getElem?_range hi] at er
   cases er
   exact js (SqL.of (h.2 i a ea)) (by have:=Fk ws (i:Int) ws.length;unfold l7;omega)
inductive ox (K:PySem.W.Frag)(H:Hp)(n:Nat):List V->List Dt->Prop
 | nil:ox K H n [] []
 | cons {x:V} {d:Dt} {xs:List V} {ds:List Dt} (h:Rep K H n x d) (t:ox K H n xs ds):ox K H n (x::xs) (d::ds)
theorem ox.len {K:PySem.W.Frag}{H:Hp}{n:Nat}{xs:List V}{ds:List Dt}(h:ox K H n xs ds):xs.length=ds.length:=by
 induction h with
 | nil=>rfl
 | cons h t ih=>rw [List.length_cons,List.length_cons,ih]
theorem ox.get {K:PySem.W.Frag}{H:Hp}{n:Nat}{xs:List V}{ds:List Dt}(h:ox K H n xs ds):∀(i:Nat) x d,xs[i]?=some x->ds[i]?=some d->Rep K H n x d:=by
 induction h with
 | nil=>intro i x d e;simp at e
 | cons h t ih=>
  intro i x d e1 e2
  cases i with
  | zero=>cases e1;cases e2;exact h
  | succ i=>exact ih i x d e1 e2
theorem ox.rep {K:PySem.W.Frag}{H:Hp}{n:Nat}{a:Addr}{xs:List V}{ds:List Dt}(h:ox K H n xs ds)(hs:SqL K H a xs)(hb:xs.length<=100000):Rep K H (n+1) (.ref a) (.lst ds):=.lst hs hb h.len h.get
theorem ox.same {K:PySem.W.Frag}{H H':Hp}{n:Nat}{xs:List V}{ds:List Dt}(h:ox K H n xs ds)(s:av H H'):ox K H' n xs ds:=by
 induction h with
 | nil=>exact .nil
 | cons h t ih=>exact .cons (h.same s) ih
theorem ox.append {K:PySem.W.Frag}{H:Hp}{n:Nat}{xs ys:List V}{ds es:List Dt}(h:ox K H n xs ds)(k:ox K H n ys es):ox K H n (xs++ys) (ds++es):=by
 induction h with
 | nil=>exact k
 | cons h t ih=>exact .cons h ih
theorem mZ {M:Model}{A:Around}{E:Value->Shared->Prop}{s:Shared}{scope:Scope}{globals:Addr}{closure:List (Str×Addr)}{qual:Str}{func:Option Addr}{code:Value}{outer:Env}{builtins:Addr}{yc:Str}{Q:Env->Shared->Prop}
  (hcs:∀(n:Nat) (cl:List (Str×Addr)),cellsFrom n scope.names cl=(yc,n)::cl) (hpc:∀h:Heap,pushCells h scope.names=h.push {cls:=.type "cell",data:=.cell none})
  (hQ:∀h',h'.Ns s.heap.objs.size (fun _=>none)->(∀b u,s.heap.get? b=some u->h'.get? b=some u)->h'.IsCell (s.heap.objs.size+1) none->
   Q (newEnv scope s.heap.objs.size globals ((yc,s.heap.objs.size+1)::closure) qual func code (some outer) builtins) {s with heap:=h',toks:=s.toks+([]:List (Str×Value)).length}) :
  wpAny M A (newFunctionEnv scope globals closure [] qual func code (some outer) builtins) Q E s:=by
 simp only [newFunctionEnv,Option.isSome_some,if_true]
 refine wpAny_bind (wpAny_alloc ?_)
 refine wpAny_bind (wpAny_layCells _ (fun name kind cells=>by cases hkc:kind == NameKind.cell<;>simp [hkc]) _ _ _ _ ?_)
 rw [hcs,hpc]
 rw [show ({s with heap:=s.heap.push {cls:=.type "dict",data:=.dict #[]}}:Shared).heap.objs.size=s.heap.objs.size+1 from Heap.size_push ..]
 refine wpAny_bind ?_
 rw [List.forIn_nil]
 refine wpAny_pure (wpAny_pure ?_)
 refine hQ ((s.heap.push {cls:=.type "dict",data:=.dict #[]}).push {cls:=.type "cell",data:=.cell none}) ?_ (fun b u e=>Heap.get?_push_of_some _ (Heap.get?_push_of_some _ e)) ⟨{cls:=.type "cell",data:=.cell none},?_,rfl⟩
 ·exact (Heap.Ns.new s.heap (.type "dict")).keeps fun b o e=>Heap.get?_push_of_some _ e
 ·have:=Heap.get?_push_size (s.heap.push {cls:=.type "dict",data:=.dict #[]}) (o:={cls:=.type "cell",data:=.cell none}) rfl
  rw [Heap.size_push] at this
  exact this
theorem kK {env:Env}{yc:Str}:∀{names:List (Str×NameKind)} {x:Str},(∀z∈names,z.2=NameKind.cell->z.1=yc)->
  ((names.map fun (n,k)=>if (k == NameKind.free && env.scope.kind == .function && env.kindOf n == some .cell) then (n,NameKind.cell) else (n,k)).lookup x=some .cell\/
  (names.map fun (n,k)=>if (k == NameKind.free && env.scope.kind == .function && env.kindOf n == some .cell) then (n,NameKind.cell) else (n,k)).lookup x=some .free)->x=yc\/names.lookup x=some .free
 | [],_,_,h=>by simp at h
 | (n,k)::r,x,hn,h=>by
  have ih:=@kK env yc r x fun y hy=>hn y (List.mem_cons_of_mem _ hy)
  have h':List.lookup x ((if (k == NameKind.free && env.scope.kind == .function && env.kindOf n == some .cell)=true then (n,NameKind.cell) else (n,k))::(r.map fun (n,k)=>if (k == NameKind.free && env.scope.kind == .function && env.kindOf n == some .cell) then (n,NameKind.cell) else (n,k)))=some .cell\/List.lookup x ((if (k == NameKind.free && env.scope.kind == .function && env.kindOf n == some .cell)=true then (n,NameKind.cell) else (n,k))::(r.map fun (n,k)=>if (k == NameKind.free && env.scope.kind == .function && env.kindOf n == some .cell) then (n,NameKind.cell) else (n,k)))=some .free:=h
  cases hx:x == n with
  | true=>
   simp only [List.lookup_cons,hx]
   by_cases hc:(k == NameKind.free && env.scope.kind == .function && env.kindOf n == some .cell)=true
   ·have hk:k=NameKind.free:=by
     rw [Bool.and_eq_true,Bool.and_eq_true] at hc
     simpa using hc.1.1
    rw [hk];exact .inr rfl
   ·rw [if_neg hc] at h'
    simp only [List.lookup_cons,hx] at h'
    rcases h' with h' | h'
    ·have e:=hn (n,k) List.mem_cons_self (Option.some.inj h')
     have:x=n:=by simpa using hx
     exact .inl (this.trans e)
    ·exact .inr h'
  | false=>
   simp only [List.lookup_cons,hx]
   by_cases hc:(k == NameKind.free && env.scope.kind == .function && env.kindOf n == some .cell)=true
   ·rw [if_pos hc] at h';simp only [List.lookup_cons,hx] at h';exact ih h'
   ·rw [if_neg hc] at h';simp only [List.lookup_cons,hx] at h';exact ih h'
noncomputable def FD (X:Cx)(Nc:List Str)(scope:Scope)(yc:Str)(C:Addr)(s₀:Shared)(H₀:Hp)(ex:List Addr):Cx:=
 {X with N:=Nc,s₀:=s₀,H₀:=H₀,env:=compEnvC scope ((yc,C+1)::jo X.env.cells scope.names []) C X.env,outer:=X.stack,ex:=ex,fn:=fun x=>x == yc,pn:=[],xe:=fun _ _=>False}
section
variable {X:Cx}
theorem FE {tg iter elt:Expr}{ifs:List Expr}{scope:Scope}{pos spos py:Pos}{Nc:List Str}{cm:List (Option Nat)}{wi:TI}{g:TG}{tc:TT}{te:TE}{iy:Nat}{y yc:Str}(hcs:∀(n:Nat) (cl:List (Str×Addr)),cellsFrom n scope.names cl=(yc,n)::cl)(hpc:∀h:Heap,pushCells h scope.names=h.push {cls:=.type "cell",data:=.cell none})(hyc:scope.names.lookup yc=some .cell)(hN:X.N.Nodup)(hiy:X.N[iy]?=some y)(hly:X.env.scope.names.lookup y=some .local)
  (hsw:swapsWith (.ListComp elt [⟨tg,iter,ifs,0⟩] scope pos) (some (.Name y py)) spos.line X.env=pure true)
  (hc:X.calm=true) (hi:PI X tg iter wi) (hkind:scope.kind=.function) (hcell:∀z∈scope.names,z.2=.cell->z.1=yc) (hnames:∀y∈scope.names,y.2=.local->scope.names.lookup y.1=some .local)
  (hfree:∀y∈scope.names,y.2=.free->X.env.kindOf y.1=some .cell\/X.env.kindOf y.1=some .free) (hlen:cm.length=Nc.length)
  (hcm:∀(j:Nat) (x:Str) (i:Nat),Nc[j]?=some x->cm[j]?=some (some i)->X.N[i]?=some x/\scope.names.lookup x=some .free/\(X.env.kindOf x=some .cell\/X.env.kindOf x=some .free))
  (hg:∀C s₀ H₀ ex,PG (FD X Nc scope yc C s₀ H₀ ex) tg g) (ht:∀C s₀ H₀ ex,PIf (FD X Nc scope yc C s₀ H₀ ex) ifs tc) (he:∀C s₀ H₀ ex,PE (FD X Nc scope yc C s₀ H₀ ex) elt te)
  (hs:∀x,foldedSetIterable iter X.env x=pure x:=by intro _;rfl):PS X (.Assign [.Name y py] (.ListComp elt [⟨tg,iter,ifs,0⟩] scope pos) spos) (GG (z9 wi g tc te cm) (g9 iy)):=by
 intro pins s σ H D0 I h
 rw [exec_Assign_Name_used _ _ _ _ hsw]
 refine wpAny_bind (wpAny_standAt (wpAny_bind ?_))
 show wpAny _ X.A (do let _ ←comprehension (.ListComp elt [⟨tg,iter,ifs,0⟩] scope pos) scope X.env _ (newList []) false (eval iter X.env) (some (assign (.Name y py) X.env))) _ _ s
 refine wpAny_bind (wpAny_mono (Q:=fun _ s'=>SP X pins D0 .next s') ?_ (fun _ s' hq=>wpAny_pure (wpAny_pure hq)) fun _ _ e=>e)
 have hfr:∀y∈scope.names,y.2=.free->∃c,X.env.cells.lookup y.1=some c:=fun y hy e=>I.ok.has y.1 (hfree y hy e)
 refine wpAny_comprehension_free (use:=some (assign (.Name y py) X.env)) (Q:=fun _ s'=>SP X pins D0 .next s') rfl hs (l3 hfr) hkind hnames (thn (hi pins s σ H _ I h) fun v s1 h1=>thn h1 fun itv s2 h2=>?_)
 obtain ⟨it,fp,tn,J,H2,e,I2,T,st2,f2,W,⟨m0,w0⟩,turn⟩:=h2
 subst e
 refine wpAny_newObj_type (mZ hcs hpc (fun h₁ hns₁ keepA hcl₁=>?_))
 dsimp only at hns₁ keepA hcl₁ ⊢
 have hk3:∀b u,s2.heap.get? b=some u->(s2.heap.push {cls:=.type "list",dict:=none,data:=.seq ([]:List Value).toArray}).get? b=some u:=fun b u q=>Heap.get?_push_of_some _ q
 have I3:Inv X pins σ H2 {s2 with heap:=s2.heap.push {cls:=.type "list",dict:=none,data:=.seq ([]:List Value).toArray},toks:=s2.toks}:=I2.kept hk3
 have hD3:(s2.heap.push {cls:=.type "list",dict:=none,data:=.seq ([]:List Value).toArray}).get? s2.heap.objs.size=some {cls:=.type "list",data:=.seq ([]:List Value).toArray}:=Heap.get?_push_size _ rfl
 have hCs:(s2.heap.push {cls:=.type "list",dict:=none,data:=.seq ([]:List Value).toArray}).objs.size=s2.heap.objs.size+1:=Heap.size_push _ _
 have hDn:H2 s2.heap.objs.size=none:=I2.hok.fresh (Nat.le_refl _)
 have st3:tn 0 (s2.heap.push {cls:=.type "list",dict:=none,data:=.seq ([]:List Value).toArray}):=T.keep _ _ _ st2 fun b _ o q=>hk3 b o q
 have fpD:∀b∈fp,b < s2.heap.objs.size:=fun b hb=>by
  obtain ⟨o,e,_⟩:=T.obj _ _ st2 b hb
  exact Heap.lt_size e
 have DX:qU X pins H2 s2.heap.objs.size:=I2.fpOk (Nat.le_refl _) hDn
 generalize hs3:s2.heap.push {cls:=.type "list",dict:=none,data:=.seq ([]:List Value).toArray}=h3 at *
 generalize hDg:s2.heap.objs.size=D at *
 have exX:∀b∈D::fp,qU X pins H2 b:=fun b hb=>by
  rcases List.mem_cons.mp hb with z | z
  ·rw [z];exact DX
  ·exact f2 b z
 have exC:∀b∈D::fp,b < h3.objs.size:=fun b hb=>by
  rcases List.mem_cons.mp hb with z | z
  ·rw [z,hCs];exact Nat.lt_succ_self _
  ·rw [hCs];exact Nat.lt_succ_of_lt (fpD b z)
 have exS:∀b∈D::fp,b∉frs X.stack:=fun b hb z=>by
  obtain ⟨_,n1,n2,_⟩:=exX b hb
  rcases List.mem_cons.mp (I2.stkSub b z) with y | y
  ·exact n1 y
  ·exact n2 y
 have clo:∀x c,(jo X.env.cells scope.names []).lookup x=some c->X.env.cells.lookup x=some c:=fun x c e=>tE (acc:=[]) (fun _ _ z=>by simp at z) e
 have keep1:∀b u,h3.get? b=some u->h₁.get? b=some u:=keepA
 have ltX:∀x c,X.env.cells.lookup x=some c->c < h3.objs.size:=fun x c e=>by
  obtain ⟨v,z⟩:=I3.cell x c e
  exact z.lt
 have cloC:∀x c,((yc,h3.objs.size+1)::jo X.env.cells scope.names []).lookup x=some c->(x=yc/\c=h3.objs.size+1)\/(x≠yc/\X.env.cells.lookup x=some c):=fun x c e=>by
  rw [List.lookup_cons] at e
  cases hb:x == yc with
  | true=>rw [hb] at e;cases e;exact .inl ⟨by simpa using hb,rfl⟩
  | false=>rw [hb] at e;exact .inr ⟨by simpa using hb,clo x c e⟩
 have cellne:∀b,b < h3.objs.size->(∀x c,X.env.cells.lookup x=some c->c≠b)->∀x c,((yc,h3.objs.size+1)::jo X.env.cells scope.names []).lookup x=some c->c≠b:=fun b hb hn x c e=>by
  rcases cloC x c e with ⟨_,z⟩ | ⟨_,z⟩
  ·rw [z];exact Nat.ne_of_gt (Nat.lt_succ_of_lt hb)
  ·exact hn x c z
 let s3:Shared:={s2 with heap:=h3}
 let X':Cx:=FD X Nc scope yc h3.objs.size s3 H2 (D::fp)
 have hX':X'=FD X Nc scope yc h3.objs.size s3 H2 (D::fp):=rfl
 have okX:X'.Ok:=by
  refine ⟨I3.ok.mod,hkind,I3.ok.glob,I3.ok.blt,Nat.le_refl _,fun x y c e1 e2=>(by
   rcases cloC x c e1 with ⟨a1,a2⟩ | ⟨_,a2⟩
   ·rcases cloC y c e2 with ⟨b1,b2⟩ | ⟨_,b2⟩
    ·rw [a1,b1]
    ·exact absurd (ltX y c b2) (by rw [a2];exact Nat.not_lt.mpr (Nat.le_succ _))
   ·rcases cloC y c e2 with ⟨b1,b2⟩ | ⟨_,b2⟩
    ·exact absurd (ltX x c a2) (by rw [b2];exact Nat.not_lt.mpr (Nat.le_succ _))
    ·exact I3.ok.inj x y c a2 b2),fun x hx=>?_,fun x c e z=>(cloC x c z).elim (fun h=>by rw [h.2];exact Nat.le_succ _) (fun h=>absurd (show x=yc from eq_of_beq e) h.1),I3.ok.hd,I3.ok.frames,.inl rfl,fun b hb=>⟨Nat.ne_of_lt (exC b hb),cellne b (exC b hb) (exX b hb).2.2.2.2.1⟩,
   I3.bs,?_,fun b o e hb=>?_,exS,I3.stack,I3.stkFree⟩
  ·rcases kK (env:=X.env) hcell hx with hx' | hx'
   ·exact ⟨h3.objs.size+1,by subst hx';show List.lookup x ((x,h3.objs.size+1)::_)=_;rw [List.lookup_cons];simp⟩
   have hmem:(x,NameKind.free)∈scope.names:=by
    have:∀(l:List (Str×NameKind)),l.lookup x=some .free->(x,NameKind.free)∈l:=by
     intro l
     induction l with
     | nil=>intro z;simp at z
     | cons a r ih=>
      obtain ⟨n,k⟩:=a
      intro z
      rw [List.lookup_cons] at z
      split at z
      ·rename_i y
       have yn:x=n:=by simpa using y
       cases z
       rw [yn];exact List.mem_cons_self
      ·exact List.mem_cons_of_mem _ (ih z)
    exact this _ hx'
   have nx:x≠yc:=fun z=>by rw [z,hyc] at hx';cases hx'
   obtain ⟨c,hc⟩:=jq (acc:=[]) hx' (hfr (x,.free) hmem rfl)
   exact ⟨c,by show List.lookup x ((yc,h3.objs.size+1)::_)=_;rw [List.lookup_cons,show (x == yc)=false by simpa using nx];exact hc⟩
  ·exact Nat.le_trans I3.ok.bsz I3.sz
  ·rcases (exX b hb).2.2.2.1 with z | z
   ·exact I3.ok.noex b o e z
   ·exact absurd (Nat.lt_of_lt_of_le (Heap.lt_size (I3.ok.bs b o e).1) z) (Nat.lt_irrefl _)
 have hσl:(cK cm σ).length=Nc.length:=by
  unfold cK
  rw [List.length_map];exact hlen
 have I4:Inv X' [] (cK cm σ) H2 {s2 with heap:=h₁,toks:=s2.toks+([]:List (Str×Value)).length}:=by
  refine ⟨okX,rfl,I3.bare,Un.kept keep1,⟨_,hns₁,fun j x v e1 e2 e3=>?_⟩,fun x c e=>?_,?_,fun x c e=>(cloC x c e).elim (fun h=>by rw [h.2];exact I3.hok.fresh (Nat.le_succ _)) (fun h=>I3.freeC x c h.2),(fun p hp=>absurd (show p∈([]:List (Addr×Obj)) from hp) (by simp)),I3.hok.kept keep1,hσl⟩
  ·have e2':∃i,cm[j]?=some (some i)/\σ[i]?=some (some v):=by
    unfold cK at e2
    rw [List.getElem?_map] at e2
    cases q:cm[j]? with
    | none=>rw [q] at e2;simp at e2
    | some o=>
     rw [q] at e2
     cases o with
     | none=>simp at e2
     | some i=>
      refine ⟨i,rfl,?_⟩
      simp only [Option.map_some,Option.some.injEq] at e2
      cases q2:σ[i]? with
      | none=>rw [q2] at e2;simp at e2
      | some o2=>rw [q2] at e2;simp at e2;rw [e2]
   obtain ⟨i,ej,ei⟩:=e2'
   obtain ⟨n1,n2,n3⟩:=hcm j x i e1 ej
   obtain ⟨m,hn,hl⟩:=I3.loc
   have n3':Vis X.env.scope x:=by
    rcases n3 with z | z
    ·exact .inr (.inl z)
    ·exact .inr (.inr z)
   obtain ⟨u,r,l⟩:=hl i x v n1 ei n3'
   refine ⟨u,r,?_⟩
   rcases l with ⟨l,_⟩ | ⟨_,c,ec,ic⟩
   ·rcases n3 with z | z
    ·rw [l] at z;cases z
    ·rw [l] at z;cases z
   ·obtain ⟨c',ec'⟩:=jq (cells:=X.env.cells) (acc:=[]) n2 ⟨c,ec⟩
    have hcc:=clo x c' ec'
    rw [ec] at hcc;cases hcc
    obtain ⟨oc,hoc,hdc⟩:=ic
    have nx:x≠yc:=fun z=>by rw [z,hyc] at n2;cases n2
    refine .inr ⟨?_,c,(by show List.lookup x ((yc,h3.objs.size+1)::_)=_;rw [List.lookup_cons,show (x == yc)=false by simpa using nx];exact ec'),oc,keep1 _ _ hoc,hdc⟩
    exact eP (env:=X.env) n2
  ·rcases cloC x c e with ⟨_,z⟩ | ⟨_,z⟩
   ·rw [z];exact ⟨none,hcl₁⟩
   ·obtain ⟨v,oc,hoc,hdc⟩:=I3.cell x c z
    exact ⟨v,oc,keep1 _ _ hoc,hdc⟩
  ·exact I3.hok.fresh (Nat.le_refl _)
 have stat:∀{H':Hp} {pl:List (Addr×Obj)},(∀b∈fp,H' b=none)->(∀p∈pl,p.1=D)->∀b∈fp,qU X' pl H' b:=fun {H' pl} hn hpl b hb=>
  ⟨hn b hb,Nat.ne_of_lt (exC b (List.mem_cons_of_mem _ hb)),exS b (List.mem_cons_of_mem _ hb),.inl (List.mem_cons_of_mem _ hb),cellne b (exC b (List.mem_cons_of_mem _ hb)) (f2 b hb).2.2.2.2.1,fun p hp z=>by
   have:p∈pl:=(List.mem_append.mp hp).elim (fun z=>absurd (show p∈([]:List (Addr×Obj)) from z) (by simp)) fun z=>z
   have e:=hpl p this
   rw [e] at z
   exact absurd (fpD b hb) (by rw [←z];exact Nat.lt_irrefl _)⟩
 have hDC:D≠h3.objs.size:=by rw [hCs];exact Nat.ne_of_lt (Nat.lt_succ_self _)
 have hDs:D∉frs X.stack:=exS D List.mem_cons_self
 have loop:∀s5:Shared,s5={s2 with heap:=h₁,toks:=s2.toks+([]:List (Str×Value)).length}->
   codeAny (model X.prog X.w) X.A (.compLoop (.ListComp elt [⟨tg,iter,ifs,0⟩] scope pos) 0 (.ref it) (.ref D) (compEnvC scope ((yc,h3.objs.size+1)::jo X.env.cells scope.names []) h3.objs.size X.env))
    (compPost (model X.prog X.w) X.A X.xe (some (assign (.Name y py) X.env)) (fun _ s'=>SP X pins D0 .next s') (.ref D) h3.objs.size) s5:=by
  rintro s5 rfl
  refine codeAny_loop rfl (fun n s'=>∃i acc its k H',Inv X' [] (cK cm σ) H' s'/\tn i s'.heap/\(∀b∈fp,H' b=none)/\s'.heap.get? D=some {cls:=.type "list",data:=.seq (List.toArray its) k}/\H' D=none/\bJ acc its/\acc.length<=sizeLine/\W i n acc H') (fun n s' hI=>?_) m0
   ⟨0,[],[],0,H2,I4,T.keep _ _ _ st3 fun b _ o q=>keep1 b o q,fun b hb=>(f2 b hb).1,keep1 _ _ hD3,hDn,.nil,Nat.zero_le _,w0⟩
  obtain ⟨i,acc,its,k,H5,J5,t5,fr5,d5,dn5,va5,ac5,w5⟩:=hI
  show wpAny _ X.A ((compTurn (.ListComp elt [⟨tg,iter,ifs,0⟩] scope pos) 0 (.ref it) (.ref D) (compEnvC scope ((yc,h3.objs.size+1)::jo X.env.cells scope.names []) h3.objs.size X.env)).onRaise (fun x=>do noteFrame x (compEnvC scope ((yc,h3.objs.size+1)::jo X.env.cells scope.names []) h3.objs.size X.env);theTreesLotGoes x)) _ _ s'
  refine wpAny_noted ?_
  rw [compTurn_list]
  have nocell:∀v,({cls:=.type "list",data:=.seq (List.toArray its) k}:Obj).data≠.cell v:=fun v z=>nomatch z
  have P5:Inv X' [(D,{cls:=.type "list",data:=.seq (List.toArray its) k})] (cK cm σ) H5 s':=J5.pins_of fun p hp=>by
   have e:p=(D,{cls:=.type "list",data:=.seq (List.toArray its) k}):=by simpa using hp
   subst e
   exact ⟨d5,dn5,hDC,hDs,nocell⟩
  have pl1:∀p∈[((D,{cls:=.type "list",data:=.seq (List.toArray its) k}):Addr×Obj)],p.1=D:=fun p hp=>by
   have e:p=(D,{cls:=.type "list",data:=.seq (List.toArray its) k}):=by simpa using hp
   rw [e]
  rcases turn i n acc H5 w5 with ⟨stop,qn⟩ | ⟨go,hsz,step⟩
  ·refine wpAny_bind (wpAny_standAt (wpAny_bind (wpAny_mono (T.done X' rfl rfl rfl hc i _ s' _ H5 (fun _ _=>False) P5 (stat fr5 pl1) t5 stop) (fun r s6 ⟨hr,J6⟩=>?_) fun _ _ f=>f.elim)))
   subst hr
   refine wpAny_pure ?_
   obtain ⟨mC,hnC,_⟩:=J6.loc
   have hsb:Heap.SameBut h3.objs.size s6.heap s6.heap:=⟨rfl,fun _ _=>rfl⟩
   let h':Heap:=s6.heap
   have hCn:H5 h3.objs.size=none:=J6.free
   have toh:∀b u,b≠h3.objs.size->s6.heap.get? b=some u->h'.get? b=some u:=fun b u hb q=>(hsb.2 b hb).trans q
   have hok':HOk X.prog X.w H5 h':=fun a o e=>(J6.hok a o e).stay (fun b u hb q=>toh b u (by
    rintro rfl
    rcases hb with z | z
    ·rw [←z,hCn] at e;cases e
    ·rw [hCn] at z;cases z) q) (fun _ q=>q) fun _ _ q=>q
   have ltC:∀{b:Addr} {u:Obj},h3.get? b=some u->b≠h3.objs.size:=fun q=>Nat.ne_of_lt (Heap.lt_size q)
   have un':Un (frs X.stack) (D::fp) H2 H5 h3 h':=by
    have u:=J6.base
    refine ⟨fun b o e n hb hx=>toh b o (ltC e) (u.keep b o e n hb hx),fun b o e n hb hx=>?_,u.free,fun b o e hx=>?_,u.tups,u.frzs,u.tbls⟩
    ·obtain ⟨sl,q⟩:=u.slot b o e n hb hx
     exact ⟨sl,toh b _ (ltC e) q⟩
    ·obtain ⟨o',q⟩:=u.there b o e hx
     exact ⟨o',toh b _ (ltC e) q⟩
   have J7:Inv X pins σ H5 {s6 with heap:=h'}:=Inv.call' (s':={s6 with heap:=h'}) (ch:=D::fp) I3 J6.os un' hok' J6.bare fun b hb=>by
    obtain ⟨_,n1,n2,n3,n4,n5⟩:=exX b hb
    exact ⟨n3,n1,n4,n5⟩
   obtain ⟨dg,dg2,_⟩:=J6.pin (D,{cls:=.type "list",data:=.seq (List.toArray its) k}) (by simp)
   obtain ⟨_,n1,n2,n3,n4,n5⟩:=exX D List.mem_cons_self
   have n3':X.s₀.heap.objs.size<=D:=by
    have:=I2.sz
    rw [hDg] at this
    exact this
   have J8:=J7.track (o:=.lst acc) dg2 n3' n1 n4 n5 ⟨ac5,its,k,va5,toh _ _ hDC dg⟩
   obtain ⟨fc0,fc1,fc2,fc3,fc4,fc5⟩:=I3.fpOk (b:=h3.objs.size) (H':=upd H5 D (.lst acc)) (Nat.le_refl _) (by rw [aV (Ne.symm hDC)];exact hCn)
   refine wpAny_assign_Name (xY (s:=s6) (v:=.ref D) J8 hN hiy (.inl hly) rfl (fun s7 J9 hsa=>?_) (.inr hly))
   obtain ⟨aa,hsa,hwh⟩:=hsa
   have hca:h3.objs.size≠aa:=by
    rcases hwh with z | z
    ·rw [z];exact fc1
    ·exact (fc4 _ _ z).symm
   refine ⟨mC,hnC.sameBut hsa hca,fun h7 hs7=>?_⟩
   exact ⟨_,_,J9.turned (it:=h3.objs.size) (t':=s7.toks) (fun b o hb hu=>(hs7.2 b hb).trans hu) fc0 fc1 fc3 fc4 fc5,qn D dg2⟩
  ·refine wpAny_bind (wpAny_standAt (wpAny_bind (wpAny_mono (T.item X' rfl rfl rfl hc i _ s' _ H5 (fun _ _=>False) P5 (stat fr5 pl1) t5 go) (fun r s6 ⟨u,hr,h6⟩=>?_) fun _ _ f=>f.elim)))
   subst hr
   refine wpAny_bind (wpAny_mono h6 (fun _ s7 ⟨x,H7,J7,r7,y7,t7,fr7⟩=>?_) fun _ _ f=>f.elim)
   have P7:=J7.pinned (stat fr7 pl1) (T.obj _ _ t7)
   refine wpAny_bind (wpAny_mono (hg _ _ _ _ _ s7 _ H7 x u _ P7 r7 (step x H7 y7)) (fun _ s8 ⟨σ8,H8,J8,wk8,q8⟩=>?_) fun _ _ f=>f.elim)
   refine wpAny_bind (wpAny_mono (ht _ _ _ _ _ s8 σ8 H8 _ J8 q8) (fun b s9 ⟨H9,J9,q9⟩=>?_) fun _ _ f=>f.elim)
   have back:∀{Ha:Hp} {sa:Shared},Inv X' ([(D,{cls:=.type "list",data:=.seq (List.toArray its) k})]++vp fp s7.heap) σ8 Ha sa->
     Inv X' [] (cK cm σ) Ha sa/\tn (i+1) sa.heap/\(∀b∈fp,Ha b=none)/\sa.heap.get? D=some {cls:=.type "list",data:=.seq (List.toArray its) k}/\Ha D=none:=fun {Ha sa} Ja=>by
    refine ⟨(Ja.weak wk8.1 wk8.2).pins_of fun p hp=>absurd hp (by simp),T.keep _ _ _ t7 fun b hb o e=>(Ja.pin (b,o) (List.mem_append_right _ (List.mem_append_right _ (gw hb e)))).1,fun b hb=>?_,?_⟩
    ·obtain ⟨o,e,d⟩:=T.obj _ _ t7 b hb
     exact (Ja.pin (b,o) (List.mem_append_right _ (List.mem_append_right _ (gw hb e)))).2.1
    ·obtain ⟨z1,z2,_⟩:=Ja.pin (D,{cls:=.type "list",data:=.seq (List.toArray its) k}) (by simp)
     exact ⟨z1,z2⟩
   cases b with
   | false=>
    simp only [Bool.false_eq_true,if_false] at q9 ⊢
    obtain ⟨m',hm,w'⟩:=q9
    obtain ⟨z0,z1,z2,z3,z4⟩:=back J9
    exact wpAny_pure ⟨rfl,m',hm,i+1,acc,its,k,H9,z0,z1,z2,z3,z4,va5,ac5,w'⟩
   | true=>
    simp only [if_true] at q9 ⊢
    refine wpAny_bind (wpAny_bind (wpAny_mono (he _ _ _ _ _ s9 σ8 H9 _ J9 q9) (fun y s10 ⟨v,H10,J10,rv,q10⟩=>wpAny_bind ?_) fun _ _ f=>f.elim))
    obtain ⟨m',hm,w'⟩:=q10
    obtain ⟨z0,z1,z2,z3,z4⟩:=back J10
    have hli:=va5.length
    refine call_meets F.slot_list_append ⟨_,z3,rfl⟩ F.entry_list_append (F.args_list_append_2 _ _) (PySem.list_append D its.toArray k y (by rw [List.size_toArray];omega)) ⟨z3,?_⟩
    obtain ⟨k',q⟩:∃k',(s10.heap.update D (Obj.mapSeq (·.push y))).get? D=some {cls:=.type "list",data:=.seq (List.toArray (its++[y])) k'}:=by
     have q:=PySem.IsL.update z3 (·.push y)
     have e:its.toArray.push y=(its++[y]).toArray:=by simp
     rw [e] at q
     exact ⟨_,q⟩
    refine wpAny_pure (wpAny_pure ⟨rfl,m',hm,i+1,acc++[v],its++[y],k',H10,z0.turned (it:=D) (fun b o hb hu=>(Heap.get?_update_other s10.heap (Obj.mapSeq (·.push y)) (Ne.symm hb)).trans hu) z4 hDC (.inl List.mem_cons_self) (cellne D (exC D List.mem_cons_self) (exX D List.mem_cons_self).2.2.2.2.1) (fun p hp=>absurd (show p∈([]:List (Addr×Obj)) from hp) (by simp)),
     T.keep _ _ _ z1 fun b hb o e=>(Heap.get?_update_other s10.heap (Obj.mapSeq (·.push y)) (Nat.ne_of_gt (fpD b hb))).trans e,z2,q,z4,va5.append (.cons rv .nil),by rw [List.length_append,List.length_singleton];omega,w'⟩)
 exact codeAny_compStart_list (loop _ rfl) (T.self X.A 0 _ _ _ (T.keep _ _ _ st3 fun b _ o q=>keep1 b o q) (loop _ rfl))
end
theorem PM {X:Cx}{tg iter elt:Expr}{ifs:List Expr}{scope:Scope}{pos spos py:Pos}(Nc:List Str)(yc:Str)(cm:List (Option Nat)){wi:TI}{g:TG}{tc:TT}{te:TE}{iy:Nat}{y:Str}(hN:X.N.Nodup)(hiy:X.N[iy]?=some y)(hly:X.env.scope.names.lookup y=some .local)
  (hi:PI X tg iter wi) (hg:∀C s₀ H₀ ex,PG (FD X Nc scope yc C s₀ H₀ ex) tg g) (ht:∀C s₀ H₀ ex,PIf (FD X Nc scope yc C s₀ H₀ ex) ifs tc) (he:∀C s₀ H₀ ex,PE (FD X Nc scope yc C s₀ H₀ ex) elt te)
  (hsw:swapsWith (.ListComp elt [⟨tg,iter,ifs,0⟩] scope pos) (some (.Name y py)) spos.line X.env=pure true:=by rfl)
  (hc:X.calm=true:=by rfl) (hkind:scope.kind=.function:=by rfl) (hcell:∀z∈scope.names,z.2=.cell->z.1=yc:=by decide +kernel) (hcs:∀(n:Nat) (cl:List (Str×Addr)),cellsFrom n scope.names cl=(yc,n)::cl:=by intro _ _;rfl) (hpc:∀h:Heap,pushCells h scope.names=h.push {cls:=.type "cell",data:=.cell none}:=by intro _;rfl) (hyc:scope.names.lookup yc=some .cell:=by rfl) (hnames:∀y∈scope.names,y.2=.local->scope.names.lookup y.1=some .local:=by decide +kernel)
  (hfree:Hc X scope=true:=by rfl) (hlen:cm.length=Nc.length:=by rfl) (hcm:O5 X scope Nc cm=true:=by rfl)
  (hs:∀x,foldedSetIterable iter X.env x=pure x:=by intro _;rfl):PS X (.Assign [.Name y py] (.ListComp elt [⟨tg,iter,ifs,0⟩] scope pos) spos) (GG (z9 wi g tc te cm) (g9 iy)):=by
 refine FE hcs hpc hyc hN hiy hly hsw hc hi hkind hcell hnames (fun y hy e=>?_) hlen (fun j x i e1 e2=>?_) hg ht he hs
 ·have h:=List.all_eq_true.mp hfree y hy
  rw [e] at h
  simpa using h
 ·have hj:(Nc.zip cm)[j]?=some (x,some i):=by
   rw [List.getElem?_zip_eq_some];exact ⟨e1,e2⟩
  have h:=List.all_eq_true.mp hcm _ (List.mem_of_getElem? hj)
  simpa using h
theorem aI.calm0 {P:Program}{w:World}{K:PySem.W.Frag}{mg:Str->Option Value}{base:Heap}{k:Nat}{f:Addr}{fd:FuncData}{ps:List Str}{sp:Sp}(F:aI P w K mg base (CXf P w) k f fd ps sp):aI P w K mg base CX0 k f fd ps (fun vs H Q _=>sp vs H Q E0):=by
 refine ⟨fun vs H Q E h=>F.len vs H Q E0 h,fun A outer s H args us vs Q E hr he hb hv hs=>?_⟩
 refine codeAny_mono (F.run A outer s H args us vs Q E0 hr he hb hv hs) fun r s' q=>?_
 cases r with
 | ok fl=>cases fl<;>exact q
 | error e=>
  obtain ⟨x,cls,a0,H',B,_,_,_,_,_,_,_,_,_,z⟩:=q
  exact z.elim
noncomputable def OA (K:PySem.W.Frag):R2:=fun x y H Q=>onR x fun a=>onR y fun b=>∃xs,SqL K H a xs/\∃ys,SqL K H b ys/\xs.length≠ys.length/\Q (.bl false) H
theorem PN {X:Cx}(hu:X.A.units < cLine):OpR X (compareOp .Eq) (OA X.K):=by
 intro pins s σ H x y u v Q I rx ry h
 cases x with
 | ref a=>
  cases y with
  | ref b=>
   obtain ⟨xs,ha,ys,hb,hl,q⟩:=h
   cases rx;cases ry
   obtain ⟨ia,ra,pa,za⟩:=I.list ha
   obtain ⟨ib,rb,pb,zb⟩:=I.list hb
   have la:=ra.length
   have lb:=rb.length
   refine PySem.SeqAt.eq_list_lengthsAt pa.isList pb.isList (by simp only [List.size_toArray,bne_iff_ne,ne_eq];omega) hu ?_
   exact ⟨.bl false,H,I,rfl,q⟩
  | _=>exact h.elim
 | _=>exact h.elim
def DI (K:PySem.W.Frag)(x:Str)(st:Stmt):Prop:=∃f fd,PySem.W.nsIn K mainGlobals x=some (some (.ref f))/\Fun K x x st f fd
theorem DI.mk {K:PySem.W.Frag}{x:Str}{st:Stmt}{f:Addr}{oc:Value}{od an:Option Addr}{osl:Array (Option Value)}{kV doc pm cdv ct:Value}(a:PySem.W.nsIn K mainGlobals x=some (some (.ref f)))(l:K.lookup f=some ⟨oc,od,.func (PySem.W.fnOf x x (fB st) (cJ st) (ao st) .none kV doc pm an cdv ct),osl⟩)
  (c:PySem.W.codeIn K cdv x=true) (k:PySem.W.keepIn K (.ref f)=true):DI K x st:=⟨f,_,a,GZ l c k⟩
def MI (K:PySem.W.Frag)(C:Addr)(m q:Str)(st:Stmt):Prop:=∃f fd,GK K C m f/\Fun K m q st f fd
theorem MI.mk {K:PySem.W.Frag}{C:Addr}{m q:Str}{st:Stmt}{f:Addr}{oc:Value}{od an:Option Addr}{osl:Array (Option Value)}{kV doc pm cdv ct:Value}(a:PySem.W.findIn K (.ref C) m=some (some (.ref f)))(fn:PySem.W.isFn K (.ref f)=true)(l:K.lookup f=some ⟨oc,od,.func (PySem.W.fnOf m q (fB st) (cJ st) (ao st) .none kV doc pm an cdv ct),osl⟩)
  (c:PySem.W.codeIn K cdv q=true) (k:PySem.W.keepIn K (.ref f)=true):MI K C m q st:=⟨f,_,⟨a,fn,k⟩,GZ l c k⟩
def II (K:PySem.W.Frag)(C:Addr)(q:Str)(st:Stmt):Prop:=∃f fd,Mk K C f/\Fun K "__init__" q st f fd
theorem II.mk {K:PySem.W.Frag}{C:Addr}{q:Str}{st:Stmt}{f:Addr}{oc:Value}{od an:Option Addr}{osl:Array (Option Value)}{kV doc pm cdv ct:Value}(a:PySem.W.findIn K (.ref C) "__init__"=some (some (.ref f)))(fn:PySem.W.isFn K (.ref f)=true)(mk:PySem.W.makesIn K C=true)(kc:PySem.W.keepIn K (.ref C)=true)(l:K.lookup f=some ⟨oc,od,.func (PySem.W.fnOf "__init__" q (fB st) (cJ st) (ao st) .none kV doc pm an cdv ct),osl⟩)
  (c:PySem.W.codeIn K cdv q=true) (k:PySem.W.keepIn K (.ref f)=true):II K C q st:=⟨f,_,⟨mk,a,fn,kc⟩,GZ l c k⟩
def C0I (K:PySem.W.Frag)(C0:Addr):Prop:=∃(c0 c2:Value) (dd0 d2:Option Addr) (cd0:ClassData) (sl0 sl2:Array (Option Value)) (es0:Array DictEntry) (ep0:Nat),K.lookup C0=some ⟨c0,dd0,.cls cd0,sl0⟩/\K.lookup cd0.ns=some ⟨c2,d2,.dict es0 ep0,sl2⟩/\tG es0=true/\(quietNames.all fun n=>(nsFind es0 n).isNone)=true
theorem C0I.mk {K:PySem.W.Frag}{C0 N0:Addr}{c0 c2:Value}{dd0 d2:Option Addr}{cd0:ClassData}{sl0 sl2:Array (Option Value)}{es0:Array DictEntry}{ep0:Nat}(l0:K.lookup C0=some ⟨c0,dd0,.cls cd0,sl0⟩)(e0:cd0.ns=N0)(lN0:K.lookup N0=some ⟨c2,d2,.dict es0 ep0,sl2⟩)(kN0:tG es0=true)(iN0:(quietNames.all fun n=>(nsFind es0 n).isNone)=true):C0I K C0:=
 ⟨c0,c2,dd0,d2,cd0,sl0,sl2,es0,ep0,l0,e0▸lN0,kN0,iN0⟩
def XI (K:PySem.W.Frag)(C0 C:Addr):Prop:=C0I K C0->ExI K C
theorem XI.mk {K:PySem.W.Frag}{C N C0:Addr}{nm q:Str}{bs:List Value}{hdct:Bool}{sn:List Str}{sub:List Value}{ab:Bool}{col:Option Bool}{dd:Option Addr}{k0 k1 k2 k3 k5:Option Value}{c1:Value}{d1:Option Addr}{es:Array DictEntry}{ep:Nat}{sl1:Array (Option Value)}
  (lC:K.lookup C=some (excClassObj nm q C N bs [.ref C0,.type "ValueError",.type "Exception",.type "BaseException",.type "object"] hdct sn sub ab col dd k0 k1 k2 k3 k5 "ValueError.__new__"))
  (lN:K.lookup N=some ⟨c1,d1,.dict es ep,sl1⟩) (kN:tG es=true) (iN:(quietNames.all fun n=>(nsFind es n).isNone)=true) (ca:PySem.W.findIn K (.ref C) "__class__"=some (some (.builtin "object.__class__"))) (mo:PySem.W.mroIn K C (.type "object")=some true):XI K C0 C:=by
 rintro ⟨c0,c2,dd0,d2,cd0,sl0,sl2,es0,ep0,l0,lN0,kN0,iN0⟩
 exact ⟨O8 lC lN kN iN l0 rfl lN0 kN0 iN0,ca,mo⟩
def NI (K:PySem.W.Frag)(x:Str)(a:Addr):Prop:=PySem.W.nsIn K mainGlobals x=some (some (.ref a))
def KI (K:PySem.W.Frag)(x:Str)(v:Int):Prop:=∃tk,PySem.W.nsIn K mainGlobals x=some (some (.int v tk))
theorem KI.mk {K:PySem.W.Frag}{x:Str}{v:Int}{tk:Tok}(h:PySem.W.nsIn K mainGlobals x=some (some (.int v tk))):KI K x v:=⟨tk,h⟩
theorem KI.txt {K:PySem.W.Frag}{h:Heap}{mg:Str->Option Value}{x:Str}{v:Int}(X:K.In h)(G:h.Ns mainGlobals mg)(k:KI K x v):∃u,mg x=some u/\cq (.int v) u:=let ⟨_,k⟩:=k;⟨_,PySem.W.mg_of X G k,⟨_,rfl⟩⟩
theorem gg {H H1:Hp}{p:Addr}{o:HO}(e:upd H p o=H1)(h:H p=none):av H H1:=e▸(av.refl H).lay h
theorem cW {H H1:Hp}{p:Addr}{o:HO}(e:upd H p o=H1):H1 p=some o:=e▸ai
theorem seg {X:Cx}{b:List Stmt}{R:TS->Prop}(j:Nat){t:TS}(h:PSs X (b.drop j) t)(k:∀t',PSs X (b.drop j) t'->t'=t->∃u,PSs X b u/\R u):∃u,PSs X b u/\R u:=k t h rfl
theorem pV {t t':TS}(e:t=t'){D:mY}{σ:St}{H:Hp}(h:t' D σ H):t D σ H:=e▸h
theorem aX {N P:List Str}{sc:Scope}(kind:sc.kind=.function:=by rfl)(co:sc.isCoroutine=false:=by rfl)(gen:sc.isGenerator=false:=by rfl)(nd:N.Nodup:=by decide +kernel)(pre:N.take P.length=P:=by rfl)(par:∀x∈P,sc.names.lookup x=some .local\/sc.names.lookup x=some .cell:=by decide +kernel)(nofree:∀y∈sc.names,y.2≠.free:=by decide +kernel):ay N P sc:=⟨kind,co,gen,nd,pre,par,nofree⟩
section
variable {K:PySem.W.Frag}{x qual:Str}{st:Stmt}{f:Addr}{fd:FuncData}{ps:List Str}
theorem Fun.b0 (F:Fun K x qual st f fd)(hl:ps.length=0:=by rfl)(h:∀(kV doc pm:Value) (an:Option Addr) (cdv ct:Value),bindArgs (PySem.W.fnOf x qual (fB st) (cJ st) (ao st) .none kV doc pm an cdv ct) ⟨[],[]⟩=pure (ps.zip []):=by intros;rfl):hG K fd ps []:=F.binds fun kV doc pm an cdv ct us e=>match us,e.trans hl with | [],_=>h kV doc pm an cdv ct
theorem Fun.b1 (F:Fun K x qual st f fd)(hl:ps.length=1:=by rfl)(h:∀(kV doc pm:Value) (an:Option Addr) (cdv ct:Value) (a0:Value), bindArgs (PySem.W.fnOf x qual (fB st) (cJ st) (ao st) .none kV doc pm an cdv ct) ⟨[a0],[]⟩=pure (ps.zip [a0]):=by intros;rfl):hG K fd ps []:=F.binds fun kV doc pm an cdv ct us e=>match us,e.trans hl with | [a0],_=>h kV doc pm an cdv ct a0
theorem Fun.b2 (F:Fun K x qual st f fd)(hl:ps.length=2:=by rfl)(h:∀(kV doc pm:Value) (an:Option Addr) (cdv ct:Value) (a0 a1:Value), bindArgs (PySem.W.fnOf x qual (fB st) (cJ st) (ao st) .none kV doc pm an cdv ct) ⟨[a0,a1],[]⟩=pure (ps.zip [a0,a1]):=by intros;rfl):hG K fd ps []:=F.binds fun kV doc pm an cdv ct us e=>match us,e.trans hl with | [a0,a1],_=>h kV doc pm an cdv ct a0 a1
theorem Fun.b3 (F:Fun K x qual st f fd)(hl:ps.length=3:=by rfl)(h:∀(kV doc pm:Value) (an:Option Addr) (cdv ct:Value) (a0 a1 a2:Value), bindArgs (PySem.W.fnOf x qual (fB st) (cJ st) (ao st) .none kV doc pm an cdv ct) ⟨[a0,a1,a2],[]⟩=pure (ps.zip [a0,a1,a2]):=by intros;rfl):hG K fd ps []:=F.binds fun kV doc pm an cdv ct us e=>match us,e.trans hl with | [a0,a1,a2],_=>h kV doc pm an cdv ct a0 a1 a2
theorem Fun.b4 (F:Fun K x qual st f fd)(hl:ps.length=4:=by rfl)(h:∀(kV doc pm:Value) (an:Option Addr) (cdv ct:Value) (a0 a1 a2 a3:Value), bindArgs (PySem.W.fnOf x qual (fB st) (cJ st) (ao st) .none kV doc pm an cdv ct) ⟨[a0,a1,a2,a3],[]⟩=pure (ps.zip [a0,a1,a2,a3]):=by intros;rfl):hG K fd ps []:=F.binds fun kV doc pm an cdv ct us e=>match us,e.trans hl with | [a0,a1,a2,a3],_=>h kV doc pm an cdv ct a0 a1 a2 a3
theorem Fun.b5 (F:Fun K x qual st f fd)(hl:ps.length=5:=by rfl)(h:∀(kV doc pm:Value) (an:Option Addr) (cdv ct:Value) (a0 a1 a2 a3 a4:Value), bindArgs (PySem.W.fnOf x qual (fB st) (cJ st) (ao st) .none kV doc pm an cdv ct) ⟨[a0,a1,a2,a3,a4],[]⟩=pure (ps.zip [a0,a1,a2,a3,a4]):=by intros;rfl):hG K fd ps []:=F.binds fun kV doc pm an cdv ct us e=>match us,e.trans hl with | [a0,a1,a2,a3,a4],_=>h kV doc pm an cdv ct a0 a1 a2 a3 a4
theorem Fun.b6 (F:Fun K x qual st f fd)(hl:ps.length=6:=by rfl)(h:∀(kV doc pm:Value) (an:Option Addr) (cdv ct:Value) (a0 a1 a2 a3 a4 a5:Value), bindArgs (PySem.W.fnOf x qual (fB st) (cJ st) (ao st) .none kV doc pm an cdv ct) ⟨[a0,a1,a2,a3,a4,a5],[]⟩=pure (ps.zip [a0,a1,a2,a3,a4,a5]):=by intros;rfl):hG K fd ps []:=F.binds fun kV doc pm an cdv ct us e=>match us,e.trans hl with | [a0,a1,a2,a3,a4,a5],_=>h kV doc pm an cdv ct a0 a1 a2 a3 a4 a5
end
theorem jk.dn {j k:Nat}{A:Around}(r:jk k A)(h:j<=k:=by decide):jk j A:=r.mono h
theorem au {X:Cx}{a b:Expr}{ta tb:TE}{pos:Pos}{r:R2}(hr:IxR X r)(ha:PE X a ta)(hb:PE X b tb)(hs:Iu b:=by intro _ _;rfl):PE X (.Subscript a b pos) (tOp r ta tb):=QE hr ha hb hs
theorem orL {α:Type}{a b:α}{p:Prop}(h:a=b:=by rfl):a=b\/p:=.inl h
noncomputable def paF (b e sp tk:Int):Int:=if e - b<=sp * tk/\b - e<=sp * tk then e else if sp * tk < e - b then b+sp * tk else b - sp * tk
theorem PQ {b e sp tk v:Int}(h1:e - b<=sp * tk/\b - e<=sp * tk->v=e)(h2:sp * tk < e - b->v=b+sp * tk)(h3:sp * tk < b - e->v=b - sp * tk):v=paF b e sp tk:=by
 unfold paF
 generalize sp * tk=z at *
 split
 ·rename_i h;exact h1 h
 ·rename_i h
  split
  ·rename_i h';exact h2 h'
  ·rename_i h';exact h3 (by omega)
noncomputable def yP (t:Int)(x:Int×Int)(r:Row):Int×Int:=if r.began<=t then (paF x.2 r.sn.place r.speed (t - r.began),r.sn.place) else x
noncomputable def gu (n0:aY)(rs:List Row)(t:Int):Int×Int:=rs.foldl (yP t) (n0.place,n0.place)
noncomputable def iY (n0:aY)(rs:List Row)(t:Int):Int:=(gu n0 rs t).1
noncomputable def wq (t:Int)(x:List Int)(r:Row):List Int:=if r.ended<=t then r.sn.ws else x
noncomputable def dR (n0:aY)(rs:List Row)(t:Int):List Int:=rs.foldl (wq t) n0.ws
theorem pW (n0:aY)(rs:List Row)(r:Row)(t:Int):gu n0 (rs++[r]) t=yP t (gu n0 rs t) r:=by simp [gu]
theorem lO (n0:aY)(rs:List Row)(r:Row)(t:Int):dR n0 (rs++[r]) t=wq t (dR n0 rs t) r:=by simp [dR]
theorem Ez (n0:aY)(rs:List Row)(t:Int){i:Nat}(hi:i < rs.length):gu n0 (rs.take (i+1)) t=yP t (gu n0 (rs.take i) t) rs[i]:=by
 rw [List.take_succ_eq_append_getElem hi,pW]
theorem EA (n0:aY)(rs:List Row)(t:Int){i:Nat}(hi:i < rs.length):dR n0 (rs.take (i+1)) t=wq t (dR n0 (rs.take i) t) rs[i]:=by
 rw [List.take_succ_eq_append_getElem hi,lO]
theorem JM {w s:Int}(hw:0<=w)(hs:1<=s):l9 w s<=w:=by
 unfold l9
 by_cases h0:w=0
 ·subst h0
  rw [Int.ediv_eq_zero_of_lt (by omega) (by omega)]
  exact Int.le_refl _
 ·refine Int.ediv_le_of_le_mul (by omega) ?_
  have:=Int.mul_nonneg (show 0<=w - 1 by omega) (show 0<=s - 1 by omega)
  rw [Int.sub_mul,Int.mul_sub,Int.mul_sub] at this
  omega
theorem JN {w s:Int}(hs:1<=s):w<=s * l9 w s:=by
 unfold l9
 have h1:=Int.mul_ediv_add_emod (w+s - 1) s
 have h2:=Int.emod_lt_of_pos (w+s - 1) (show 0 < s by omega)
 omega
theorem Nu (x:Int):x<=BI x/\-x<=BI x:=by unfold BI;split<;>omega
theorem LR {g:Cfg}(hg:fu g){c l:Int}(hl:0<=l/\l < g.ds.length):0<=dU g.ds c l/\dU g.ds c l<=500:=by
 have hm:g.ds.getD l.toNat 0∈g.ds:=df (by omega)
 have h1:=hg.sh.lo _ hm
 have h2:=hg.sh.le_whole hm
 have h3:cv g.ds<=500:=hg.sh.hi _ hg.sh.whole_mem
 unfold dU;split<;>omega
theorem yQ {g:Cfg}{n:aY}{d:Dd}(h:∀c l k,d≠.wind c l k):(cC g n d).place=n.place:=by
 cases d<;>first | rfl | exact absurd rfl (h _ _ _)
theorem JO {g:Cfg}{n m:aY}(h:m.ws=n.ws):cS g m=cS g n:=by unfold cS;rw [h]
theorem JP {g:Cfg}(hg:fu g){n:aY}(hn:dD g n){d:Dd}(hr:g0 g n d=none):fC g n d<=500:=by
 cases d with
 | wind c l k=>
  obtain ⟨hl,_⟩:=qZ hr
  have h1:=LR hg (c:=c) hl
  have h2:=hn.place hg
  have h3:cv g.ds<=500:=hg.sh.hi _ hg.sh.whole_mem
  have h4:=JM (yL (dU g.ds c l - n.place)) (hg.speed n).1
  have h5:BI (dU g.ds c l - n.place)<=500:=by unfold BI;split<;>omega
  show l9 _ _<=500
  omega
 | _=>show (1:Int)<=500;decide
theorem IQ {b e sp tk:Int}(h:e - b<=sp * tk/\b - e<=sp * tk):paF b e sp tk=e:=by unfold paF;rw [if_pos h]
theorem Nv {g:Cfg}(hg:fu g){n:aY}{d:Dd}{tk:Int}(h0:0<=tk)(h:fC g n d<=tk):paF n.place (cC g n d).place (cS g (cC g n d)) tk=(cC g n d).place:=by
 have s1:=(hg.speed (cC g n d)).1
 have h2:=Int.mul_nonneg (show 0<=cS g (cC g n d) by omega) h0
 refine IQ ?_
 cases d with
 | wind c l k=>
  have e:cS g (cC g n (.wind c l k))=cS g n:=JO rfl
  have h3:=JN (w:=BI (dU g.ds c l - n.place)) (s:=cS g n) (hg.speed n).1
  have h4:=Int.mul_le_mul_of_nonneg_left h (show 0<=cS g n by have:=(hg.speed n).1;omega)
  have h5:=Nu (dU g.ds c l - n.place)
  rw [e]
  show dU g.ds c l - n.place<=_/\n.place - dU g.ds c l<=_
  have h6:cS g n * fC g n (.wind c l k)=cS g n * l9 (BI (dU g.ds c l - n.place)) (cS g n):=rfl
  omega
 | _=>rw [yQ (fun _ _ _ z=>by cases z)];omega
theorem Run.mem {g:Cfg}{n0:aY}{rs:List Row}(hg:fu g)(h0:dD g n0)(h:Run g n0 rs):bw rs<=500 * rs.length/\∀r∈rs,1<=r.speed/\r.speed<=500/\0<=r.began/\r.began<=r.ended/\r.ended<=bw rs:=by
 induction h with
 | nil=>exact ⟨by show (0:Int)<=_;simp,fun r hr=>by cases hr⟩
 | @snoc rs d h ok hr ih=>
  have h1:=ky hg (ak n0 rs) d
  have h2:=JP hg (h.snap hg h0) hr
  have h3:=h.now hg
  have h4:=hg.speed (cC g (ak n0 rs) d)
  rw [jd]
  refine ⟨?_,fun r hm=>?_⟩
  ·show bw rs+fC g (ak n0 rs) d<=_
   have:=ih.1
   rw [List.length_append,List.length_singleton]
   omega
  ·show _/\_/\_/\_/\_<=bw rs+fC g (ak n0 rs) d
   rcases List.mem_append.mp hm with hm | hm
   ·have:=ih.2 r hm
    omega
   ·rw [List.mem_singleton] at hm
    subst hm
    show 1<=cS g _/\cS g _<=500/\0<=bw rs/\bw rs<=bw rs+_/\bw rs+_<=_
    omega
theorem Run.behind {g:Cfg}{n0:aY}{rs:List Row}(hg:fu g)(h:Run g n0 rs){t:Int}(ht:bw rs<=t):gu n0 rs t=((ak n0 rs).place,(ak n0 rs).place)/\dR n0 rs t=(ak n0 rs).ws:=by
 induction h with
 | nil=>exact ⟨rfl,rfl⟩
 | @snoc rs d h ok hr ih=>
  have h1:=ky hg (ak n0 rs) d
  rw [jd] at ht
  have ht':bw rs+fC g (ak n0 rs) d<=t:=ht
  obtain ⟨i1,i2⟩:=ih (by omega)
  rw [pW,lO,i1,i2,kI]
  have hb:(ny g n0 rs d).began<=t:=by show bw rs<=t;omega
  unfold yP wq
  rw [if_pos hb,if_pos ht]
  refine ⟨?_,rfl⟩
  show (paF (ak n0 rs).place (cC g (ak n0 rs) d).place (cS g (cC g (ak n0 rs) d)) (t - bw rs),_)=_
  rw [Nv hg (by omega) (by omega)]
  rfl
noncomputable def PR (n0:aY)(rs:List Row)(k:Nat):aY:=ak n0 (rs.take k)
theorem JQ (n0:aY)(rs:List Row){k:Nat}(hk:k<=rs.length):(nz n0 rs)[k]?=some (PR n0 rs k,bw (rs.take k)):=by
 cases k with
 | zero=>simp [nz,PR,ak,bw]
 | succ k=>
  have hk':k < rs.length:=hk
  unfold PR
  rw [List.take_succ_eq_append_getElem hk',kI,jd]
  show (rs.map _)[k]?=_
  rw [List.getElem?_map,List.getElem?_eq_getElem hk']
  rfl
theorem yR (n0:aY)(rs:List Row)(t:Int):dR n0 rs t=n0.ws\/∃r∈rs,dR n0 rs t=r.sn.ws:=by
 rcases dE rs with rfl | ⟨rs',r,rfl⟩
 ·exact .inl rfl
 ·rw [lO]
  unfold wq
  split
  ·exact .inr ⟨r,by simp,rfl⟩
  ·rcases yR n0 rs' t with h | ⟨x,hx,h⟩
   ·exact .inl h
   ·exact .inr ⟨x,List.mem_append_left _ hx,h⟩
termination_by rs.length
decreasing_by all_goals (subst_vars;simp)
theorem Run.snaps {g:Cfg}{n0:aY}{rs:List Row}(hg:fu g)(h0:dD g n0)(h:Run g n0 rs):∀r∈rs,dD g r.sn:=by
 induction h with
 | nil=>intro r hr;cases hr
 | @snoc rs d h ok hr ih=>
  intro r hm
  rcases List.mem_append.mp hm with hm | hm
  ·exact ih r hm
  ·rw [List.mem_singleton] at hm
   subst hm
   exact (h.snap hg h0).next hg ok hr
theorem Run.spots_len {g:Cfg}{n0:aY}{rs:List Row}(hg:fu g)(h0:dD g n0)(h:Run g n0 rs)(t:Int):(dR n0 rs t).length=g.ks.length:=by
 rcases yR n0 rs t with e | ⟨r,hr,e⟩
 ·rw [e];exact h0.wl
 ·rw [e];exact (h.snaps hg h0 r hr).wl
theorem FF {x y:V}(hx:cL x=true)(hy:cL y=true):∀z∈[x,y],cL z=true:=by
 intro z hz
 simp only [List.mem_cons,List.not_mem_nil,or_false] at hz
 rcases hz with rfl | rfl<;>assumption
section
variable {X:Cx}
noncomputable def Rh (K:PySem.W.Frag)(C:Addr)(tb:XT->TS)(th:TS):TS:=fun D σ H=>
 tb (fun cls σ' H'=>PySem.W.exmOne K cls (.ref C)=some true/\th D σ' H') D σ H
end
theorem RM {A B:Prop}(h:B):if true=false then A else B:=by rw [if_neg (by decide)];exact h
theorem RN {A B:Prop}(h:A):if false=false then A else B:=by rw [if_pos rfl];exact h
theorem Run.zero {g:Cfg}{n0:aY}{rs:List Row}(hg:fu g)(h0:n0.e=.no)(h:Run g n0 rs):gu n0 rs 0=(n0.place,if rs=[] then n0.place else (gu n0 rs 0).2)/\dR n0 rs 0=n0.ws/\(rs≠[]->1<=bw rs):=by
 induction h with
 | nil=>exact ⟨rfl,rfl,fun z=>absurd rfl z⟩
 | @snoc rs d h ok hr ih=>
  obtain ⟨i1,i2,i3⟩:=ih
  have tn:=ky hg (ak n0 rs) d
  rw [pW,lO,jd,if_neg (by simp)]
  by_cases e:rs=[]
  ·subst e
   have hnw:∀c l k,d≠.wind c l k:=fun c l k z=>by
    subst z
    have:=(qZ hr).2.2
    rw [show (ak n0 []).e=n0.e from rfl,h0] at this
    cases this
   have ht:fC g (ak n0 []) d=1:=by cases d<;>first | rfl | exact absurd rfl (hnw _ _ _)
   have hp:(cC g (ak n0 []) d).place=n0.place:=yQ hnw
   have e1:(ny g n0 [] d).ended=1:=by show 0+fC g (ak n0 []) d=1;omega
   have e2:(ny g n0 [] d).sn.place=n0.place:=hp
   unfold yP wq
   rw [if_pos (show (ny g n0 [] d).began<=0 from Int.le_refl _),e1,if_neg (by decide),e2]
   refine ⟨?_,i2,fun _=>by decide⟩
   show (paF n0.place n0.place (ny g n0 [] d).speed 0,n0.place)=(n0.place,n0.place)
   rw [IQ (by rw [Int.mul_zero];omega)]
  ·have h1:=i3 e
   have nb:¬(ny g n0 rs d).began<=0:=by show ¬bw rs<=0;omega
   have ne:¬(ny g n0 rs d).ended<=0:=by show ¬bw rs+fC g (ak n0 rs) d<=0;omega
   unfold yP wq
   rw [if_neg nb,if_neg ne]
   refine ⟨?_,i2,fun _=>by show 1<=bw rs+fC g (ak n0 rs) d;omega⟩
   rw [i1]
theorem PU:bootBuiltins "sum"=some (.builtin "sum"):=by decide +kernel
section
variable {X:Cx}
noncomputable def OB (K:PySem.W.Frag):List V->Hp->VK->Prop:=fun xs H Q=>∃(p:Addr) (ns:List Int),xs=[.ref p]/\SqT K H p (ns.map V.int)/\Q (.int ns.sum) H
theorem JR (hc:X.calm=true):kG X (.builtin "sum") (OB X.K):=by
 intro pins s σ H xs us Q I r h
 obtain ⟨p,ns,rfl,hS,q⟩:=h
 obtain ⟨u,rfl,ru⟩:=yI r
 cases ru
 obtain ⟨its,rv,pl,hz⟩:=I.tuple hS
 obtain ⟨m,hL,_⟩:=I.loc
 have hI:IntsAre its ns:=tI rv
 obtain ⟨xs,hx⟩:=hI.allInts.items
 have hn:numsOf its.toArray.toList=ns:=by rw [show its.toArray.toList=its from rfl,hI.numsOf]
 rw [hx] at hn
 rw [nums_intItems] at hn
 refine PySem.W.ktm_sumG (I.ok.hd hc) (by rw [←hx];exact pl) fun h' tk t' hk=>?_
 rw [preSum_eq,List.take_of_length_le (by simp),hn]
 exact ⟨.int ns.sum,H,I.kept_news hL ((Att.O0 hL).keeps hk) ((Kg (g:=Att.vq s.heap) (h:=s.heap) (L:=X.env.locals)).grown hk),⟨_,rfl⟩,q⟩
end
end L2
namespace K30
open PySem L2
noncomputable abbrev md:List Str:=["number","many"]
noncomputable abbrev hJ:List Str:=["level","many"]
noncomputable abbrev ju:List Str:=["number","many"]
noncomputable abbrev hV:List Str:=["loads","many"]
noncomputable abbrev kL:List Str:=["self","loads","many"]
noncomputable abbrev kM:List Str:=["self","number","cage"]
noncomputable abbrev me:List Str:=["self","cage","level"]
noncomputable abbrev jv:List Str:=["self"]
noncomputable abbrev gy:List Str:=["self","cage"]
noncomputable abbrev fJ:List Str:=["self","level"]
noncomputable abbrev en:List Str:=["self"]
noncomputable abbrev kO:List Str:=["self"]
noncomputable abbrev hZ:List Str:=["number"]
noncomputable abbrev ie:List Str:=["codes","many"]
noncomputable abbrev jw:List Str:=["self","codes"]
noncomputable abbrev jx:List Str:=["self","level","strokes"]
noncomputable abbrev gz:List Str:=["self","strokes"]
noncomputable abbrev gA:List Str:=["self"]
noncomputable abbrev jy:List Str:=["self","level"]
noncomputable abbrev jz:List Str:=["self"]
noncomputable abbrev kP:List Str:=["self","level","kind"]
noncomputable abbrev jA:List Str:=["self"]
noncomputable abbrev gB:List Str:=["depths"]
noncomputable abbrev jB:List Str:=["depths"]
noncomputable abbrev ig:List Str:=["depths","place"]
noncomputable abbrev mf:List Str:=["depths","depth"]
noncomputable abbrev ij:List Str:=["depths","cage","level"]
noncomputable abbrev mh:List Str:=["depths","place"]
noncomputable abbrev gC:List Str:=["slow","fast"]
noncomputable abbrev jC:List Str:=["way","speed"]
noncomputable abbrev ik:List Str:=["begin","end","speed","ticks"]
noncomputable abbrev fK:List Str:=["self","place","opened","bells","yard"]
noncomputable abbrev fL:List Str:=["self"]
noncomputable abbrev kQ:List Str:=["self","first","most"]
noncomputable abbrev jD:List Str:=["self","deed","ticks","speed","standing"]
noncomputable abbrev il:List Str:=["self"]
noncomputable abbrev mi:List Str:=["self"]
noncomputable abbrev ip:List Str:=["self"]
noncomputable abbrev kR:List Str:=["self"]
noncomputable abbrev fM:List Str:=["self","tick"]
noncomputable abbrev fN:List Str:=["self","tick"]
noncomputable abbrev dM:List Str:=["self","tick"]
noncomputable abbrev jE:List Str:=["self","depths","codes","slow","fast","loads"]
noncomputable abbrev jF:List Str:=["self","level","strokes"]
noncomputable abbrev gD:List Str:=["self","strokes"]
noncomputable abbrev jG:List Str:=["self","level"]
noncomputable abbrev eo:List Str:=["self","level"]
noncomputable abbrev ez:List Str:=["self","level"]
noncomputable abbrev eA:List Str:=["self","word","level","wanted"]
noncomputable abbrev jH:List Str:=["self","number","cage"]
noncomputable abbrev gE:List Str:=["self","cage"]
noncomputable abbrev jI:List Str:=["self","cage","level","kind"]
noncomputable abbrev eB:List Str:=["self"]
noncomputable abbrev iq:List Str:=["self","deed","ticks","standing"]
noncomputable abbrev dN:List Str:=["self","standing"]
noncomputable abbrev eV:List Str:=["self","cage"]
noncomputable abbrev cE:List Str:=["self","level"]
noncomputable abbrev kS:List Str:=["self"]
noncomputable abbrev jJ:List Str:=["self"]
noncomputable abbrev gF:List Str:=["self"]
noncomputable abbrev jK:List Str:=["self"]
noncomputable abbrev ir:List Str:=["self"]
noncomputable abbrev iu:List Str:=["self"]
noncomputable abbrev eW:List Str:=["self","tick"]
noncomputable abbrev dq:List Str:=["self","place"]
noncomputable abbrev iw:List Str:=["self"]
noncomputable abbrev eX:List Str:=["self","tick"]
noncomputable abbrev fO:List Str:=["self","cage"]
noncomputable abbrev eY:List Str:=["self","level"]
noncomputable abbrev oy:List Str:=["_law_found"]
noncomputable abbrev Ak:List Str:=["_law_script","_law_k"]
noncomputable abbrev rf:List Str:=["_law_cell","_law_k","_law_span"]
noncomputable abbrev oz:List Str:=["_law_script","_law_k"]
noncomputable abbrev wu:List Str:=["_law_found","_law_due"]
noncomputable abbrev mj:List Str:=["_law_cell"]
noncomputable abbrev oA:List Str:=["_law_cell","_law_many"]
noncomputable abbrev oB:List Str:=["_law_cell","_law_many","_law_most"]
noncomputable abbrev oC:List Str:=["_law_script"]
noncomputable abbrev oE:List Str:=["_law_script","_law_most"]
noncomputable abbrev rg:List Str:=["_law_setup_here"]
noncomputable abbrev Al:List Str:=["_law_depths_here","_law_cage","_law_place"]
noncomputable abbrev rh:List Str:=["_law_row","_law_k","_law_value"]
noncomputable abbrev oF:List Str:=["_law_way","_law_speed_here"]
noncomputable abbrev oG:List Str:=["_law_setup_here","_law_lying"]
noncomputable abbrev oH:List Str:=["_law_setup_here"]
noncomputable abbrev oI:List Str:=["_law_heard_here","_law_deed"]
noncomputable abbrev rj:List Str:=["_law_setup_here","_law_state","_law_deed"]
noncomputable abbrev rk:List Str:=["_law_works","_law_deed"]
noncomputable abbrev rm:List Str:=["_law_works","_law_setup_here","_law_states","_law_rows"]
noncomputable abbrev eZ:List Str:=["_law_setup_here","_law_state","_law_rest"]
noncomputable abbrev fe:List Str:=["_law_setup_here","_law_state","_law_rest"]
noncomputable abbrev ix:List Str:=["_law_setup_here","_law_states","_law_cell"]
noncomputable abbrev rn:List Str:=["_law_works","_law_setup_here","_law_states","_law_rows","_law_deed"]
noncomputable abbrev wx:List Str:=["_law_works","_law_setup_here","_law_script","_law_begin","_law_end"]
noncomputable abbrev wz:List Str:=["_law_works","_law_door","_law_tick"]
noncomputable abbrev LS:List Str:=["_law_script"]
noncomputable def top (i:Nat):Stmt:=PySem.Challenge.pw_cagebells_k30_no_such_tick.main.body.getD i (.Pass ⟨0,0,0,0⟩)
noncomputable abbrev ml:Stmt:=top 23
theorem FG:ay ["number","many"] md (ao ml):=aX
noncomputable abbrev iz:Stmt:=top 24
theorem Am:ay ["level","many"] hJ (ao iz):=aX
noncomputable abbrev jL:Stmt:=top 25
theorem BO:ay ["number","many"] ju (ao jL):=aX
noncomputable abbrev iA:Stmt:=top 30
theorem jM:ay ["loads","many","kind","level","goal"] hV (ao iA):=aX
noncomputable abbrev kT:Stmt:=bc (top 31) 0
theorem EB:ay ["self","loads","many"] kL (ao kT):=aX
noncomputable abbrev kU:Stmt:=bc (top 31) 1
theorem EC:ay ["self","number","cage"] kM (ao kU):=aX
noncomputable abbrev mm:Stmt:=bc (top 31) 2
theorem yS:ay ["self","cage","level","number"] me (ao mm):=aX
noncomputable abbrev jN:Stmt:=bc (top 31) 3
theorem BP:ay ["self"] jv (ao jN):=aX
noncomputable abbrev gG:Stmt:=bc (top 31) 4
theorem ly:ay ["self","cage","number","spot"] gy (ao gG):=aX
noncomputable abbrev fP:Stmt:=bc (top 31) 5
theorem yt:ay ["self","level"] fJ (ao fP):=aX
noncomputable abbrev eC:Stmt:=bc (top 31) 6
theorem i7:ay ["self","kind","spot"] en (ao eC):=aX
noncomputable abbrev kW:Stmt:=bc (top 31) 7
theorem wA:ay ["self","other"] kO (ao kW):=aX
noncomputable abbrev iB:Stmt:=top 35
theorem An:ay ["number"] hZ (ao iB):=aX
noncomputable abbrev iC:Stmt:=top 36
theorem mn:ay ["codes","many","men","coal"] ie (ao iC):=aX
noncomputable abbrev jO:Stmt:=bc (top 37) 0
theorem BQ:ay ["self","codes"] jw (ao jO):=aX
noncomputable abbrev jP:Stmt:=bc (top 37) 1
theorem BR:ay ["self","level","strokes"] jx (ao jP):=aX
noncomputable abbrev gH:Stmt:=bc (top 37) 2
theorem iZ:ay ["self","strokes","level","rung","alike"] gz (ao gH):=aX
noncomputable abbrev gI:Stmt:=bc (top 37) 3
theorem zx:ay ["self"] gA (ao gI):=aX
noncomputable abbrev jQ:Stmt:=bc (top 37) 4
theorem BS:ay ["self","level"] jy (ao jQ):=aX
noncomputable abbrev jR:Stmt:=bc (top 37) 5
theorem BU:ay ["self"] jz (ao jR):=aX
noncomputable abbrev kX:Stmt:=bc (top 37) 6
theorem wB:ay ["self","level","kind","code"] kP (ao kX):=aX
noncomputable abbrev jS:Stmt:=bc (top 37) 7
theorem ub:ay ["self","other"] jA (ao jS):=aX
noncomputable abbrev gJ:Stmt:=top 42
theorem lz:ay ["depths","depth","level"] gB (ao gJ):=aX
noncomputable abbrev jT:Stmt:=top 43
theorem BV:ay ["depths"] jB (ao jT):=aX
noncomputable abbrev iD:Stmt:=top 44
theorem Ao:ay ["depths","place"] ig (ao iD):=aX
noncomputable abbrev mq:Stmt:=top 45
theorem yT:ay ["depths","depth","level"] mf (ao mq):=aX
noncomputable abbrev iE:Stmt:=top 46
theorem Ap:ay ["depths","cage","level"] ij (ao iE):=aX
noncomputable abbrev mr:Stmt:=top 47
theorem yU:ay ["depths","place","stands"] mh (ao mr):=aX
noncomputable abbrev gK:Stmt:=top 50
theorem zy:ay ["slow","fast"] gC (ao gK):=aX
noncomputable abbrev jU:Stmt:=top 51
theorem BW:ay ["way","speed"] jC (ao jU):=aX
noncomputable abbrev iF:Stmt:=top 52
theorem rp:ay ["begin","end","speed","ticks","gone"] ik (ao iF):=aX
noncomputable abbrev fQ:Stmt:=bc (top 54) 0
theorem yu:ay ["self","place","opened","bells","yard"] fK (ao fQ):=aX
noncomputable abbrev fR:Stmt:=bc (top 54) 1
theorem yv:ay ["self"] fL (ao fR):=aX
noncomputable abbrev kY:Stmt:=bc (top 55) 0
theorem ED:ay ["self","first","most"] kQ (ao kY):=aX
noncomputable abbrev jV:Stmt:=bc (top 55) 1
theorem uc:ay ["self","deed","ticks","speed","standing","began"] jD (ao jV):=aX
noncomputable abbrev iG:Stmt:=bc (top 55) 2
theorem Aq:ay ["self"] il (ao iG):=aX
noncomputable abbrev mv:Stmt:=bc (top 55) 3
theorem FH:ay ["self"] mi (ao mv):=aX
noncomputable abbrev iH:Stmt:=bc (top 55) 4
theorem Ar:ay ["self"] ip (ao iH):=aX
noncomputable abbrev kZ:Stmt:=bc (top 55) 5
theorem EE:ay ["self"] kR (ao kZ):=aX
noncomputable abbrev fS:Stmt:=bc (top 55) 6
theorem bW:ay ["self","tick","place","ahead","began","ended","deed","speed","standing"] fM (ao fS):=aX
noncomputable abbrev fT:Stmt:=bc (top 55) 7
theorem cR:ay ["self","tick","spots","began","ended","deed","speed","standing"] fN (ao fT):=aX
noncomputable abbrev dO:Stmt:=bc (top 55) 8
theorem tY:ay ["self","tick"] dM (ao dO):=aX
noncomputable abbrev jW:Stmt:=bc (top 58) 0
theorem oa:ay ["self","depths","codes","slow","fast","loads","shut","first"] jE (ao jW):=aX
noncomputable abbrev jX:Stmt:=bc (top 58) 1
theorem ud:ay ["self","level","strokes","standing"] jF (ao jX):=aX
noncomputable abbrev gL:Stmt:=bc (top 58) 2
theorem lA:ay ["self","strokes","standing","answer"] gD (ao gL):=aX
noncomputable abbrev jY:Stmt:=bc (top 58) 3
theorem ue:ay ["self","level","standing"] jG (ao jY):=aX
noncomputable abbrev eD:Stmt:=bc (top 58) 4
theorem vx:ay ["self","level"] eo (ao eD):=aX
noncomputable abbrev eI:Stmt:=bc (top 58) 5
theorem vy:ay ["self","level"] ez (ao eI):=aX
noncomputable abbrev eJ:Stmt:=bc (top 58) 6
theorem mx:ay ["self","word","level","wanted","standing"] eA (ao eJ):=aX
noncomputable abbrev jZ:Stmt:=bc (top 58) 7
theorem og:ay ["self","number","cage","standing","level"] jH (ao jZ):=aX
noncomputable abbrev gM:Stmt:=bc (top 58) 8
theorem lB:ay ["self","cage","standing","level"] gE (ao gM):=aX
noncomputable abbrev j0:Stmt:=bc (top 58) 9
theorem iI:ay ["self","cage","level","kind","standing","gate","end","ticks"] jI (ao j0):=aX
noncomputable abbrev eK:Stmt:=bc (top 58) 10
theorem vz:ay ["self"] eB (ao eK):=aX
noncomputable abbrev iJ:Stmt:=bc (top 58) 11
theorem As:ay ["self","deed","ticks","standing"] iq (ao iJ):=aX
noncomputable abbrev dP:Stmt:=bc (top 58) 12
theorem tZ:ay ["self","standing"] dN (ao dP):=aX
noncomputable abbrev ff:Stmt:=bc (top 58) 13
theorem wC:ay ["self","cage"] eV (ao ff):=aX
noncomputable abbrev cF:Stmt:=bc (top 58) 14
theorem ng:ay ["self","level"] cE (ao cF):=aX
noncomputable abbrev k7:Stmt:=bc (top 58) 15
theorem EF:ay ["self"] kS (ao k7):=aX
noncomputable abbrev j1:Stmt:=bc (top 58) 16
theorem BX:ay ["self"] jJ (ao j1):=aX
noncomputable abbrev gN:Stmt:=bc (top 58) 18
theorem zz:ay ["self"] gF (ao gN):=aX
noncomputable abbrev j4:Stmt:=bc (top 58) 19
theorem BY:ay ["self"] jK (ao j4):=aX
noncomputable abbrev iK:Stmt:=bc (top 58) 20
theorem Au:ay ["self"] ir (ao iK):=aX
noncomputable abbrev iL:Stmt:=bc (top 58) 21
theorem Av:ay ["self"] iu (ao iL):=aX
noncomputable abbrev fg:Stmt:=bc (top 58) 22
theorem wD:ay ["self","tick"] eW (ao fg):=aX
noncomputable abbrev dw:Stmt:=bc (top 58) 23
theorem rq:ay ["self","place"] dq (ao dw):=aX
noncomputable abbrev iM:Stmt:=bc (top 58) 24
theorem Aw:ay ["self"] iw (ao iM):=aX
noncomputable abbrev fh:Stmt:=bc (top 58) 25
theorem wF:ay ["self","tick"] eX (ao fh):=aX
noncomputable abbrev fU:Stmt:=bc (top 58) 26
theorem yw:ay ["self","cage"] fO (ao fU):=aX
noncomputable abbrev fi:Stmt:=bc (top 58) 27
theorem wG:ay ["self","level"] eY (ao fi):=aX
noncomputable abbrev oJ:Stmt:=top 60
theorem Hs:ay ["_law_found"] oy (ao oJ):=aX
noncomputable abbrev Ax:Stmt:=top 61
theorem Nw:ay ["_law_script","_law_k"] Ak (ao Ax):=aX
noncomputable abbrev rz:Stmt:=top 62
theorem oK:ay ["_law_cell","_law_k","_law_span","_law_rest","_law_turn","_law_one"] rf (ao rz):=aX
noncomputable abbrev oM:Stmt:=top 63
theorem vA:ay ["_law_script","_law_k","_law_cell","_law_one"] oz (ao oM):=aX
noncomputable abbrev lg:Stmt:=top 64
theorem yx:ay ["_law_found","_law_due","_law_alike","_law_k"] wu (ao lg):=aX
noncomputable abbrev my:Stmt:=top 65
theorem dF:ay ["_law_cell","_law_many","_law_shape","_law_gap","_law_made_here","_law_last","_law_k","_law_span"] mj (ao my):=aX
noncomputable abbrev oN:Stmt:=top 66
theorem pX:ay ["_law_cell","_law_many","_law_made_here","_law_k","_law_men"] oA (ao oN):=aX
noncomputable abbrev oO:Stmt:=top 67
theorem mz:ay ["_law_cell","_law_many","_law_most","_law_made_here","_law_count","_law_k","_law_kind"] oB (ao oO):=aX
noncomputable abbrev km:Stmt:=top 68
theorem i8:ay ["_law_script","_law_depths_here","_law_codes_here","_law_cell","_law_slow","_law_fast"] oC (ao km):=aX
noncomputable abbrev oP:Stmt:=top 69
theorem mB:ay ["_law_script","_law_most","_law_depths_here","_law_codes_here","_law_slow","_law_fast"] oE (ao oP):=aX
noncomputable abbrev rA:Stmt:=top 70
theorem jf:ay ["_law_setup_here","_law_depths_here","_law_codes_here","_law_slow","_law_fast","_law_loads_here","_law_handed","_law_works"] rg (ao rA):=aX
noncomputable abbrev Ay:Stmt:=top 71
theorem EG:ay ["_law_depths_here","_law_cage","_law_place","_law_deep","_law_k"] Al (ao Ay):=aX
noncomputable abbrev rB:Stmt:=top 72
theorem JS:ay ["_law_row","_law_k","_law_value"] rh (ao rB):=aX
noncomputable abbrev oQ:Stmt:=top 73
theorem vB:ay ["_law_way","_law_speed_here","_law_ticks"] oF (ao oQ):=aX
noncomputable abbrev oR:Stmt:=top 74
theorem Az:ay ["_law_setup_here","_law_lying","_law_k"] oG (ao oR):=aX
noncomputable abbrev oS:Stmt:=top 75
theorem vC:ay ["_law_setup_here","_law_many","_law_lying"] oH (ao oS):=aX
noncomputable abbrev oU:Stmt:=top 76
theorem AA:ay ["_law_heard_here","_law_deed","_law_word"] oI (ao oU):=aX
noncomputable abbrev rC:Stmt:=top 77
theorem cA:ay ["_law_setup_here","_law_state","_law_deed","_law_place","_law_gates","_law_lying","_law_heard_here","_law_dead","_law_clock","_law_ended","_law_level","_law_deep","_law_goal"] rj (ao rC):=aX
noncomputable abbrev rD:Stmt:=top 78
theorem JT:ay ["_law_works","_law_deed"] rk (ao rD):=aX
noncomputable abbrev j5:Stmt:=top 79
theorem dY:ay ["_law_works","_law_setup_here","_law_states","_law_rows","_law_place","_law_gates","_law_lying","_law_heard_here","_law_dead","_law_clock","_law_held","_law_k","_law_waits","_law_due","_law_found"] rm (ao j5):=aX
noncomputable abbrev fj:Stmt:=top 80
theorem cx:ay ["_law_setup_here","_law_state","_law_rest","_law_depths_here","_law_codes_here","_law_heard_here","_law_live","_law_level","_law_cage","_law_kind"] eZ (ao fj):=aX
noncomputable abbrev cX:Stmt:=top 81
theorem dh:ay ["_law_setup_here","_law_state","_law_rest","_law_cage","_law_level","_law_waits"] fe (ao cX):=aX
noncomputable abbrev bX:Stmt:=top 82
theorem j6:ay ["_law_setup_here","_law_states","_law_cell","_law_state","_law_rest","_law_level"] ix (ao bX):=aX
noncomputable abbrev rE:Stmt:=top 83
theorem yy:ay ["_law_works","_law_setup_here","_law_states","_law_rows","_law_deed","_law_told","_law_heard_here"] rn (ao rE):=aX
noncomputable abbrev wH:Stmt:=top 84
theorem rF:ay ["_law_works","_law_setup_here","_law_script","_law_begin","_law_end","_law_states","_law_rows","_law_k","_law_deed"] wx (ao wH):=aX
noncomputable abbrev wI:Stmt:=top 85
theorem mD:ay ["_law_works","_law_door","_law_tick","_law_hit","_law_told","e"] wz (ao wI):=aX
noncomputable abbrev AB:Stmt:=top 86
theorem gh:ay ["_law_script","_law_setup_here","_law_works","_law_played","_law_states","_law_rows","_law_clock","_law_deep","_law_wide","_law_tick","_law_door","_law_places","_law_hit","_law_lying","_law_known","_law_k"] LS (ao AB):=aX
structure Adr where
 aN:Addr
 dG:Addr
 lh:Addr
 iO:Addr
 gP:Addr
 gQ:Addr
 lj:Addr
 j7:Addr
 mE:Addr
 eL:Addr
 fV:Addr
 iP:Addr
 jg:Addr
 jh:Addr
 iQ:Addr
 fv:Addr
 cO:Addr
 lq:Addr
 iR:Addr
 ck:Addr
 gR:Addr
 bZ:Addr
 fW:Addr
 pY:Addr
 bF:Addr
 EH:Addr
 wJ:Addr
structure Txt (K:PySem.W.Frag)(mg:Str->Option Value)(Z:Adr):Prop where
 cy:mg "len"=none
 fD:mg "list"=none
 rG:mg "enumerate"=none
 Ri:mg "zip"=none
 c7:mg "range"=none
 IS:mg "min"=none
 LU:mg "abs"=none
 bS:mg "isinstance"=none
 wK:mg "int"=none
 Ht:mg "bool"=none
 tM:mg "tuple"=none
 OC:mg "str"=none
 LV:mg "sorted"=none
 Rj:mg "sum"=none
 EI:∃u,mg "MOST_LOADS"=some u/\cq (.int 30) u
 yz:∃u,mg "FEWEST_STROKES"=some u/\cq (.int 1) u
 AD:∃u,mg "MOST_STROKES"=some u/\cq (.int 9) u
 zA:∃u,mg "FEWEST_LEVELS"=some u/\cq (.int 2) u
 BZ:∃u,mg "MOST_LEVELS"=some u/\cq (.int 6) u
 yA:∃u,mg "GREATEST_DEPTH"=some u/\cq (.int 500) u
 yB:∃u,mg "GREATEST_SPEED"=some u/\cq (.int 500) u
 EJ:∃u,mg "MOST_DEEDS"=some u/\cq (.int 300) u
 Nx:∃u,mg "KINDS"=some u/\cq (.ref Z.EH) u
 Ny:∀H,SqT K H Z.EH [.str "men",.str "coal"]
 Nz:∃o,K.lookup Z.EH=some o/\o.cls=.type "tuple"/\o.dict=none
 lP:∃u,mg "CAGE_SPOTS"=some u/\cq (.ref Z.wJ) u
 lQ:∀H,SqT K H Z.wJ [.int 10,.int 11]
 rH:mg "UnknownLevel"=some (.ref Z.aN)
 B0:mg "UnknownLoad"=some (.ref Z.dG)
 AE:mg "BadLoads"=some (.ref Z.lh)
 vD:mg "NotThere"=some (.ref Z.iO)
 FI:mg "CageTaken"=some (.ref Z.gP)
 yV:mg "CageEmpty"=some (.ref Z.gQ)
 vE:mg "BadCodes"=some (.ref Z.lj)
 Hu:mg "DeadBell"=some (.ref Z.j7)
 FJ:mg "NoCode"=some (.ref Z.mE)
 B1:mg "NothingRung"=some (.ref Z.eL)
 AF:mg "NoChange"=some (.ref Z.fV)
 Hv:mg "NotArmed"=some (.ref Z.iP)
 rJ:mg "BadDepths"=some (.ref Z.jg)
 FK:mg "BadSpeeds"=some (.ref Z.jh)
 Hw:mg "BookFull"=some (.ref Z.iQ)
 B2:mg "NothingDone"=some (.ref Z.fv)
 FL:mg "NoTick"=some (.ref Z.cO)
 Hx:mg "GateOpen"=some (.ref Z.lq)
 Hy:mg "GateShut"=some (.ref Z.iR)
 FN:mg "CageError"=some (.ref Z.ck)
 LW:mg "Yard"=some (.ref Z.gR)
 IT:mg "Bells"=some (.ref Z.bZ)
 AG:mg "Standing"=some (.ref Z.fW)
 PV:mg "Book"=some (.ref Z.pY)
 NA:mg "Works"=some (.ref Z.bF)
 bM:Cls K Z.gR
 kz:bz K Z.gR "kinds"
 cG:bz K Z.gR "where"
 lR:bz K Z.gR "many"
 bt:Cls K Z.bZ
 dQ:bz K Z.bZ "codes"
 dk:bz K Z.bZ "failed"
 bU:bz K Z.bZ "state"
 aP:Cls K Z.fW
 bN:bz K Z.fW "place"
 cP:bz K Z.fW "opened"
 cz:bz K Z.fW "bells"
 bA:bz K Z.fW "yard"
 bg:Cls K Z.pY
 iS:bz K Z.pY "first"
 wL:bz K Z.pY "most"
 cf:bz K Z.pY "rows"
 aD:Cls K Z.bF
 dm:bz K Z.bF "depths"
 uf:bz K Z.bF "slow"
 ug:bz K Z.bF "fast"
 rK:bz K Z.bF "goals"
 bh:bz K Z.bF "log"
 AH:ExC K Z.aN
 LX:ExI K Z.aN
 B3:PySem.W.exmOne K (.ref Z.aN) (.ref Z.ck)=some true
 ET:PySem.W.kitOne K (.ref Z.aN) (.ref Z.cO)=some false
 zR:PySem.W.kitOne K (.ref Z.aN) (.ref Z.aN)=some true
 B4:ExC K Z.dG
 Md:ExI K Z.dG
 CS:PySem.W.exmOne K (.ref Z.dG) (.ref Z.ck)=some true
 FO:PySem.W.kitOne K (.ref Z.dG) (.ref Z.cO)=some false
 AI:PySem.W.kitOne K (.ref Z.dG) (.ref Z.aN)=some false
 AJ:ExC K Z.lh
 PX:ExI K Z.lh
 FP:PySem.W.exmOne K (.ref Z.lh) (.ref Z.ck)=some true
 IU:PySem.W.kitOne K (.ref Z.lh) (.ref Z.cO)=some false
 CT:PySem.W.kitOne K (.ref Z.lh) (.ref Z.aN)=some false
 vF:ExC K Z.iO
 PY:ExI K Z.iO
 FQ:PySem.W.exmOne K (.ref Z.iO) (.ref Z.ck)=some true
 IV:PySem.W.kitOne K (.ref Z.iO) (.ref Z.cO)=some false
 CU:PySem.W.kitOne K (.ref Z.iO) (.ref Z.aN)=some false
 FR:ExC K Z.gP
 OD:ExI K Z.gP
 EU:PySem.W.exmOne K (.ref Z.gP) (.ref Z.ck)=some true
 Hz:PySem.W.kitOne K (.ref Z.gP) (.ref Z.cO)=some false
 B5:PySem.W.kitOne K (.ref Z.gP) (.ref Z.aN)=some false
 yW:ExC K Z.gQ
 OE:ExI K Z.gQ
 EV:PySem.W.exmOne K (.ref Z.gQ) (.ref Z.ck)=some true
 HJ:PySem.W.kitOne K (.ref Z.gQ) (.ref Z.cO)=some false
 B6:PySem.W.kitOne K (.ref Z.gQ) (.ref Z.aN)=some false
 vG:ExC K Z.lj
 PZ:ExI K Z.lj
 FT:PySem.W.exmOne K (.ref Z.lj) (.ref Z.ck)=some true
 IW:PySem.W.kitOne K (.ref Z.lj) (.ref Z.cO)=some false
 CV:PySem.W.kitOne K (.ref Z.lj) (.ref Z.aN)=some false
 HK:ExC K Z.j7
 P0:ExI K Z.j7
 FU:PySem.W.exmOne K (.ref Z.j7) (.ref Z.ck)=some true
 IX:PySem.W.kitOne K (.ref Z.j7) (.ref Z.cO)=some false
 CW:PySem.W.kitOne K (.ref Z.j7) (.ref Z.aN)=some false
 FV:ExC K Z.mE
 Rk:ExI K Z.mE
 HL:PySem.W.exmOne K (.ref Z.mE) (.ref Z.ck)=some true
 Ke:PySem.W.kitOne K (.ref Z.mE) (.ref Z.cO)=some false
 EW:PySem.W.kitOne K (.ref Z.mE) (.ref Z.aN)=some false
 B7:ExC K Z.eL
 Me:ExI K Z.eL
 CY:PySem.W.exmOne K (.ref Z.eL) (.ref Z.ck)=some true
 FW:PySem.W.kitOne K (.ref Z.eL) (.ref Z.cO)=some false
 AK:PySem.W.kitOne K (.ref Z.eL) (.ref Z.aN)=some false
 AL:ExC K Z.fV
 P1:ExI K Z.fV
 FX:PySem.W.exmOne K (.ref Z.fV) (.ref Z.ck)=some true
 IY:PySem.W.kitOne K (.ref Z.fV) (.ref Z.cO)=some false
 CZ:PySem.W.kitOne K (.ref Z.fV) (.ref Z.aN)=some false
 HM:ExC K Z.iP
 P2:ExI K Z.iP
 FY:PySem.W.exmOne K (.ref Z.iP) (.ref Z.ck)=some true
 IZ:PySem.W.kitOne K (.ref Z.iP) (.ref Z.cO)=some false
 Dc:PySem.W.kitOne K (.ref Z.iP) (.ref Z.aN)=some false
 rL:ExC K Z.jg
 OF:ExI K Z.jg
 EX:PySem.W.exmOne K (.ref Z.jg) (.ref Z.ck)=some true
 HN:PySem.W.kitOne K (.ref Z.jg) (.ref Z.cO)=some false
 B8:PySem.W.kitOne K (.ref Z.jg) (.ref Z.aN)=some false
 FZ:ExC K Z.jh
 OG:ExI K Z.jh
 EY:PySem.W.exmOne K (.ref Z.jh) (.ref Z.ck)=some true
 HP:PySem.W.kitOne K (.ref Z.jh) (.ref Z.cO)=some false
 B9:PySem.W.kitOne K (.ref Z.jh) (.ref Z.aN)=some false
 HQ:ExC K Z.iQ
 P4:ExI K Z.iQ
 Ga:PySem.W.exmOne K (.ref Z.iQ) (.ref Z.ck)=some true
 I8:PySem.W.kitOne K (.ref Z.iQ) (.ref Z.cO)=some false
 De:PySem.W.kitOne K (.ref Z.iQ) (.ref Z.aN)=some false
 Ca:ExC K Z.fv
 Mf:ExI K Z.fv
 Df:PySem.W.exmOne K (.ref Z.fv) (.ref Z.ck)=some true
 Gb:PySem.W.kitOne K (.ref Z.fv) (.ref Z.cO)=some false
 AM:PySem.W.kitOne K (.ref Z.fv) (.ref Z.aN)=some false
 LY:ExC K Z.cO
 wM:ExI K Z.cO
 mF:PySem.W.exmOne K (.ref Z.cO) (.ref Z.ck)=some true
 qt:PySem.W.kitOne K (.ref Z.cO) (.ref Z.cO)=some true
 ki:PySem.W.kitOne K (.ref Z.cO) (.ref Z.aN)=some false
 HR:ExC K Z.lq
 P6:ExI K Z.lq
 Gc:PySem.W.exmOne K (.ref Z.lq) (.ref Z.ck)=some true
 I9:PySem.W.kitOne K (.ref Z.lq) (.ref Z.cO)=some false
 Dg:PySem.W.kitOne K (.ref Z.lq) (.ref Z.aN)=some false
 HS:ExC K Z.iR
 P8:ExI K Z.iR
 Gd:PySem.W.exmOne K (.ref Z.iR) (.ref Z.ck)=some true
 Jb:PySem.W.kitOne K (.ref Z.iR) (.ref Z.cO)=some false
 Dh:PySem.W.kitOne K (.ref Z.iR) (.ref Z.aN)=some false
structure OH (K:PySem.W.Frag)(C0 C1 C2 C3 C4 C5 C6 C7 C8 C9 C10 C11 C12 C13 C14 C15 C16 C17 C18 C19 C20 C21 C22 C23 C24:Addr)(ta_KINDS:Addr)(tk_KINDS_0 tk_KINDS_1:Tok)(tn_KINDS:Nat)(ts_KINDS:Array (Option Value))(ta_CAGE_SPOTS:Addr)(tk_CAGE_SPOTS_0 tk_CAGE_SPOTS_1:Tok)(to_CAGE_SPOTS:Option Addr)(tn_CAGE_SPOTS:Nat)(ts_CAGE_SPOTS:Array (Option Value)):Prop where
 z_len:PySem.W.nsIn K mainGlobals "len"=some none
 z_list:PySem.W.nsIn K mainGlobals "list"=some none
 z_enumerate:PySem.W.nsIn K mainGlobals "enumerate"=some none
 z_zip:PySem.W.nsIn K mainGlobals "zip"=some none
 z_range:PySem.W.nsIn K mainGlobals "range"=some none
 z_min:PySem.W.nsIn K mainGlobals "min"=some none
 z_abs:PySem.W.nsIn K mainGlobals "abs"=some none
 z_isinstance:PySem.W.nsIn K mainGlobals "isinstance"=some none
 z_int:PySem.W.nsIn K mainGlobals "int"=some none
 z_bool:PySem.W.nsIn K mainGlobals "bool"=some none
 z_tuple:PySem.W.nsIn K mainGlobals "tuple"=some none
 z_str:PySem.W.nsIn K mainGlobals "str"=some none
 z_sorted:PySem.W.nsIn K mainGlobals "sorted"=some none
 z_sum:PySem.W.nsIn K mainGlobals "sum"=some none
 m0:NI K "UnknownLevel" C0
 m1:NI K "UnknownLoad" C1
 m2:NI K "BadLoads" C2
 m3:NI K "NotThere" C3
 m4:NI K "CageTaken" C4
 m5:NI K "CageEmpty" C5
 m6:NI K "BadCodes" C6
 m7:NI K "DeadBell" C7
 m8:NI K "NoCode" C8
 m9:NI K "NothingRung" C9
 m10:NI K "NoChange" C10
 m11:NI K "NotArmed" C11
 m12:NI K "BadDepths" C12
 m13:NI K "BadSpeeds" C13
 m14:NI K "BookFull" C14
 m15:NI K "NothingDone" C15
 m16:NI K "NoTick" C16
 m17:NI K "GateOpen" C17
 m18:NI K "GateShut" C18
 m19:NI K "CageError" C19
 m20:NI K "Yard" C20
 m21:NI K "Bells" C21
 m22:NI K "Standing" C22
 m23:NI K "Book" C23
 m24:NI K "Works" C24
 n_MOST_LOADS:KI K "MOST_LOADS" 30
 n_FEWEST_STROKES:KI K "FEWEST_STROKES" 1
 n_MOST_STROKES:KI K "MOST_STROKES" 9
 n_FEWEST_LEVELS:KI K "FEWEST_LEVELS" 2
 n_MOST_LEVELS:KI K "MOST_LEVELS" 6
 n_GREATEST_DEPTH:KI K "GREATEST_DEPTH" 500
 n_GREATEST_SPEED:KI K "GREATEST_SPEED" 500
 n_MOST_DEEDS:KI K "MOST_DEEDS" 300
 n_KINDS:PySem.W.nsIn K mainGlobals "KINDS"=some (some (.ref ta_KINDS))
 lt_KINDS:K.lookup ta_KINDS=some ⟨.type "tuple",none,.seq #[.str "men" tk_KINDS_0,.str "coal" tk_KINDS_1] tn_KINDS,ts_KINDS⟩
 n_CAGE_SPOTS:PySem.W.nsIn K mainGlobals "CAGE_SPOTS"=some (some (.ref ta_CAGE_SPOTS))
 lt_CAGE_SPOTS:K.lookup ta_CAGE_SPOTS=some ⟨.type "tuple",to_CAGE_SPOTS,.seq #[.int 10 tk_CAGE_SPOTS_0,.int 11 tk_CAGE_SPOTS_1] tn_CAGE_SPOTS,ts_CAGE_SPOTS⟩
 cl20:Cls K C20
 na20_kinds:bz K C20 "kinds"
 na20_where:bz K C20 "where"
 na20_many:bz K C20 "many"
 cl21:Cls K C21
 na21_codes:bz K C21 "codes"
 na21_failed:bz K C21 "failed"
 na21_state:bz K C21 "state"
 cl22:Cls K C22
 na22_place:bz K C22 "place"
 na22_opened:bz K C22 "opened"
 na22_bells:bz K C22 "bells"
 na22_yard:bz K C22 "yard"
 cl23:Cls K C23
 na23_first:bz K C23 "first"
 na23_most:bz K C23 "most"
 na23_rows:bz K C23 "rows"
 cl24:Cls K C24
 na24_depths:bz K C24 "depths"
 na24_slow:bz K C24 "slow"
 na24_fast:bz K C24 "fast"
 na24_goals:bz K C24 "goals"
 na24_log:bz K C24 "log"
 l0:C0I K C19
 x0:XI K C19 C0
 x1:XI K C19 C1
 x2:XI K C19 C2
 x3:XI K C19 C3
 x4:XI K C19 C4
 x5:XI K C19 C5
 x6:XI K C19 C6
 x7:XI K C19 C7
 x8:XI K C19 C8
 x9:XI K C19 C9
 x10:XI K C19 C10
 x11:XI K C19 C11
 x12:XI K C19 C12
 x13:XI K C19 C13
 x14:XI K C19 C14
 x15:XI K C19 C15
 x16:XI K C19 C16
 x17:XI K C19 C17
 x18:XI K C19 C18
 e0_CageError:PySem.W.exmOne K (.ref C0) (.ref C19)=some true
 k0_NoTick:PySem.W.kitOne K (.ref C0) (.ref C16)=some false
 k0_UnknownLevel:PySem.W.kitOne K (.ref C0) (.ref C0)=some true
 e1_CageError:PySem.W.exmOne K (.ref C1) (.ref C19)=some true
 k1_NoTick:PySem.W.kitOne K (.ref C1) (.ref C16)=some false
 k1_UnknownLevel:PySem.W.kitOne K (.ref C1) (.ref C0)=some false
 e2_CageError:PySem.W.exmOne K (.ref C2) (.ref C19)=some true
 k2_NoTick:PySem.W.kitOne K (.ref C2) (.ref C16)=some false
 k2_UnknownLevel:PySem.W.kitOne K (.ref C2) (.ref C0)=some false
 e3_CageError:PySem.W.exmOne K (.ref C3) (.ref C19)=some true
 k3_NoTick:PySem.W.kitOne K (.ref C3) (.ref C16)=some false
 k3_UnknownLevel:PySem.W.kitOne K (.ref C3) (.ref C0)=some false
 e4_CageError:PySem.W.exmOne K (.ref C4) (.ref C19)=some true
 k4_NoTick:PySem.W.kitOne K (.ref C4) (.ref C16)=some false
 k4_UnknownLevel:PySem.W.kitOne K (.ref C4) (.ref C0)=some false
 e5_CageError:PySem.W.exmOne K (.ref C5) (.ref C19)=some true
 k5_NoTick:PySem.W.kitOne K (.ref C5) (.ref C16)=some false
 k5_UnknownLevel:PySem.W.kitOne K (.ref C5) (.ref C0)=some false
 e6_CageError:PySem.W.exmOne K (.ref C6) (.ref C19)=some true
 k6_NoTick:PySem.W.kitOne K (.ref C6) (.ref C16)=some false
 k6_UnknownLevel:PySem.W.kitOne K (.ref C6) (.ref C0)=some false
 e7_CageError:PySem.W.exmOne K (.ref C7) (.ref C19)=some true
 k7_NoTick:PySem.W.kitOne K (.ref C7) (.ref C16)=some false
 k7_UnknownLevel:PySem.W.kitOne K (.ref C7) (.ref C0)=some false
 e8_CageError:PySem.W.exmOne K (.ref C8) (.ref C19)=some true
 k8_NoTick:PySem.W.kitOne K (.ref C8) (.ref C16)=some false
 k8_UnknownLevel:PySem.W.kitOne K (.ref C8) (.ref C0)=some false
 e9_CageError:PySem.W.exmOne K (.ref C9) (.ref C19)=some true
 k9_NoTick:PySem.W.kitOne K (.ref C9) (.ref C16)=some false
 k9_UnknownLevel:PySem.W.kitOne K (.ref C9) (.ref C0)=some false
 e10_CageError:PySem.W.exmOne K (.ref C10) (.ref C19)=some true
 k10_NoTick:PySem.W.kitOne K (.ref C10) (.ref C16)=some false
 k10_UnknownLevel:PySem.W.kitOne K (.ref C10) (.ref C0)=some false
 e11_CageError:PySem.W.exmOne K (.ref C11) (.ref C19)=some true
 k11_NoTick:PySem.W.kitOne K (.ref C11) (.ref C16)=some false
 k11_UnknownLevel:PySem.W.kitOne K (.ref C11) (.ref C0)=some false
 e12_CageError:PySem.W.exmOne K (.ref C12) (.ref C19)=some true
 k12_NoTick:PySem.W.kitOne K (.ref C12) (.ref C16)=some false
 k12_UnknownLevel:PySem.W.kitOne K (.ref C12) (.ref C0)=some false
 e13_CageError:PySem.W.exmOne K (.ref C13) (.ref C19)=some true
 k13_NoTick:PySem.W.kitOne K (.ref C13) (.ref C16)=some false
 k13_UnknownLevel:PySem.W.kitOne K (.ref C13) (.ref C0)=some false
 e14_CageError:PySem.W.exmOne K (.ref C14) (.ref C19)=some true
 k14_NoTick:PySem.W.kitOne K (.ref C14) (.ref C16)=some false
 k14_UnknownLevel:PySem.W.kitOne K (.ref C14) (.ref C0)=some false
 e15_CageError:PySem.W.exmOne K (.ref C15) (.ref C19)=some true
 k15_NoTick:PySem.W.kitOne K (.ref C15) (.ref C16)=some false
 k15_UnknownLevel:PySem.W.kitOne K (.ref C15) (.ref C0)=some false
 e16_CageError:PySem.W.exmOne K (.ref C16) (.ref C19)=some true
 k16_NoTick:PySem.W.kitOne K (.ref C16) (.ref C16)=some true
 k16_UnknownLevel:PySem.W.kitOne K (.ref C16) (.ref C0)=some false
 e17_CageError:PySem.W.exmOne K (.ref C17) (.ref C19)=some true
 k17_NoTick:PySem.W.kitOne K (.ref C17) (.ref C16)=some false
 k17_UnknownLevel:PySem.W.kitOne K (.ref C17) (.ref C0)=some false
 e18_CageError:PySem.W.exmOne K (.ref C18) (.ref C19)=some true
 k18_NoTick:PySem.W.kitOne K (.ref C18) (.ref C16)=some false
 k18_UnknownLevel:PySem.W.kitOne K (.ref C18) (.ref C0)=some false
 d0:DI K "is_known" ml
 d1:DI K "check_level" iz
 d2:DI K "check_load" jL
 d3:DI K "check_loads" iA
 d4:II K C20 "Yard.__init__" kT
 d5:MI K C20 "into" "Yard.into" kU
 d6:MI K C20 "out" "Yard.out" mm
 d7:MI K C20 "spots" "Yard.spots" jN
 d8:MI K C20 "in_cage" "Yard.in_cage" gG
 d9:MI K C20 "at_level" "Yard.at_level" fP
 d10:MI K C20 "men_aboard" "Yard.men_aboard" eC
 d11:MI K C20 "twin" "Yard.twin" kW
 d12:DI K "are_strokes" iB
 d13:DI K "check_codes" iC
 d14:II K C21 "Bells.__init__" jO
 d15:MI K C21 "ring" "Bells.ring" jP
 d16:MI K C21 "repeat" "Bells.repeat" gH
 d17:MI K C21 "engine" "Bells.engine" gI
 d18:MI K C21 "fail" "Bells.fail" jQ
 d19:MI K C21 "dead" "Bells.dead" jR
 d20:MI K C21 "use" "Bells.use" kX
 d21:MI K C21 "twin" "Bells.twin" jS
 d22:DI K "check_depths" gJ
 d23:DI K "drum_whole" jT
 d24:DI K "other_place" iD
 d25:DI K "level_at" mq
 d26:DI K "wound_place" iE
 d27:DI K "gates_by" mr
 d28:DI K "check_speeds" gK
 d29:DI K "wind_ticks" jU
 d30:DI K "place_after" iF
 d31:II K C22 "Standing.__init__" fQ
 d32:MI K C22 "twin" "Standing.twin" fR
 d33:II K C23 "Book.__init__" kY
 d34:MI K C23 "write" "Book.write" jV
 d35:MI K C23 "strike" "Book.strike" iG
 d36:MI K C23 "now" "Book.now" mv
 d37:MI K C23 "latest" "Book.latest" iH
 d38:MI K C23 "told" "Book.told" kZ
 d39:MI K C23 "place_at" "Book.place_at" fS
 d40:MI K C23 "spots_at" "Book.spots_at" fT
 d41:MI K C23 "refuse_tick" "Book.refuse_tick" dO
 d42:II K C24 "Works.__init__" jW
 d43:MI K C24 "ring" "Works.ring" jX
 d44:MI K C24 "repeat" "Works.repeat" gL
 d45:MI K C24 "fail" "Works.fail" jY
 d46:MI K C24 "open_gate" "Works.open_gate" eD
 d47:MI K C24 "shut_gate" "Works.shut_gate" eI
 d48:MI K C24 "turn_gate" "Works.turn_gate" eJ
 d49:MI K C24 "load" "Works.load" jZ
 d50:MI K C24 "unload" "Works.unload" gM
 d51:MI K C24 "wind" "Works.wind" j0
 d52:MI K C24 "take_back" "Works.take_back" eK
 d53:MI K C24 "write" "Works.write" iJ
 d54:MI K C24 "speed_with" "Works.speed_with" dP
 d55:MI K C24 "level_of" "Works.level_of" ff
 d56:MI K C24 "refuse_shut_gate" "Works.refuse_shut_gate" cF
 d57:MI K C24 "now" "Works.now" k7
 d58:MI K C24 "book" "Works.book" j1
 d59:MI K C24 "engine" "Works.engine" gN
 d60:MI K C24 "dead" "Works.dead" j4
 d61:MI K C24 "gates" "Works.gates" iK
 d62:MI K C24 "cages" "Works.cages" iL
 d63:MI K C24 "cages_at" "Works.cages_at" fg
 d64:MI K C24 "both_places" "Works.both_places" dw
 d65:MI K C24 "spots" "Works.spots" iM
 d66:MI K C24 "spots_at" "Works.spots_at" fh
 d67:MI K C24 "in_cage" "Works.in_cage" fU
 d68:MI K C24 "at_level" "Works.at_level" fi
 d69:DI K "_law_whole" oJ
 d70:DI K "_law_at" Ax
 d71:DI K "_law_draw" rz
 d72:DI K "_law_mixed" oM
 d73:DI K "_law_same" lg
 d74:DI K "_law_depths" my
 d75:DI K "_law_codes" oN
 d76:DI K "_law_loads" oO
 d77:DI K "_law_shaft" km
 d78:DI K "_law_setup" oP
 d79:DI K "_law_made" rA
 d80:DI K "_law_by" Ay
 d81:DI K "_law_swap" rB
 d82:DI K "_law_lasts" oQ
 d83:DI K "_law_speed" oR
 d84:DI K "_law_first" oS
 d85:DI K "_law_heard" oU
 d86:DI K "_law_next" rC
 d87:DI K "_law_call" rD
 d88:DI K "_law_view" j5
 d89:DI K "_law_towards_wind" fj
 d90:DI K "_law_towards_load" cX
 d91:DI K "_law_good_deed" bX
 d92:DI K "_law_done" rE
 d93:DI K "_law_day" wH
 d94:DI K "_law_ask" wI
 d95:DI K "law" AB
set_option hygiene false in
local macro_rules | `(tactic| k_all) => `(tactic| ((try simp only [MZ, M0, Pw, Px, Py, Pz, LJ, JJ, M7, Hn, Ng, LF, JI, LI, Lr, Ls, Lu, JG, Int.reduceNeg, Int.reduceLT]); (try simp only [MR, Of, K7, Pq, Q4, Q5, Pt, Pu, IK, La, wj, IL, M1, M3, Le, M4, Lg, M5, M6, Li, Hm, Lk, Lm, Lo, LA, Nb, LC, Nd, Lq, M8, M9, Na, Lw, Ly, PJ, JH, Nf, Ho, LM, Nk, Nm, Nn, Np])))
set_option hygiene false in
local macro_rules | `(tactic| walk_at "r0") => `(tactic| ((try dsimp only [Qo, Qr, tB', tOp, tUn, Od, tCB, NX, OW, NY, Q3, rI', rU', Q6, Q7, Qp, Qq, tC, NQ, NR, GG, g9, K8, K9, Aj, Lb, Og, Oh, Qm, tOr, Qn, Lc, Oi, Lf, tIf, QC, QB, tBM, QV, Fy, tSl, Im, Lj, Om, Oo, Oq, Ln, Lz, Ll, Ot, Mu, KG, PH, zv, KJ, QN, Rh, Pa, LO, LN, OA, Ox, LL, Lv, IG, K4, RA, KS, Oj, Ol, Lh, K2, NZ, LB, Ou, Fz, LD, RB, Lx, Pf, IE, QR, QH, Ey, Qt, Lp, CN, Q8, Q9, tU1, Ow, LK, PF, Ex, PL, Ov, Hq, LH, OB, Oy, ML, Po, MM, K5, K6, MN, MS, MT, Pr, MU, MV, PB, MW, MX, PD, LG, Ni, RC, RD, RE, RF, QW, QX, QY, QZ, RG, RH, Pp, σN, σS, σ0, Q0, RI, RJ, Q1, Q2, Ra, Rc, O6, Kn, BC, Qx, Nat.reduceAdd, Nat.reduceSub, Int.reducePow, Int.reduceToNat, Nat.reducePow, Int.reduceNeg, Bool.not_true, Bool.not_false]); (try first | refine L2.RK ?_ | refine L2.RL ?_ | refine L2.Rf ?_)))
set_option hygiene false in
local macro_rules | `(tactic| k_upd) => `(tactic| (repeat ((first | with_reducible refine L2.RM ?_ | with_reducible refine L2.RN ?_ | with_reducible refine L2.pV ze1 ?_ | with_reducible refine L2.pV ze2 ?_ | with_reducible refine L2.pV ze3 ?_ | with_reducible refine L2.pV ze4 ?_ | with_reducible refine L2.pV ze5 ?_ | with_reducible refine L2.pV ze6 ?_ | with_reducible refine L2.pV ze7 ?_ | with_reducible refine L2.pV ze8 ?_ | with_reducible refine L2.pV ze9 ?_ | with_reducible refine L2.pV ze10 ?_ | with_reducible refine L2.pV ze11 ?_ | with_reducible refine L2.pV ze12 ?_ | with_reducible refine L2.pV ze13 ?_ | with_reducible refine L2.pV ze14 ?_ | with_reducible refine L2.pV ze15 ?_ | with_reducible refine L2.pV ze16 ?_ | with_reducible refine L2.pV ze17 ?_ | with_reducible refine L2.pV ze18 ?_ | with_reducible refine L2.pV ze19 ?_); walk_at "r0")))
set_option hygiene false in
local macro_rules | `(tactic| k_mem) => `(tactic| (walk_at "r0"; k_upd))
section
variable {P:Program}{w:World}{K:PySem.W.Frag}{mg:Str->Option Value}{base:Heap}{Z:Adr}
variable {AN yX wN rM nC uh wO rN wQ rO wR AO rP wU ui qu yY uj AQ uk yZ Di LZ Ge Dj L3 Gf Dk Dl Dm Dn um wV uo uq rQ ur wW mG nD mH iT y0 wX rR wY uu uv qv AR Dp Dq Gg oV oW y3 AS qw y4 wZ w6 y6 w8 uw AU qx qy w9 ux lH Dr uy qz uz oX oY oZ Ds xa rS xb nE xc o6 Gh Gi Jc nF nG xf rT Gj Gk Gm Jd:Addr}{y8 xg uA qA mI rV uB qB uC qC uD y9 qD uE rW o7 xh rX zc rY xi AV Je Du AW Jf Dv AX AY AZ A1 rZ uF r6 r8 qF r9 uG lI mJ lJ gX xj uH qG uI sd se o8 zd A2 A3 Dw nH nI xk ze o9 xl uJ uK xm uL sg zf pd pe uM si lr A4 sj pf sk nJ nK nL A5 uN qH uO mK uP nM Dx Dy Gn mL mM uQ qI Dz DA DB Gp:FuncData}
noncomputable def zg (K:PySem.W.Frag)(Z:Adr):Sp:=fun vs H Q _=>∃(n m:Int),vs=[.int n,.int m]/\Q (.bl (decide (0<=n/\n < m))) H
theorem Gq {f:Addr}{fd:FuncData}(F:Fun K "is_known" "is_known" ml f fd)(T:Txt K mg Z):aI P w K mg base CX0 1 f fd md (zg K Z):=by
 refine F.ok FG (fun vs H Q E h=>?_) (fun cdv A outer s H vs Q E hr h=>?_)
 ·obtain ⟨n,m,rfl,q⟩:=h
  rfl
 ·obtain ⟨n,m,rfl,q⟩:=h
  refine ⟨_,aj (aw (zV (gm Cw (pv 0) ah (aJ _)) (DW (gm qr (pv 0) (pv 1) (aJ _))))),?_⟩
  k_all
  k_mem
  split
  ·rename_i h0
   rw [show decide (0<=n/\n < m)=decide (n < m) by simp [h0]] at q
   k_upd
   exact q
  ·rename_i h0
   rw [show decide (0<=n/\n < m)=false by simp;omega] at q
   k_upd
   exact q
variable (cQ:Def K mg "is_known" ml md AN y8)(i9:aI P w K mg base CX0 1 AN y8 md (zg K Z))
noncomputable def xn (K:PySem.W.Frag)(Z:Adr):Sp:=fun vs H Q _=>∃(x dx l:Addr) (ls:List Ld) (m:Int),vs=[.ref x,.ref l,.int m]/\H x=some (.ins Z.gR dx [])/\iX K H l ls/\ls.length<=1000/\∀(kn wh:Addr) (H':Hp),H kn=none->H wh=none->kn≠wh->aA x H H'->dS Z.gR H' x kn wh (ls.map (·.1)) (ls.map (·.2.1)) m->Q .non H'
theorem EK {f:Addr}{fd:FuncData}(F:Fun K "__init__" "Yard.__init__" kT f fd)(T:Txt K mg Z):aI P w K mg base CX0 1 f fd kL (xn K Z):=by
 refine F.ok EB (fun vs H Q E h=>?_) (fun cdv A outer s H vs Q E hr h=>?_)
 ·obtain ⟨x,dx,l,ls,m,rfl,hx,hL,hn,q⟩:=h
  rfl
 ·obtain ⟨x,dx,l,ls,m,rfl,hx,hL,hn,q⟩:=h
  refine ⟨_,ag (c9 (pv 0) (qs ["kind","level","goal"] [none,none,none] (fz (pv 1)) (fun _ _ _ _=>(show PG _ _ (DY K 3 _) from jm (n:=3) rfl (aQ (aB (i:=0) (show (["kind","level","goal"]:List Str).Nodup by decide +kernel) rfl orL) (aQ (aB (i:=1) (show (["kind","level","goal"]:List Str).Nodup by decide +kernel) rfl orL) (aQ (aB (i:=2) (show (["kind","level","goal"]:List Str).Nodup by decide +kernel) rfl orL) dz))))) (fun _ _ _ _=>kv) (fun _ _ _ _=>(pv 0))) rfl) (ag (c9 (pv 0) (qs ["kind","level","goal"] [none,none,none] (fz (pv 1)) (fun _ _ _ _=>(show PG _ _ (DY K 3 _) from jm (n:=3) rfl (aQ (aB (i:=0) (show (["kind","level","goal"]:List Str).Nodup by decide +kernel) rfl orL) (aQ (aB (i:=1) (show (["kind","level","goal"]:List Str).Nodup by decide +kernel) rfl orL) (aQ (aB (i:=2) (show (["kind","level","goal"]:List Str).Nodup by decide +kernel) rfl orL) dz))))) (fun _ _ _ _=>kv) (fun _ _ _ _=>(pv 1))) rfl) (aj (c9 (pv 0) (pv 2) rfl))),?_⟩
  k_all
  k_mem
  obtain ⟨as,hS,hT⟩:=id hL
  refine ⟨⟨_,hS⟩,?_⟩
  refine yr (fun x=>V.str x.1) hL (by rw [sizeLine_eq];omega) rfl (fun x hx N hN=>by k_mem;exact hN) fun kn hkn=>?_
  k_mem
  have k1:L2.aA x H (upd (upd H kn (HO.lst (ls.map fun x=>V.str x.1))) x (HO.ins Z.gR dx (bL "kinds" (.ref kn) []))):=(aA.of ((av.refl H).lay hkn)).put
  have hx1:upd (upd H kn (HO.lst (ls.map fun x=>V.str x.1))) x (HO.ins Z.gR dx (bL "kinds" (.ref kn) [])) x=some (HO.ins Z.gR dx [("kinds",.ref kn)]):=ai
  have nx:kn≠x:=fun z=>by rw [z,hx] at hkn;cases hkn
  have hk1:upd (upd H kn (HO.lst (ls.map fun x=>V.str x.1))) x (HO.ins Z.gR dx (bL "kinds" (.ref kn) [])) kn=some (HO.lst (ls.map fun x=>V.str x.1)):=by rw [aV nx,ai]
  refine ⟨_,_,_,upo hx hkn,T.bM,T.kz,by decide,⟨_,hS.keepI k1 hx⟩,?_⟩
  generalize upd (upd H kn (HO.lst (ls.map fun x=>V.str x.1))) x (HO.ins Z.gR dx (bL "kinds" (.ref kn) []))=H1 at *
  refine yr (fun x=>V.int x.2.1) (hL.keepI k1 hx) (by rw [sizeLine_eq];omega) rfl (fun x hx N hN=>by k_mem;exact hN) fun wh hwh=>?_
  have nxw:wh≠x:=fun z=>by rw [z,hx1] at hwh;cases hwh
  have nkw:kn≠wh:=fun z=>by rw [z,hwh] at hk1;cases hk1
  refine ⟨_,_,_,upo hx1 hwh,T.bM,T.cG,by show 1 < 1000;decide,_,_,_,ai,T.bM,T.lR,Nat.lt_of_le_of_lt (qW _ _ _) (by show 2 < 1000;decide),?_⟩
  refine q kn wh _ hkn ?_ nkw (((k1.trans (aA.of ((av.refl H1).lay hwh))).put).put) ⟨⟨dx,?_⟩,?_,?_⟩
  ·cases e:H wh with
   | none=>rfl
   | some o=>have:=k1 wh o nxw e;rw [hwh] at this;cases this
  ·rw [ai];rfl
  ·rw [aV nx,aV nx,aV nkw,hk1,List.map_map];rfl
  ·rw [aV nxw,aV nxw,ai,List.map_map];rfl
variable (ji:BG K Z.gR "Yard.__init__" kT kL yX xg)(nN:aI P w K mg base CX0 1 yX xg kL (xn K Z))
noncomputable def uR (K:PySem.W.Frag)(Z:Adr):Sp:=fun vs H Q _=>∃(y kn wh:Addr) (ks:List Str) (ws:List Int) (m:Int),vs=[.ref y]/\dS Z.gR H y kn wh ks ws m/\∀p,H p=none->Q (.ref p) (upd H p (.lst (ws.map V.int)))
theorem Cb {f:Addr}{fd:FuncData}(F:Fun K "spots" "Yard.spots" jN f fd)(T:Txt K mg Z):aI P w K mg base CX0 1 f fd jv (uR K Z):=by
 refine F.ok BP (fun vs H Q E h=>?_) (fun cdv A outer s H vs Q E hr h=>?_)
 ·obtain ⟨y,kn,wh,ks,ws,m,rfl,hy,q⟩:=h
  rfl
 ·obtain ⟨y,kn,wh,ks,ws,m,rfl,hy,q⟩:=h
  refine ⟨_,aj (aw (bK bQ (by rfl) T.fD dB (ae (aH (pv 0) (by rfl)) af))),?_⟩
  k_all
  obtain ⟨⟨dx,hob⟩,hkn,hwh⟩:=id hy
  k_mem
  refine ⟨_,_,_,hob,T.bM,T.cG,_,rfl,?_⟩
  k_mem
  exact ⟨_,.inl (SqL.of hwh),q⟩
variable (cT:bu K Z.gR "spots" "Yard.spots" jN jv wN uA)(fE:aI P w K mg base CX0 1 wN uA jv (uR K Z))
def NB (y:Addr)(c:Int)(ws:List Int)(H:Hp)(i:Nat)(σ:St)(H':Hp):Prop:=av H H'/\(∃t u,σ=[some (.ref y),some (.int c),t,u])/\∀j,j < i->ws.getD j 0≠10+c
noncomputable def qJ (K:PySem.W.Frag)(Z:Adr):Sp:=fun vs H Q _=>∃(y kn wh:Addr) (ks:List Str) (ws:List Int) (m c:Int),vs=[.ref y,.int c]/\dS Z.gR H y kn wh ks ws m/\0<=c/\c < 2/\∀H',av H H'->Q (inC ws c) H'
theorem zB {f:Addr}{fd:FuncData}(F:Fun K "in_cage" "Yard.in_cage" gG f fd)(T:Txt K mg Z):aI P w K mg base CX0 1 f fd gy (qJ K Z):=by
 refine F.ok ly (fun vs H Q E h=>?_) (fun cdv A outer s H vs Q E hr h=>?_)
 ·obtain ⟨y,kn,wh,ks,ws,m,c,rfl,hy,h0,h1,q⟩:=h
  rfl
 ·obtain ⟨y,kn,wh,ks,ws,m,c,rfl,hy,h0,h1,q⟩:=h
  refine seg 1 (aj (aw gf)) fun zt1 zh1=>?_
  k_all
  intro ze1
  refine ⟨_,ag (dA PassesOwn.never rfl (El (by rfl) T.rG pM (aH (pv 0) (by rfl))) (jm rfl (aQ (aB (i:=2) ly.nd rfl orL) (aQ (aB (i:=3) ly.nd rfl orL) dz))) (aj (bb (ax bI (pv 3) (au aE (eT (by rfl) T.lP) (pv 1)) (aJ _)) (aj (aw (pv 2))) (aC)))) zh1,?_⟩
  k_all
  obtain ⟨⟨dx,hob⟩,hkn,hwh⟩:=id hy
  k_mem
  refine ⟨_,_,_,hob,T.bM,T.cG,_,rfl,?_⟩
  k_mem
  refine ⟨⟨_,SqL.of hwh⟩,?_⟩
  k_upd
  refine Fe ws.length (NB y c ws H) ⟨av.refl H,⟨_,_,rfl⟩,fun j hj=>absurd hj (Nat.not_lt_zero _)⟩ ?_ ?_ ?_ ?_
  ·rintro i σ H' hi ⟨s1,_,_⟩
   k_upd
   exact ⟨_,_,s1.seq (SqL.of hwh),by rw [List.getElem?_map,ou hi];rfl⟩
  ·rintro σ H' ⟨s1,_,_⟩
   k_upd
   exact ⟨_,s1.seq (SqL.of hwh),by rw [List.length_map];exact Nat.le_refl _⟩
  ·rintro i σ H' hi ⟨s1,⟨t,u,rfl⟩,hj⟩ x H2 ⟨tp,z,rfl,htp,rfl,hz⟩
   have e:=hz _ (s1.seq (SqL.of hwh))
   rw [List.getElem?_map,ou hi] at e
   cases e
   k_mem
   refine ⟨_,SqT.of ai,rfl,?_⟩
   k_mem
   refine ⟨_,T.lQ _,_,CH h0 h1,?_⟩
   k_mem
   split
   ·rename_i h
    have e:=Jz hi h hj
    have q':=q _ (s1.lay (o:=HO.tup [V.int ↑i,V.int (ws.getD i 0)]) htp)
    rw [inC,if_pos (h▸df hi),e] at q'
    k_upd
    exact q'
   ·rename_i h
    k_upd
    refine ⟨s1.lay htp,⟨_,_,rfl⟩,fun j hj'=>?_⟩
    by_cases e:j=i
    ·rw [e];exact h
    ·exact hj j (by omega)
  ·rintro σ H' ⟨s1,⟨t,u,rfl⟩,hj⟩
   k_mem
   have q':=q _ s1
   rw [inC,if_neg] at q'
   ·k_upd
    exact q'
   ·intro hm
    have hlt:=List.idxOf_lt_length_iff.mpr hm
    refine hj _ hlt ?_
    rw [List.getD_eq_getElem?_getD,List.getElem?_eq_getElem hlt]
    exact List.getElem_idxOf hlt
variable (bV:bu K Z.gR "in_cage" "Yard.in_cage" gG gy rM qA)(de:aI P w K mg base CX0 1 rM qA gy (qJ K Z))
def L4 (y:Addr)(ks:List Str)(ws:List Int)(H:Hp)(i:Nat)(σ:St)(H':Hp):Prop:=av H H'/\(∃t u,σ=[some (.ref y),t,u])/\∀j k x,j < i->ks[j]?=some k->ws[j]?=some x->(decide (k="men") && decide (x=10\/x=11))=false
noncomputable def mO (K:PySem.W.Frag)(Z:Adr):Sp:=fun vs H Q _=>∃(y kn wh:Addr) (ks:List Str) (ws:List Int) (m:Int),vs=[.ref y]/\dS Z.gR H y kn wh ks ws m/\ks.length=ws.length/\∀H',av H H'->Q (.bl (Fi ks ws)) H'
theorem vH {f:Addr}{fd:FuncData}(F:Fun K "men_aboard" "Yard.men_aboard" eC f fd)(T:Txt K mg Z):aI P w K mg base CX0 1 f fd en (mO K Z):=by
 refine F.ok i7 (fun vs H Q E h=>?_) (fun cdv A outer s H vs Q E hr h=>?_)
 ·obtain ⟨y,kn,wh,ks,ws,m,rfl,hy,hlen,q⟩:=h
  rfl
 ·obtain ⟨y,kn,wh,ks,ws,m,rfl,hy,hlen,q⟩:=h
  refine seg 1 (aj (aw ft)) fun zt1 zh1=>?_
  k_all
  intro ze1
  refine ⟨_,ag (dA PassesOwn.never rfl (Pe (by rfl) T.Ri O4 (aH (pv 0) (by rfl)) (aH (pv 0) (by rfl))) (jm rfl (aQ (aB (i:=1) i7.nd rfl orL) (aQ (aB (i:=2) i7.nd rfl orL) dz))) (aj (bb (nZ (ax bI (pv 1) aR (aJ _)) (lM (ax tD (pv 2) (eT (by rfl) T.lP) (by rfl)))).pt (aj (aw ft)) (aC)))) zh1,?_⟩
  k_all
  obtain ⟨⟨dx,hob⟩,hkn,hwh⟩:=id hy
  k_mem
  refine ⟨_,_,_,hob,T.bM,T.kz,_,rfl,_,_,_,hob,T.bM,T.cG,_,rfl,?_⟩
  k_mem
  refine ⟨⟨_,SqL.of hkn⟩,⟨_,SqL.of hwh⟩,?_⟩
  k_upd
  refine Fe ws.length (L4 y ks ws H) ⟨av.refl H,⟨_,_,rfl⟩,fun j _ _ hj=>absurd hj (Nat.not_lt_zero _)⟩ ?_ ?_ ?_ ?_
  ·rintro i σ H' hi ⟨s1,_,_⟩
   have hk:ks[i]?=some ks[i]:=List.getElem?_eq_getElem (by omega)
   k_upd
   exact ⟨_,_,_,_,s1.seq (SqL.of hkn),s1.seq (SqL.of hwh),by rw [List.getElem?_map,hk];rfl,by rw [List.getElem?_map,ou hi];rfl⟩
  ·rintro σ H' ⟨s1,_,_⟩
   k_upd
   exact ⟨_,_,s1.seq (SqL.of hkn),s1.seq (SqL.of hwh),.inr (by rw [List.length_map];exact Nat.le_refl _)⟩
  ·rintro i σ H' hi ⟨s1,⟨t,u,rfl⟩,hj⟩ x H2 ⟨tp,z1,z2,rfl,htp,rfl,hz1,hz2⟩
   have hk:ks[i]?=some ks[i]:=List.getElem?_eq_getElem (by omega)
   have hw:ws[i]?=some ws[i]:=List.getElem?_eq_getElem hi
   have e:=hz1 _ (s1.seq (SqL.of hkn))
   rw [List.getElem?_map,hk] at e
   cases e
   have e:=hz2 _ (s1.seq (SqL.of hwh))
   rw [List.getElem?_map,hw] at e
   cases e
   k_mem
   refine ⟨_,SqT.of ai,rfl,?_⟩
   k_mem
   have no:(decide (ks[i]=Str.ofString "men") && decide (ws[i]=10\/ws[i]=11))=false->L4 y ks ws H (i+1) [some (V.ref y),some (V.str ks[i]),some (V.int ws[i])] (upd H' tp (HO.tup [V.str ks[i],V.int ws[i]])):=fun hn=>by
    refine ⟨s1.lay htp,⟨_,_,rfl⟩,fun j k x hj' e1 e2=>?_⟩
    by_cases e:j=i
    ·subst e
     rw [hk] at e1;rw [hw] at e2
     cases e1;cases e2
     exact hn
    ·exact hj j k x (by omega) e1 e2
   k_upd
   split
   ·rename_i h1
    k_upd
    refine ⟨_,.inr (T.lQ _),rfl,rfl,?_⟩
    rw [CK]
    k_mem
    split
    ·rename_i h2
     have q':=q _ (s1.lay (o:=HO.tup [V.str ks[i],V.int ws[i]]) htp)
     rw [Fj hk hw h1 h2] at q'
     k_upd
     exact q'
    ·rename_i h2
     exact no (by simp [h2])
   ·rename_i h1
    exact no (by simp [h1])
  ·rintro σ H' ⟨s1,⟨t,u,rfl⟩,hj⟩
   k_mem
   have q':=q _ s1
   rw [CJ hj (.inr (Nat.le_refl _))] at q'
   k_upd
   exact q'
variable (j8:bu K Z.gR "men_aboard" "Yard.men_aboard" eC en nC mI)(nO:aI P w K mg base CX0 1 nC mI en (mO K Z))
noncomputable def so (K:PySem.W.Frag)(Z:Adr):Sp:=fun vs H Q _=>∃(n:Int),vs=[.int n]/\Q (.bl (decide (1<=n/\n<=9))) H
theorem A6 {f:Addr}{fd:FuncData}(F:Fun K "are_strokes" "are_strokes" iB f fd)(T:Txt K mg Z):aI P w K mg base CX0 1 f fd hZ (so K Z):=by
 refine F.ok An (fun vs H Q E h=>?_) (fun cdv A outer s H vs Q E hr h=>?_)
 ·obtain ⟨n,rfl,q⟩:=h
  rfl
 ·obtain ⟨n,rfl,q⟩:=h
  refine ⟨_,aj (aw (zV (gm Cw (pv 0) (eT (by rfl) T.yz) (aJ _)) (DW (gm Ik (pv 0) (eT (by rfl) T.AD) (aJ _))))),?_⟩
  k_all
  k_mem
  split
  ·rename_i h0
   rw [show decide (1<=n/\n<=9)=decide (n<=9) by simp [h0]] at q
   k_upd
   exact q
  ·rename_i h0
   rw [show decide (1<=n/\n<=9)=false by simp;omega] at q
   k_upd
   exact q
variable (cH:Def K mg "are_strokes" iB hZ uh rV)(iU:aI P w K mg base CX0 1 uh rV hZ (so K Z))
noncomputable def uS (K:PySem.W.Frag)(Z:Adr):Sp:=fun vs H Q _=>∃(x dx l:Addr) (ls:List Cd),vs=[.ref x,.ref l]/\H x=some (.ins Z.bZ dx [])/\n8 cdV K H l ls/\ls.length<=1000/\∀(cs fl st:Addr) (H':Hp),H cs=none->H fl=none->aA x H H'->bR Z.bZ K H' x cs fl st ls (ls.map fun _=>false) .no->Q .non H'
theorem Cc {f:Addr}{fd:FuncData}(F:Fun K "__init__" "Bells.__init__" jO f fd)(T:Txt K mg Z):aI P w K mg base CX0 1 f fd jw (uS K Z):=by
 refine F.ok BQ (fun vs H Q E h=>?_) (fun cdv A outer s H vs Q E hr h=>?_)
 ·obtain ⟨x,dx,l,ls,rfl,hx,hL,hn,q⟩:=h
  rfl
 ·obtain ⟨x,dx,l,ls,rfl,hx,hL,hn,q⟩:=h
  refine seg 2 (aj (c9 (pv 0) (bq (ae aR (ae gf (ae gf (ae gf af))))) rfl)) fun zt2 zh2=>?_
  k_all
  intro ze2
  refine seg 1 (ag (c9 (pv 0) (qs ["code"] [none] (fz (pv 1)) (fun _ _ _ _=>(aB (i:=0) (show (["code"]:List Str).Nodup by decide +kernel) rfl orL)) (fun _ _ _ _=>kv) (fun _ _ _ _=>ft)) rfl) zh2) fun zt1 zh1=>?_
  k_all
  intro ze1
  refine ⟨_,ag (c9 (pv 0) (bK bQ (by rfl) T.fD dB (ae (pv 1) af)) rfl) zh1,?_⟩
  k_all
  obtain ⟨as,hS,hT⟩:=id hL
  k_mem
  refine ⟨_,.inl hS,fun cs hcs=>?_⟩
  k_upd
  refine ⟨_,_,_,upo hx hcs,T.bt,T.dQ,by decide,?_⟩
  have nx:cs≠x:=fun z=>by rw [z,hx] at hcs;cases hcs
  have k1:L2.aA x H (upd (upd H cs (HO.lst (as.map V.ref))) x (HO.ins Z.bZ dx (bL "codes" (.ref cs) []))):=(aA.of ((av.refl H).lay hcs)).put
  have hx1:upd (upd H cs (HO.lst (as.map V.ref))) x (HO.ins Z.bZ dx (bL "codes" (.ref cs) [])) x=some (HO.ins Z.bZ dx [("codes",.ref cs)]):=ai
  have hc1:upd (upd H cs (HO.lst (as.map V.ref))) x (HO.ins Z.bZ dx (bL "codes" (.ref cs) [])) cs=some (HO.lst (as.map V.ref)):=by rw [aV nx,ai]
  generalize upd (upd H cs (HO.lst (as.map V.ref))) x (HO.ins Z.bZ dx (bL "codes" (.ref cs) []))=H1 at *
  k_upd
  refine ⟨⟨_,hS.keepI k1 hx⟩,?_⟩
  refine yK (fun _=>true) (fun _=>V.bl false) (hS.keepI k1 hx) (by rw [List.length_map,hT.1,sizeLine_eq];omega) rfl (fun y _ N hN=>by k_mem;exact hN) (fun y _ _ N hN=>by k_mem;exact hN) fun fl hfl=>?_
  k_mem
  have ef:((as.map V.ref).filter fun _=>true).map (fun _=>V.bl false)=(ls.map fun _=>false).map V.bl:=by
   rw [List.filter_eq_self.mpr (by simp),List.map_map,List.map_map]
   refine List.ext_getElem (by simp [hT.1]) fun i h1 h2=>by simp
  rw [ef]
  have nfx:fl≠x:=fun z=>by rw [z,hx1] at hfl;cases hfl
  have nfc:cs≠fl:=fun z=>by rw [←z,hc1] at hfl;cases hfl
  k_upd
  refine ⟨_,_,_,upo hx1 hfl,T.bt,T.dk,by show 1 < 1000;decide,?_⟩
  have k2:L2.aA x H1 (upd (upd H1 fl (HO.lst ((ls.map fun _=>false).map V.bl))) x (HO.ins Z.bZ dx (bL "failed" (.ref fl) [("codes",.ref cs)]))):=(aA.of ((av.refl H1).lay hfl)).put
  have hx2:upd (upd H1 fl (HO.lst ((ls.map fun _=>false).map V.bl))) x (HO.ins Z.bZ dx (bL "failed" (.ref fl) [("codes",.ref cs)])) x=some (HO.ins Z.bZ dx [("codes",.ref cs),("failed",.ref fl)]):=by rw [ai];rfl
  have hf2:upd (upd H1 fl (HO.lst ((ls.map fun _=>false).map V.bl))) x (HO.ins Z.bZ dx (bL "failed" (.ref fl) [("codes",.ref cs)])) fl=some (HO.lst ((ls.map fun _=>false).map V.bl)):=by rw [aV nfx,ai]
  generalize upd (upd H1 fl (HO.lst ((ls.map fun _=>false).map V.bl))) x (HO.ins Z.bZ dx (bL "failed" (.ref fl) [("codes",.ref cs)]))=H2 at *
  k_upd
  refine ⟨by decide,fun st hst=>⟨_,_,_,upo hx2 hst,T.bt,T.bU,by show 2 < 1000;decide,?_⟩⟩
  have nsx:st≠x:=fun z=>by rw [z,hx2] at hst;cases hst
  have k3:L2.aA x H2 (upd (upd H2 st (HO.tup [V.str (Str.ofString "not rung"),V.non,V.non,V.non])) x (HO.ins Z.bZ dx (bL "state" (.ref st) [("codes",.ref cs),("failed",.ref fl)]))):=(aA.of ((av.refl H2).lay hst)).put
  refine q cs fl st _ hcs (k1.free nfx hfl) ((k1.trans k2).trans k3) ⟨⟨dx,by rw [ai];rfl⟩,⟨as,k3 _ _ nx (k2 _ _ nx hc1),?_⟩,k3 _ _ nfx hf2,SqT.of (by rw [aV nsx,ai];rfl),nfc,by rw [List.length_map]⟩
  exact hT.keepI ((k1.trans k2).trans k3) hx
variable (gS:BG K Z.bZ "Bells.__init__" jO jw wO uB)(lS:aI P w K mg base CX0 1 wO uB jw (uS K Z))
noncomputable def qK (K:PySem.W.Frag)(Z:Adr):Sp:=fun vs H Q _=>∃(b cs fl st:Addr) (ls:List Cd) (fs:List Bool) (e:Eng),vs=[.ref b]/\bR Z.bZ K H b cs fl st ls fs e/\Q (.ref st) H
theorem zC {f:Addr}{fd:FuncData}(F:Fun K "engine" "Bells.engine" gI f fd)(T:Txt K mg Z):aI P w K mg base CX0 1 f fd gA (qK K Z):=by
 refine F.ok zx (fun vs H Q E h=>?_) (fun cdv A outer s H vs Q E hr h=>?_)
 ·obtain ⟨b,cs,fl,st,ls,fs,e,rfl,hB,q⟩:=h
  rfl
 ·obtain ⟨b,cs,fl,st,ls,fs,e,rfl,hB,q⟩:=h
  refine ⟨_,aj (aw (aH (pv 0) (by rfl))),?_⟩
  k_all
  obtain ⟨⟨dx,hob⟩,⟨as,hcs,hT⟩,hfl,hst,nn,ln⟩:=id hB
  k_mem
  exact ⟨_,_,_,hob,T.bt,T.bU,_,rfl,q⟩
variable (mP:bu K Z.bZ "engine" "Bells.engine" gI gA rN qB)(sq:aI P w K mg base CX0 1 rN qB gA (qK K Z))
noncomputable def uT (K:PySem.W.Frag)(Z:Adr):Sp:=fun vs H Q _=>∃(b cs fl st:Addr) (ls:List Cd) (fs:List Bool) (e:Eng),vs=[.ref b]/\bR Z.bZ K H b cs fl st ls fs e/\fs.length<=1000/\∀p H',H p=none->av H H'->H' p=some (.lst ((dJ fs).map V.int))->Q (.ref p) H'
theorem Ce {f:Addr}{fd:FuncData}(F:Fun K "dead" "Bells.dead" jR f fd)(T:Txt K mg Z):aI P w K mg base CX0 1 f fd jz (uT K Z):=by
 refine F.ok BU (fun vs H Q E h=>?_) (fun cdv A outer s H vs Q E hr h=>?_)
 ·obtain ⟨b,cs,fl,st,ls,fs,e,rfl,hB,hlen,q⟩:=h
  rfl
 ·obtain ⟨b,cs,fl,st,ls,fs,e,rfl,hB,hlen,q⟩:=h
  refine ⟨_,aj (aw (qs ["level","failed"] [none,none] (El (by rfl) T.rG pM (aH (pv 0) (by rfl))) (fun _ _ _ _=>(show PG _ _ (DY K 2 _) from jm (n:=2) rfl (aQ (aB (i:=0) (show (["level","failed"]:List Str).Nodup by decide +kernel) rfl orL) (aQ (aB (i:=1) (show (["level","failed"]:List Str).Nodup by decide +kernel) rfl orL) dz)))) (fun _ _ _ _=>(tF (dj (pv 1)))) (fun _ _ _ _=>(pv 0)))),?_⟩
  k_all
  obtain ⟨⟨dx,hob⟩,⟨as,hcs,hT⟩,hfl,hst,nn,ln⟩:=id hB
  k_mem
  refine ⟨_,_,_,hob,T.bt,T.dk,_,rfl,?_⟩
  k_mem
  refine ⟨⟨_,SqL.of hfl⟩,?_⟩
  have gi:∀i,i < fs.length->(fs.map V.bl)[i]?=some (V.bl (fs.getD i false)):=fun i hi=>by
   rw [List.getElem?_map,List.getD_eq_getElem?_getD,List.getElem?_eq_getElem hi];rfl
  refine yj fs.length (fun i acc H'=>av H H'/\acc=(n9 fs i).map V.int) ⟨av.refl H,rfl⟩ ?_ ?_ ?_ ?_
  ·rintro i acc H' hi ⟨s1,_⟩
   k_upd
   exact ⟨_,_,s1.seq (SqL.of hfl),gi i hi⟩
  ·rintro acc H' ⟨s1,_⟩
   k_upd
   exact ⟨_,s1.seq (SqL.of hfl),by rw [List.length_map];exact Nat.le_refl _⟩
  ·rintro i acc H' hi ⟨s1,rfl⟩
   k_upd
   refine ⟨by have:=Ag fs i;rw [List.length_map,sizeLine_eq];omega,?_⟩
   rintro x H2 ⟨tp,z,rfl,htp,rfl,hz⟩ M hM
   have e:=hz _ (s1.seq (SqL.of hfl))
   rw [gi i hi] at e
   cases e
   k_mem
   refine ⟨_,SqT.of ai,rfl,?_⟩
   k_mem
   refine ⟨⟨rfl,fun k v e=>?_⟩,?_⟩
   ·match k,e with
    | 0,e=>cases e
    | 1,e=>cases e
    | k+2,e=>simp at e
   ·have gs:=Fp fs i
    k_upd
    split
    ·rename_i h
     refine hM _ _ ⟨s1.lay htp,?_⟩
     rw [gs,if_pos h,List.map_append];rfl
    ·rename_i h
     refine hM _ _ ⟨s1.lay htp,?_⟩
     rw [gs,if_neg h,List.append_nil]
  ·rintro acc H' ⟨s1,rfl⟩ p hp
   k_upd
   exact q p _ (s1.free hp) (s1.lay hp) ai
variable (pZ:bu K Z.bZ "dead" "Bells.dead" jR jz wQ uC)(xo:aI P w K mg base CX0 1 wQ uC jz (uT K Z))
def P9 (a:Addr)(ds:List Int)(H:Hp)(i:Nat)(σ:St)(H':Hp):Prop:=H'=H/\(∃t,σ=[some (.ref a),t,none])/\∀j,j < i->0<=ds.getD j 0/\ds.getD j 0<=500
def Qa (a:Addr)(ds:List Int)(H:Hp)(i:Nat)(σ:St)(H':Hp):Prop:=H'=H/\(∃t u,σ=[some (.ref a),t,u])/\∀j,j < i->ds.getD j 0 < ds.getD (j+1) 0
noncomputable def qL (K:PySem.W.Frag)(Z:Adr):Sp:=fun vs H Q E=>∃(a:Addr) (ds:List Int),vs=[.ref a]/\SqL K H a (ds.map V.int)/\ds.length<=100000/\(cM ds->Q .non H)/\(¬cM ds->E (.ref Z.jg) none H)
theorem zD {f:Addr}{fd:FuncData}(F:Fun K "check_depths" "check_depths" gJ f fd)(T:Txt K mg Z):aI P w K mg base (CXf P w) 1 f fd gB (qL K Z):=by
 refine F.okF lz (fun vs H Q E h=>?_) (fun cdv A outer s H vs Q E hr h=>?_)
 ·obtain ⟨a,ds,rfl,hS,hl,q1,q2⟩:=h
  rfl
 ·obtain ⟨a,ds,rfl,hS,hl,q1,q2⟩:=h
  refine seg 2 (aj (dA yh rfl (Cv (by rfl) T.c7 (ae ah (ae (aM aG (by rfl) T.cy bD (ae (pv 0) af)) af))) (aB (i:=2) lz.nd rfl orL) (aj (bb (ax Ik (au aK (pv 0) (pv 2)) (au aK (pv 0) (aS eS (pv 2) ah)) (aJ _)) (aj (bE T.rL (by rfl) T.rJ (ae aR af))) (aC))))) fun zt2 zh2=>?_
  k_all
  intro ze2
  refine seg 1 (ag (dA yh rfl (fz (pv 0)) (aB (i:=1) lz.nd rfl orL) (aj (bb (kh (ax qr (pv 1) ah (aJ _)) (jl (ax zW (pv 1) (eT (by rfl) T.yA) (aJ _)))).pt (aj (bE T.rL (by rfl) T.rJ (ae aR af))) (aC)))) zh2) fun zt1 zh1=>?_
  k_all
  intro ze1
  refine ⟨_,ag (bb (kh (ax qr (aM aG (by rfl) T.cy bD (ae (pv 0) af)) (eT (by rfl) T.zA) (aJ _)) (jl (ax zW (aM aG (by rfl) T.cy bD (ae (pv 0) af)) (eT (by rfl) T.BZ) (aJ _)))).pt (aj (bE T.rL (by rfl) T.rJ (ae aR af))) (aC)) zh1,?_⟩
  k_all
  k_mem
  refine ⟨_,.inl hS,?_⟩
  rw [List.length_map]
  k_upd
  split
  ·k_upd
   exact ⟨by decide,q2 fun h=>by have:=h.l2;omega⟩
  ·k_upd
   refine ⟨_,.inl hS,?_⟩
   rw [List.length_map]
   k_upd
   split
   ·k_upd
    exact ⟨by decide,q2 fun h=>by have:=h.l6;omega⟩
   ·k_upd
    refine ⟨⟨_,hS⟩,?_⟩
    k_upd
    refine jc (ds.map V.int) (P9 a ds H) ⟨rfl,⟨_,rfl⟩,fun j h=>absurd h (Nat.not_lt_zero _)⟩ (fun i σ H' _ ⟨e,_⟩=>by rw [e];exact hS) ?_ ?_
    ·rintro i x σ H' hx ⟨rfl,⟨t,rfl⟩,hj⟩
     obtain ⟨d,rfl,hd,hmem⟩:=pO hx
     have hi:i < ds.length:=(List.getElem?_eq_some_iff.mp hd).1
     have hdg:ds.getD i 0=d:=by rw [List.getD_eq_getElem?_getD,hd];rfl
     k_mem
     split
     ·k_upd
      exact ⟨by decide,q2 fun h=>by have:=h.lo d hmem;omega⟩
     ·split
      ·k_upd
       exact ⟨by decide,q2 fun h=>by have:=h.hi d hmem;omega⟩
      ·k_upd
       refine ⟨rfl,⟨_,rfl⟩,fun j hj'=>?_⟩
       by_cases e:j=i
       ·rw [e,hdg];omega
       ·exact hj j (by omega)
    ·rintro σ H' ⟨rfl,⟨t,rfl⟩,hb⟩
     rw [List.length_map] at hb
     k_mem
     refine ⟨_,.inl hS,⟨by decide,by decide,by rw [List.length_map];omega,by rw [List.length_map];omega⟩,?_⟩
     k_upd
     refine cN (Qa a ds H') ⟨rfl,⟨_,_,rfl⟩,fun j h=>absurd h (Nat.not_lt_zero _)⟩ ?_ ?_
     ·rintro i σ H' hi ⟨rfl,⟨t,u,rfl⟩,hj⟩
      rw [List.length_map] at hi
      k_mem
      refine ⟨_,hS,_,eQ (by omega) (by omega),_,hS,_,eQ (by omega) (by omega),?_⟩
      k_mem
      rw [show (1+(i:Int)).toNat=i+1 by omega,show (1+(i:Int) - 1).toNat=i by omega]
      k_upd
      split
      ·k_upd
       refine ⟨by decide,q2 fun h=>?_⟩
       have:=h.lt (i:=i) (j:=i+1) (by omega) (by omega)
       omega
      ·k_upd
       refine ⟨rfl,⟨_,_,rfl⟩,fun j hj'=>?_⟩
       by_cases e:j=i
       ·rw [e];omega
       ·exact hj j (by omega)
     ·rintro σ H' ⟨rfl,⟨t,u,rfl⟩,hu⟩
      rw [List.length_map] at hu
      k_mem
      exact q1 (cM.of (by omega) (by omega) hb fun i hi=>hu i (by omega))
variable (j9:Def K mg "check_depths" gJ gB rO qC)(sr:aI P w K mg base (CXf P w) 1 rO qC gB (qL K Z))
noncomputable def uU (K:PySem.W.Frag)(Z:Adr):Sp:=fun vs H Q _=>∃(a:Addr) (ds:List Int),vs=[.ref a]/\SqL K H a (ds.map V.int)/\0 < ds.length/\Q (.int (cv ds)) H
theorem Cf {f:Addr}{fd:FuncData}(F:Fun K "drum_whole" "drum_whole" jT f fd)(T:Txt K mg Z):aI P w K mg base CX0 1 f fd jB (uU K Z):=by
 refine F.ok BV (fun vs H Q E h=>?_) (fun cdv A outer s H vs Q E hr h=>?_)
 ·obtain ⟨a,ds,rfl,hS,hl,q⟩:=h
  rfl
 ·obtain ⟨a,ds,rfl,hS,hl,q⟩:=h
  refine ⟨_,aj (aw (au aK (pv 0) (aS eS (aM aG (by rfl) T.cy bD (ae (pv 0) af)) ah))),?_⟩
  k_all
  k_mem
  refine ⟨_,.inl hS,_,hS,_,eQ (by rw [List.length_map];omega) (by rw [List.length_map];omega),?_⟩
  rw [List.length_map,show ((ds.length:Int) - 1).toNat=ds.length - 1 by omega]
  k_upd
  exact q
variable (lT:Def K mg "drum_whole" jT jB wR uD)(xp:aI P w K mg base CX0 1 wR uD jB (uU K Z))
def L5 (a:Addr)(ds:List Int)(d:Int)(H:Hp)(i:Nat)(σ:St)(H':Hp):Prop:=H'=H/\(∃t,σ=[some (.ref a),some (.int d),t])/\∀j,j < i->ds.getD j 0≠d
noncomputable def zh (K:PySem.W.Frag)(Z:Adr):Sp:=fun vs H Q _=>∃(a:Addr) (ds:List Int) (d:Int),vs=[.ref a,.int d]/\SqL K H a (ds.map V.int)/\ds.length<=100000/\(∀i:Nat,i < ds.length->ds.getD i 0=d->Q (.int i) H)/\((∀i,i < ds.length->ds.getD i 0≠d)->Q .non H)
theorem Gr {f:Addr}{fd:FuncData}(F:Fun K "level_at" "level_at" mq f fd)(T:Txt K mg Z):aI P w K mg base CX0 1 f fd mf (zh K Z):=by
 refine F.ok yT (fun vs H Q E h=>?_) (fun cdv A outer s H vs Q E hr h=>?_)
 ·obtain ⟨a,ds,d,rfl,hS,hl,q1,q2⟩:=h
  rfl
 ·obtain ⟨a,ds,d,rfl,hS,hl,q1,q2⟩:=h
  refine seg 1 (aj (aw gf)) fun zt1 zh1=>?_
  k_all
  intro ze1
  refine ⟨_,ag (dA PassesOwn.never rfl (cw (by rfl) T.c7 (ae (aM aG (by rfl) T.cy bD (ae (pv 0) af)) af)) (aB (i:=2) yT.nd rfl orL) (aj (bb (ax bI (au aK (pv 0) (pv 2)) (pv 1) (aJ _)) (aj (aw (pv 2))) (aC)))) zh1,?_⟩
  k_all
  k_mem
  refine ⟨_,.inl hS,by omega,by rw [List.length_map];omega,cN (L5 a ds d H) ⟨rfl,⟨_,rfl⟩,fun _ h=>absurd h (Nat.not_lt_zero _)⟩ ?_ ?_⟩
  ·rintro i σ H' hi ⟨rfl,⟨t,rfl⟩,hj⟩
   rw [List.length_map] at hi
   have hi':i < ds.length:=by omega
   k_mem
   refine ⟨_,hS,_,by rw [Int.zero_add];exact kH hi',?_⟩
   k_mem
   split
   ·rename_i he
    rw [Int.zero_add]
    k_upd
    exact q1 i hi' he
   ·rename_i he
    k_upd
    refine ⟨rfl,⟨_,rfl⟩,fun j hj'=>?_⟩
    by_cases e:j=i
    ·rw [e];exact he
    ·exact hj j (by omega)
  ·rintro σ H' ⟨rfl,⟨t,rfl⟩,hj⟩
   k_mem
   refine q2 fun i hi=>hj i ?_
   rw [List.length_map]
   omega
variable (p6:Def K mg "level_at" mq mf AO y9)(A7:aI P w K mg base CX0 1 AO y9 mf (zh K Z))
noncomputable def qM (K:PySem.W.Frag)(Z:Adr):Sp:=fun vs H Q E=>∃(sl fa:Int),vs=[.int sl,.int fa]/\if 1<=sl/\sl<=fa/\fa<=500 then Q .non H else E (.ref Z.jh) none H
theorem zE {f:Addr}{fd:FuncData}(F:Fun K "check_speeds" "check_speeds" gK f fd)(T:Txt K mg Z):aI P w K mg base (CXf P w) 1 f fd gC (qM K Z):=by
 refine F.okF zy (fun vs H Q E h=>?_) (fun cdv A outer s H vs Q E hr h=>?_)
 ·obtain ⟨sl,fa,rfl,q⟩:=h
  rfl
 ·obtain ⟨sl,fa,rfl,q⟩:=h
  refine ⟨_,aj (bb (kh (ax qr (pv 0) ah (aJ _)) (kh (ax qr (pv 1) (pv 0) (aJ _)) (jl (ax zW (pv 1) (eT (by rfl) T.yB) (aJ _))))).pt (aj (bE T.FZ (by rfl) T.FK (ae aR af))) (aC)),?_⟩
  k_all
  k_mem
  split
  ·rw [if_neg (by omega)] at q
   k_upd
   exact ⟨by decide,q⟩
  ·split
   ·rw [if_neg (by omega)] at q
    k_upd
    exact ⟨by decide,q⟩
   ·split
    ·rw [if_neg (by omega)] at q
     k_upd
     exact ⟨by decide,q⟩
    ·rw [if_pos (by omega)] at q
     k_upd
     exact q
variable (ka:Def K mg "check_speeds" gK gC rP qD)(sv:aI P w K mg base (CXf P w) 1 rP qD gC (qM K Z))
noncomputable def uV (K:PySem.W.Frag)(Z:Adr):Sp:=fun vs H Q _=>∃(wy sp:Int),vs=[.int wy,.int sp]/\0 < sp/\sp < 2 ^ 200/\Q (.int ((wy+sp - 1) / sp)) H
theorem Cg {f:Addr}{fd:FuncData}(F:Fun K "wind_ticks" "wind_ticks" jU f fd)(T:Txt K mg Z):aI P w K mg base CX0 1 f fd jC (uV K Z):=by
 refine F.ok BW (fun vs H Q E h=>?_) (fun cdv A outer s H vs Q E hr h=>?_)
 ·obtain ⟨wy,sp,rfl,h0,h1,q⟩:=h
  rfl
 ·obtain ⟨wy,sp,rfl,h0,h1,q⟩:=h
  refine ⟨_,aj (aw (aS KA (aS eS (aS cb (pv 0) (pv 1)) ah) (pv 1))),?_⟩
  k_all
  k_mem
  exact ⟨⟨h0,h1⟩,q⟩
variable (lU:Def K mg "wind_ticks" jU jC wU uE)(xq:aI P w K mg base CX0 1 wU uE jC (uV K Z))
noncomputable def sA (K:PySem.W.Frag)(Z:Adr):Sp:=fun vs H Q _=>∃(b e sp tk:Int),vs=[.int b,.int e,.int sp,.int tk]/\sp.natAbs < 2 ^ 300/\tk.natAbs < 2 ^ 300/\0<=sp * tk/\∀v:Int,(e - b<=sp * tk/\b - e<=sp * tk->v=e)->(sp * tk < e - b->v=b+sp * tk)->(sp * tk < b - e->v=b - sp * tk)->Q (.int v) H
theorem A8 {f:Addr}{fd:FuncData}(F:Fun K "place_after" "place_after" iF f fd)(T:Txt K mg Z):aI P w K mg base CX0 1 f fd ik (sA K Z):=by
 refine F.ok rp (fun vs H Q E h=>?_) (fun cdv A outer s H vs Q E hr h=>?_)
 ·obtain ⟨b,e,sp,tk,rfl,h0,h1,h2,q⟩:=h
  rfl
 ·obtain ⟨b,e,sp,tk,rfl,h0,h1,h2,q⟩:=h
  refine seg 2 (aj (aw (aS cb (pv 0) (pv 4)))) fun zt2 zh2=>?_
  k_all
  intro ze2
  refine seg 1 (ag (bb (ax qr (pv 1) (pv 0) (aJ _)) (aj (aw (aS eS (pv 0) (pv 4)))) (aC)) zh2) fun zt1 zh1=>?_
  k_all
  intro ze1
  refine ⟨_,ag (aL (i:=4) rp.nd rfl orL (aM (tx rfl) (by rfl) T.IS Ef (ae (aS Mw (pv 2) (pv 3)) (ae (aM zZ (by rfl) T.LU Hb (ae (aS eS (pv 1) (pv 0)) af)) af)))) zh1,?_⟩
  k_all
  k_mem
  refine ⟨⟨h0,h1⟩,?_⟩
  generalize sp * tk=pr at *
  k_upd
  split
  ·refine q _ ?_ ?_ ?_<;>intro z<;>(repeat' split)<;>omega
  ·k_upd
   refine q _ ?_ ?_ ?_<;>intro z<;>(repeat' split)<;>omega
variable (kA:Def K mg "place_after" iF ik ui rW)(uW:aI P w K mg base CX0 1 ui rW ik (sA K Z))
noncomputable abbrev clZ (Z:Adr):Cl:=⟨Z.bZ,Z.gR,Z.fW,Z.pY,Z.bF⟩
noncomputable def pj (K:PySem.W.Frag)(Z:Adr):Sp:=fun vs H Q _=>∃(x dx o b y:Addr) (pl:Int) (gs:List Bool),vs=[.ref x,.int pl,.ref o,.ref b,.ref y]/\H x=some (.ins Z.fW dx [])/\SqL K H o (gs.map V.bl)/\∀(ol:Addr) (H':Hp),H ol=none->aA x H H'->H' x=some (.ins Z.fW dx [("place",.int pl),("opened",.ref ol),("bells",.ref b),("yard",.ref y)])->H' ol=some (.lst (gs.map V.bl))->Q .non H'
theorem yC {f:Addr}{fd:FuncData}(F:Fun K "__init__" "Standing.__init__" fQ f fd)(T:Txt K mg Z):aI P w K mg base CX0 1 f fd fK (pj K Z):=by
 refine F.ok yu (fun vs H Q E h=>?_) (fun cdv A outer s H vs Q E hr h=>?_)
 ·obtain ⟨x,dx,o,b,y,pl,gs,rfl,hx,hO,q⟩:=h
  rfl
 ·obtain ⟨x,dx,o,b,y,pl,gs,rfl,hx,hO,q⟩:=h
  refine ⟨_,ag (c9 (pv 0) (pv 1) rfl) (ag (c9 (pv 0) (bK bQ (by rfl) T.fD dB (ae (pv 2) af)) rfl) (ag (c9 (pv 0) (pv 3) rfl) (aj (c9 (pv 0) (pv 4) rfl)))),?_⟩
  k_all
  k_mem
  refine ⟨_,_,_,hx,T.aP,T.bN,by decide,?_⟩
  have k1:L2.aA x H (upd H x (HO.ins Z.fW dx (bL "place" (.int pl) []))):=(aA.of (av.refl H)).put
  refine ⟨_,.inl (hO.keepI k1 hx),fun ol hol=>?_⟩
  have nol:ol≠x:=fun z=>by rw [z,ai] at hol;cases hol
  refine ⟨_,_,_,upo ai hol,T.aP,T.cP,by show 1 < 1000;decide,_,_,_,ai,T.aP,T.cz,by show 2 < 1000;decide,_,_,_,ai,T.aP,T.bA,by show 3 < 1000;decide,?_⟩
  refine q ol _ (k1.free nol hol) (((k1.trans (aA.of ((av.refl _).lay hol))).put).put.put) ?_ ?_
  ·rw [ai];rfl
  ·rw [aV nol,aV nol,aV nol,ai]
variable (dZ:BG K Z.fW "Standing.__init__" fQ fK qu o7)(i4:aI P w K mg base CX0 1 qu o7 fK (pj K Z))
noncomputable def xr (K:PySem.W.Frag)(Z:Adr):Sp:=fun vs H Q _=>∃(x dx f:Addr),vs=[.ref x,.ref f,.int 300]/\H x=some (.ins Z.pY dx [])/\∀(rl:Addr) (H':Hp),H rl=none->aA x H H'->H' x=some (.ins Z.pY dx [("first",.ref f),("most",.int 300),("rows",.ref rl)])->H' rl=some (.lst [])->Q .non H'
theorem EL {f:Addr}{fd:FuncData}(F:Fun K "__init__" "Book.__init__" kY f fd)(T:Txt K mg Z):aI P w K mg base CX0 1 f fd kQ (xr K Z):=by
 refine F.ok ED (fun vs H Q E h=>?_) (fun cdv A outer s H vs Q E hr h=>?_)
 ·obtain ⟨x,dx,f0,rfl,hx,q⟩:=h
  rfl
 ·obtain ⟨x,dx,f0,rfl,hx,q⟩:=h
  refine ⟨_,ag (c9 (pv 0) (pv 1) rfl) (ag (c9 (pv 0) (pv 2) rfl) (aj (c9 (pv 0) (bC af) rfl))),?_⟩
  k_all
  k_mem
  refine ⟨_,_,_,hx,T.bg,T.iS,by decide,_,_,_,ai,T.bg,T.wL,by show 1 < 1000;decide,by decide,fun rl hrl=>?_⟩
  have k1:L2.aA x H (upd (upd H x (HO.ins Z.pY dx (bL "first" (.ref f0) []))) x (HO.ins Z.pY dx (bL "most" (.int 300) (bL "first" (.ref f0) [])))):=((aA.of (av.refl H)).put).put
  have nrl:rl≠x:=fun z=>by rw [z,ai] at hrl;cases hrl
  refine ⟨_,_,_,upo ai hrl,T.bg,T.cf,by show 2 < 1000;decide,?_⟩
  refine q rl _ (k1.free nrl hrl) ((k1.trans (aA.of ((av.refl _).lay hrl))).put) ?_ ?_
  ·rw [ai];rfl
  ·rw [aV nrl,ai]
variable (sC:BG K Z.pY "Book.__init__" kY kQ yY xh)(zi:aI P w K mg base CX0 1 yY xh kQ (xr K Z))
noncomputable def sJ (K:PySem.W.Frag)(Z:Adr):Sp:=fun vs H Q E=>∃(bk rl:Addr) (g:Cfg) (n0:aY) (rs:List Row),vs=[.ref bk]/\BAt (clZ Z) K H bk rl g n0 rs/\
 (rs=[]->E (.ref Z.fv) none H)/\
 (∀rs' r,rs=rs'++[r]->∀p H',aA rl H H'->BAt (clZ Z) K H' bk rl g n0 rs'->SqT K H' p r.deed->Q (.ref p) H')
theorem A9 {f:Addr}{fd:FuncData}(F:Fun K "strike" "Book.strike" iG f fd)(T:Txt K mg Z):aI P w K mg base (CXf P w) 1 f fd il (sJ K Z):=by
 refine F.okF Aq (fun vs H Q E h=>?_) (fun cdv A outer s H vs Q E hr h=>?_)
 ·obtain ⟨bk,rl,g,n0,rs,rfl,hB,q1,q2⟩:=h
  rfl
 ·obtain ⟨bk,rl,g,n0,rs,rfl,hB,q1,q2⟩:=h
  refine seg 1 (aj (aw (au aE (z7 PySem.F.plainAttrs_list PySem.F.slot_list_pop PySem.F.type_list_pop GX (aH (pv 0) (by rfl))) ah))) fun zt1 zh1=>?_
  k_all
  intro ze1
  refine ⟨_,ag (bb (eN (zY (aH (pv 0) (by rfl)) (fun _=>rfl))) (aj (bE T.Ca (by rfl) T.B2 (ae aR af))) (aC)) zh1,?_⟩
  k_all
  obtain ⟨⟨dx,f0,hob,hF⟩,as,hrl,hR⟩:=id hB
  k_mem
  refine ⟨_,_,_,hob,T.bg,T.cf,_,rfl,_,.inl ⟨_,SqL.of hrl,rfl⟩,?_⟩
  rcases dE rs with rfl | ⟨rs',r,rfl⟩
  ·have e:as=[]:=List.length_eq_zero_iff.mp hR.1
   subst e
   k_upd
   exact ⟨by decide,q1 rfl⟩
  ·obtain ⟨as',a,rfl,hR',dd,s,hra,hdd,hs⟩:=hR.last
   k_upd
   rw [if_neg (by simp)]
   k_upd
   refine ⟨_,_,_,hob,T.bg,T.cf,_,rfl,?_⟩
   k_mem
   refine ⟨.inl ⟨rfl,_,SqL.of hrl⟩,_,hrl,.ref a,by simp,?_⟩
   have k1:L2.aA rl H (upd H rl (HO.lst ((as'++[a]).map V.ref).dropLast)):=(aA.of (av.refl H)).put
   k_mem
   refine ⟨_,hra.keep k1 hrl,_,rfl,?_⟩
   refine q2 rs' r rfl dd _ k1 ⟨⟨dx,f0,k1 _ _ (fun z=>by rw [z,hrl] at hob;cases hob) hob,hF.keep k1 hrl⟩,as',by rw [ai];simp,hR'.keep k1 hrl⟩ (hdd.keep k1 hrl)
variable (oh:bu K Z.pY "strike" "Book.strike" iG il uj rX)(uX:aI P w K mg base (CXf P w) 1 uj rX il (sJ K Z))
noncomputable def zj (K:PySem.W.Frag)(Z:Adr):Sp:=fun vs H Q _=>∃(bk rl:Addr) (g:Cfg) (n0:aY) (rs:List Row),vs=[.ref bk]/\BAt (clZ Z) K H bk rl g n0 rs/\Q (.int (bw rs)) H
theorem Gs {f:Addr}{fd:FuncData}(F:Fun K "now" "Book.now" mv f fd)(T:Txt K mg Z):aI P w K mg base CX0 1 f fd mi (zj K Z):=by
 refine F.ok FH (fun vs H Q E h=>?_) (fun cdv A outer s H vs Q E hr h=>?_)
 ·obtain ⟨bk,rl,g,n0,rs,rfl,hB,q⟩:=h
  rfl
 ·obtain ⟨bk,rl,g,n0,rs,rfl,hB,q⟩:=h
  refine seg 1 (aj (aw (au aE (au aK (aH (pv 0) (by rfl)) (aS eS (aM aG (by rfl) T.cy bD (ae (aH (pv 0) (by rfl)) af)) ah)) ah))) fun zt1 zh1=>?_
  k_all
  intro ze1
  refine ⟨_,ag (bb (eN (zY (aH (pv 0) (by rfl)) (fun _=>rfl))) (aj (aw ah)) (aC)) zh1,?_⟩
  k_all
  obtain ⟨⟨dx,f0,hob,hF⟩,as,hrl,hR⟩:=id hB
  k_mem
  refine ⟨_,_,_,hob,T.bg,T.cf,_,rfl,_,.inl ⟨_,SqL.of hrl,rfl⟩,?_⟩
  rcases dE rs with rfl | ⟨rs',r,rfl⟩
  ·have e:as=[]:=List.length_eq_zero_iff.mp hR.1
   subst e
   k_upd
   exact q
  ·obtain ⟨as',a,rfl,hR',dd,s,hra,_,_⟩:=hR.last
   k_upd
   rw [if_neg (by simp)]
   k_upd
   refine ⟨_,_,_,hob,T.bg,T.cf,_,rfl,?_⟩
   k_mem
   refine ⟨_,_,_,hob,T.bg,T.cf,_,rfl,?_⟩
   k_mem
   refine ⟨_,.inl (SqL.of hrl),_,SqL.of hrl,_,CI,?_⟩
   k_mem
   refine ⟨_,hra,_,rfl,?_⟩
   rw [jd] at q
   k_upd
   exact q
variable (fF:bu K Z.pY "now" "Book.now" mv mi AQ zc)(ko:aI P w K mg base CX0 1 AQ zc mi (zj K Z))
noncomputable def sL (K:PySem.W.Frag)(Z:Adr):Sp:=fun vs H Q _=>∃(bk rl:Addr) (g:Cfg) (n0:aY) (rs:List Row),vs=[.ref bk]/\BAt (clZ Z) K H bk rl g n0 rs/\∀s,gn (clZ Z) K H rl g s (ak n0 rs)->Q (.ref s) H
theorem Ba {f:Addr}{fd:FuncData}(F:Fun K "latest" "Book.latest" iH f fd)(T:Txt K mg Z):aI P w K mg base CX0 1 f fd ip (sL K Z):=by
 refine F.ok Ar (fun vs H Q E h=>?_) (fun cdv A outer s H vs Q E hr h=>?_)
 ·obtain ⟨bk,rl,g,n0,rs,rfl,hB,q⟩:=h
  rfl
 ·obtain ⟨bk,rl,g,n0,rs,rfl,hB,q⟩:=h
  refine seg 1 (aj (aw (au aE (au aK (aH (pv 0) (by rfl)) (aS eS (aM aG (by rfl) T.cy bD (ae (aH (pv 0) (by rfl)) af)) ah)) ah))) fun zt1 zh1=>?_
  k_all
  intro ze1
  refine ⟨_,ag (bb (eN (zY (aH (pv 0) (by rfl)) (fun _=>rfl))) (aj (aw (aH (pv 0) (by rfl)))) (aC)) zh1,?_⟩
  k_all
  obtain ⟨⟨dx,f0,hob,hF⟩,as,hrl,hR⟩:=id hB
  k_mem
  refine ⟨_,_,_,hob,T.bg,T.cf,_,rfl,_,.inl ⟨_,SqL.of hrl,rfl⟩,?_⟩
  rcases dE rs with rfl | ⟨rs',r,rfl⟩
  ·have e:as=[]:=List.length_eq_zero_iff.mp hR.1
   subst e
   k_upd
   exact ⟨_,_,_,hob,T.bg,T.iS,_,rfl,q f0 hF⟩
  ·obtain ⟨as',a,rfl,hR',dd,s,hra,_,hs⟩:=hR.last
   k_upd
   rw [if_neg (by simp)]
   k_upd
   refine ⟨_,_,_,hob,T.bg,T.cf,_,rfl,?_⟩
   k_mem
   refine ⟨_,_,_,hob,T.bg,T.cf,_,rfl,?_⟩
   k_mem
   refine ⟨_,.inl (SqL.of hrl),_,SqL.of hrl,_,CI,?_⟩
   k_mem
   refine ⟨_,hra,_,rfl,?_⟩
   rw [kI] at q
   k_upd
   exact q s hs
variable (az:bu K Z.pY "latest" "Book.latest" iH ip uk rY)(aT:aI P w K mg base CX0 1 uk rY ip (sL K Z))
noncomputable def xt (K:PySem.W.Frag)(Z:Adr):Sp:=fun vs H Q _=>∃(bk rl:Addr) (g:Cfg) (n0:aY) (rs:List Row),vs=[.ref bk]/\BAt (clZ Z) K H bk rl g n0 rs/\rs.length<=1000/\∀(p:Addr) (as:List Addr) (H':Hp),H p=none->av H H'->H' p=some (.lst (as.map V.ref))->dW K H' as rs->Q (.ref p) H'
theorem EM {f:Addr}{fd:FuncData}(F:Fun K "told" "Book.told" kZ f fd)(T:Txt K mg Z):aI P w K mg base CX0 1 f fd kR (xt K Z):=by
 refine F.ok EE (fun vs H Q E h=>?_) (fun cdv A outer s H vs Q E hr h=>?_)
 ·obtain ⟨bk,rl,g,n0,rs,rfl,hB,hn,q⟩:=h
  rfl
 ·obtain ⟨bk,rl,g,n0,rs,rfl,hB,hn,q⟩:=h
  refine ⟨_,aj (aw (qs ["began","ended","deed","speed","standing"] [none,none,none,none,none] (fz (aH (pv 0) (by rfl))) (fun _ _ _ _=>(show PG _ _ (DY K 5 _) from jm (n:=5) rfl (aQ (aB (i:=0) (show (["began","ended","deed","speed","standing"]:List Str).Nodup by decide +kernel) rfl orL) (aQ (aB (i:=1) (show (["began","ended","deed","speed","standing"]:List Str).Nodup by decide +kernel) rfl orL) (aQ (aB (i:=2) (show (["began","ended","deed","speed","standing"]:List Str).Nodup by decide +kernel) rfl orL) (aQ (aB (i:=3) (show (["began","ended","deed","speed","standing"]:List Str).Nodup by decide +kernel) rfl orL) (aQ (aB (i:=4) (show (["began","ended","deed","speed","standing"]:List Str).Nodup by decide +kernel) rfl orL) dz))))))) (fun _ _ _ _=>kv) (fun _ _ _ _=>(bq (ae (pv 0) (ae (pv 1) (ae (pv 2) af))))))),?_⟩
  k_all
  obtain ⟨⟨dx,f0,hob,hF⟩,as,hrl,hR⟩:=id hB
  have hl:=hR.1
  k_mem
  refine ⟨_,_,_,hob,T.bg,T.cf,_,rfl,?_⟩
  k_mem
  refine ⟨⟨_,SqL.of hrl⟩,?_⟩
  refine yj rs.length (fun i acc H'=>av H H'/\∃bs:List Addr,acc=bs.map V.ref/\dW K H' bs (rs.take i)) ⟨av.refl H,[],rfl,rfl,fun i a r e _=>by simp at e⟩ ?_ ?_ ?_ ?_
  ·rintro i acc H' hi ⟨s1,_⟩
   have hi':i < as.length:=by omega
   k_upd
   exact ⟨_,.ref as[i],SqL.of (s1 _ _ hrl),by rw [List.getElem?_map,List.getElem?_eq_getElem hi'];rfl⟩
  ·rintro acc H' ⟨s1,_⟩
   k_upd
   exact ⟨_,SqL.of (s1 _ _ hrl),by rw [List.length_map];omega⟩
  ·rintro i acc H1 hi ⟨s1,bs,rfl,hb⟩
   have hi':i < as.length:=by omega
   have hbl:=hb.1
   rw [List.length_take] at hbl
   k_upd
   refine ⟨dX (by rw [List.length_map];omega),?_⟩
   rintro x H2 ⟨e2,y⟩ M hM
   subst e2
   have hy:=y _ (SqL.of (s1 _ _ hrl))
   rw [List.getElem?_map,List.getElem?_eq_getElem hi'] at hy
   cases hy
   obtain ⟨dd,s,hra,hdd,_⟩:=hR.2 i _ _ (List.getElem?_eq_getElem hi') (List.getElem?_eq_getElem hi)
   k_mem
   refine ⟨_,s1.tup hra,rfl,?_⟩
   k_mem
   refine ⟨⟨rfl,fun k v e=>?_⟩,?_⟩
   ·match k,e with
    | 0,e=>cases e
    | 1,e=>cases e
    | 2,e=>cases e
    | 3,e=>cases e
    | 4,e=>cases e
    | k+5,e=>simp at e
   ·k_upd
    refine ⟨by decide,fun p hp=>hM _ _ ⟨s1.lay hp,bs++[p],by rw [List.map_append];rfl,?_⟩⟩
    rw [List.take_succ_eq_append_getElem hi]
    exact (hb.same ((av.refl _).lay hp)).push ⟨dd,SqT.of ai,(s1.lay hp).tup hdd⟩
  ·rintro acc H1 ⟨s1,bs,rfl,hb⟩ p hp
   rw [List.take_length] at hb
   k_upd
   exact q p bs _ (s1.free hp) (s1.lay hp) ai (hb.same ((av.refl H1).lay hp))
variable (sM:bu K Z.pY "told" "Book.told" kZ kR yZ xi)(zk:aI P w K mg base CX0 1 yZ xi kR (xt K Z))
noncomputable def Bb (K:PySem.W.Frag)(Z:Adr):Sp:=fun vs H Q _=>∃(i:Int),vs=[.int i]/\Q (.bl true) H
theorem HU {f:Addr}{fd:FuncData}(F:Fun K "_law_whole" "_law_whole" oJ f fd)(T:Txt K mg Z):aI P w K mg base CX0 1 f fd oy (Bb K Z):=by
 refine F.ok Hs (fun vs H Q E h=>?_) (fun cdv A outer s H vs Q E hr h=>?_)
 ·obtain ⟨i,rfl,q⟩:=h
  rfl
 ·obtain ⟨i,rfl,q⟩:=h
  refine ⟨_,aj (aw (zV (aM vX (by rfl) T.bS bH (ae (pv 0) (ae (eO (v:=.ty "int") (by rfl) T.wK pL rfl) af))) (DW (OP (aM vX (by rfl) T.bS bH (ae (pv 0) (ae (eO (v:=.ty "bool") (by rfl) T.Ht Eg rfl) af))))))),?_⟩
  k_all
  k_mem
  refine E9 ?_
  k_mem
  refine Ei ?_
  k_mem
  exact q
variable (gT:Def K mg "_law_whole" oJ oy Di AV)(pk:aI P w K mg base CX0 1 Di AV oy (Bb K Z))
noncomputable def Jg (K:PySem.W.Frag)(Z:Adr):Sp:=fun vs H Q _=>∃(a:Addr) (ns:List Int) (k:Int),vs=[.ref a,.int k]/\SqL K H a (ns.map V.int)/\0<=k/\Q (.int (ns.getD k.toNat 0)) H
theorem NC {f:Addr}{fd:FuncData}(F:Fun K "_law_at" "_law_at" Ax f fd)(T:Txt K mg Z):aI P w K mg base CX0 1 f fd Ak (Jg K Z):=by
 refine F.ok Nw (fun vs H Q E h=>?_) (fun cdv A outer s H vs Q E hr h=>?_)
 ·obtain ⟨a,ns,k,rfl,hS,hk,q⟩:=h
  rfl
 ·obtain ⟨a,ns,k,rfl,hS,hk,q⟩:=h
  refine seg 1 (aj (aw ah)) fun zt1 zh1=>?_
  k_all
  intro ze1
  refine ⟨_,ag (bb (ax qr (pv 1) (aM aG (by rfl) T.cy bD (ae (pv 0) af)) (aJ _)) (aj (aw (au aK (pv 0) (pv 1)))) (aC)) zh1,?_⟩
  k_all
  k_mem
  refine ⟨_,.inl hS,?_⟩
  rw [List.length_map]
  k_upd
  split
  ·rename_i hlt
   k_upd
   exact ⟨_,hS,_,eQ hk hlt,q⟩
  ·rename_i hlt
   rw [KD (by omega)] at q
   k_upd
   exact q
variable (fm:Def K mg "_law_at" Ax Ak LZ Je)(oi:aI P w K mg base CX0 1 LZ Je Ak (Jg K Z))
def ND (c k n:Int)(H:Hp)(_:Nat)(σ:St)(H':Hp):Prop:=H'=H/\∃r t,σ=[some (.int c),some (.int k),some (.int n),some (.int r),t,none]
noncomputable def DC (K:PySem.W.Frag)(Z:Adr):Sp:=fun vs H Q _=>∃(c k n:Int),vs=[.int c,.int k,.int n]/\0<=k/\k<=100000/\0 < n/\∀r:Int,0<=r->r < n->Q (.int r) H
theorem JU {f:Addr}{fd:FuncData}(F:Fun K "_law_draw" "_law_draw" rz f fd)(T:Txt K mg Z):aI P w K mg base CX0 1 f fd rf (DC K Z):=by
 refine F.ok oK (fun vs H Q E h=>?_) (fun cdv A outer s H vs Q E hr h=>?_)
 ·obtain ⟨c,k,n,rfl,hk0,hk1,hn,q⟩:=h
  rfl
 ·obtain ⟨c,k,n,rfl,hk0,hk1,hn,q⟩:=h
  refine seg 2 (aj (aw (aS cV (aS ni (aS cV (aS kl (pv 5) (aS cb (pv 5) ah)) ah) ah) (pv 2)))) fun zt2 zh2=>?_
  k_all
  intro ze2
  refine seg 1 (ag (aL (i:=5) oK.nd rfl orL (aS cV (aS cb (aS cb (aS kl (pv 0) ah) (aS kl (pv 1) ah)) ah) ah)) zh2) fun zt1 zh1=>?_
  k_all
  intro ze1
  refine ⟨_,ag (bb (ax bI (aS cV (pv 0) ah) ah (aJ _)) (ag (aL (i:=3) oK.nd rfl orL (aS ni (pv 0) ah)) (ag (dA PassesOwn.never rfl (cw (by rfl) T.c7 (ae (pv 1) af)) (aB (i:=4) oK.nd rfl orL) (aj (aL (i:=3) oK.nd rfl orL (aS ni (pv 3) ah)))) (aj (aw (aS cV (aS cV (pv 3) ah) (pv 2)))))) (aC)) zh1,?_⟩
  k_all
  k_mem
  split
  ·k_upd
   refine ⟨by omega,by omega,cN (ND c k n H) ⟨rfl,_,_,rfl⟩ ?_ ?_⟩
   ·rintro i σ H' hi ⟨rfl,r,t,rfl⟩
    k_mem
    exact ⟨rfl,_,_,rfl⟩
   ·rintro σ H' ⟨rfl,r,t,rfl⟩
    k_mem
    exact ⟨hn,q _ (Int.emod_nonneg _ (by omega)) (Int.emod_lt_of_pos _ hn)⟩
  ·k_upd
   refine ⟨.inl ⟨by omega,by omega⟩,hn,q _ (Int.emod_nonneg _ (by omega)) (Int.emod_lt_of_pos _ hn)⟩
variable (aU:Def K mg "_law_draw" rz rf Ge Du)(cI:aI P w K mg base CX0 1 Ge Du rf (DC K Z))
noncomputable def Bc (K:PySem.W.Frag)(Z:Adr):Sp:=fun vs H Q _=>∃(a:Addr) (ns:List Int) (k:Int),vs=[.ref a,.int k]/\SqL K H a (ns.map V.int)/\0<=k/\k < ns.length/\∀n:Int,Q (.int n) H
theorem HW {f:Addr}{fd:FuncData}(F:Fun K "_law_mixed" "_law_mixed" oM f fd)(T:Txt K mg Z):aI P w K mg base CX0 1 f fd oz (Bc K Z):=by
 refine F.ok vA (fun vs H Q E h=>?_) (fun cdv A outer s H vs Q E hr h=>?_)
 ·obtain ⟨a,ns,k,rfl,hS,hk0,hk1,q⟩:=h
  rfl
 ·obtain ⟨a,ns,k,rfl,hS,hk0,hk1,q⟩:=h
  refine ⟨_,ag (aL (i:=2) vA.nd rfl orL (au aK (pv 0) (pv 1))) (ag (bb (ax bI (aS cV (au aK (pv 0) ah) ah) ah (aJ _)) (aj (aw (pv 2))) (aC)) (ag (aL (i:=3) vA.nd rfl orL (aS cV (aS cb (aS cb (aS kl (pv 2) ah) (aS kl (pv 1) ah)) ah) ah)) (aj (aw (aS cV (aS kl (pv 3) (aS cb (pv 3) ah)) ah))))),?_⟩
  k_all
  k_mem
  refine ⟨_,hS,_,eQ hk0 hk1,_,hS,_,eQ (ns:=ns) (k:=0) (by omega) (by omega),?_⟩
  k_mem
  split
  ·exact q _
  ·exact ⟨.inl ⟨by omega,by omega⟩,q _⟩
variable (tN:Def K mg "_law_mixed" oM oz Dj AW)(DD:aI P w K mg base CX0 1 Dj AW oz (Bc K Z))
def Rl (a:Addr)(c pl:Int)(dp:Int)(ds:List Int)(H:Hp)(i:Nat)(σ:St)(H':Hp):Prop:=H'=H/\(∃t,σ=[some (.ref a),some (.int c),some (.int pl),some (.int dp),t])/\∀j,j < i->ds.getD j 0≠dp
theorem two_deep {p q c:Int}(h0:0<=c)(h1:c < 2):atI [V.int p,V.int q] c=some (.int (if c=0 then p else q)):=by
 rcases (by omega:c=0\/c=1) with rfl | rfl<;>rfl
noncomputable def Jh (K:PySem.W.Frag)(Z:Adr):Sp:=fun vs H Q _=>∃(a:Addr) (ds:List Int) (c pl:Int),vs=[.ref a,.int c,.int pl]/\SqL K H a (ds.map V.int)/\cM ds/\0<=c/\c < 2/\∀H',av H H'->Q (.int ((cj ds pl c).getD (-1))) H'
theorem NF {f:Addr}{fd:FuncData}(F:Fun K "_law_by" "_law_by" Ay f fd)(T:Txt K mg Z):aI P w K mg base CX0 1 f fd Al (Jh K Z):=by
 refine F.ok EG (fun vs H Q E h=>?_) (fun cdv A outer s H vs Q E hr h=>?_)
 ·obtain ⟨a,ds,c,pl,rfl,hS,hsh,h0,h1,q⟩:=h
  rfl
 ·obtain ⟨a,ds,c,pl,rfl,hS,hsh,h0,h1,q⟩:=h
  refine seg 2 (aj (aw (jn fA ah))) fun zt2 zh2=>?_
  k_all
  intro ze2
  refine seg 1 (ag (dA PassesOwn.never rfl (cw (by rfl) T.c7 (ae (aM aG (by rfl) T.cy bD (ae (pv 0) af)) af)) (aB (i:=4) EG.nd rfl orL) (aj (bb (ax bI (au aK (pv 0) (pv 4)) (pv 3) (aJ _)) (aj (aw (pv 4))) (aC)))) zh2) fun zt1 zh1=>?_
  k_all
  intro ze1
  refine ⟨_,ag (aL (i:=3) EG.nd rfl orL (au aK (bC (ae (pv 2) (ae (aS eS (au aK (pv 0) (jn fA ah)) (pv 2)) af))) (pv 1))) zh1,?_⟩
  k_all
  have l6:=hsh.l6
  have l2:=hsh.l2
  k_mem
  refine ⟨_,hS,_,Ej (by omega),?_⟩
  k_mem
  refine ⟨by decide,fun p hp=>⟨_,SqL.of ai,_,two_deep h0 h1,?_⟩⟩
  have s1:=(av.refl H).lay (o:=HO.lst [V.int pl,V.int (cv ds - pl)]) hp
  generalize upd H p (HO.lst [V.int pl,V.int (cv ds - pl)])=H1 at *
  have ec:cj ds pl c=lvl ds (if c=0 then pl else cv ds - pl):=by unfold cj;split<;>rfl
  generalize (if c=0 then pl else cv ds - pl)=dp at *
  k_mem
  refine ⟨_,.inl (s1.seq hS),by omega,by rw [List.length_map];omega,?_⟩
  k_upd
  refine cN (Rl a c pl dp ds H1) ⟨rfl,⟨_,rfl⟩,fun _ h=>absurd h (Nat.not_lt_zero _)⟩ ?_ ?_
  ·rintro i σ H' hi ⟨rfl,⟨t,rfl⟩,hj⟩
   rw [List.length_map] at hi
   have hi':i < ds.length:=by omega
   k_mem
   refine ⟨_,s1.seq hS,_,by rw [Int.zero_add];exact kH hi',?_⟩
   k_mem
   split
   ·rename_i he
    rw [Int.zero_add]
    have q':=q _ s1
    rw [ec,l5 hsh hi' he] at q'
    k_upd
    exact q'
   ·rename_i he
    k_upd
    refine ⟨rfl,⟨_,rfl⟩,fun j hj'=>?_⟩
    by_cases e:j=i
    ·rw [e];exact he
    ·exact hj j (by omega)
  ·rintro σ H' ⟨rfl,⟨t,rfl⟩,hj⟩
   k_mem
   have q':=q _ s1
   rw [ec,Fg (fun i hi=>hj i (by rw [List.length_map];omega))] at q'
   k_upd
   exact q'
variable (ja:Def K mg "_law_by" Ay Al L3 Jf)(vI:aI P w K mg base CX0 1 L3 Jf Al (Jh K Z))
theorem NG (x:List V)(k:Nat)(h:k < x.length):vS x none (some (k:Int))=x.take k/\¬(HT.sIx x.length 0 none=0/\HT.sIx x.length x.length (some (k:Int))=x.length):=by
 have e:HT.sIx x.length x.length (some (k:Int))=k:=by simp only [HT.sIx];split<;>omega
 refine ⟨?_,fun z=>by rw [e] at z;omega⟩
 unfold vS
 rw [e]
 simp [HT.sIx]
theorem NH (x:List V)(k:Nat)(h0:0 < k)(h:k<=x.length):vS x (some (k:Int)) none=x.drop k/\¬(HT.sIx x.length 0 (some (k:Int))=0/\HT.sIx x.length x.length none=x.length):=by
 have e:HT.sIx x.length 0 (some (k:Int))=k:=by simp only [HT.sIx];split<;>omega
 refine ⟨?_,fun z=>by rw [e] at z;omega⟩
 unfold vS
 rw [e]
 simp only [HT.sIx]
 exact List.take_of_length_le (by simp)
theorem L6 (x:List V)(k:Nat)(v:V)(h:k < x.length):x.take k++[v]++x.drop (k+1)=x.set k v:=by
 rw [List.set_eq_take_append_cons_drop,if_pos h,List.append_assoc];rfl
noncomputable def DE (K:PySem.W.Frag)(Z:Adr):Sp:=fun vs H Q _=>∃(t:Addr) (x:List V) (k:Int) (s:V),vs=[.ref t,.int k,s]/\SqT K H t x/\0<=k/\k < x.length/\x.length<=100/\∀p H',av H H'->H' p=some (.tup (x.set k.toNat s))->Q (.ref p) H'
theorem JV {f:Addr}{fd:FuncData}(F:Fun K "_law_swap" "_law_swap" rB f fd)(T:Txt K mg Z):aI P w K mg base CX0 1 f fd rh (DE K Z):=by
 refine F.ok JS (fun vs H Q E h=>?_) (fun cdv A outer s H vs Q E hr h=>?_)
 ·obtain ⟨t,x,k,s,rfl,hT,h0,h1,hl,q⟩:=h
  rfl
 ·obtain ⟨t,x,k,s,rfl,hT,h0,h1,hl,q⟩:=h
  refine ⟨_,aj (aw (aS IH (aS IH (z6 Kt (pv 0) Io (zK (pv 1))) (bq (ae (pv 2) af))) (z6 Kt (pv 0) (zK (aS cb (pv 1) ah)) Io))),?_⟩
  k_all
  obtain ⟨k,rfl⟩:=Int.eq_ofNat_of_zero_le h0
  rw [Int.toNat_natCast,←L6 x k s (by omega)] at q
  obtain ⟨c1,n1⟩:=NG x k (by omega)
  obtain ⟨c2,n2⟩:=NH x (k+1) (by omega) (by omega)
  k_mem
  rw [show ((k:Int)+1)=((k+1:Nat):Int) from rfl]
  k_upd
  refine ⟨_,hT,n1,?_⟩
  rw [c1]
  refine fun p1 h1'=>⟨by decide,fun p2 h2'=>⟨_,upo ai h2',_,ai,(by rw [List.length_take];show _+1<=1000;omega),fun p3 H3 s3 t3=>?_⟩⟩
  have s2:=(((av.refl H).lay h1').lay h2').trans s3
  k_upd
  refine ⟨_,s2.tup hT,n2,?_⟩
  rw [c2]
  refine fun p4 h4=>⟨_,upo t3 h4,_,ai,(by simp only [List.length_append,List.length_take,List.length_drop,List.length_singleton];omega),fun p5 H5 s5 t5=>?_⟩
  k_upd
  exact q p5 H5 ((s2.lay h4).trans s5) t5
variable (iV:Def K mg "_law_swap" rB rh Gf Dv)(xu:aI P w K mg base CX0 1 Gf Dv rh (DE K Z))
theorem JW {w s t:Int}(hs:1<=s)(h1:w<=t * s)(h2:t=0\/(t - 1) * s < w)(h0:0<=t)(hw:0<=w):t=l9 w s:=by
 have c:=Hd (w:=w) (s:=s) hw (by omega)
 unfold l9
 generalize (w+s - 1) / s=u at *
 obtain ⟨u0,u1,u2,_⟩:=c
 rcases Int.lt_trichotomy t u with h | h | h
 ·exfalso
  have:t<=u - 1:=by omega
  have:=Int.mul_le_mul_of_nonneg_right this (show 0<=s by omega)
  omega
 ·exact h
 ·exfalso
  rcases h2 with rfl | h2
  ·omega
  ·have:u<=t - 1:=by omega
   have:=Int.mul_le_mul_of_nonneg_right this (show 0<=s by omega)
   omega
noncomputable def Be (K:PySem.W.Frag)(Z:Adr):Sp:=fun vs H Q _=>∃(wy sp:Int),vs=[.int wy,.int sp]/\0<=wy/\wy<=100000/\1<=sp/\sp<=100000/\Q (.int (l9 wy sp)) H
theorem HX {f:Addr}{fd:FuncData}(F:Fun K "_law_lasts" "_law_lasts" oQ f fd)(T:Txt K mg Z):aI P w K mg base CX0 1 f fd oF (Be K Z):=by
 refine F.ok vB (fun vs H Q E h=>?_) (fun cdv A outer s H vs Q E hr h=>?_)
 ·obtain ⟨wy,sp,rfl,h0,h1,h2,h3,q⟩:=h
  rfl
 ·obtain ⟨wy,sp,rfl,h0,h1,h2,h3,q⟩:=h
  refine seg 2 (aj (aw (pv 2))) fun zt2 zh2=>?_
  k_all
  intro ze2
  refine seg 1 (ag (Kj PassesOwn.never (ax qr (aS kl (pv 2) (pv 1)) (pv 0) (aJ _)) (aj (aL (i:=2) vB.nd rfl orL (aS cb (pv 2) ah)))) zh2) fun zt1 zh1=>?_
  k_all
  intro ze1
  refine ⟨_,ag (aL (i:=2) vB.nd rfl orL ah) zh1,?_⟩
  k_all
  k_mem
  refine Km (fun σ H'=>H'=H/\∃t:Int,σ=[some (.int wy),some (.int sp),some (.int t)]/\0<=t/\t<=wy/\(t=0\/(t - 1) * sp < wy)) (fun σ H'=>match σ with | [_,_,some (.int t)]=>(wy - t).toNat | _=>0) ⟨rfl,0,rfl,by omega,by omega,.inl rfl⟩ ?_ ?_
  ·rintro σ H' ⟨rfl,t,rfl,t0,t1,t2⟩
   k_mem
   have tm:t * 1<=t * sp:=Int.mul_le_mul_of_nonneg_left h2 t0
   k_upd
   refine ⟨.inl ⟨by omega,by omega⟩,?_⟩
   k_upd
   split
   ·rename_i hlt
    k_upd
    refine ⟨⟨rfl,t+1,rfl,by omega,by omega,.inr (by rw [Int.add_sub_cancel];exact hlt)⟩,?_⟩
    show (wy - (t+1)).toNat < (wy - t).toNat
    omega
   ·rename_i hge
    rw [←JW h2 (by omega) t2 t0 h0] at q
    k_upd
    exact q
  ·intro σ H' R R' hq h
   exact onO.mono (fun v=>onO.mono fun v1=>onI.mono fun i=>onI.mono fun j=>And.imp_right (onO.mono fun v2=>onI.mono fun j2=>onI.mono fun j3 z=>by split at z<;>rename_i c<;>(first | rw [if_pos c] | rw [if_neg c])<;>exact hq _ _ z)) h
variable (tO:Def K mg "_law_lasts" oQ oF Dk AX)(DF:aI P w K mg base CX0 1 Dk AX oF (Be K Z))
def Gu (p lt:Addr)(ks:List Str)(ws:List Int)(H:Hp)(i:Nat)(σ:St)(H':Hp):Prop:=H'=H/\(∃t,σ=[some (.ref p),some (.ref lt),t])/\∀j k x,j < i->ks[j]?=some k->ws[j]?=some x->(decide (k="men") && decide (x=10\/x=11))=false
noncomputable def Bf (K:PySem.W.Frag)(Z:Adr):Sp:=fun vs H Q _=>∃(p dl cl ll lt:Addr) (g:Cfg) (lds:List Ld) (ws:List Int),vs=[.ref p,.ref lt]/\gp K H p dl cl ll g lds/\SqT K H lt (ws.map V.int)/\ws.length=lds.length/\ws.length<=30/\(∀x∈ws,x < 10\/x=10\/x=11)/\Q (.int (if Fi g.ks ws=true then g.slow else g.fast)) H
theorem HY {f:Addr}{fd:FuncData}(F:Fun K "_law_speed" "_law_speed" oR f fd)(T:Txt K mg Z):aI P w K mg base CX0 1 f fd oG (Bf K Z):=by
 refine F.ok Az (fun vs H Q E h=>?_) (fun cdv A outer s H vs Q E hr h=>?_)
 ·obtain ⟨p,dl,cl,ll,lt,g,lds,ws,rfl,hP,hL,hlen,h30,hwr,q⟩:=h
  rfl
 ·obtain ⟨p,dl,cl,ll,lt,g,lds,ws,rfl,hP,hL,hlen,h30,hwr,q⟩:=h
  refine seg 1 (aj (aw (au aK (pv 0) ah))) fun zt1 zh1=>?_
  k_all
  intro ze1
  refine ⟨_,ag (dA PassesOwn.never rfl (cw (by rfl) T.c7 (ae (aM aG (by rfl) T.cy bD (ae (pv 1) af)) af)) (aB (i:=2) Az.nd rfl orL) (aj (bb (nZ (ax Cw (au aE (pv 1) (pv 2)) ah (aJ _)) (lM (ax bI (au aE (au aK (au aK (pv 0) ah) (pv 2)) ah) aR (aJ _)))).pt (aj (aw (au aK (pv 0) ah))) (aC)))) zh1,?_⟩
  k_all
  obtain ⟨hp,_,_,⟨bs,hll,hT2⟩,ek⟩:=id hP
  have hbl:=hT2.1
  k_mem
  refine ⟨_,.inr hL,by omega,by rw [List.length_map];omega,?_⟩
  rw [List.length_map]
  k_upd
  refine cN (Gu p lt g.ks ws H) ⟨rfl,⟨_,rfl⟩,fun j _ _ hj=>absurd hj (Nat.not_lt_zero _)⟩ ?_ ?_
  ·rintro i σ H' hi ⟨rfl,⟨t,rfl⟩,hj⟩
   have hi':i < ws.length:=by omega
   have hw:ws[i]?=some (ws.getD i 0):=ou hi'
   have hx:=hwr _ (df hi')
   have ha:bs[i]?=some (bs[i]'(by omega)):=List.getElem?_eq_getElem (by omega)
   have hld:lds[i]?=some (lds[i]'(by omega)):=List.getElem?_eq_getElem (by omega)
   have hrow:=hT2.2 i _ _ ha hld
   have hk:g.ks[i]?=some (lds[i]'(by omega)).1:=by rw [ek,List.getElem?_map,hld];rfl
   have no:(decide ((lds[i]'(by omega)).1="men") && decide (ws.getD i 0=10\/ws.getD i 0=11))=false->Gu p lt g.ks ws H' (i+1) [some (V.ref p),some (V.ref lt),some (V.int (0+(i:Int)))] H':=fun hn=>by
    refine ⟨rfl,⟨_,rfl⟩,fun j k x hj' e1 e2=>?_⟩
    by_cases e:j=i
    ·subst e
     rw [hk] at e1;rw [hw] at e2
     cases e1;cases e2
     exact hn
    ·exact hj j k x (by omega) e1 e2
   k_mem
   refine ⟨_,hL,_,by rw [Int.zero_add];exact kH hi',?_⟩
   k_mem
   split
   ·rename_i h10
    k_upd
    refine ⟨_,SqL.of hp,_,rfl,?_⟩
    k_mem
    refine ⟨_,SqL.of hll,_,by rw [Int.zero_add];exact pP (by rw [List.getElem?_map,ha];rfl),?_⟩
    k_mem
    refine ⟨_,hrow,_,rfl,?_⟩
    k_mem
    split
    ·rename_i hm
     have hm':(lds[i]'(by omega)).1="men":=hm
     rw [Fj hk hw hm' (by omega),if_pos rfl] at q
     k_upd
     exact ⟨_,SqL.of hp,_,rfl,q⟩
    ·rename_i hm
     exact no (by rw [decide_eq_false hm];rfl)
   ·rename_i h10
    exact no (by rw [decide_eq_false (p:=ws.getD i 0=10\/ws.getD i 0=11) (by omega),Bool.and_false])
  ·rintro σ H' ⟨rfl,⟨t,rfl⟩,hj⟩
   k_mem
   rw [CJ hj (.inr (by omega)),if_neg Bool.false_ne_true] at q
   k_upd
   exact ⟨_,SqL.of hp,_,rfl,q⟩
variable (tP:Def K mg "_law_speed" oR oG Dl AY)(DG:aI P w K mg base CX0 1 Dl AY oG (Bf K Z))
theorem JX (ls:List Cd):dJ (ls.map fun _=>false)=[]:=by
 unfold dJ n9
 rw [List.filter_eq_nil_iff.mpr]
 ·rfl
 ·intro j _
  rw [Ph]
  exact Bool.false_ne_true
noncomputable def Bg (K:PySem.W.Frag)(Z:Adr):Sp:=fun vs H Q _=>∃(p dl cl ll:Addr) (ds:List Int) (ls:List Cd) (slow fast:Int) (lds:List Ld) (N0:Addr->Prop),vs=[.ref p]/\gp K H p dl cl ll (fI ds ls slow fast lds N0) lds/\2<=ds.length/\ds.length<=6/\lds.length<=30/\∀a H',av H H'->ma K H' a (eU ds ls lds,0)->Q (.ref a) H'
theorem HZ {f:Addr}{fd:FuncData}(F:Fun K "_law_first" "_law_first" oS f fd)(T:Txt K mg Z):aI P w K mg base CX0 1 f fd oH (Bg K Z):=by
 refine F.ok vC (fun vs H Q E h=>?_) (fun cdv A outer s H vs Q E hr h=>?_)
 ·obtain ⟨p,dl,cl,ll,ds,ls,slow,fast,lds,N0,rfl,hP,l2,l6,h30,q⟩:=h
  rfl
 ·obtain ⟨p,dl,cl,ll,ds,ls,slow,fast,lds,N0,rfl,hP,l2,l6,h30,q⟩:=h
  refine seg 2 (aj (aw (bq (ae (au aK (au aK (pv 0) ah) ah) (ae (aS MJ (bq (ae ft af)) (pv 1)) (ae (pv 2) (ae (bq (ae aR (ae gf (ae gf (ae gf af))))) (ae (bq af) (ae ah af))))))))) fun zt2 zh2=>?_
  k_all
  intro ze2
  refine seg 1 (ag (aL (i:=2) vC.nd rfl orL (bK ua (by rfl) T.tM ot (ae (qs ["_law_one"] [none] (fz (au aK (pv 0) ah)) (fun _ _ _ _=>(aB (i:=0) (show (["_law_one"]:List Str).Nodup by decide +kernel) rfl orL)) (fun _ _ _ _=>kv) (fun _ _ _ _=>(au (show IxR _ (E6 K) from aE) (pv 0) ah))) af))) zh2) fun zt1 zh1=>?_
  k_all
  intro ze1
  refine ⟨_,ag (aL (i:=1) vC.nd rfl orL (aM aG (by rfl) T.cy bD (ae (au aK (pv 0) ah) af))) zh1,?_⟩
  k_all
  obtain ⟨hp,hdl,_,⟨bs,hll,hT2⟩,_⟩:=id hP
  replace hdl:H dl=some (HO.lst (ds.map V.int)):=hdl
  replace hp:H p=some (HO.lst [V.ref dl,V.ref cl,V.int slow,V.int fast,V.ref ll]):=hp
  have hbl:=hT2.1
  k_mem
  refine ⟨_,SqL.of hp,_,rfl,?_⟩
  k_mem
  refine ⟨_,.inl (SqL.of hdl),?_⟩
  rw [List.length_map]
  k_upd
  refine ⟨_,SqL.of hp,_,rfl,?_⟩
  k_mem
  refine ⟨⟨_,SqL.of hll⟩,?_⟩
  refine MK (fun x=>.int x.2.1) ⟨bs,SqL.of hll,hT2⟩ (by rw [sizeLine_eq];omega) rfl (fun b x hb N hN=>by k_mem;exact ⟨_,hb,_,rfl,hN⟩) fun l1 hl1=>?_
  have s1:=(av.refl H).lay (o:=HO.lst (lds.map fun x=>V.int x.2.1)) hl1
  k_mem
  refine ⟨_,.inl ⟨SqL.of ai,fun lt hlt=>?_⟩⟩
  have s2:=s1.lay (o:=HO.tup (lds.map fun x=>V.int x.2.1)) hlt
  have ht2:upd (upd H l1 (HO.lst (lds.map fun x=>V.int x.2.1))) lt (HO.tup (lds.map fun x=>V.int x.2.1)) lt=some (HO.tup ((lds.map (·.2.1)).map V.int)):=by rw [ai,List.map_map];rfl
  generalize upd (upd H l1 (HO.lst (lds.map fun x=>V.int x.2.1))) lt (HO.tup (lds.map fun x=>V.int x.2.1))=H2 at *
  k_upd
  refine ⟨_,SqL.of (s2 _ _ hp),_,rfl,?_⟩
  k_mem
  refine ⟨_,SqL.of (s2 _ _ hdl),_,eQ (k:=0) (by omega) (by omega),by decide,fun p1 hp1=>⟨_,SqT.of ai,by omega,by omega,fun gt hgt=>⟨by decide,fun ht hht=>⟨by decide,fun dt hdt=>⟨by decide,fun a ha=>?_⟩⟩⟩⟩⟩
  have eg:List.replicate ((ds.length:Nat):Int).toNat (V.bl false)=(ds.map fun _=>false).map V.bl:=by
   rw [List.map_map,Int.toNat_natCast]
   exact (List.map_const' (l:=ds) (b:=V.bl false)).symm
  refine q a _ (((((s2.lay hp1).lay hgt).lay hht).lay hdt).lay ha) ⟨gt,lt,ht,dt,SqT.of ai,SqT.of ?_,upo (upo (upo (upo (upo ht2 hp1) hgt) hht) hdt) ha,SqT.of (upo (upo ai hdt) ha),SqT.of ?_⟩
  ·rw [upo (upo (upo ai hht) hdt) ha,eg];rfl
  ·rw [upo ai ha]
   show _=some (HO.tup ((dJ (ls.map fun _=>false)).map V.int))
   rw [JX];rfl
variable (tQ:Def K mg "_law_first" oS oH Dm AZ)(DH:aI P w K mg base CX0 1 Dm AZ oH (Bg K Z))
noncomputable def Bh (K:PySem.W.Frag)(Z:Adr):Sp:=fun vs H Q _=>∃(ht dd:Addr) (g:Cfg) (n:aY) (d:Dd),vs=[.ref ht,.ref dd]/\SqT K H ht (pQ n.e)/\SqT K H dd (ddV d)/\g0 g n d=none/\∀h H',av H H'->SqT K H' h (pQ (Ae g n d))->Q (.ref h) H'
theorem Ia {f:Addr}{fd:FuncData}(F:Fun K "_law_heard" "_law_heard" oU f fd)(T:Txt K mg Z):aI P w K mg base CX0 1 f fd oI (Bh K Z):=by
 refine F.ok AA (fun vs H Q E h=>?_) (fun cdv A outer s H vs Q E hr h=>?_)
 ·obtain ⟨ht,dd,g,n,d,rfl,hH,hD,hr,q⟩:=h
  rfl
 ·obtain ⟨ht,dd,g,n,d,rfl,hH,hD,hr,q⟩:=h
  refine seg 3 (aj (aw (pv 0))) fun zt3 zh3=>?_
  k_all
  intro ze3
  refine seg 2 (ag (bb (ax bI (au aE (pv 1) ah) aR (aJ _)) (aj (aw (bq (ae aR (ae (au aE (pv 0) ah) (ae (au aE (pv 0) ah) (ae (au aE (pv 0) ah) af))))))) (aC)) zh3) fun zt2 zh2=>?_
  k_all
  intro ze2
  refine seg 1 (ag (bb (ax bI (au aE (pv 1) ah) aR (aJ _)) (ag (aL (i:=2) AA.nd rfl orL (au aK (bC (ae aR (ae aR af))) (bK lW (by rfl) T.wK pL (ae (gm bI (au aE (pv 1) ah) (au aE (pv 0) ah) (aJ _)) af)))) (aj (aw (bq (ae (pv 2) (ae (au aE (pv 0) ah) (ae (au aE (pv 0) ah) (ae (au aE (pv 1) ah) af)))))))) (aC)) zh2) fun zt1 zh1=>?_
  k_all
  intro ze1
  refine ⟨_,ag (bb (ax bI (au aE (pv 1) ah) aR (aJ _)) (aj (aw (bq (ae aR (ae (au aE (pv 1) ah) (ae (au aE (pv 1) ah) (ae gf af))))))) (aC)) zh1,?_⟩
  k_all
  have q0:Ae g n d=n.e->Q (.ref ht) H:=fun e=>q ht H (av.refl H) (by rw [e];exact hH)
  cases d with
  | ring l s=>
   k_mem
   refine ⟨_,hD,_,rfl,?_⟩
   k_mem
   rw [if_pos rfl]
   k_upd
   refine ⟨_,hD,_,rfl,_,hD,_,rfl,by decide,fun p hp=>?_⟩
   k_upd
   exact q p _ ((av.refl H).lay hp) (SqT.of ai)
  | rept s=>
   obtain ⟨l,r,e,_⟩:=Fn hr
   have ee:Ae g n (.rept s)=if s=r then .armed l r else .other l r s:=by simp only [Ae,e]
   rw [e] at hH
   rw [ee] at q
   k_mem
   refine ⟨_,hD,_,rfl,?_⟩
   k_mem
   rw [if_neg (by decide)]
   k_upd
   refine ⟨_,hD,_,rfl,?_⟩
   k_mem
   rw [if_pos rfl]
   k_upd
   refine ⟨by decide,fun p1 hp1=>⟨_,((av.refl H).lay hp1).tup hD,_,rfl,_,((av.refl H).lay hp1).tup hH,_,rfl,?_⟩⟩
   k_mem
   have s1:=(av.refl H).lay (o:=HO.lst [V.str (Str.ofString "repeated otherwise"),V.str (Str.ofString "armed")]) hp1
   k_upd
   refine ⟨_,SqL.of ai,.str (if s=r then "armed" else "repeated otherwise"),?_,_,s1.tup hH,_,rfl,_,s1.tup hH,_,rfl,_,s1.tup hD,_,rfl,by decide,fun p hp=>?_⟩
   ·by_cases h:s=r
    ·simp only [h,decide_true,if_true];rfl
    ·simp only [h,decide_false,if_false,Bool.false_eq_true];rfl
   ·refine q p _ (s1.lay hp) (SqT.of ?_)
    rw [ai]
    by_cases h:s=r
    ·subst h;simp only [if_true];rfl
    ·rw [if_neg h,if_neg h];rfl
  | wind c l k=>
   obtain ⟨_,_,e⟩:=qZ hr
   rw [e] at hH
   k_mem
   refine ⟨_,hD,_,rfl,?_⟩
   k_mem
   rw [if_neg (by decide)]
   k_upd
   refine ⟨_,hD,_,rfl,?_⟩
   k_mem
   rw [if_neg (by decide)]
   k_upd
   refine ⟨_,hD,_,rfl,?_⟩
   k_mem
   rw [if_pos rfl]
   k_upd
   refine ⟨_,hH,_,rfl,_,hH,_,rfl,_,hH,_,rfl,by decide,fun p hp=>?_⟩
   k_upd
   exact q p _ ((av.refl H).lay hp) (SqT.of ai)
  | _=>
   k_mem
   refine ⟨_,hD,_,rfl,?_⟩
   k_mem
   rw [if_neg (by decide)]
   k_upd
   refine ⟨_,hD,_,rfl,?_⟩
   k_mem
   rw [if_neg (by decide)]
   k_upd
   refine ⟨_,hD,_,rfl,?_⟩
   k_mem
   rw [if_neg (by decide)]
   k_upd
   exact q0 rfl
variable (tR:Def K mg "_law_heard" oU oI Dn A1)(DJ:aI P w K mg base CX0 1 Dn A1 oI (Bh K Z))
noncomputable def sN (K:PySem.W.Frag)(Z:Adr):Sp:=fun vs H Q E=>∃(lv m:Int),vs=[.int lv,.int m]/\(0<=lv/\lv < m->Q .non H)/\(¬(0<=lv/\lv < m)->E (.ref Z.aN) none H)
include cQ i9 in
theorem Bi {f:Addr}{fd:FuncData}(F:Fun K "check_level" "check_level" iz f fd)(T:Txt K mg Z):aI P w K mg base (CXf P w) 2 f fd hJ (sN K Z):=by
 refine F.okF Am (fun vs H Q E h=>?_) (fun cdv A outer s H vs Q E hr h=>?_)
 ·obtain ⟨lv,m,rfl,q1,q2⟩:=h
  rfl
 ·obtain ⟨lv,m,rfl,q1,q2⟩:=h
  refine ⟨_,aj (bb (eN (dj (aF i9 hr.dn (by rfl) cQ.m cQ.F.kp cQ.b .nil aO (ae (pv 0) (ae (pv 1) af))))) (aj (bE T.AH (by rfl) T.rH (ae aR af))) (aC)),?_⟩
  k_all
  k_mem
  refine ⟨_,_,rfl,?_⟩
  k_mem
  split
  ·rename_i h
   k_upd
   exact ⟨by decide,q2 h⟩
  ·rename_i h
   k_upd
   exact q1 (by simpa using h)
variable (aW:Def K mg "check_level" iz hJ um rZ)(bO:aI P w K mg base (CXf P w) 2 um rZ hJ (sN K Z))
noncomputable def uY (K:PySem.W.Frag)(Z:Adr):Sp:=fun vs H Q E=>∃(n m:Int),vs=[.int n,.int m]/\(0<=n/\n < m->Q .non H)/\(¬(0<=n/\n < m)->E (.ref Z.dG) none H)
include cQ i9 in
theorem Ci {f:Addr}{fd:FuncData}(F:Fun K "check_load" "check_load" jL f fd)(T:Txt K mg Z):aI P w K mg base (CXf P w) 2 f fd ju (uY K Z):=by
 refine F.okF BO (fun vs H Q E h=>?_) (fun cdv A outer s H vs Q E hr h=>?_)
 ·obtain ⟨n,m,rfl,q1,q2⟩:=h
  rfl
 ·obtain ⟨n,m,rfl,q1,q2⟩:=h
  refine ⟨_,aj (bb (eN (dj (aF i9 hr.dn (by rfl) cQ.m cQ.F.kp cQ.b .nil aO (ae (pv 0) (ae (pv 1) af))))) (aj (bE T.B4 (by rfl) T.B0 (ae aR af))) (aC)),?_⟩
  k_all
  k_mem
  refine ⟨_,_,rfl,?_⟩
  k_mem
  split
  ·rename_i h
   k_upd
   exact ⟨by decide,q2 h⟩
  ·rename_i h
   k_upd
   exact q1 (by simpa using h)
variable (eM:Def K mg "check_load" jL ju wV uF)(lV:aI P w K mg base (CXf P w) 2 wV uF ju (uY K Z))
def Rm (l:Addr)(m:Int)(ls:List Ld)(H:Hp)(i:Nat)(σ:St)(H':Hp):Prop:=H'=H/\(∃t u v,σ=[some (.ref l),some (.int m),t,u,v])/\∀(j:Nat) x,j < i->ls[j]?=some x->l4 m x
noncomputable def sO (K:PySem.W.Frag)(Z:Adr):Sp:=fun vs H Q E=>∃(l:Addr) (ls:List Ld) (m:Int),vs=[.ref l,.int m]/\iX K H l ls/\((ls.length<=30/\∀x∈ls,l4 m x)->Q .non H)/\(¬(ls.length<=30/\∀x∈ls,l4 m x)->E (.ref Z.lh) none H)
include cQ i9 in
theorem Bj {f:Addr}{fd:FuncData}(F:Fun K "check_loads" "check_loads" iA f fd)(T:Txt K mg Z):aI P w K mg base (CXf P w) 2 f fd hV (sO K Z):=by
 refine F.okF jM (fun vs H Q E h=>?_) (fun cdv A outer s H vs Q E hr h=>?_)
 ·obtain ⟨l,ls,m,rfl,hL,q1,q2⟩:=h
  rfl
 ·obtain ⟨l,ls,m,rfl,hL,q1,q2⟩:=h
  refine seg 1 (aj (dA yh rfl (fz (pv 0)) (jm rfl (aQ (aB (i:=2) jM.nd rfl orL) (aQ (aB (i:=3) jM.nd rfl orL) (aQ (aB (i:=4) jM.nd rfl orL) dz)))) (aj (bb (kh (eN (dj (aF i9 hr.dn (by rfl) cQ.m cQ.F.kp cQ.b .nil aO (ae (pv 3) (ae (pv 1) af))))) (jl (eN (dj (aF i9 hr.dn (by rfl) cQ.m cQ.F.kp cQ.b .nil aO (ae (pv 4) (ae (pv 1) af))))))).pt (aj (bE T.AJ (by rfl) T.AE (ae aR af))) (aC))))) fun zt1 zh1=>?_
  k_all
  intro ze1
  refine ⟨_,ag (bb (ax zW (aM aG (by rfl) T.cy bD (ae (pv 0) af)) (eT (by rfl) T.EI) (aJ _)) (aj (bE T.AJ (by rfl) T.AE (ae aR af))) (aC)) zh1,?_⟩
  k_all
  obtain ⟨as,hS,hlen,hT⟩:=id hL
  k_mem
  refine ⟨_,.inl hS,?_⟩
  rw [List.length_map]
  k_upd
  split
  ·k_upd
   exact ⟨by decide,q2 fun h=>by omega⟩
  ·k_upd
   refine ⟨⟨_,hS⟩,?_⟩
   k_upd
   refine jc (as.map V.ref) (Rm l m ls H) ⟨rfl,⟨_,_,_,rfl⟩,fun j x h=>absurd h (Nat.not_lt_zero _)⟩ (fun i σ H' _ ⟨e,_⟩=>by rw [e];exact hS) ?_ ?_
   ·rintro i x σ H' hx ⟨rfl,⟨t,u,v,rfl⟩,hj⟩
    rw [List.getElem?_map] at hx
    obtain ⟨a,ea,rfl⟩:=Option.map_eq_some_iff.mp hx
    have hi:i < as.length:=(List.getElem?_eq_some_iff.mp ea).1
    have el:ls[i]?=some ls[i]:=List.getElem?_eq_getElem (by omega)
    have hm:ls[i]∈ls:=List.getElem_mem _
    k_mem
    refine ⟨_,hT i a _ ea el,rfl,?_⟩
    k_mem
    refine ⟨_,_,rfl,?_⟩
    k_mem
    split
    ·rename_i h1
     k_upd
     exact ⟨by decide,q2 fun h=>h1 (h.2 _ hm).1⟩
    ·rename_i h1
     k_upd
     refine ⟨_,_,rfl,?_⟩
     k_mem
     split
     ·rename_i h2
      k_upd
      exact ⟨by decide,q2 fun h=>h2 (h.2 _ hm).2⟩
     ·rename_i h2
      k_upd
      refine ⟨rfl,⟨_,_,_,rfl⟩,fun j x hj' hx=>?_⟩
      by_cases e:j=i
      ·rw [e,el] at hx
       cases hx
       k_upd
       exact ⟨by omega,by omega⟩
      ·exact hj j x (by omega) hx
   ·rintro σ H' ⟨rfl,⟨t,u,v,rfl⟩,hj⟩
    k_mem
    refine q1 ⟨by omega,fun x hx=>?_⟩
    obtain ⟨j,hj1,rfl⟩:=List.getElem_of_mem hx
    rw [List.length_map] at hj
    exact hj j _ (by omega) (List.getElem?_eq_getElem hj1)
variable (kB:Def K mg "check_loads" iA hV uo r6)(uZ:aI P w K mg base (CXf P w) 2 uo r6 hV (sO K Z))
def Rn (l:Addr)(m:Int)(ls:List Cd)(H:Hp)(i:Nat)(σ:St)(H':Hp):Prop:=H'=H/\(∃t u,σ=[some (.ref l),some (.int m),t,u])/\∀(j:Nat) x,j < i->ls[j]?=some x->gx x
noncomputable def sP (K:PySem.W.Frag)(Z:Adr):Sp:=fun vs H Q E=>∃(l:Addr) (ls:List Cd) (m:Int),vs=[.ref l,.int m]/\n8 cdV K H l ls/\(((ls.length:Int)=m/\∀x∈ls,gx x)->Q .non H)/\(¬((ls.length:Int)=m/\∀x∈ls,gx x)->E (.ref Z.lj) none H)
include cH iU in
theorem Bk {f:Addr}{fd:FuncData}(F:Fun K "check_codes" "check_codes" iC f fd)(T:Txt K mg Z):aI P w K mg base (CXf P w) 2 f fd ie (sP K Z):=by
 refine F.okF mn (fun vs H Q E h=>?_) (fun cdv A outer s H vs Q E hr h=>?_)
 ·obtain ⟨l,ls,m,rfl,hL,q1,q2⟩:=h
  rfl
 ·obtain ⟨l,ls,m,rfl,hL,q1,q2⟩:=h
  refine seg 1 (aj (dA yh rfl (fz (pv 0)) (jm rfl (aQ (aB (i:=2) mn.nd rfl orL) (aQ (aB (i:=3) mn.nd rfl orL) dz))) (ag (bb (kh (eN (dj (aF iU hr.dn (by rfl) cH.m cH.F.kp cH.b .nil aO (ae (pv 2) af)))) (jl (eN (dj (aF iU hr.dn (by rfl) cH.m cH.F.kp cH.b .nil aO (ae (pv 3) af)))))).pt (aj (bE T.vG (by rfl) T.vE (ae aR af))) (aC)) (aj (bb (ax bI (pv 2) (pv 3) (aJ _)) (aj (bE T.vG (by rfl) T.vE (ae aR af))) (aC)))))) fun zt1 zh1=>?_
  k_all
  intro ze1
  refine ⟨_,ag (bb (ax qp (aM aG (by rfl) T.cy bD (ae (pv 0) af)) (pv 1) (aJ _)) (aj (bE T.vG (by rfl) T.vE (ae aR af))) (aC)) zh1,?_⟩
  k_all
  obtain ⟨as,hS,hlen,hT⟩:=id hL
  k_mem
  refine ⟨_,.inl hS,?_⟩
  rw [List.length_map]
  k_upd
  split
  ·k_upd
   exact ⟨by decide,q2 fun h=>by omega⟩
  ·k_upd
   refine ⟨⟨_,hS⟩,?_⟩
   k_upd
   refine jc (as.map V.ref) (Rn l m ls H) ⟨rfl,⟨_,_,rfl⟩,fun j x h=>absurd h (Nat.not_lt_zero _)⟩ (fun i σ H' _ ⟨e,_⟩=>by rw [e];exact hS) ?_ ?_
   ·rintro i x σ H' hx ⟨rfl,⟨t,u,rfl⟩,hj⟩
    rw [List.getElem?_map] at hx
    obtain ⟨a,ea,rfl⟩:=Option.map_eq_some_iff.mp hx
    have hi:i < as.length:=(List.getElem?_eq_some_iff.mp ea).1
    have el:ls[i]?=some ls[i]:=List.getElem?_eq_getElem (by omega)
    have hm:ls[i]∈ls:=List.getElem_mem _
    k_mem
    refine ⟨_,hT i a _ ea el,rfl,?_⟩
    k_mem
    refine ⟨_,rfl,?_⟩
    k_mem
    split
    ·rename_i h1
     k_upd
     exact ⟨by decide,q2 fun h=>h1 (h.2 _ hm).1⟩
    ·rename_i h1
     k_upd
     refine ⟨_,rfl,?_⟩
     k_mem
     split
     ·rename_i h2
      k_upd
      exact ⟨by decide,q2 fun h=>h2 (h.2 _ hm).2.1⟩
     ·rename_i h2
      k_upd
      split
      ·rename_i h3
       k_upd
       exact ⟨by decide,q2 fun h=>(h.2 _ hm).2.2 h3⟩
      ·rename_i h3
       k_upd
       refine ⟨rfl,⟨_,_,rfl⟩,fun j x hj' hx=>?_⟩
       by_cases e:j=i
       ·rw [e,el] at hx
        cases hx
        k_upd
        exact ⟨by omega,by omega,h3⟩
       ·exact hj j x (by omega) hx
   ·rintro σ H' ⟨rfl,⟨t,u,rfl⟩,hj⟩
    k_mem
    refine q1 ⟨by omega,fun x hx=>?_⟩
    obtain ⟨j,hj1,rfl⟩:=List.getElem_of_mem hx
    exact hj j _ (by rw [List.length_map];omega) (List.getElem?_eq_getElem hj1)
variable (kC:Def K mg "check_codes" iC ie uq r8)(u6:aI P w K mg base (CXf P w) 2 uq r8 ie (sP K Z))
noncomputable def qN (K:PySem.W.Frag)(Z:Adr):Sp:=fun vs H Q E=>∃(b cs fl st:Addr) (ls:List Cd) (fs:List Bool) (e:Eng) (s:Int),vs=[.ref b,.int s]/\bR Z.bZ K H b cs fl st ls fs e/\
 ((∀l r,e≠.wait l r)->E (.ref Z.eL) none H)/\
 (∀l r,e=.wait l r->¬(1<=s/\s<=9)->E (.ref Z.mE) none H)/\
 (∀l r,e=.wait l r->(1<=s/\s<=9)->∀st' p H',H p=none->aA b H H'->bR Z.bZ K H' b cs fl st' ls fs (if s=r then .armed l r else .other l r s)->SqT K H' p [.bl (decide (s=r)),.int r,.int s]->Q (.ref p) H')
include cH iU in
theorem zF {f:Addr}{fd:FuncData}(F:Fun K "repeat" "Bells.repeat" gH f fd)(T:Txt K mg Z):aI P w K mg base (CXf P w) 2 f fd gz (qN K Z):=by
 refine F.okF iZ (fun vs H Q E h=>?_) (fun cdv A outer s H vs Q E hr h=>?_)
 ·obtain ⟨b,cs,fl,st,ls,fs,e,s,rfl,hB,q1,q2,q3⟩:=h
  rfl
 ·obtain ⟨b,cs,fl,st,ls,fs,e,s,rfl,hB,q1,q2,q3⟩:=h
  refine ⟨_,ag (bb (ax qp (au aE (aH (pv 0) (by rfl)) ah) aR (aJ _)) (aj (bE T.B7 (by rfl) T.B1 (ae aR af))) (aC)) (ag (bb (eN (dj (aF iU hr.dn (by rfl) cH.m cH.F.kp cH.b .nil aO (ae (pv 1) af)))) (aj (bE T.FV (by rfl) T.FJ (ae aR af))) (aC)) (ag (aL (i:=2) iZ.nd rfl orL (au aE (aH (pv 0) (by rfl)) ah)) (ag (aL (i:=3) iZ.nd rfl orL (au aE (aH (pv 0) (by rfl)) ah)) (ag (aL (i:=4) iZ.nd rfl orL (gm bI (pv 1) (pv 3) (aJ _))) (ag (c9 (pv 0) (bq (ae (E1 (dj (pv 4)) aR aR) (ae (pv 2) (ae (pv 3) (ae (pv 1) af))))) rfl) (aj (aw (bq (ae (pv 4) (ae (pv 3) (ae (pv 1) af))))))))))),?_⟩
  k_all
  obtain ⟨⟨dx,hob⟩,⟨as,hcs,hT⟩,hfl,hst,nn,ln⟩:=id hB
  k_mem
  refine ⟨_,_,_,hob,T.bt,T.bU,_,rfl,?_⟩
  k_mem
  cases e with
  | wait l r=>
   refine ⟨_,hst,_,rfl,?_⟩
   k_mem
   refine ⟨_,rfl,?_⟩
   k_mem
   split
   ·rename_i h
    exact ⟨by decide,q2 l r rfl h⟩
   ·rename_i h
    have hs:1<=s/\s<=9:=by simpa using h
    refine ⟨_,_,_,hob,T.bt,T.bU,_,rfl,?_⟩
    k_mem
    refine ⟨_,hst,_,rfl,?_⟩
    k_mem
    refine ⟨_,_,_,hob,T.bt,T.bU,_,rfl,?_⟩
    k_mem
    refine ⟨_,hst,_,rfl,?_⟩
    k_mem
    split
    ·rename_i hr
     refine ⟨by decide,fun st' hst'=>⟨_,_,_,upo hob hst',T.bt,T.bU,by show 3 < 1000;decide,by decide,fun p hp=>?_⟩⟩
     have nsx:st'≠b:=fun z=>by rw [z,hob] at hst';cases hst'
     have hpn:=upn (aA.free (H':=upd (upd H st' (HO.tup [V.str (Str.ofString "armed"),V.int l,V.int r,V.int s])) b (HO.ins Z.bZ dx (bL "state" (.ref st') [("codes",V.ref cs),("failed",V.ref fl),("state",V.ref st)]))) (p:=b) ((aA.of (av.refl _)).put) (fun z=>by rw [z,ai] at hp;cases hp) hp)
     have k:=((aA.of ((av.refl H).lay (o:=HO.tup [V.str (Str.ofString "armed"),V.int l,V.int r,V.int s]) hst')).put (o:=HO.ins Z.bZ dx (bL "state" (.ref st') [("codes",V.ref cs),("failed",V.ref fl),("state",V.ref st)])) (p:=b))
     refine q3 l r rfl hs st' p _ hpn (k.trans (aA.of ((av.refl _).lay hp))) ?_ (SqT.of ?_)
     ·refine (hB.state k (dx:=dx) (by rw [ai];rfl) (SqT.of (xs:=pQ (if s=r then .armed l r else .other l r s)) ?_)).same ((av.refl _).lay hp)
      rw [aV nsx,ai,if_pos hr,hr];rfl
     ·rw [ai]
    ·rename_i hr
     refine ⟨by decide,fun st' hst'=>⟨_,_,_,upo hob hst',T.bt,T.bU,by show 3 < 1000;decide,by decide,fun p hp=>?_⟩⟩
     have nsx:st'≠b:=fun z=>by rw [z,hob] at hst';cases hst'
     have hpn:=upn (aA.free (H':=upd (upd H st' (HO.tup [V.str (Str.ofString "repeated otherwise"),V.int l,V.int r,V.int s])) b (HO.ins Z.bZ dx (bL "state" (.ref st') [("codes",V.ref cs),("failed",V.ref fl),("state",V.ref st)]))) (p:=b) ((aA.of (av.refl _)).put) (fun z=>by rw [z,ai] at hp;cases hp) hp)
     have k:=((aA.of ((av.refl H).lay (o:=HO.tup [V.str (Str.ofString "repeated otherwise"),V.int l,V.int r,V.int s]) hst')).put (o:=HO.ins Z.bZ dx (bL "state" (.ref st') [("codes",V.ref cs),("failed",V.ref fl),("state",V.ref st)])) (p:=b))
     refine q3 l r rfl hs st' p _ hpn (k.trans (aA.of ((av.refl _).lay hp))) ?_ (SqT.of ?_)
     ·refine (hB.state k (dx:=dx) (by rw [ai];rfl) (SqT.of (xs:=pQ (if s=r then .armed l r else .other l r s)) ?_)).same ((av.refl _).lay hp)
      rw [aV nsx,ai,if_neg hr];rfl
     ·rw [ai]
  | _=>
   refine ⟨_,hst,_,rfl,?_⟩
   k_mem
   first
   | rw [if_pos (by decide)]
   | skip
   exact ⟨by decide,q1 fun l r z=>Eng.noConfusion z⟩
variable (mQ:bu K Z.bZ "repeat" "Bells.repeat" gH gz rQ qF)(sQ:aI P w K mg base (CXf P w) 2 rQ qF gz (qN K Z))
noncomputable def sR (K:PySem.W.Frag)(Z:Adr):Sp:=fun vs H Q _=>∃(a:Addr) (ds:List Int) (p:Int),vs=[.ref a,.int p]/\SqL K H a (ds.map V.int)/\0 < ds.length/\Q (.int (cv ds - p)) H
include lT xp in
theorem Bl {f:Addr}{fd:FuncData}(F:Fun K "other_place" "other_place" iD f fd)(T:Txt K mg Z):aI P w K mg base CX0 2 f fd ig (sR K Z):=by
 refine F.ok Ao (fun vs H Q E h=>?_) (fun cdv A outer s H vs Q E hr h=>?_)
 ·obtain ⟨a,ds,p,rfl,hS,hl,q⟩:=h
  rfl
 ·obtain ⟨a,ds,p,rfl,hS,hl,q⟩:=h
  refine ⟨_,aj (aw (aS eS (aF xp hr.dn (by rfl) lT.m lT.F.kp lT.b .nil aO (ae (pv 0) af)) (pv 1))),?_⟩
  k_all
  k_mem
  refine ⟨a,ds,rfl,hS,hl,?_⟩
  k_mem
  exact q
variable (cu:Def K mg "other_place" iD ig ur r9)(fY:aI P w K mg base CX0 2 ur r9 ig (sR K Z))
noncomputable def u7 (K:PySem.W.Frag)(Z:Adr):Sp:=fun vs H Q E=>∃(bk rl dd s:Addr) (g:Cfg) (n0 n:aY) (rs:List Row) (tk sp:Int) (dv:List V),vs=[.ref bk,.ref dd,.int tk,.int sp,.ref s]/\BAt (clZ Z) K H bk rl g n0 rs/\SqT K H dd dv/\gn (clZ Z) K H rl g s n/\(300<=rs.length->E (.ref Z.iQ) none H)/\(rs.length < 300->∀H',aA rl H H'->BAt (clZ Z) K H' bk rl g n0 (rs++[⟨bw rs,bw rs+tk,dv,sp,n⟩])->Q .non H')
include fF ko in
theorem Cj {f:Addr}{fd:FuncData}(F:Fun K "write" "Book.write" jV f fd)(T:Txt K mg Z):aI P w K mg base (CXf P w) 2 f fd jD (u7 K Z):=by
 refine F.okF uc (fun vs H Q E h=>?_) (fun cdv A outer s H vs Q E hr h=>?_)
 ·obtain ⟨bk,rl,dd,s0,g,n0,n,rs,tk,sp,dv,rfl,hB,hD,hS,q1,q2⟩:=h
  rfl
 ·obtain ⟨bk,rl,dd,s0,g,n0,n,rs,tk,sp,dv,rfl,hB,hD,hS,q1,q2⟩:=h
  refine seg 2 (aj (bB (vU PySem.F.plainAttrs_list PySem.F.slot_list_append PySem.F.type_list_append jb (aH (pv 0) (by rfl)) (ae (bq (ae (pv 5) (ae (aS cb (pv 5) (pv 2)) (ae (pv 1) (ae (pv 3) (ae (pv 4) af)))))) af)))) fun zt2 zh2=>?_
  k_all
  intro ze2
  refine seg 1 (ag (aL (i:=5) uc.nd rfl orL (ba (pv 0) T.bg fF.M ko hr.dn fF.b .nil aO)) zh2) fun zt1 zh1=>?_
  k_all
  intro ze1
  refine ⟨_,ag (bb (ax Cw (aM aG (by rfl) T.cy bD (ae (aH (pv 0) (by rfl)) af)) (aH (pv 0) (by rfl)) (aJ _)) (aj (bE T.HQ (by rfl) T.Hw (ae aR af))) (aC)) zh1,?_⟩
  k_all
  obtain ⟨⟨dx,f0,hob,hF⟩,as,hrl,hR⟩:=id hB
  have hl:=hR.1
  k_mem
  refine ⟨_,_,_,hob,T.bg,T.cf,_,rfl,?_⟩
  k_mem
  refine ⟨_,.inl (SqL.of hrl),_,_,_,hob,T.bg,T.wL,_,rfl,?_⟩
  k_mem
  rw [List.length_map]
  k_upd
  split
  ·k_upd
   exact ⟨by decide,q1 (by omega)⟩
  ·rename_i hlt
   k_upd
   refine ⟨_,_,hob,rfl,_,_,_,_,_,rfl,hB,?_⟩
   k_mem
   refine ⟨_,_,_,hob,T.bg,T.cf,_,rfl,?_⟩
   k_mem
   refine ⟨.inl ⟨rfl,_,SqL.of hrl⟩,by decide,fun p hp=>⟨_,upo hrl hp,dX (by rw [List.length_map];omega),?_⟩⟩
   have s1:=(av.refl H).lay (o:=HO.tup [V.int (bw rs),V.int (bw rs+tk),V.ref dd,V.int sp,V.ref s0]) hp
   have hrl1:=upo (o:=HO.tup [V.int (bw rs),V.int (bw rs+tk),V.ref dd,V.int sp,V.ref s0]) hrl hp
   have k1:L2.aA rl H (upd (upd H p (HO.tup [V.int (bw rs),V.int (bw rs+tk),V.ref dd,V.int sp,V.ref s0])) rl (HO.lst (as.map V.ref++[V.ref p]))):=(aA.of s1).put
   refine q2 (by omega) _ k1 ⟨⟨dx,f0,k1 _ _ (fun z=>by rw [z,hrl] at hob;cases hob) hob,hF.keep k1 hrl⟩,as++[p],by rw [ai,List.map_append];rfl,?_⟩
   exact (hR.keep k1 hrl).push ⟨dd,s0,(SqT.of ai).rew hrl1,hD.keep k1 hrl,hS.keep k1 hrl⟩
variable (p7:bu K Z.pY "write" "Book.write" jV jD wW uG)(xv:aI P w K mg base (CXf P w) 2 wW uG jD (u7 K Z))
noncomputable def lK (K:PySem.W.Frag)(Z:Adr):Sp:=fun vs H Q E=>∃(bk rl:Addr) (g:Cfg) (n0:aY) (rs:List Row) (t:Int),vs=[.ref bk,.int t]/\BAt (clZ Z) K H bk rl g n0 rs/\(0<=t/\t<=bw rs->Q .non H)/\(¬(0<=t/\t<=bw rs)->E (.ref Z.cO) none H)
include fF ko in
theorem t6 {f:Addr}{fd:FuncData}(F:Fun K "refuse_tick" "Book.refuse_tick" dO f fd)(T:Txt K mg Z):aI P w K mg base (CXf P w) 2 f fd dM (lK K Z):=by
 refine F.okF tY (fun vs H Q E h=>?_) (fun cdv A outer s H vs Q E hr h=>?_)
 ·obtain ⟨bk,rl,g,n0,rs,t,rfl,hB,q1,q2⟩:=h
  rfl
 ·obtain ⟨bk,rl,g,n0,rs,t,rfl,hB,q1,q2⟩:=h
  refine ⟨_,aj (bb (kh (ax qr (pv 1) ah (aJ _)) (jl (ax zW (pv 1) (ba (pv 0) T.bg fF.M ko hr.dn fF.b .nil aO) (aJ _)))).pt (aj (bE T.LY (by rfl) T.FL (ae aR af))) (aC)),?_⟩
  k_all
  obtain ⟨⟨dx,f0,hob,hF⟩,as,hrl,hR⟩:=id hB
  k_mem
  split
  ·rename_i h
   k_upd
   exact ⟨by decide,q2 (by omega)⟩
  ·rename_i h
   k_upd
   refine ⟨_,_,hob,rfl,_,_,_,_,_,rfl,hB,?_⟩
   k_mem
   split
   ·rename_i h2
    k_upd
    exact ⟨by decide,q2 (by omega)⟩
   ·rename_i h2
    k_upd
    exact q1 (by omega)
variable (cY:bu K Z.pY "refuse_tick" "Book.refuse_tick" dO dM mG lI)(fG:aI P w K mg base (CXf P w) 2 mG lI dM (lK K Z))
noncomputable def mR (K:PySem.W.Frag)(Z:Adr):Sp:=fun vs H Q E=>∃(w bk rl:Addr) (g:Cfg) (n0:aY) (rs:List Row),vs=[.ref w]/\WAt (clZ Z) K H w bk rl g n0 rs/\(rs=[]->E (.ref Z.fv) none H)/\
 (∀rs' r,rs=rs'++[r]->∀p H',aA rl H H'->WAt (clZ Z) K H' w bk rl g n0 rs'->SqT K H' p r.deed->Q (.ref p) H')
include oh uX in
theorem vJ {f:Addr}{fd:FuncData}(F:Fun K "take_back" "Works.take_back" eK f fd)(T:Txt K mg Z):aI P w K mg base (CXf P w) 2 f fd eB (mR K Z):=by
 refine F.okF vz (fun vs H Q E h=>?_) (fun cdv A outer s H vs Q E hr h=>?_)
 ·obtain ⟨w,bk,rl,g,n0,rs,rfl,hW,q1,q2⟩:=h
  rfl
 ·obtain ⟨w,bk,rl,g,n0,rs,rfl,hW,q1,q2⟩:=h
  refine ⟨_,aj (aw (ba (aH (pv 0) (by rfl)) T.bg oh.M uX hr.dn oh.b .nil bT)),?_⟩
  k_all
  obtain ⟨⟨dx,dl,gl,hob,hdl,hgl,n1,n2⟩,hB⟩:=id hW
  obtain ⟨⟨db,f0,hbo,hF⟩,as,hrl,hR⟩:=id hB
  k_mem
  refine ⟨_,_,_,hob,T.aD,T.bh,_,rfl,?_⟩
  k_mem
  exact ⟨_,_,hbo,rfl,_,_,_,_,_,rfl,hB,q1,fun rs2 r e p H' k hB2 hp=>q2 rs2 r e p H' k (hW.keep k hrl hB2) hp⟩
variable (kb:bu K Z.bF "take_back" "Works.take_back" eK eB nD mJ)(nP:aI P w K mg base (CXf P w) 2 nD mJ eB (mR K Z))
noncomputable def lL (K:PySem.W.Frag)(Z:Adr):Sp:=fun vs H Q _=>∃(w bk rl:Addr) (g:Cfg) (n0:aY) (rs:List Row) (s:Addr) (n:aY),vs=[.ref w,.ref s]/\WAt (clZ Z) K H w bk rl g n0 rs/\gn (clZ Z) K H rl g s n/\g.ks.length=n.ws.length/\∀H',av H H'->Q (.int (cS g n)) H'
include j8 nO in
theorem t8 {f:Addr}{fd:FuncData}(F:Fun K "speed_with" "Works.speed_with" dP f fd)(T:Txt K mg Z):aI P w K mg base CX0 2 f fd dN (lL K Z):=by
 refine F.ok tZ (fun vs H Q E h=>?_) (fun cdv A outer s H vs Q E hr h=>?_)
 ·obtain ⟨w,bk,rl,g,n0,rs,s0,n,rfl,hW,hS,hl,q⟩:=h
  rfl
 ·obtain ⟨w,bk,rl,g,n0,rs,s0,n,rfl,hW,hS,hl,q⟩:=h
  refine ⟨_,aj (aw (E1 (dj (ba (aH (pv 1) (by rfl)) T.bM j8.M nO hr.dn j8.b .nil aO)) (aH (pv 0) (by rfl)) (aH (pv 0) (by rfl)))),?_⟩
  k_all
  obtain ⟨⟨dx,dl,gl,hob,hdl,hgl,n1,n2⟩,hB⟩:=id hW
  obtain ⟨⟨db,f0,hbo,hF⟩,as,hrl,hR⟩:=id hB
  k_mem
  obtain ⟨A,hA⟩:=id hS
  k_upd
  refine ⟨_,_,_,hA.ob,T.aP,T.bA,_,rfl,?_⟩
  k_mem
  obtain ⟨dy,hyb⟩:=hA.ya.ob
  k_upd
  refine ⟨_,_,hyb,rfl,_,_,_,_,_,_,rfl,hA.ya,hl,fun H' s1=>?_⟩
  k_mem
  have q':=q H' s1
  unfold cS at q'
  k_upd
  split
  ·rename_i h
   k_upd
   rw [if_pos h] at q'
   k_upd
   exact ⟨_,_,_,s1 _ _ hob,T.aD,T.uf,_,rfl,q'⟩
  ·rename_i h
   k_upd
   rw [if_neg h] at q'
   k_upd
   exact ⟨_,_,_,s1 _ _ hob,T.aD,T.ug,_,rfl,q'⟩
variable (cZ:bu K Z.bF "speed_with" "Works.speed_with" dP dN mH lJ)(fH:aI P w K mg base CX0 2 mH lJ dN (lL K Z))
noncomputable def gY (K:PySem.W.Frag)(Z:Adr):Sp:=fun vs H Q E=>∃(w bk rl:Addr) (g:Cfg) (n0:aY) (rs:List Row) (lv:Int),vs=[.ref w,.int lv]/\WAt (clZ Z) K H w bk rl g n0 rs/\0<=lv/\lv < (ak n0 rs).gates.length/\((ak n0 rs).gates.getD lv.toNat false=true->Q .non H)/\((ak n0 rs).gates.getD lv.toNat false=false->E (.ref Z.iR) none H)
include az aT in
theorem nh {f:Addr}{fd:FuncData}(F:Fun K "refuse_shut_gate" "Works.refuse_shut_gate" cF f fd)(T:Txt K mg Z):aI P w K mg base (CXf P w) 2 f fd cE (gY K Z):=by
 refine F.okF ng (fun vs H Q E h=>?_) (fun cdv A outer s H vs Q E hr h=>?_)
 ·obtain ⟨w,bk,rl,g,n0,rs,lv,rfl,hW,h0,h1,q1,q2⟩:=h
  rfl
 ·obtain ⟨w,bk,rl,g,n0,rs,lv,rfl,hW,h0,h1,q1,q2⟩:=h
  refine ⟨_,aj (bb (eN (dj (au aK (aH (ba (aH (pv 0) (by rfl)) T.bg az.M aT hr.dn az.b .nil aO) (by rfl)) (pv 1)))) (aj (bE T.HS (by rfl) T.Hy (ae aR af))) (aC)),?_⟩
  k_all
  obtain ⟨⟨dx,dl,gl,hob,hdl,hgl,n1,n2⟩,hB⟩:=id hW
  obtain ⟨⟨db,f0,hbo,hF⟩,as,hrl,hR⟩:=id hB
  k_mem
  refine ⟨_,_,_,hob,T.aD,T.bh,_,rfl,?_⟩
  k_mem
  refine ⟨_,_,hbo,rfl,_,_,_,_,_,rfl,hB,fun s0 ⟨A,hA⟩=>?_⟩
  k_mem
  refine ⟨_,_,_,hA.ob,T.aP,T.cP,_,rfl,?_⟩
  k_mem
  refine ⟨_,SqL.of hA.go,_,pR h0 h1,?_⟩
  k_mem
  split
  ·rename_i h
   k_upd
   exact ⟨by decide,q2 (by simpa using h)⟩
  ·rename_i h
   k_upd
   exact q1 (by simpa using h)
variable (bY:bu K Z.bF "refuse_shut_gate" "Works.refuse_shut_gate" cF cE iT gX)(c8:aI P w K mg base (CXf P w) 2 iT gX cE (gY K Z))
noncomputable def xw (K:PySem.W.Frag)(Z:Adr):Sp:=fun vs H Q _=>∃(w bk rl:Addr) (g:Cfg) (n0:aY) (rs:List Row),vs=[.ref w]/\WAt (clZ Z) K H w bk rl g n0 rs/\Q (.int (bw rs)) H
include fF ko in
theorem EN {f:Addr}{fd:FuncData}(F:Fun K "now" "Works.now" k7 f fd)(T:Txt K mg Z):aI P w K mg base CX0 2 f fd kS (xw K Z):=by
 refine F.ok EF (fun vs H Q E h=>?_) (fun cdv A outer s H vs Q E hr h=>?_)
 ·obtain ⟨w,bk,rl,g,n0,rs,rfl,hW,q⟩:=h
  rfl
 ·obtain ⟨w,bk,rl,g,n0,rs,rfl,hW,q⟩:=h
  refine ⟨_,aj (aw (ba (aH (pv 0) (by rfl)) T.bg fF.M ko hr.dn fF.b .nil aO)),?_⟩
  k_all
  obtain ⟨⟨dx,dl,gl,hob,hdl,hgl,n1,n2⟩,hB⟩:=id hW
  obtain ⟨⟨db,f0,hbo,hF⟩,as,hrl,hR⟩:=id hB
  k_mem
  refine ⟨_,_,_,hob,T.aD,T.bh,_,rfl,?_⟩
  k_mem
  exact ⟨_,_,hbo,rfl,_,_,_,_,_,rfl,hB,q⟩
variable (jj:bu K Z.bF "now" "Works.now" k7 kS y0 xj)(nQ:aI P w K mg base CX0 2 y0 xj kS (xw K Z))
noncomputable def u9 (K:PySem.W.Frag)(Z:Adr):Sp:=fun vs H Q _=>∃(w bk rl:Addr) (g:Cfg) (n0:aY) (rs:List Row),vs=[.ref w]/\WAt (clZ Z) K H w bk rl g n0 rs/\rs.length<=1000/\∀(p:Addr) (as:List Addr) (H':Hp),H p=none->av H H'->H' p=some (.lst (as.map V.ref))->dW K H' as rs->Q (.ref p) H'
include sM zk in
theorem Ck {f:Addr}{fd:FuncData}(F:Fun K "book" "Works.book" j1 f fd)(T:Txt K mg Z):aI P w K mg base CX0 2 f fd jJ (u9 K Z):=by
 refine F.ok BX (fun vs H Q E h=>?_) (fun cdv A outer s H vs Q E hr h=>?_)
 ·obtain ⟨w,bk,rl,g,n0,rs,rfl,hW,hn,q⟩:=h
  rfl
 ·obtain ⟨w,bk,rl,g,n0,rs,rfl,hW,hn,q⟩:=h
  refine ⟨_,aj (aw (ba (aH (pv 0) (by rfl)) T.bg sM.M zk hr.dn sM.b .nil aO)),?_⟩
  k_all
  obtain ⟨⟨dx,dl,gl,hob,hdl,hgl,n1,n2⟩,hB⟩:=id hW
  obtain ⟨⟨db,f0,hbo,hF⟩,as,hrl,hR⟩:=id hB
  k_mem
  refine ⟨_,_,_,hob,T.aD,T.bh,_,rfl,?_⟩
  k_mem
  exact ⟨_,_,hbo,rfl,_,_,_,_,_,rfl,hB,hn,q⟩
variable (qa:bu K Z.bF "book" "Works.book" j1 jJ wX uH)(xx:aI P w K mg base CX0 2 wX uH jJ (u9 K Z))
noncomputable def qO (K:PySem.W.Frag)(Z:Adr):Sp:=fun vs H Q _=>∃(w bk rl:Addr) (g:Cfg) (n0:aY) (rs:List Row),vs=[.ref w]/\WAt (clZ Z) K H w bk rl g n0 rs/\∀st,SqT K H st (pQ (ak n0 rs).e)->Q (.ref st) H
include mP sq az aT in
theorem zG {f:Addr}{fd:FuncData}(F:Fun K "engine" "Works.engine" gN f fd)(T:Txt K mg Z):aI P w K mg base CX0 2 f fd gF (qO K Z):=by
 refine F.ok zz (fun vs H Q E h=>?_) (fun cdv A outer s H vs Q E hr h=>?_)
 ·obtain ⟨w,bk,rl,g,n0,rs,rfl,hW,q⟩:=h
  rfl
 ·obtain ⟨w,bk,rl,g,n0,rs,rfl,hW,q⟩:=h
  refine ⟨_,aj (aw (ba (aH (ba (aH (pv 0) (by rfl)) T.bg az.M aT hr.dn az.b .nil aO) (by rfl)) T.bt mP.M sq hr.dn mP.b .nil aO)),?_⟩
  k_all
  obtain ⟨⟨dx,dl,gl,hob,hdl,hgl,n1,n2⟩,hB⟩:=id hW
  obtain ⟨⟨db,f0,hbo,hF⟩,as,hrl,hR⟩:=id hB
  k_mem
  refine ⟨_,_,_,hob,T.aD,T.bh,_,rfl,?_⟩
  k_mem
  refine ⟨_,_,hbo,rfl,_,_,_,_,_,rfl,hB,fun s0 ⟨A,hA⟩=>?_⟩
  k_mem
  refine ⟨_,_,_,hA.ob,T.aP,T.cz,_,rfl,?_⟩
  k_mem
  obtain ⟨db2,hbb⟩:=hA.be.ob
  k_upd
  exact ⟨_,_,hbb,rfl,_,_,_,_,_,_,_,rfl,hA.be,q _ hA.be.os⟩
variable (mS:bu K Z.bF "engine" "Works.engine" gN gF rR qG)(sS:aI P w K mg base CX0 2 rR qG gF (qO K Z))
noncomputable def va (K:PySem.W.Frag)(Z:Adr):Sp:=fun vs H Q _=>∃(w bk rl:Addr) (g:Cfg) (n0:aY) (rs:List Row),vs=[.ref w]/\WAt (clZ Z) K H w bk rl g n0 rs/\(ak n0 rs).fs.length<=1000/\∀p H',H p=none->av H H'->H' p=some (.lst ((dJ (ak n0 rs).fs).map V.int))->Q (.ref p) H'
include pZ xo az aT in
theorem Cm {f:Addr}{fd:FuncData}(F:Fun K "dead" "Works.dead" j4 f fd)(T:Txt K mg Z):aI P w K mg base CX0 2 f fd jK (va K Z):=by
 refine F.ok BY (fun vs H Q E h=>?_) (fun cdv A outer s H vs Q E hr h=>?_)
 ·obtain ⟨w,bk,rl,g,n0,rs,rfl,hW,hn,q⟩:=h
  rfl
 ·obtain ⟨w,bk,rl,g,n0,rs,rfl,hW,hn,q⟩:=h
  refine ⟨_,aj (aw (ba (aH (ba (aH (pv 0) (by rfl)) T.bg az.M aT hr.dn az.b .nil aO) (by rfl)) T.bt pZ.M xo hr.dn pZ.b .nil aO)),?_⟩
  k_all
  obtain ⟨⟨dx,dl,gl,hob,hdl,hgl,n1,n2⟩,hB⟩:=id hW
  obtain ⟨⟨db,f0,hbo,hF⟩,as,hrl,hR⟩:=id hB
  k_mem
  refine ⟨_,_,_,hob,T.aD,T.bh,_,rfl,?_⟩
  k_mem
  refine ⟨_,_,hbo,rfl,_,_,_,_,_,rfl,hB,fun s0 ⟨A,hA⟩=>?_⟩
  k_mem
  refine ⟨_,_,_,hA.ob,T.aP,T.cz,_,rfl,?_⟩
  k_mem
  obtain ⟨db2,hbb⟩:=hA.be.ob
  k_upd
  exact ⟨_,_,hbb,rfl,_,_,_,_,_,_,_,rfl,hA.be,hn,q⟩
variable (qc:bu K Z.bF "dead" "Works.dead" j4 jK wY uI)(xy:aI P w K mg base CX0 2 wY uI jK (va K Z))
noncomputable def sT (K:PySem.W.Frag)(Z:Adr):Sp:=fun vs H Q _=>∃(w bk rl:Addr) (g:Cfg) (n0:aY) (rs:List Row),vs=[.ref w]/\WAt (clZ Z) K H w bk rl g n0 rs/\∀p,H p=none->Q (.ref p) (upd H p (.lst ((ak n0 rs).gates.map V.bl)))
include az aT in
theorem Bm {f:Addr}{fd:FuncData}(F:Fun K "gates" "Works.gates" iK f fd)(T:Txt K mg Z):aI P w K mg base CX0 2 f fd ir (sT K Z):=by
 refine F.ok Au (fun vs H Q E h=>?_) (fun cdv A outer s H vs Q E hr h=>?_)
 ·obtain ⟨w,bk,rl,g,n0,rs,rfl,hW,q⟩:=h
  rfl
 ·obtain ⟨w,bk,rl,g,n0,rs,rfl,hW,q⟩:=h
  refine ⟨_,aj (aw (bK bQ (by rfl) T.fD dB (ae (aH (ba (aH (pv 0) (by rfl)) T.bg az.M aT hr.dn az.b .nil aO) (by rfl)) af))),?_⟩
  k_all
  obtain ⟨⟨dx,dl,gl,hob,hdl,hgl,n1,n2⟩,hB⟩:=id hW
  obtain ⟨⟨db,f0,hbo,hF⟩,as,hrl,hR⟩:=id hB
  k_mem
  refine ⟨_,_,_,hob,T.aD,T.bh,_,rfl,?_⟩
  k_mem
  refine ⟨_,_,hbo,rfl,_,_,_,_,_,rfl,hB,fun s0 ⟨A,hA⟩=>?_⟩
  k_mem
  refine ⟨_,_,_,hA.ob,T.aP,T.cP,_,rfl,?_⟩
  k_mem
  exact ⟨_,.inl (SqL.of hA.go),q⟩
variable (oj:bu K Z.bF "gates" "Works.gates" iK ir uu sd)(vb:aI P w K mg base CX0 2 uu sd ir (sT K Z))
def sU (K:PySem.W.Frag)(Z:Adr):Sp:=fun vs H Q _=>∃(w bk rl:Addr) (g:Cfg) (n0:aY) (rs:List Row),vs=[.ref w]/\WAt (clZ Z) K H w bk rl g n0 rs/\∀p,H p=none->Q (.ref p) (upd H p (.lst ((ak n0 rs).ws.map V.int)))
include cT fE az aT in
theorem Bn {f:Addr}{fd:FuncData}(F:Fun K "spots" "Works.spots" iM f fd)(T:Txt K mg Z):aI P w K mg base CX0 2 f fd iw (sU K Z):=by
 refine F.ok Aw (fun vs H Q E h=>?_) (fun cdv A outer s H vs Q E hr h=>?_)
 ·obtain ⟨w,bk,rl,g,n0,rs,rfl,hW,q⟩:=h
  rfl
 ·obtain ⟨w,bk,rl,g,n0,rs,rfl,hW,q⟩:=h
  refine ⟨_,aj (aw (ba (aH (ba (aH (pv 0) (by rfl)) T.bg az.M aT hr.dn az.b .nil aO) (by rfl)) T.bM cT.M fE hr.dn cT.b .nil aO)),?_⟩
  k_all
  obtain ⟨⟨dx,dl,gl,hob,hdl,hgl,n1,n2⟩,hB⟩:=id hW
  obtain ⟨⟨db,f0,hbo,hF⟩,as,hrl,hR⟩:=id hB
  k_mem
  refine ⟨_,_,_,hob,T.aD,T.bh,_,rfl,?_⟩
  k_mem
  refine ⟨_,_,hbo,rfl,_,_,_,_,_,rfl,hB,fun s0 ⟨A,hA⟩=>?_⟩
  k_mem
  refine ⟨_,_,_,hA.ob,T.aP,T.bA,_,rfl,?_⟩
  k_mem
  obtain ⟨dy,hyb⟩:=hA.ya.ob
  k_upd
  exact ⟨_,_,hyb,rfl,_,_,_,_,_,_,rfl,hA.ya,q⟩
variable (om:bu K Z.bF "spots" "Works.spots" iM iw uv se)(vc:aI P w K mg base CX0 2 uv se iw (sU K Z))
def pq (K:PySem.W.Frag)(Z:Adr):Sp:=fun vs H Q _=>∃(w bk rl:Addr) (g:Cfg) (n0:aY) (rs:List Row) (c:Int),vs=[.ref w,.int c]/\WAt (clZ Z) K H w bk rl g n0 rs/\0<=c/\c < 2/\∀H',av H H'->Q (inC (ak n0 rs).ws c) H'
include bV de az aT in
theorem yD {f:Addr}{fd:FuncData}(F:Fun K "in_cage" "Works.in_cage" fU f fd)(T:Txt K mg Z):aI P w K mg base CX0 2 f fd fO (pq K Z):=by
 refine F.ok yw (fun vs H Q E h=>?_) (fun cdv A outer s H vs Q E hr h=>?_)
 ·obtain ⟨w,bk,rl,g,n0,rs,c,rfl,hW,h0,h1,q⟩:=h
  rfl
 ·obtain ⟨w,bk,rl,g,n0,rs,c,rfl,hW,h0,h1,q⟩:=h
  refine ⟨_,aj (aw (bj (aH (ba (aH (pv 0) (by rfl)) T.bg az.M aT hr.dn az.b .nil aO) (by rfl)) T.bM bV.M de hr.dn bV.b .nil aO (ae (pv 1) af))),?_⟩
  k_all
  obtain ⟨⟨dx,dl,gl,hob,hdl,hgl,n1,n2⟩,hB⟩:=id hW
  obtain ⟨⟨db,f0,hbo,hF⟩,as,hrl,hR⟩:=id hB
  k_mem
  refine ⟨_,_,_,hob,T.aD,T.bh,_,rfl,?_⟩
  k_mem
  refine ⟨_,_,hbo,rfl,_,_,_,_,_,rfl,hB,fun s0 ⟨A,hA⟩=>?_⟩
  k_mem
  refine ⟨_,_,_,hA.ob,T.aP,T.bA,_,rfl,?_⟩
  k_mem
  obtain ⟨dy,hyb⟩:=hA.ya.ob
  k_upd
  exact ⟨_,_,hyb,rfl,_,_,_,_,_,_,_,rfl,hA.ya,h0,h1,q⟩
variable (fX:bu K Z.bF "in_cage" "Works.in_cage" fU fO qv o8)(lD:aI P w K mg base CX0 2 qv o8 fO (pq K Z))
def JY (c r0 sh:Int)(l:Addr)(H:Hp)(i:Nat)(σ:St)(H':Hp):Prop:=∃(ds:List Int) (last:Int) (t u:Option V),σ=[some (.int c),some (.int (2+r0)),some (.int sh),none,some (.ref l),some (.int last),t,u]/\pN ds last/\last<=500 - (2+r0)+i/\ds.length=i/\H'=upd H l (.lst (ds.map V.int))
def zl (K:PySem.W.Frag)(Z:Adr):Sp:=fun vs H Q _=>∃(c:Int),vs=[.int c]/\∀(l:Addr) (ds:List Int) (H':Hp),H l=none->av H H'->H' l=some (.lst (ds.map V.int))->cM ds->Q (.ref l) H'
include aU cI in
theorem Gv {f:Addr}{fd:FuncData}(F:Fun K "_law_depths" "_law_depths" my f fd)(T:Txt K mg Z):aI P w K mg base CX0 2 f fd mj (zl K Z):=by
 refine F.ok dF (fun vs H Q E h=>?_) (fun cdv A outer s H vs Q E hr h=>?_)
 ·obtain ⟨c,rfl,q⟩:=h
  rfl
 ·obtain ⟨c,rfl,q⟩:=h
  refine ⟨_,ag (aL (i:=1) dF.nd rfl orL (aS cb ah (aF cI hr.dn (by rfl) aU.m aU.F.kp aU.b .nil aO (ae (pv 0) (ae ah (ae ah af)))))) (ag (aL (i:=2) dF.nd rfl orL (aF cI hr.dn (by rfl) aU.m aU.F.kp aU.b .nil aO (ae (pv 0) (ae ah (ae ah af))))) (ag (bb (ax bI (pv 2) ah (aJ _)) (ag (aL (i:=3) dF.nd rfl (Or.inr rfl) (aS cb ah (aF cI hr.dn (by rfl) aU.m aU.F.kp aU.b .nil aO (ae (pv 0) (ae ah (ae ah af)))))) (aj (aw (qs ["_law_k","_law_gap"] [none,some 3] (cw (by rfl) T.c7 (ae (pv 1) af)) (fun _ _ _ _=>(aB (i:=0) (show (["_law_k","_law_gap"]:List Str).Nodup by decide +kernel) rfl orL)) (fun _ _ _ _=>kv) (fun _ _ _ _=>(aS kl (pv 1) (pv 0))))))) (aC)) (ag (aL (i:=4) dF.nd rfl orL (bC af)) (ag (aL (i:=5) dF.nd rfl orL (jn fA ah)) (ag (dA PassesOwn.never rfl (cw (by rfl) T.c7 (ae (pv 1) af)) (aB (i:=6) dF.nd rfl orL) (ag (aL (i:=7) dF.nd rfl orL (aS eS (aS cb (aS eS ah (pv 1)) (pv 6)) (pv 5))) (ag (bb (ax bI (pv 2) ah (aJ _)) (aj (aL (i:=7) dF.nd rfl orL (aM (tx rfl) (by rfl) T.IS Ef (ae (pv 7) (ae ah af))))) (aC)) (ag (aL (i:=5) dF.nd rfl orL (aS cb (aS cb (pv 5) ah) (aF cI hr.dn (by rfl) aU.m aU.F.kp aU.b .nil aO (ae (pv 0) (ae (aS cb ah (pv 6)) (ae (pv 7) af)))))) (aj (bB (vU PySem.F.plainAttrs_list PySem.F.slot_list_append PySem.F.type_list_append jb (pv 4) (ae (pv 5) af)))))))) (ag (bb (nZ (ax bI (pv 2) ah (aJ _)) (lM (ax bI (aF cI hr.dn (by rfl) aU.m aU.F.kp aU.b .nil aO (ae (pv 0) (ae ah (ae ah af)))) ah (aJ _)))).pt (aj (aw (aS Ed (aS Ed (bC (ae ah af)) (z6 Mr (pv 4) (zK ah) (zK (jn fA ah)))) (bC (ae ah af))))) (aC)) (aj (aw (pv 4))))))))),?_⟩
  k_all
  k_mem
  refine ⟨c,0,5,rfl,by omega,by omega,by omega,fun r0 h0 h0'=>?_⟩
  k_mem
  refine ⟨c,1,4,rfl,by omega,by omega,by omega,fun sh h1 h1'=>?_⟩
  k_mem
  split
  ·refine ⟨c,2,100,rfl,by omega,by omega,by omega,fun r2 h2 h2'=>?_⟩
   k_mem
   refine ⟨by omega,by omega,Eh (fun i=>V.int ((1+r2) * (i:Int))) (Nat.le_trans (by omega:(2+r0).toNat<=1000) (by decide)) rfl (fun i hi N q=>?_) (fun p hp=>?_)⟩
   ·k_mem
    rw [Int.zero_add]
    exact ⟨.inl ⟨by omega,by omega⟩,q⟩
   ·refine q p ((List.range (2+r0).toNat).map fun (i:Nat)=>(1+r2) * (i:Int)) _ hp (fun b o e=>?_) ?_ (cM.even (by omega) (by omega) (by omega) (by omega))
    ·rw [aV (aq e hp)];exact e
    ·rw [ai,List.map_map];rfl
  ·refine ⟨by decide,fun l hln=>⟨by omega,by omega,cN (JY c r0 sh l H) ⟨[],-1,_,_,rfl,pN.nil,by omega,rfl,rfl⟩ ?_ ?_⟩⟩
   ·rintro i σ H' hi ⟨ds,last,t,u,rfl,hR,hla,hlen,rfl⟩
    have l0:=hR.l0
    k_mem
    split
    all_goals
     refine ⟨c,_,_,rfl,by omega,by omega,by (try split)<;>omega,fun r hr0 hr1=>?_⟩
     k_mem
     refine ⟨.inl ⟨rfl,_,SqL.of ai⟩,_,ai,dX (by rw [List.length_map];omega),ds++[last+1+r],last+1+r,_,_,rfl,hR.snoc hr0,?_,by rw [List.length_append,hlen];rfl,?_⟩
     ·(try split at hr1)<;>omega
     ·rw [Mg,List.map_append];rfl
   ·rintro σ H' ⟨ds,last,t,u,rfl,hR,hla,hlen,rfl⟩
    have hsh:=hR.shaft (by omega) (by omega) (by omega)
    have hQ0:Q (V.ref l) (upd H l (HO.lst (List.map V.int ds))):=q l ds _ hln ((av.refl H).lay hln) ai hsh
    k_mem
    split
    ·refine ⟨c,8,4,rfl,by omega,by omega,by omega,fun r hr0 hr1=>?_⟩
     k_mem
     split
     ·refine ⟨by decide,fun p1 hp1=>⟨_,SqL.of (upo ai hp1),fun p2 hp2=>⟨_,upo ai hp2,_,ai,?_,fun p3 hp3=>⟨by decide,fun p4 hp4=>⟨_,upo ai hp4,_,ai,?_,fun p5 hp5=>?_⟩⟩⟩⟩⟩
      ·have:=nq (List.map V.int ds) (some 1) (some (-1))
       rw [List.length_map] at this
       exact Nat.le_of_lt (dX (by rw [List.length_singleton];omega))
      ·have:=nq (List.map V.int ds) (some 1) (some (-1))
       rw [List.length_map] at this
       exact Nat.le_of_lt (dX (by rw [List.length_append,List.length_singleton,List.length_singleton];omega))
      ·refine q p5 ([0]++(ds.drop 1).take (ds.length - 1 - 1)++[500]) _ (upn (upn (upn (upn (upn hp5))))) ((((((av.refl H).lay hln).lay hp1).lay hp2).lay hp3).lay hp4 |>.lay hp5) ?_ hsh.ends
       rw [ai,KH ds hsh.l2,List.map_append,List.map_append]
       rfl
     ·exact hQ0
    ·exact hQ0
variable (qd:Def K mg "_law_depths" my mj AR zd)(Bo:aI P w K mg base CX0 2 AR zd mj (zl K Z))
def L7 (K:PySem.W.Frag)(c m:Int)(l:Addr)(H:Hp)(i:Nat)(σ:St)(H':Hp):Prop:=av H H'/\∃(as:List Addr) (ls:List Cd) (t u:Option V),σ=[some (.int c),some (.int m),some (.ref l),t,u]/\H' l=some (.lst (as.map V.ref))/\dI cdV K H' as ls/\ls.length=i/\∀x∈ls,gx x
def Bp (K:PySem.W.Frag)(Z:Adr):Sp:=fun vs H Q _=>∃(c m:Int),vs=[.int c,.int m]/\0<=m/\m<=500/\∀(l:Addr) (as:List Addr) (ls:List Cd) (H':Hp),H l=none->av H H'->H' l=some (.lst (as.map V.ref))->dI cdV K H' as ls->(ls.length:Int)=m->(∀x∈ls,gx x)->Q (.ref l) H'
include aU cI in
theorem Ib {f:Addr}{fd:FuncData}(F:Fun K "_law_codes" "_law_codes" oN f fd)(T:Txt K mg Z):aI P w K mg base CX0 2 f fd oA (Bp K Z):=by
 refine F.ok pX (fun vs H Q E h=>?_) (fun cdv A outer s H vs Q E hr h=>?_)
 ·obtain ⟨c,m,rfl,h0,h1,q⟩:=h
  rfl
 ·obtain ⟨c,m,rfl,h0,h1,q⟩:=h
  refine ⟨_,ag (aL (i:=2) pX.nd rfl orL (bC af)) (ag (dA PassesOwn.never rfl (cw (by rfl) T.c7 (ae (pv 1) af)) (aB (i:=3) pX.nd rfl orL) (ag (aL (i:=4) pX.nd rfl orL (aS cb ah (aF cI hr.dn (by rfl) aU.m aU.F.kp aU.b .nil aO (ae (pv 0) (ae (aS kl ah (pv 3)) (ae ah af)))))) (aj (bB (vU PySem.F.plainAttrs_list PySem.F.slot_list_append PySem.F.type_list_append jb (pv 2) (ae (bq (ae (pv 4) (ae (aS cb ah (aS cV (aS cb (pv 4) (aF cI hr.dn (by rfl) aU.m aU.F.kp aU.b .nil aO (ae (pv 0) (ae (aS cb (aS kl ah (pv 3)) ah) (ae ah af))))) ah)) af))) af)))))) (aj (aw (pv 2)))),?_⟩
  k_all
  k_mem
  refine ⟨by decide,fun l hl=>⟨by omega,by omega,?_⟩⟩
  refine cN (L7 K c m l H) ⟨(av.refl H).lay hl,[],[],_,_,rfl,ai,dI.nil,rfl,fun x hx=>by cases hx⟩ ?_ ?_
  ·rintro i σ H' hi ⟨s1,as,ls,t,u,rfl,hl',hT,hlen,hg⟩
   k_mem
   refine ⟨c,2 * (0 + ↑i),9,rfl,by omega,by omega,by omega,fun r1 h2 h3=>?_⟩
   k_mem
   refine ⟨.inl ⟨rfl,_,SqL.of hl'⟩,c,2 * (0 + ↑i)+1,8,rfl,by omega,by omega,by omega,fun r2 h4 h5=>?_⟩
   k_mem
   refine ⟨by decide,fun p2 hp2=>⟨_,upo hl' hp2,dX (by rw [List.length_map,hT.1];omega),?_⟩⟩
   have hl2:=upo (o:=HO.tup [V.int (1+r1),V.int (1+(1+r1+r2) % 9)]) hl' hp2
   refine ⟨(s1.lay hp2).rewr hl,as++[p2],ls++[(1+r1,1+(1+r1+r2) % 9)],_,_,rfl,?_,?_,by rw [List.length_append,hlen];rfl,?_⟩
   ·rw [ai,List.map_append];rfl
   ·exact ((hT.same ((av.refl H').lay hp2)).app (dI.one (SqT.of ai))).rew hl2
   ·intro x hx
    rcases List.mem_append.mp hx with hx | hx
    ·exact hg x hx
    ·rw [List.mem_singleton] at hx
     subst hx
     refine ⟨⟨?_,?_⟩,⟨?_,?_⟩,?_⟩
     ·show 1<=1+r1;omega
     ·show 1+r1<=9;omega
     ·show 1<=1+(1+r1+r2) % 9;omega
     ·show 1+(1+r1+r2) % 9<=9;omega
     ·show 1+r1≠1+(1+r1+r2) % 9;omega
  ·rintro σ H' ⟨s1,as,ls,t,u,rfl,hl',hT,hlen,hg⟩
   k_mem
   exact q l as ls H' hl s1 hl' hT (by omega) hg
variable (tS:Def K mg "_law_codes" oN oA Dp A2)(DK:aI P w K mg base CX0 2 Dp A2 oA (Bp K Z))
def L8 (K:PySem.W.Frag)(c m mo:Int)(cn:V)(l:Addr)(H:Hp)(i:Nat)(σ:St)(H':Hp):Prop:=av H H'/\∃(as:List Addr) (ls:List Ld) (t u:Option V),σ=[some (.int c),some (.int m),some (.int mo),some (.ref l),some cn,t,u]/\H' l=some (.lst (as.map V.ref))/\n6 K H' as ls/\ls.length=i/\(∀x∈ls,l4 m x/\He x)
theorem two_of {r2 r1 mo:Int}(h0:0<=r1)(h1:r1 < mo+1):∃n:Int,atI [V.int r1,V.int mo] (if decide (r2=3)=true then 1 else 0)=some (V.int n)/\0<=n/\n<=mo:=by
 split
 ·exact ⟨mo,rfl,by omega,by omega⟩
 ·exact ⟨r1,rfl,by omega,by omega⟩
def Bq (K:PySem.W.Frag)(Z:Adr):Sp:=fun vs H Q _=>∃(c m mo:Int),vs=[.int c,.int m,.int mo]/\0 < m/\0<=mo/\mo<=500/\∀(l:Addr) (as:List Addr) (ls:List Ld) (H':Hp),H l=none->av H H'->H' l=some (.lst (as.map V.ref))->n6 K H' as ls->(ls.length:Int)<=mo->(∀x∈ls,l4 m x/\He x)->Q (.ref l) H'
include aU cI in
theorem Ic {f:Addr}{fd:FuncData}(F:Fun K "_law_loads" "_law_loads" oO f fd)(T:Txt K mg Z):aI P w K mg base CX0 2 f fd oB (Bq K Z):=by
 refine F.ok mz (fun vs H Q E h=>?_) (fun cdv A outer s H vs Q E hr h=>?_)
 ·obtain ⟨c,m,mo,rfl,hm,h0,h1,q⟩:=h
  rfl
 ·obtain ⟨c,m,mo,rfl,hm,h0,h1,q⟩:=h
  refine seg 3 (aj (aw (pv 3))) fun zt3 zh3=>?_
  k_all
  intro ze3
  refine seg 2 (ag (dA PassesOwn.never rfl (cw (by rfl) T.c7 (ae (pv 4) af)) (aB (i:=5) mz.nd rfl orL) (ag (aL (i:=6) mz.nd rfl orL (au aK (bC (ae aR (ae aR af))) (aF cI hr.dn (by rfl) aU.m aU.F.kp aU.b .nil aO (ae (pv 0) (ae (aS cb (aS kl ah (pv 5)) ah) (ae ah af)))))) (aj (bB (vU PySem.F.plainAttrs_list PySem.F.slot_list_append PySem.F.type_list_append jb (pv 3) (ae (bq (ae (pv 6) (ae (aF cI hr.dn (by rfl) aU.m aU.F.kp aU.b .nil aO (ae (pv 0) (ae (aS cb (aS kl ah (pv 5)) ah) (ae (pv 1) af)))) (ae (aF cI hr.dn (by rfl) aU.m aU.F.kp aU.b .nil aO (ae (pv 0) (ae (aS cb (aS kl ah (pv 5)) ah) (ae (pv 1) af)))) af)))) af)))))) zh3) fun zt2 zh2=>?_
  k_all
  intro ze2
  refine seg 1 (ag (aL (i:=4) mz.nd rfl orL (au aK (bC (ae (aF cI hr.dn (by rfl) aU.m aU.F.kp aU.b .nil aO (ae (pv 0) (ae ah (ae (aS cb (pv 2) ah) af)))) (ae (pv 2) af))) (bK lW (by rfl) T.wK pL (ae (gm bI (aF cI hr.dn (by rfl) aU.m aU.F.kp aU.b .nil aO (ae (pv 0) (ae ah (ae ah af)))) ah (aJ _)) af)))) zh2) fun zt1 zh1=>?_
  k_all
  intro ze1
  refine ⟨_,ag (aL (i:=3) mz.nd rfl orL (bC af)) zh1,?_⟩
  k_all
  k_mem
  refine ⟨by decide,fun l hl=>?_⟩
  k_upd
  refine ⟨c,0,mo+1,rfl,by omega,by omega,by omega,fun r1 h2 h3=>⟨by decide,fun p hp=>⟨c,94,4,rfl,by omega,by omega,by omega,fun r2 h4 h5=>⟨_,SqL.of ai,?_⟩⟩⟩⟩
  obtain ⟨n,e,hn0,hn1⟩:=two_of (r2:=r2) h2 h3
  k_upd
  refine ⟨_,e,?_⟩
  k_mem
  refine ⟨by omega,by omega,?_⟩
  k_upd
  refine cN (L8 K c m mo (.int n) l H) ⟨(av.refl H).lay hl |>.lay hp,[],[],none,none,rfl,upo ai hp,n6.nil,rfl,fun x hx=>by cases hx⟩ ?_ ?_
  ·rintro i σ H' hi ⟨s1,as,ls,t,u,rfl,hl',hT,hlen,hg⟩
   k_mem
   refine ⟨by decide,fun p1 hp1=>?_⟩
   k_upd
   refine ⟨c,3 * (0 + ↑i)+1,2,rfl,by omega,by omega,by omega,fun r3 h6 h7=>?_⟩
   obtain ⟨kd,hk,ek⟩:=KQ h6 h7
   k_mem
   refine ⟨_,SqL.of ai,_,ek,?_⟩
   k_mem
   refine ⟨.inl ⟨rfl,_,SqL.of (upo hl' hp1)⟩,c,3 * (0 + ↑i)+2,m,rfl,by omega,by omega,by omega,fun r4 h8 h9=>?_⟩
   k_upd
   refine ⟨c,3 * (0 + ↑i)+3,m,rfl,by omega,by omega,by omega,fun r5 h10 h11=>?_⟩
   k_mem
   refine ⟨by decide,fun p2 hp2=>⟨_,upo (upo hl' hp1) hp2,dX (by rw [List.length_map,hT.1];omega),?_⟩⟩
   have hl2:=upo (o:=HO.tup [V.str kd,V.int r4,V.int r5]) (upo (o:=HO.lst [V.str (Str.ofString "men"),V.str (Str.ofString "coal")]) hl' hp1) hp2
   k_upd
   refine ⟨(s1.lay hp1 |>.lay hp2).rewr hl,as++[p2],ls++[(kd,r4,r5)],_,_,rfl,?_,?_,by rw [List.length_append,hlen];rfl,?_⟩
   ·rw [ai,List.map_append];rfl
   ·exact ((hT.same ((av.refl H').lay hp1 |>.lay hp2)).app (n6.one (SqT.of ai))).rew hl2
   ·intro x hx
    rcases List.mem_append.mp hx with hx | hx
    ·exact hg x hx
    ·rw [List.mem_singleton] at hx
     subst hx
     k_upd
     exact ⟨⟨⟨h8,h9⟩,⟨h10,h11⟩⟩,hk⟩
  ·rintro σ H' ⟨s1,as,ls,t,u,rfl,hl',hT,hlen,hg⟩
   k_mem
   exact q l as ls H' hl s1 hl' hT (by omega) hg
variable (tT:Def K mg "_law_loads" oO oB Dq A3)(DL:aI P w K mg base CX0 2 Dq A3 oB (Bq K Z))
def DM (K:PySem.W.Frag)(Z:Adr):Sp:=fun vs H Q _=>∃(p dl cl ll a dd:Addr) (g:Cfg) (lds:List Ld) (n:aY) (t:Int) (d:Dd),vs=[.ref p,.ref a,.ref dd]/\gp K H p dl cl ll g lds/\fu g/\dD g n/\ma K H a (n,t)/\SqT K H dd (ddV d)/\Eo d/\g0 g n d=none/\∀b H',av H H'->ma K H' b (cC g n d,t+fC g n d)->Q (.ref b) H'
include ja vI iV xu tO DF tP DG tR DJ in
theorem JZ {f:Addr}{fd:FuncData}(F:Fun K "_law_next" "_law_next" rC f fd)(T:Txt K mg Z):aI P w K mg base CX0 2 f fd rj (DM K Z):=by
 refine F.ok cA (fun vs H Q E h=>?_) (fun cdv A outer s H vs Q E hr h=>?_)
 ·obtain ⟨p,dl,cl,ll,a,dd,g,lds,n,t,d,rfl,hP,hg,hn,hSt,hD,ok,hrf,q⟩:=h
  rfl
 ·obtain ⟨p,dl,cl,ll,a,dd,g,lds,n,t,d,rfl,hP,hg,hn,hSt,hD,ok,hrf,q⟩:=h
  refine seg 8 (aj (aw (bq (ae (pv 3) (ae (pv 4) (ae (pv 5) (ae (pv 6) (ae (pv 7) (ae (pv 9) af))))))))) fun zt8 zh8=>?_
  k_all
  intro ze8
  refine seg 7 (ag (bb (ax bI (au aE (pv 2) ah) aR (aJ _)) (ag (aL (i:=11) cA.nd rfl orL (au aK (au aK (pv 0) ah) (au aE (pv 2) ah))) (ag (aL (i:=12) cA.nd rfl orL (au aK (bC (ae (pv 11) (ae (aS eS (au aK (au aK (pv 0) ah) (jn fA ah)) (pv 11)) af))) (au aE (pv 2) ah))) (ag (aL (i:=9) cA.nd rfl orL (aS cb (pv 8) (aF DF hr.dn (by rfl) tO.m tO.F.kp tO.b .nil aO (ae (aM zZ (by rfl) T.LU Hb (ae (aS eS (pv 12) (pv 3)) af)) (ae (aF DG hr.dn (by rfl) tP.m tP.F.kp tP.b .nil aO (ae (pv 0) (ae (pv 5) af))) af))))) (aj (aL (i:=3) cA.nd rfl orL (pv 12)))))) (aC)) zh8) fun zt7 zh7=>?_
  k_all
  intro ze7
  refine seg 6 (ag (bb (ax bI (au aE (pv 2) ah) aR (aJ _)) (aj (aL (i:=7) cA.nd rfl orL (bK ua (by rfl) T.tM ot (ae (aM Hj (by rfl) T.LV Jt (ae (aS MD (pv 7) (bq (ae (au aE (pv 2) ah) af))) af)) af)))) (aC)) zh7) fun zt6 zh6=>?_
  k_all
  intro ze6
  refine seg 5 (ag (bb (ax bI (au aE (pv 2) ah) aR (aJ _)) (ag (aL (i:=10) cA.nd rfl orL (aF vI hr.dn (by rfl) ja.m ja.F.kp ja.b .nil aO (ae (au aK (pv 0) ah) (ae (au aE (pv 2) ah) (ae (pv 3) af))))) (aj (aL (i:=5) cA.nd rfl orL (aF xu hr.dn (by rfl) iV.m iV.F.kp iV.b .nil aO (ae (pv 5) (ae (Pm PySem.F.plainAttrs_tuple PySem.F.slot_tuple_index PySem.F.type_tuple_index JD (pv 5) (ae (aS cb ah (au aE (pv 2) ah)) af)) (ae (pv 10) af))))))) (aC)) zh6) fun zt5 zh5=>?_
  k_all
  intro ze5
  refine seg 4 (ag (bb (ax bI (au aE (pv 2) ah) aR (aJ _)) (aj (aL (i:=5) cA.nd rfl orL (aF xu hr.dn (by rfl) iV.m iV.F.kp iV.b .nil aO (ae (pv 5) (ae (au aE (pv 2) ah) (ae (aS cb ah (au aE (pv 2) ah)) af)))))) (aC)) zh5) fun zt4 zh4=>?_
  k_all
  intro ze4
  refine seg 3 (ag (bb (kh (ax bI (au aE (pv 2) ah) aR (aJ _)) (jl (ax bI (au aE (pv 2) ah) aR (aJ _)))).pt (aj (aL (i:=4) cA.nd rfl orL (aF xu hr.dn (by rfl) iV.m iV.F.kp iV.b .nil aO (ae (pv 4) (ae (au aE (pv 2) ah) (ae (gm bI (au aE (pv 2) ah) aR (aJ _)) af)))))) (aC)) zh4) fun zt3 zh3=>?_
  k_all
  intro ze3
  refine seg 2 (ag (aL (i:=9) cA.nd rfl orL (aS cb (pv 8) ah)) zh3) fun zt2 zh2=>?_
  k_all
  intro ze2
  refine seg 1 (ag (aL (i:=6) cA.nd rfl orL (aF DJ hr.dn (by rfl) tR.m tR.F.kp tR.b .nil aO (ae (pv 6) (ae (pv 2) af)))) zh2) fun zt1 zh1=>?_
  k_all
  intro ze1
  refine ⟨_,ag (kj (pv 1) (jm rfl (aQ (aB (i:=3) cA.nd rfl orL) (aQ (aB (i:=4) cA.nd rfl orL) (aQ (aB (i:=5) cA.nd rfl orL) (aQ (aB (i:=6) cA.nd rfl orL) (aQ (aB (i:=7) cA.nd rfl orL) (aQ (aB (i:=8) cA.nd rfl orL) dz)))))))) zh1,?_⟩
  k_all
  obtain ⟨gt,lt,ht,dt,h1,h2,h3,h4,h5⟩:=hSt
  obtain ⟨hp,hdl,_,⟨bs,hll,hT2⟩,ek⟩:=id hP
  have l2:=hg.sh.l2
  have l6:=hg.sh.l6
  have gl:=hn.gl
  have wl:=hn.wl
  have k30:=hg.k30
  have ekl:lds.length=g.ks.length:=by rw [ek,List.length_map]
  k_mem
  refine ⟨_,h1,rfl,?_⟩
  k_mem
  refine ⟨ht,dd,g,n,d,rfl,h4,hD,hrf,fun hh H1 s1 hH=>?_⟩
  have hD1:=s1.tup hD
  k_mem
  cases d with
  | ring l s=>
   refine ⟨_,hD1,_,rfl,?_⟩
   k_mem
   rw [if_neg (by decide)]
   k_upd
   refine ⟨_,hD1,_,rfl,?_⟩
   k_mem
   rw [if_neg (by decide)]
   k_upd
   refine ⟨_,hD1,_,rfl,?_⟩
   k_mem
   rw [if_neg (by decide)]
   k_upd
   refine ⟨_,hD1,_,rfl,?_⟩
   k_mem
   rw [if_neg (by decide)]
   k_upd
   refine ⟨_,hD1,_,rfl,?_⟩
   k_mem
   rw [if_neg (by decide)]
   k_upd
   refine ⟨_,hD1,_,rfl,?_⟩
   k_mem
   rw [if_neg (by decide)]
   k_upd
   refine ⟨by decide,fun b hb=>q b _ ((s1).lay hb) ⟨gt,lt,hh,dt,SqT.of ai,?_,?_,?_,?_⟩⟩
   ·exact (s1.lay hb).tup h2
   ·exact upo (s1 _ _ h3) hb
   ·exact ((av.refl H1).lay hb).tup hH
   ·exact (s1.lay hb).tup h5
  | rept s=>
   refine ⟨_,hD1,_,rfl,?_⟩
   k_mem
   rw [if_neg (by decide)]
   k_upd
   refine ⟨_,hD1,_,rfl,?_⟩
   k_mem
   rw [if_neg (by decide)]
   k_upd
   refine ⟨_,hD1,_,rfl,?_⟩
   k_mem
   rw [if_neg (by decide)]
   k_upd
   refine ⟨_,hD1,_,rfl,?_⟩
   k_mem
   rw [if_neg (by decide)]
   k_upd
   refine ⟨_,hD1,_,rfl,?_⟩
   k_mem
   rw [if_neg (by decide)]
   k_upd
   refine ⟨_,hD1,_,rfl,?_⟩
   k_mem
   rw [if_neg (by decide)]
   k_upd
   refine ⟨by decide,fun b hb=>q b _ ((s1).lay hb) ⟨gt,lt,hh,dt,SqT.of ai,?_,?_,?_,?_⟩⟩
   ·exact (s1.lay hb).tup h2
   ·exact upo (s1 _ _ h3) hb
   ·exact ((av.refl H1).lay hb).tup hH
   ·exact (s1.lay hb).tup h5
  | opn l=>
   obtain ⟨hl,_⟩:=ME hrf
   k_upd
   refine ⟨_,hD1,_,rfl,?_⟩
   k_mem
   rw [if_pos rfl]
   k_upd
   refine ⟨_,hD1,_,rfl,_,hD1,_,rfl,?_⟩
   k_mem
   refine ⟨gt,n.gates.map V.bl,l,.bl true,?_,s1.tup h2,hl.1,by rw [List.length_map];omega,by rw [List.length_map];omega,fun g2 H2 s2 hg2=>?_⟩
   ·rfl
   have s12:=s1.trans s2
   have hD2:=s2.tup hD1
   k_mem
   refine ⟨_,hD2,_,rfl,?_⟩
   k_mem
   rw [if_neg (by decide)]
   k_upd
   refine ⟨_,hD2,_,rfl,?_⟩
   k_mem
   rw [if_neg (by decide)]
   k_upd
   refine ⟨_,hD2,_,rfl,?_⟩
   k_mem
   rw [if_neg (by decide)]
   k_upd
   refine ⟨_,hD2,_,rfl,?_⟩
   k_mem
   rw [if_neg (by decide)]
   k_upd
   refine ⟨by decide,fun b hb=>q b _ ((s12).lay hb) ⟨g2,lt,hh,dt,SqT.of ai,?_,?_,?_,?_⟩⟩
   ·exact SqT.of (by rw [upo hg2 hb,we];rfl)
   ·exact upo (s12 _ _ h3) hb
   ·exact (s2.lay hb).tup hH
   ·exact (s12.lay hb).tup h5
  | sht l=>
   obtain ⟨hl,_⟩:=MF hrf
   k_upd
   refine ⟨_,hD1,_,rfl,?_⟩
   k_mem
   rw [if_neg (by decide)]
   k_upd
   refine ⟨_,hD1,_,rfl,?_⟩
   k_mem
   rw [if_pos rfl]
   k_upd
   refine ⟨_,hD1,_,rfl,_,hD1,_,rfl,?_⟩
   k_mem
   refine ⟨gt,n.gates.map V.bl,l,.bl false,?_,s1.tup h2,hl.1,by rw [List.length_map];omega,by rw [List.length_map];omega,fun g2 H2 s2 hg2=>?_⟩
   ·rfl
   have s12:=s1.trans s2
   have hD2:=s2.tup hD1
   k_mem
   refine ⟨_,hD2,_,rfl,?_⟩
   k_mem
   rw [if_neg (by decide)]
   k_upd
   refine ⟨_,hD2,_,rfl,?_⟩
   k_mem
   rw [if_neg (by decide)]
   k_upd
   refine ⟨_,hD2,_,rfl,?_⟩
   k_mem
   rw [if_neg (by decide)]
   k_upd
   refine ⟨_,hD2,_,rfl,?_⟩
   k_mem
   rw [if_neg (by decide)]
   k_upd
   refine ⟨by decide,fun b hb=>q b _ ((s12).lay hb) ⟨g2,lt,hh,dt,SqT.of ai,?_,?_,?_,?_⟩⟩
   ·exact SqT.of (by rw [upo hg2 hb,we];rfl)
   ·exact upo (s12 _ _ h3) hb
   ·exact (s2.lay hb).tup hH
   ·exact (s12.lay hb).tup h5
  | load k c=>
   obtain ⟨hk,l,hl,_,_,_⟩:=Fo hrf
   k_upd
   refine ⟨_,hD1,_,rfl,?_⟩
   k_mem
   rw [if_neg (by decide)]
   k_upd
   refine ⟨_,hD1,_,rfl,?_⟩
   k_mem
   rw [if_neg (by decide)]
   k_upd
   refine ⟨_,hD1,_,rfl,?_⟩
   k_mem
   rw [if_pos rfl]
   k_upd
   refine ⟨_,hD1,_,rfl,_,hD1,_,rfl,?_⟩
   k_mem
   refine ⟨lt,n.ws.map V.int,k,.int (10+c),rfl,SqT.of (s1 _ _ h3),hk.1,by rw [List.length_map];omega,by rw [List.length_map];omega,fun w2 H2 s2 hw2=>?_⟩
   have s12:=s1.trans s2
   have hD2:=s2.tup hD1
   k_mem
   refine ⟨_,hD2,_,rfl,?_⟩
   k_mem
   rw [if_neg (by decide)]
   k_upd
   refine ⟨_,hD2,_,rfl,?_⟩
   k_mem
   rw [if_neg (by decide)]
   k_upd
   refine ⟨_,hD2,_,rfl,?_⟩
   k_mem
   rw [if_neg (by decide)]
   k_upd
   refine ⟨by decide,fun b hb=>q b _ ((s12).lay hb) ⟨gt,w2,hh,dt,SqT.of ai,?_,?_,?_,?_⟩⟩
   ·exact (s12.lay hb).tup h2
   ·rw [upo hw2 hb,we];rfl
   ·exact (s2.lay hb).tup hH
   ·exact (s12.lay hb).tup h5
  | unload c=>
   obtain ⟨hin,l,hl,_⟩:=Af hrf
   have hix:=ym hin
   k_upd
   refine ⟨_,hD1,_,rfl,?_⟩
   k_mem
   rw [if_neg (by decide)]
   k_upd
   refine ⟨_,hD1,_,rfl,?_⟩
   k_mem
   rw [if_neg (by decide)]
   k_upd
   refine ⟨_,hD1,_,rfl,?_⟩
   k_mem
   rw [if_neg (by decide)]
   k_upd
   refine ⟨_,hD1,_,rfl,?_⟩
   k_mem
   rw [if_pos rfl]
   k_upd
   refine ⟨_,SqL.of (s1 _ _ hp),_,rfl,_,hD1,_,rfl,?_⟩
   k_mem
   refine ⟨dl,g.ds,c,n.place,rfl,SqL.of (s1 _ _ hdl),hg.sh,ok.1,ok.2,fun H2 s2=>?_⟩
   have s12:=s1.trans s2
   have hD2:=s2.tup hD1
   k_mem
   refine ⟨⟨_,_,rfl,s12 _ _ h3⟩,_,hD2,_,rfl,?_⟩
   k_mem
   refine ⟨_,n.ws,_,rfl,rfl,s12 _ _ h3,hin,?_⟩
   k_mem
   refine ⟨lt,n.ws.map V.int,_,.int ((cj g.ds n.place c).getD (-1)),rfl,SqT.of (s12 _ _ h3),Int.natCast_nonneg _,by rw [List.length_map];omega,by rw [List.length_map];omega,fun w2 H3 s3 hw2=>?_⟩
   have s13:=s12.trans s3
   have hD3:=s3.tup hD2
   k_mem
   refine ⟨_,hD3,_,rfl,?_⟩
   k_mem
   rw [if_neg (by decide)]
   k_upd
   refine ⟨_,hD3,_,rfl,?_⟩
   k_mem
   rw [if_neg (by decide)]
   k_upd
   refine ⟨by decide,fun b hb=>q b _ ((s13).lay hb) ⟨gt,w2,hh,dt,SqT.of ai,?_,?_,?_,?_⟩⟩
   ·exact (s13.lay hb).tup h2
   ·rw [upo hw2 hb,Int.toNat_natCast,we];rfl
   ·exact ((s2.trans s3).lay hb).tup hH
   ·exact (s13.lay hb).tup h5
  | fail l=>
   obtain ⟨hl,hf⟩:=K1 hrf
   have fl:=hn.fl
   have dlen:=yq n.fs
   k_upd
   refine ⟨_,hD1,_,rfl,?_⟩
   k_mem
   rw [if_neg (by decide)]
   k_upd
   refine ⟨_,hD1,_,rfl,?_⟩
   k_mem
   rw [if_neg (by decide)]
   k_upd
   refine ⟨_,hD1,_,rfl,?_⟩
   k_mem
   rw [if_neg (by decide)]
   k_upd
   refine ⟨_,hD1,_,rfl,?_⟩
   k_mem
   rw [if_neg (by decide)]
   k_upd
   refine ⟨_,hD1,_,rfl,?_⟩
   k_mem
   rw [if_pos rfl]
   k_upd
   refine ⟨_,hD1,_,rfl,?_⟩
   k_mem
   refine ⟨by decide,fun p1 hp1=>⟨_,(s1.lay hp1).tup h5,_,SqT.of ai,by rw [List.length_map];show (dJ n.fs).length+1<=1000;omega,fun p2 H2 s2 hc=>?_⟩⟩
   have s12:=(s1.lay (o:=HO.tup [V.int l]) hp1).trans s2
   have f12:=((av.refl H1).lay (o:=HO.tup [V.int l]) hp1).trans s2
   k_upd
   refine ⟨p2,dJ n.fs++[l],rfl,by rw [List.map_append];exact hc,by rw [List.length_append,List.length_singleton];omega,fun l1 ms hl1 hpm hpw=>?_⟩
   rw [JF hl.1 (by omega) hf hpm hpw]
   k_mem
   refine ⟨_,.inl ⟨SqL.of ai,fun d2 hd2=>?_⟩⟩
   have s13:=(s12.lay (o:=HO.lst ((dJ (n.fs.set l.toNat true)).map V.int)) hl1).lay (o:=HO.tup ((dJ (n.fs.set l.toNat true)).map V.int)) hd2
   have f13:=(f12.lay (o:=HO.lst ((dJ (n.fs.set l.toNat true)).map V.int)) hl1).lay (o:=HO.tup ((dJ (n.fs.set l.toNat true)).map V.int)) hd2
   have hd3:upd (upd H2 l1 (HO.lst ((dJ (n.fs.set l.toNat true)).map V.int))) d2 (HO.tup ((dJ (n.fs.set l.toNat true)).map V.int)) d2=some (HO.tup ((dJ (n.fs.set l.toNat true)).map V.int)):=ai
   generalize upd (upd H2 l1 (HO.lst ((dJ (n.fs.set l.toNat true)).map V.int))) d2 (HO.tup ((dJ (n.fs.set l.toNat true)).map V.int))=H3 at *
   have hD3:=f13.tup hD1
   k_mem
   refine ⟨_,hD3,_,rfl,?_⟩
   k_mem
   rw [if_neg (by decide)]
   k_upd
   refine ⟨by decide,fun b hb=>q b _ ((s13).lay hb) ⟨gt,lt,hh,d2,SqT.of ai,?_,?_,?_,?_⟩⟩
   ·exact (s13.lay hb).tup h2
   ·exact upo (s13 _ _ h3) hb
   ·exact (f13.lay hb).tup hH
   ·exact SqT.of (upo hd3 hb)
  | wind c l k=>
   obtain ⟨hl,_,harm⟩:=qZ hrf
   have okc:0<=c/\c < 2:=ok.1
   k_upd
   refine ⟨_,hD1,_,rfl,?_⟩
   k_mem
   rw [if_neg (by decide)]
   k_upd
   refine ⟨_,hD1,_,rfl,?_⟩
   k_mem
   rw [if_neg (by decide)]
   k_upd
   refine ⟨_,hD1,_,rfl,?_⟩
   k_mem
   rw [if_neg (by decide)]
   k_upd
   refine ⟨_,hD1,_,rfl,?_⟩
   k_mem
   rw [if_neg (by decide)]
   k_upd
   refine ⟨_,hD1,_,rfl,?_⟩
   k_mem
   rw [if_neg (by decide)]
   k_upd
   refine ⟨_,hD1,_,rfl,?_⟩
   k_mem
   rw [if_pos rfl]
   k_upd
   refine ⟨_,SqL.of (s1 _ _ hp),_,rfl,?_⟩
   k_mem
   refine ⟨_,hD1,_,rfl,?_⟩
   k_mem
   refine ⟨_,SqL.of (s1 _ _ hdl),_,eQ hl.1 hl.2,?_⟩
   k_mem
   refine ⟨_,SqL.of (s1 _ _ hp),_,rfl,?_⟩
   k_mem
   refine ⟨_,SqL.of (s1 _ _ hdl),_,Ej (by omega),?_⟩
   k_mem
   refine ⟨by decide,fun p1 hp1=>⟨_,((av.refl H1).lay hp1).tup hD1,_,rfl,?_⟩⟩
   k_mem
   refine ⟨_,SqL.of ai,_,two_deep okc.1 okc.2,?_⟩
   have f2:=(av.refl H1).lay (o:=HO.lst [V.int (g.ds.getD l.toNat 0),V.int (cv g.ds - g.ds.getD l.toNat 0)]) hp1
   have s2:=s1.lay (o:=HO.lst [V.int (g.ds.getD l.toNat 0),V.int (cv g.ds - g.ds.getD l.toNat 0)]) hp1
   generalize upd H1 p1 (HO.lst [V.int (g.ds.getD l.toNat 0),V.int (cv g.ds - g.ds.getD l.toNat 0)])=H2 at *
   rw [show (if c=0 then g.ds.getD l.toNat 0 else cv g.ds - g.ds.getD l.toNat 0)=dU g.ds c l from rfl]
   k_mem
   refine ⟨p,dl,cl,ll,lt,g,lds,n.ws,rfl,hP.same s2,SqT.of (s2 _ _ h3),by omega,by omega,fun x hx=>by have:=hn.wr x hx;omega,?_⟩
   k_mem
   have sp:=hg.speed n
   have pl:=hn.place hg
   have hm:g.ds.getD l.toNat 0∈g.ds:=df (by omega)
   have m0:=hg.sh.lo _ hm
   have m5:=hg.sh.hi _ hm
   have mw:=hg.sh.le_whole hm
   have w5:=hg.sh.hi _ hg.sh.whole_mem
   have wb:0<=dU g.ds c l/\dU g.ds c l<=500:=by unfold dU;split<;>omega
   rw [show (if Fi g.ks n.ws=true then g.slow else g.fast)=cS g n from rfl]
   k_upd
   refine ⟨_,_,rfl,by split<;>omega,by split<;>omega,by omega,by omega,?_⟩
   k_mem
   refine ⟨by decide,fun b hb=>q b _ ((s2).lay hb) ⟨gt,lt,hh,dt,SqT.of ai,?_,?_,?_,?_⟩⟩
   ·exact (s2.lay hb).tup h2
   ·exact upo (s2 _ _ h3) hb
   ·exact (f2.lay hb).tup hH
   ·exact (s2.lay hb).tup h5
variable (xA:Def K mg "_law_next" rC rj Gg Dw)(Gw:aI P w K mg base CX0 2 Gg Dw rj (DM K Z))
def Ro (H:Hp)(p a dl cl ht lv:Addr)(r:Int)(g:Cfg)(n:aY)(i:Nat)(σ:St)(H':Hp):Prop:=av H H'/\(∃t u v,σ=[some (.ref p),some (.ref a),some (.int r),some (.ref dl),some (.ref cl),some (.ref ht),some (.ref lv),t,u,v])/\∀c:Int,0<=c->c < i->∀l,cj g.ds n.place c=some l->n.gates.getD l.toNat false=false
def nR (K:PySem.W.Frag)(Z:Adr):Sp:=fun vs H Q _=>∃(p dl cl ll a:Addr) (g:Cfg) (lds:List Ld) (n:aY) (t r:Int),vs=[.ref p,.ref a,.int r]/\gp K H p dl cl ll g lds/\fu g/\dD g n/\ma K H a (n,t)/\∀dd d H',av H H'->SqT K H' dd (ddV d)->Eo d->g0 g n d=none->Q (.ref dd) H'
include ja vI in
theorem xB {f:Addr}{fd:FuncData}(F:Fun K "_law_towards_wind" "_law_towards_wind" fj f fd)(T:Txt K mg Z):aI P w K mg base CX0 2 f fd eZ (nR K Z):=by
 refine F.ok cx (fun vs H Q E h=>?_) (fun cdv A outer s H vs Q E hr h=>?_)
 ·obtain ⟨p,dl,cl,ll,a,g,lds,n,t,r,rfl,hP,hg,hn,hSt,q⟩:=h
  rfl
 ·obtain ⟨p,dl,cl,ll,a,g,lds,n,t,r,rfl,hP,hg,hn,hSt,q⟩:=h
  refine seg 8 (aj (aw (bq (ae aR (ae (aS cV (pv 2) ah) (ae (au aE (pv 5) ah) (ae (pv 9) af))))))) fun zt8 zh8=>?_
  k_all
  intro ze8
  refine seg 7 (ag (aL (i:=9) cx.nd rfl orL (au aK (bC (ae aR (ae aR af))) (bK lW (by rfl) T.wK pL (ae (gm bI (au aE (au aK (pv 4) (au aE (pv 5) ah)) ah) (au aE (pv 5) ah) (aJ _)) af)))) zh8) fun zt7 zh7=>?_
  k_all
  intro ze7
  refine seg 6 (ag (dA PassesOwn.never rfl (cw (by rfl) T.c7 (ae ah af)) (aB (i:=8) cx.nd rfl orL) (ag (aL (i:=7) cx.nd rfl orL (aF vI hr.dn (by rfl) ja.m ja.F.kp ja.b .nil aO (ae (pv 3) (ae (pv 8) (ae (au aE (pv 1) ah) af))))) (aj (bb (nZ (ax Cw (pv 7) ah (aJ _)) (lM (dj (au aE (au aE (pv 1) ah) (pv 7))))).pt (aj (aw (bq (ae aR (ae (pv 7) af))))) (aC))))) zh7) fun zt6 zh6=>?_
  k_all
  intro ze6
  refine seg 5 (ag (bb (ax qp (au aE (pv 5) ah) aR (aJ _)) (aj (aw (au aK (bC (ae (bq (ae aR (ae ah af))) (ae (bq (ae aR (ae ah af))) af))) (bK lW (by rfl) T.wK pL (ae (au aE (au aE (pv 1) ah) ah) af))))) (aC)) zh6) fun zt5 zh5=>?_
  k_all
  intro ze5
  refine seg 4 (ag (bb (nZ (ax qp (au aE (pv 5) ah) aR (aJ _)) (lM (ax (Hh hr.units0) (pv 6) (bC af) (aJ _)))).pt (ag (aL (i:=7) cx.nd rfl orL (au aK (pv 6) (aS cV (pv 2) (aM aG (by rfl) T.cy bD (ae (pv 6) af))))) (aj (aw (bq (ae aR (ae (pv 7) (ae (au aE (au aK (pv 4) (pv 7)) (aS cV (aS ni (pv 2) ah) ah)) af))))))) (aC)) zh5) fun zt4 zh4=>?_
  k_all
  intro ze4
  refine seg 3 (ag (bb (ax bI (au aE (pv 5) ah) aR (aJ _)) (aj (aw (bq (ae aR (ae (au aE (pv 5) ah) af))))) (aC)) zh4) fun zt3 zh3=>?_
  k_all
  intro ze3
  refine seg 2 (ag (KY ["_law_k","_law_state"] [none,some 1] (iy:=6) cx.nd rfl rfl (cw (by rfl) T.c7 (ae (aM aG (by rfl) T.cy bD (ae (pv 3) af)) af)) (fun _ _ _ _=>(aB (i:=0) (show (["_law_k","_law_state"]:List Str).Nodup by decide +kernel) rfl orL)) (fun _ _ _ _=>(tF (ax (show OpR _ _ (rIn K true) from pK) (pv 0) (au (show IxR _ (E6 K) from aE) (pv 1) ah) (by rfl)))) (fun _ _ _ _=>(pv 0))) zh3) fun zt2 zh2=>?_
  k_all
  intro ze2
  refine seg 1 (ag (aL (i:=5) cx.nd rfl orL (au aE (pv 1) ah)) zh2) fun zt1 zh1=>?_
  k_all
  intro ze1
  refine ⟨_,ag (OS (i:=3) (j:=4) rfl cx.nd rfl rfl (by decide) rfl rfl (ae (au aK (pv 0) ah) (ae (au aK (pv 0) ah) af)) (by rfl)) zh1,?_⟩
  k_all
  obtain ⟨gt,lt,ht,dt,h1,h2,h3,h4,h5⟩:=hSt
  obtain ⟨hp,hdl,⟨as,hcl,hT⟩,_,ek⟩:=id hP
  have l2:=hg.sh.l2
  have l6:=hg.sh.l6
  have gl:=hn.gl
  have fl:=hn.fl
  k_mem
  refine ⟨_,SqL.of hp,_,rfl,_,SqL.of hp,_,rfl,?_⟩
  k_mem
  refine ⟨_,h1,_,rfl,?_⟩
  k_mem
  refine ⟨_,.inl (SqL.of hdl),by omega,by rw [List.length_map];omega,?_⟩
  rw [List.length_map,Int.toNat_natCast,←fl]
  refine iW (fun j=>!n.fs.getD j false) (fun (j:Nat)=>.int (j:Int)) (by rw [sizeLine_eq];omega) rfl (fun i hi N hN=>?_) (fun i hi _ N hN=>?_) fun lv hlv=>?_
  ·k_mem
   k_upd
   refine ⟨_,h1,_,rfl,?_⟩
   k_mem
   refine ⟨_,.inr h5,rfl,by simp [cL],?_⟩
   rw [vZ]
   have:(!decide (0+(i:Int)∈dJ n.fs))=!n.fs.getD i false:=by
    congr 1
    rw [Bool.eq_iff_iff,decide_eq_true_eq,ow,Int.zero_add,Int.toNat_natCast]
    k_upd
    exact ⟨fun z=>z.2.2,fun z=>⟨Int.natCast_nonneg _,by omega,z⟩⟩
   rw [this]
   exact hN
  ·k_mem
   rw [Int.zero_add]
   exact hN
  rw [show List.map (fun (j:Nat)=>V.int (j:Int)) (List.filter (fun j=>!n.fs.getD j false) (List.range n.fs.length))=(nB n.fs).map V.int by unfold nB;rw [List.map_map];rfl] at *
  (generalize hE:upd H lv _=H1 at *;have s1:=gg hE hlv;have hlv1:=cW hE;clear hE)
  k_mem
  have h41:=s1.tup h4
  rcases Rg n.e with ⟨l,rr,he⟩ | ⟨l,rr,he⟩ | ⟨w1,w2,w3,w4,he,na,nb⟩
  ·simp only [he] at h41
   have hr:=hn.code hg (.inl he)
   k_upd
   refine ⟨_,h41,_,rfl,?_⟩
   k_mem
   rw [if_pos rfl]
   k_upd
   refine ⟨_,h41,_,rfl,by decide,fun dd hdd=>?_⟩
   k_upd
   exact q dd (.rept rr) _ (s1.lay hdd) (SqT.of ai) trivial (yN he hr.1 hr.2)
  ·simp only [he] at h41
   obtain ⟨el0,el1,erc⟩:=hn.ew l rr (.inr he)
   k_upd
   refine ⟨_,h41,_,rfl,?_⟩
   k_mem
   rw [if_neg (by decide)]
   k_upd
   refine ⟨_,h41,_,rfl,?_⟩
   k_mem
   rw [if_neg (by decide)]
   k_upd
   refine ⟨_,h41,_,rfl,?_⟩
   k_mem
   rw [if_neg (by decide)]
   k_upd
   refine ⟨by decide,by decide,?_⟩
   k_upd
   refine cN (Ro H1 p a dl cl ht lv r g n) ⟨av.refl H1,⟨_,_,_,rfl⟩,fun c h0 h=>by omega⟩ ?_ ?_
   ·rintro i σ H2 hi ⟨s2,⟨t1,t2,t3,rfl⟩,hj⟩
    have s12:=s1.trans s2
    have hi2:i < 2:=hi
    k_mem
    refine ⟨_,s12.tup h1,_,rfl,?_⟩
    k_mem
    refine ⟨dl,g.ds,0+(i:Int),n.place,rfl,SqL.of (s12 _ _ hdl),hg.sh,by omega,by omega,fun H3 s3=>?_⟩
    have s13:=s12.trans s3
    k_mem
    split
    ·rename_i hge
     obtain ⟨l',e1,e2⟩:=LP (by omega:¬(cj g.ds n.place (0+(i:Int))).getD (-1) < 0)
     obtain ⟨c0,c1,_⟩:=i6 e1
     rw [e2] at *
     k_upd
     refine ⟨_,s13.tup h1,_,rfl,?_⟩
     k_mem
     refine ⟨_,s13.tup h2,_,pR c0 (by show l' < (n.gates.length:Int);omega),?_⟩
     k_mem
     split
     ·rename_i ho
      k_upd
      refine ⟨by decide,fun dd hdd=>?_⟩
      k_upd
      exact q dd (.sht l') _ (s13.lay hdd) (SqT.of ai) trivial (pT c0 c1 ho)
     ·rename_i ho
      k_upd
      refine ⟨s2.trans s3,⟨_,_,_,rfl⟩,fun c h0 h l2 el=>?_⟩
      by_cases ec:c=(i:Int)
      ·subst ec
       rw [Int.zero_add] at e1
       rw [e1] at el
       cases el
       simpa using ho
      ·exact hj c h0 (by omega) l2 el
    ·rename_i hge
     have e1:=Oz (by omega:(cj g.ds n.place (0+(i:Int))).getD (-1) < 0)
     k_upd
     refine ⟨s2.trans s3,⟨_,_,_,rfl⟩,fun c h0 h l2 el=>?_⟩
     by_cases ec:c=(i:Int)
     ·subst ec
      rw [Int.zero_add] at e1
      rw [e1] at el
      cases el
     ·exact hj c h0 (by omega) l2 el
   ·rintro σ H2 ⟨s2,⟨t1,t2,t3,rfl⟩,hj⟩
    have s12:=s1.trans s2
    have ho:l8 g n=false:=JL hg.sh fun c hc l' el=>hj c (by omega) (by show c < ((2:Nat):Int);omega) l' el
    have h42:=s2.tup h41
    obtain ⟨ra,era,hra⟩:=v9 (hT.same s12) el0 (by rw [hg.lc];exact el1)
    k_mem
    refine ⟨by decide,fun p1 hp1=>?_⟩
    have f1:=(av.refl H2).lay (o:=HO.lst [V.str (Str.ofString "coal"),V.str (Str.ofString "men")]) hp1
    have hp1':upd H2 p1 (HO.lst [V.str (Str.ofString "coal"),V.str (Str.ofString "men")]) p1=some (HO.lst [V.str (Str.ofString "coal"),V.str (Str.ofString "men")]):=ai
    generalize upd H2 p1 (HO.lst [V.str (Str.ofString "coal"),V.str (Str.ofString "men")])=H3 at *
    have s13:=s12.trans f1
    have h43:=f1.tup h42
    k_upd
    refine ⟨_,h43,_,rfl,?_⟩
    k_mem
    refine ⟨_,SqL.of (s13 _ _ hcl),_,era,?_⟩
    k_mem
    refine ⟨_,f1.tup hra,_,rfl,?_⟩
    k_mem
    refine ⟨_,h43,_,rfl,?_⟩
    k_mem
    refine ⟨_,SqL.of hp1',_,IP,?_⟩
    k_mem
    refine ⟨_,h43,_,rfl,by decide,fun dd hdd=>?_⟩
    by_cases e:(jr g.ls l).1=rr
    ·refine q dd (.wind (r % 2) l "men") _ (s13.lay hdd) (SqT.of (by rw [ai];simp only [e,decide_true,if_true];rfl)) ⟨⟨by omega,by omega⟩,.inl rfl⟩ (yO el0 el1 ho ?_)
     rw [he,dC,if_pos rfl,e]
    ·refine q dd (.wind (r % 2) l "coal") _ (s13.lay hdd) (SqT.of (by rw [ai];simp only [e,decide_false,Bool.false_eq_true,if_false];rfl)) ⟨⟨by omega,by omega⟩,.inr rfl⟩ (yO el0 el1 ho ?_)
     rw [he,dC,if_neg (by decide)]
     rcases erc with h | h
     ·exact absurd h.symm e
     ·rw [h]
  ·simp only [he] at h41
   k_upd
   refine ⟨_,h41,_,rfl,?_⟩
   k_mem
   rw [if_neg na]
   k_upd
   refine ⟨_,h41,_,rfl,?_⟩
   k_mem
   rw [if_pos nb]
   k_upd
   refine ⟨by decide,fun p1 hp1=>?_⟩
   have f1:=(av.refl H1).lay (o:=HO.lst []) hp1
   have hp1':upd H1 p1 (HO.lst []) p1=some (HO.lst []):=ai
   generalize upd H1 p1 (HO.lst [])=H2 at *
   have s12:=s1.trans f1
   have h42:=f1.tup h41
   k_mem
   refine ⟨_,SqL.of (f1 _ _ hlv1),_,SqL.of hp1',by simp [cL],rfl,?_⟩
   rw [IM]
   k_mem
   by_cases hz:(nB n.fs).map V.int=[]
   ·rw [if_neg (fun z=>z hz)]
    k_upd
    refine ⟨_,h42,_,rfl,?_⟩
    k_mem
    rw [if_pos nb]
    k_upd
    refine ⟨by decide,fun p2 hp2=>⟨by decide,fun p3 hp3=>⟨by decide,fun p4 hp4=>?_⟩⟩⟩
    have f4:=(((av.refl H2).lay (o:=HO.tup [V.str (Str.ofString "open"),V.int 0]) hp2).lay (o:=HO.tup [V.str (Str.ofString "shut"),V.int 0]) hp3).lay (o:=HO.lst [V.ref p2,V.ref p3]) hp4
    have e2:upd (upd (upd H2 p2 (HO.tup [V.str (Str.ofString "open"),V.int 0])) p3 (HO.tup [V.str (Str.ofString "shut"),V.int 0])) p4 (HO.lst [V.ref p2,V.ref p3]) p2=some (HO.tup [V.str (Str.ofString "open"),V.int 0]):=upo (upo ai hp3) hp4
    have e3:upd (upd (upd H2 p2 (HO.tup [V.str (Str.ofString "open"),V.int 0])) p3 (HO.tup [V.str (Str.ofString "shut"),V.int 0])) p4 (HO.lst [V.ref p2,V.ref p3]) p3=some (HO.tup [V.str (Str.ofString "shut"),V.int 0]):=upo ai hp4
    have e4:upd (upd (upd H2 p2 (HO.tup [V.str (Str.ofString "open"),V.int 0])) p3 (HO.tup [V.str (Str.ofString "shut"),V.int 0])) p4 (HO.lst [V.ref p2,V.ref p3]) p4=some (HO.lst [V.ref p2,V.ref p3]):=ai
    generalize upd (upd (upd H2 p2 (HO.tup [V.str (Str.ofString "open"),V.int 0])) p3 (HO.tup [V.str (Str.ofString "shut"),V.int 0])) p4 (HO.lst [V.ref p2,V.ref p3])=H3 at *
    have s13:=s12.trans f4
    k_upd
    refine ⟨_,s13.tup h1,_,rfl,?_⟩
    k_mem
    refine ⟨_,s13.tup h2,_,pR (l:=0) (by omega) (by show (0:Int) < (n.gates.length:Int);omega),?_⟩
    k_mem
    refine ⟨_,SqL.of e4,_,IP,?_⟩
    by_cases hb:n.gates.getD 0 false=true
    ·rw [if_pos hb]
     k_upd
     exact q p3 (.sht 0) _ s13 (SqT.of e3) trivial (pT (by omega) (by omega) hb)
    ·rw [if_neg hb]
     k_upd
     exact q p2 (.opn 0) _ s13 (SqT.of e2) trivial (vw (by omega) (by omega) (by simpa using hb))
   ·rw [if_pos hz]
    have hlen:0 < (nB n.fs).length:=by
     rcases Nat.eq_zero_or_pos (nB n.fs).length with z | z
     ·exact absurd (by rw [List.eq_nil_of_length_eq_zero z];rfl) hz
     ·exact z
    have hm0:0<=r % ((nB n.fs).length:Int):=Int.emod_nonneg _ (by omega)
    have hm1:r % ((nB n.fs).length:Int) < ((nB n.fs).length:Int):=Int.emod_lt_of_pos _ (by omega)
    obtain ⟨v0,v1,v2⟩:=JK (df (ds:=nB n.fs) (i:=(r % ((nB n.fs).length:Int)).toNat) (by omega))
    k_upd
    refine ⟨_,.inl (SqL.of (f1 _ _ hlv1)),by rw [List.length_map];omega,_,SqL.of (f1 _ _ hlv1),_,by rw [List.length_map];exact eQ hm0 hm1,?_⟩
    generalize (nB n.fs).getD (r % ((nB n.fs).length:Int)).toNat 0=lx at *
    obtain ⟨ra,era,hra⟩:=v9 (hT.same s12) v0 (by rw [hg.lc];omega)
    k_mem
    refine ⟨_,SqL.of (s12 _ _ hcl),_,era,?_⟩
    k_mem
    refine ⟨_,hra,_,two_deep (by omega) (by omega),by decide,fun dd hdd=>?_⟩
    refine q dd (.ring lx _) _ (s12.lay hdd) (SqT.of ai) trivial (yM v0 (by omega) v2 ?_)
    k_upd
    split
    ·exact .inl rfl
    ·exact .inr rfl
variable (gU:Def K mg "_law_towards_wind" fj eZ oV nH)(pw:aI P w K mg base CX0 2 oV nH eZ (nR K Z))
def nS (K:PySem.W.Frag)(Z:Adr):Sp:=fun vs H Q _=>∃(p dl cl ll a:Addr) (g:Cfg) (lds:List Ld) (n:aY) (t r:Int),vs=[.ref p,.ref a,.int r]/\gp K H p dl cl ll g lds/\fu g/\dD g n/\ma K H a (n,t)/\∀dd d H',av H H'->SqT K H' dd (ddV d)->Eo d->g0 g n d=none->Q (.ref dd) H'
include ja vI in
theorem xC {f:Addr}{fd:FuncData}(F:Fun K "_law_towards_load" "_law_towards_load" cX f fd)(T:Txt K mg Z):aI P w K mg base CX0 2 f fd fe (nS K Z):=by
 refine F.ok dh (fun vs H Q E h=>?_) (fun cdv A outer s H vs Q E hr h=>?_)
 ·obtain ⟨p,dl,cl,ll,a,g,lds,n,t,r,rfl,hP,hg,hn,hSt,q⟩:=h
  rfl
 ·obtain ⟨p,dl,cl,ll,a,g,lds,n,t,r,rfl,hP,hg,hn,hSt,q⟩:=h
  obtain ⟨t1,h1,k1⟩:∃t,PSs (vQ CX0 P w K mg base ["_law_setup_here","_law_state","_law_rest","_law_cage","_law_level","_law_waits"] "_law_towards_load" (ao cX) f cdv A outer s H E).nox ((cJ cX).drop 3) t/\∀(c l:Int) (H1:Hp),av H H1->0<=c->c < 2->cj g.ds n.place c=some l->t ({nx:=fun _ H2=>Q .non H2,rt:=Q}:mY) [some (.ref p),some (.ref a),some (.int r),some (.int c),some (.int l),none] H1:=by
   refine seg 4 (aj (aw (bq (ae aR (ae (au aK (pv 5) (aS cV (aS ni (pv 2) ah) (aM aG (by rfl) T.cy bD (ae (pv 5) af)))) (ae (pv 3) af)))))) fun zt4 zh4=>?_
   k_all
   intro ze4
   refine seg 3 (ag (bb (ax (Pd hr.units0) (pv 5) (bC af) (aJ _)) (aj (aw (bq (ae aR (ae (pv 4) af))))) (aC)) zh4) fun zt3 zh3=>?_
   k_all
   intro ze3
   refine seg 2 (ag (KY ["_law_k","_law_state","_law_level"] [none,some 1,some 4] (iy:=5) dh.nd rfl rfl (cw (by rfl) T.c7 (ae (aM aG (by rfl) T.cy bD (ae (au aE (pv 1) ah) af)) af)) (fun _ _ _ _=>(aB (i:=0) (show (["_law_k","_law_state","_law_level"]:List Str).Nodup by decide +kernel) rfl orL)) (fun _ _ _ _=>(tF (ax bI (au (show IxR _ (E6 K) from aE) (au (show IxR _ (E6 K) from aE) (pv 1) ah) (pv 0)) (pv 2) (aJ _)))) (fun _ _ _ _=>(pv 0))) zh3) fun zt2 zh2=>?_
   k_all
   intro ze2
   refine seg 1 (ag (bb (ax tD (aS cb ah (pv 3)) (au aE (pv 1) ah) (by rfl)) (aj (aw (bq (ae aR (ae (pv 3) af))))) (aC)) zh2) fun zt1 zh1=>?_
   k_all
   intro ze1
   refine ⟨_,ag (bb (eN (dj (au aE (au aE (pv 1) ah) (pv 4)))) (aj (aw (bq (ae aR (ae (pv 4) af))))) (aC)) zh1,?_⟩
   intro c l H1 s1 c0 c1 hl
   obtain ⟨gt,lt,ht,dt,h1,h2,h3,h4,h5⟩:=(hSt.same s1).un
   obtain ⟨l0,l1,_⟩:=i6 hl
   have gl:=hn.gl
   have wl:=hn.wl
   have k30:=hg.k30
   k_all
   k_mem
   refine ⟨_,h1,_,rfl,?_⟩
   k_mem
   refine ⟨_,h2,_,pR l0 (by show l < (n.gates.length:Int);omega),?_⟩
   k_mem
   split
   ·rename_i ho
    k_upd
    refine ⟨by decide,fun dd hdd=>?_⟩
    k_upd
    exact q dd (.opn l) _ (s1.lay hdd) (SqT.of ai) trivial (vw l0 l1 ho)
   rename_i ho
   have ho':n.gates.getD l.toNat false=true:=by simpa using ho
   k_upd
   refine ⟨_,h1,_,rfl,?_⟩
   k_mem
   refine ⟨_,.inr (SqT.of h3),rfl,by simp [cL],?_⟩
   rw [vZ]
   k_mem
   split
   ·rename_i hin
    k_upd
    refine ⟨by decide,fun dd hdd=>?_⟩
    k_upd
    exact q dd (.unload c) _ (s1.lay hdd) (SqT.of ai) ⟨c0,c1⟩ (BN hin hl ho')
   rename_i hin
   k_upd
   refine ⟨_,h1,_,rfl,?_⟩
   k_mem
   refine ⟨_,.inr (SqT.of h3),by omega,by rw [List.length_map];omega,?_⟩
   rw [List.length_map,Int.toNat_natCast]
   refine iW (fun j=>decide (n.ws.getD j 0=l)) (fun (j:Nat)=>.int (j:Int)) (by rw [sizeLine_eq];omega) rfl (fun i hi N hN=>?_) (fun i hi _ N hN=>?_) fun lv hlv=>?_
   ·k_mem
    k_upd
    refine ⟨_,h1,_,rfl,?_⟩
    k_mem
    refine ⟨_,SqT.of h3,_,by rw [Int.zero_add];exact kH hi,?_⟩
    k_mem
    by_cases e:n.ws.getD i 0=l
    ·rw [if_pos e];rw [decide_eq_true e] at hN;exact hN
    ·rw [if_neg e];rw [decide_eq_false e] at hN;exact hN
   ·k_mem
    rw [Int.zero_add]
    exact hN
   rw [show List.map (fun (j:Nat)=>V.int (j:Int)) (List.filter (fun j=>decide (n.ws.getD j 0=l)) (List.range n.ws.length))=(l7 n.ws l).map V.int by unfold l7 BH;rw [List.map_map];rfl] at *
   have s2:=s1.lay (o:=HO.lst ((l7 n.ws l).map V.int)) hlv
   have hlv1:upd H1 lv (HO.lst ((l7 n.ws l).map V.int)) lv=some (HO.lst ((l7 n.ws l).map V.int)):=ai
   generalize upd H1 lv (HO.lst ((l7 n.ws l).map V.int))=H2 at *
   k_mem
   refine ⟨by decide,fun p1 hp1=>?_⟩
   have f1:=(av.refl H2).lay (o:=HO.lst []) hp1
   have hp1':upd H2 p1 (HO.lst []) p1=some (HO.lst []):=ai
   generalize upd H2 p1 (HO.lst [])=H3 at *
   have s3:=s2.trans f1
   k_upd
   refine ⟨_,SqL.of (f1 _ _ hlv1),_,SqL.of hp1',by simp [cL],rfl,?_⟩
   rw [IM]
   k_mem
   by_cases hz:(l7 n.ws l).map V.int=[]
   ·rw [if_pos hz]
    k_upd
    refine ⟨by decide,fun dd hdd=>?_⟩
    k_upd
    exact q dd (.sht l) _ (s3.lay hdd) (SqT.of ai) trivial (pT l0 l1 ho')
   ·rw [if_neg hz]
    have hlen:0 < (l7 n.ws l).length:=by
     rcases Nat.eq_zero_or_pos (l7 n.ws l).length with z | z
     ·exact absurd (by rw [List.eq_nil_of_length_eq_zero z];rfl) hz
     ·exact z
    have hm0:0<=r / 2 % ((l7 n.ws l).length:Int):=Int.emod_nonneg _ (by omega)
    have hm1:r / 2 % ((l7 n.ws l).length:Int) < ((l7 n.ws l).length:Int):=Int.emod_lt_of_pos _ (by omega)
    obtain ⟨v0,v1,v2⟩:=LQ (df (ds:=l7 n.ws l) (i:=(r / 2 % ((l7 n.ws l).length:Int)).toNat) (by omega))
    k_upd
    refine ⟨_,.inl (SqL.of (f1 _ _ hlv1)),by rw [List.length_map];omega,_,SqL.of (f1 _ _ hlv1),_,by rw [List.length_map];exact eQ hm0 hm1,by decide,fun dd hdd=>?_⟩
    k_upd
    exact q dd (.load _ c) _ (s3.lay hdd) (SqT.of ai) ⟨c0,c1⟩ (FC v0 v1 hl v2 hin ho')
  refine seg 2 (ag (bb (ax qr (pv 4) ah (aJ _)) (ag (aL (i:=3) dh.nd rfl orL (aS eS ah (pv 3))) (aj (aL (i:=4) dh.nd rfl (Or.inr rfl) (aF vI hr.dn (by rfl) ja.m ja.F.kp ja.b .nil aO (ae (au aK (pv 0) ah) (ae (pv 3) (ae (au aE (pv 1) ah) af))))))) (aC)) h1) fun zt2 zh2=>?_
  k_all
  intro ze2
  refine seg 1 (ag (aL (i:=4) dh.nd rfl (Or.inr rfl) (aF vI hr.dn (by rfl) ja.m ja.F.kp ja.b .nil aO (ae (au aK (pv 0) ah) (ae (pv 3) (ae (au aE (pv 1) ah) af))))) zh2) fun zt1 zh1=>?_
  k_all
  intro ze1
  refine ⟨_,ag (aL (i:=3) dh.nd rfl orL (aS cV (pv 2) ah)) zh1,?_⟩
  k_all
  obtain ⟨gt,lt,ht,dt,h1,h2,h3,h4,h5⟩:=hSt.un
  obtain ⟨hp,hdl,_,_,_⟩:=id hP
  k_mem
  refine ⟨_,SqL.of hp,_,rfl,_,h1,_,rfl,?_⟩
  k_mem
  refine ⟨dl,g.ds,r % 2,n.place,rfl,SqL.of hdl,hg.sh,by omega,by omega,fun H1 s1=>?_⟩
  k_mem
  split
  ·rename_i hlt
   have e0:=Oz hlt
   k_upd
   refine ⟨_,SqL.of (s1 _ _ hp),_,rfl,_,s1.tup h1,_,rfl,?_⟩
   k_mem
   refine ⟨dl,g.ds,1 - r % 2,n.place,rfl,SqL.of (s1 _ _ hdl),hg.sh,by omega,by omega,fun H2 s2=>?_⟩
   k_mem
   obtain ⟨c,hc,l,hl⟩:=hn.st
   have ec:c=1 - r % 2:=by
    rcases (by omega:c=r % 2\/c=1 - r % 2) with e | e
    ·rw [←e,hl] at e0;cases e0
    ·exact e
   rw [ec] at hl
   rw [hl]
   exact k1 _ l _ (s1.trans s2) (by omega) (by omega) hl
  ·rename_i hlt
   obtain ⟨l,hl,el⟩:=LP hlt
   rw [el]
   exact k1 _ l _ s1 (by omega) (by omega) hl
variable (gV:Def K mg "_law_towards_load" cX fe oW nI)(pz:aI P w K mg base CX0 2 oW nI fe (nS K Z))
def xD (K:PySem.W.Frag)(Z:Adr):Sp:=fun vs H Q E=>∃(y kn wh:Addr) (ks:List Str) (ws:List Int) (m n c:Int),vs=[.ref y,.int n,.int c]/\dS Z.gR H y kn wh ks ws m/\0<=c/\c < 2/\
 (¬(0<=n/\n < ws.length)->E (.ref Z.dG) none H)/\
 (0<=n->n < ws.length->(ws.getD n.toNat 0=10\/ws.getD n.toNat 0=11)->E (.ref Z.iO) none H)/\
 (0<=n->n < ws.length->¬(ws.getD n.toNat 0=10\/ws.getD n.toNat 0=11)->10+c∈ws->∀H',av H H'->E (.ref Z.gP) none H')/\
 (0<=n->n < ws.length->¬(ws.getD n.toNat 0=10\/ws.getD n.toNat 0=11)->¬10+c∈ws->∀H',aA wh H H'->H' wh=some (.lst ((ws.set n.toNat (10+c)).map V.int))->Q .non H')
include bV de eM lV in
theorem EO {f:Addr}{fd:FuncData}(F:Fun K "into" "Yard.into" kU f fd)(T:Txt K mg Z):aI P w K mg base (CXf P w) 3 f fd kM (xD K Z):=by
 refine F.okF EC (fun vs H Q E h=>?_) (fun cdv A outer s H vs Q E hr h=>?_)
 ·obtain ⟨y,kn,wh,ks,ws,m,n,c,rfl,hy,h0,h1,q1,q2,q3,q4⟩:=h
  rfl
 ·obtain ⟨y,kn,wh,ks,ws,m,n,c,rfl,hy,h0,h1,q1,q2,q3,q4⟩:=h
  refine seg 3 (aj (kj (au aE (eT (by rfl) T.lP) (pv 2)) (xZ (aH (pv 0) (by rfl)) (pv 1) oq))) fun zt3 zh3=>?_
  k_all
  intro ze3
  refine seg 2 (ag (bb (ax Mj (bj (pv 0) T.bM bV.M de hr.dn bV.b .nil aO (ae (pv 2) af)) gf (aJ _)) (aj (bE T.FR (by rfl) T.FI (ae aR af))) (aC)) zh3) fun zt2 zh2=>?_
  k_all
  intro ze2
  refine seg 1 (ag (bb (ax tD (au aK (aH (pv 0) (by rfl)) (pv 1)) (eT (by rfl) T.lP) (by rfl)) (aj (bE T.vF (by rfl) T.vD (ae aR af))) (aC)) zh2) fun zt1 zh1=>?_
  k_all
  intro ze1
  refine ⟨_,ag (bB (aF lV hr.dn (by rfl) eM.m eM.F.kp eM.b .nil bT (ae (pv 1) (ae (aM aG (by rfl) T.cy bD (ae (aH (pv 0) (by rfl)) af)) af)))) zh1,?_⟩
  k_all
  obtain ⟨⟨dx,hob⟩,hkn,hwh⟩:=id hy
  k_mem
  refine ⟨_,_,_,hob,T.bM,T.cG,_,rfl,?_⟩
  k_mem
  refine ⟨_,.inl (SqL.of hwh),_,_,rfl,?_⟩
  rw [List.length_map]
  k_upd
  refine ⟨fun hn=>?_,q1⟩
  ·k_mem
   k_upd
   refine ⟨_,_,_,hob,T.bM,T.cG,_,rfl,?_⟩
   k_mem
   refine ⟨_,SqL.of hwh,_,eQ hn.1 hn.2,_,.inr (T.lQ _),rfl,rfl,?_⟩
   rw [CK]
   k_mem
   split
   ·rename_i h2
    k_upd
    exact ⟨by decide,q2 hn.1 hn.2 h2⟩
   ·rename_i h2
    k_upd
    refine ⟨_,_,hob,rfl,_,_,_,_,_,_,_,rfl,hy,h0,h1,fun H' s1=>?_⟩
    k_mem
    by_cases hm:10+c∈ws
    ·rw [inC,if_pos hm,if_pos (show ¬(V.int _=V.non) from fun z=>V.noConfusion z)]
     k_upd
     exact ⟨by decide,q3 hn.1 hn.2 h2 hm H' s1⟩
    ·rw [inC,if_neg hm,if_neg (fun z=>z rfl)]
     k_upd
     refine ⟨_,T.lQ _,_,CH h0 h1,_,_,_,s1 _ _ hob,T.bM,T.cG,_,rfl,?_⟩
     k_mem
     refine ⟨_,s1 _ _ hwh,_,Em hn.1 (by rw [List.length_map];exact hn.2),?_⟩
     refine q4 hn.1 hn.2 h2 hm _ (aA.put (aA.of s1)) ?_
     rw [ai,List.map_set]
variable (sV:bu K Z.gR "into" "Yard.into" kU kM y3 xk)(zm:aI P w K mg base (CXf P w) 3 y3 xk kM (xD K Z))
def zo (K:PySem.W.Frag)(Z:Adr):Sp:=fun vs H Q E=>∃(y kn wh:Addr) (ks:List Str) (ws:List Int) (m c lv:Int),vs=[.ref y,.int c,.int lv]/\dS Z.gR H y kn wh ks ws m/\0<=c/\c < 2/\
 (¬(0<=lv/\lv < m)->E (.ref Z.aN) none H)/\
 (0<=lv->lv < m->¬10+c∈ws->∀H',av H H'->E (.ref Z.gQ) none H')/\
 (0<=lv->lv < m->10+c∈ws->∀H',aA wh H H'->H' wh=some (.lst ((ws.set (ws.idxOf (10+c)) lv).map V.int))->Q .non H')
include bV de aW bO in
theorem Gx {f:Addr}{fd:FuncData}(F:Fun K "out" "Yard.out" mm f fd)(T:Txt K mg Z):aI P w K mg base (CXf P w) 3 f fd me (zo K Z):=by
 refine F.okF yS (fun vs H Q E h=>?_) (fun cdv A outer s H vs Q E hr h=>?_)
 ·obtain ⟨y,kn,wh,ks,ws,m,c,lv,rfl,hy,h0,h1,q1,q2,q3⟩:=h
  rfl
 ·obtain ⟨y,kn,wh,ks,ws,m,c,lv,rfl,hy,h0,h1,q1,q2,q3⟩:=h
  refine seg 3 (aj (kj (pv 2) (xZ (aH (pv 0) (by rfl)) (pv 3) oq))) fun zt3 zh3=>?_
  k_all
  intro ze3
  refine seg 2 (ag (bb (ax DZ (pv 3) gf (aJ _)) (aj (bE T.yW (by rfl) T.yV (ae aR af))) (aC)) zh3) fun zt2 zh2=>?_
  k_all
  intro ze2
  refine seg 1 (ag (aL (i:=3) yS.nd rfl orL (bj (pv 0) T.bM bV.M de hr.dn bV.b .nil aO (ae (pv 1) af))) zh2) fun zt1 zh1=>?_
  k_all
  intro ze1
  refine ⟨_,ag (bB (aF bO hr.dn (by rfl) aW.m aW.F.kp aW.b .nil bT (ae (pv 2) (ae (aH (pv 0) (by rfl)) af)))) zh1,?_⟩
  k_all
  obtain ⟨⟨dx,hob⟩,hkn,hwh⟩:=id hy
  k_mem
  refine ⟨_,_,_,hob,T.bM,T.lR,_,rfl,?_⟩
  k_mem
  refine ⟨_,_,rfl,fun hlv=>?_,q1⟩
  k_mem
  refine ⟨_,_,hob,rfl,_,_,_,_,_,_,_,rfl,hy,h0,h1,fun H' s1=>?_⟩
  k_mem
  by_cases hm:10+c∈ws
  ·rw [inC,if_pos hm,if_neg (show ¬(V.int _=V.non) from fun z=>V.noConfusion z)]
   have hlt:ws.idxOf (10+c) < ws.length:=List.idxOf_lt_length_iff.mpr hm
   k_mem
   refine ⟨_,_,_,s1 _ _ hob,T.bM,T.cG,_,rfl,?_⟩
   k_mem
   refine ⟨_,s1 _ _ hwh,_,Em (Int.natCast_nonneg _) (by rw [List.length_map];omega),?_⟩
   refine q3 hlv.1 hlv.2 hm _ (aA.put (aA.of s1)) ?_
   rw [ai,List.map_set];rfl
  ·rw [inC,if_neg hm,if_pos rfl]
   k_upd
   exact ⟨by decide,q2 hlv.1 hlv.2 hm H' s1⟩
variable (vK:bu K Z.gR "out" "Yard.out" mm me AS ze)(Br:aI P w K mg base (CXf P w) 3 AS ze me (zo K Z))
def pA (K:PySem.W.Frag)(Z:Adr):Sp:=fun vs H Q E=>∃(y kn wh:Addr) (ks:List Str) (ws:List Int) (m lv:Int),vs=[.ref y,.int lv]/\dS Z.gR H y kn wh ks ws m/\ws.length<=1000/\(0<=lv/\lv < m->∀p H',H p=none->av H H'->H' p=some (.lst ((l7 ws lv).map V.int))->Q (.ref p) H')/\(¬(0<=lv/\lv < m)->E (.ref Z.aN) none H)
include aW bO in
theorem yE {f:Addr}{fd:FuncData}(F:Fun K "at_level" "Yard.at_level" fP f fd)(T:Txt K mg Z):aI P w K mg base (CXf P w) 3 f fd fJ (pA K Z):=by
 refine F.okF yt (fun vs H Q E h=>?_) (fun cdv A outer s H vs Q E hr h=>?_)
 ·obtain ⟨y,kn,wh,ks,ws,m,lv,rfl,hy,hlen,q1,q2⟩:=h
  rfl
 ·obtain ⟨y,kn,wh,ks,ws,m,lv,rfl,hy,hlen,q1,q2⟩:=h
  refine seg 1 (aj (aw (qs ["number","spot","level"] [none,none,some 1] (El (by rfl) T.rG pM (aH (pv 0) (by rfl))) (fun _ _ _ _=>(show PG _ _ (DY K 2 _) from jm (n:=2) rfl (aQ (aB (i:=0) (show (["number","spot","level"]:List Str).Nodup by decide +kernel) rfl orL) (aQ (aB (i:=1) (show (["number","spot","level"]:List Str).Nodup by decide +kernel) rfl orL) dz)))) (fun _ _ _ _=>(tF (ax bI (pv 1) (pv 2) (aJ _)))) (fun _ _ _ _=>(pv 0))))) fun zt1 zh1=>?_
  k_all
  intro ze1
  refine ⟨_,ag (bB (aF bO hr.dn (by rfl) aW.m aW.F.kp aW.b .nil bT (ae (pv 1) (ae (aH (pv 0) (by rfl)) af)))) zh1,?_⟩
  k_all
  obtain ⟨⟨dx,hob⟩,hkn,hwh⟩:=id hy
  k_mem
  refine ⟨_,_,_,hob,T.bM,T.lR,_,rfl,?_⟩
  k_mem
  refine ⟨_,_,rfl,fun hlv=>?_,q2⟩
  k_mem
  refine ⟨_,_,_,hob,T.bM,T.cG,_,rfl,?_⟩
  k_mem
  refine ⟨⟨_,SqL.of hwh⟩,?_⟩
  refine yj ws.length (fun i acc H'=>av H H'/\acc=(BH ws lv i).map V.int) ⟨av.refl H,rfl⟩ ?_ ?_ ?_ ?_
  ·rintro i acc H' hi ⟨s1,_⟩
   k_upd
   exact ⟨_,_,s1.seq (SqL.of hwh),by rw [List.getElem?_map,ou hi];rfl⟩
  ·rintro acc H' ⟨s1,_⟩
   k_upd
   exact ⟨_,s1.seq (SqL.of hwh),by rw [List.length_map];exact Nat.le_refl _⟩
  ·rintro i acc H' hi ⟨s1,rfl⟩
   k_upd
   refine ⟨by have:=Fk ws lv i;rw [List.length_map,sizeLine_eq];omega,?_⟩
   rintro x H2 ⟨tp,z,rfl,htp,rfl,hz⟩ M hM
   have e:=hz _ (s1.seq (SqL.of hwh))
   rw [List.getElem?_map,ou hi] at e
   cases e
   k_mem
   refine ⟨_,SqT.of ai,rfl,?_⟩
   k_mem
   refine ⟨⟨rfl,fun k v e=>?_⟩,?_⟩
   ·match k,e with
    | 0,e=>cases e
    | 1,e=>cases e
    | 2,e=>exact e
   ·have gs:=JB ws lv i
    k_upd
    split
    ·rename_i h
     refine hM _ _ ⟨s1.lay htp,?_⟩
     rw [gs,if_pos h,List.map_append];rfl
    ·rename_i h
     refine hM _ _ ⟨s1.lay htp,?_⟩
     rw [gs,if_neg h,List.append_nil]
  ·rintro acc H' ⟨s1,rfl⟩ p hp
   k_upd
   exact q1 hlv p _ (s1.free hp) (s1.lay hp) ai
variable (lE:bu K Z.gR "at_level" "Yard.at_level" fP fJ qw o9)(qP:aI P w K mg base (CXf P w) 3 qw o9 fJ (pA K Z))
def xE (K:PySem.W.Frag)(Z:Adr):Sp:=fun vs H Q _=>∃(y kn wh:Addr) (ks:List Str) (ws:List Int) (m:Int),vs=[.ref y]/\dS Z.gR H y kn wh ks ws m/\∀(y' kn' wh':Addr) (H':Hp),H y'=none->H kn'=none->H wh'=none->kn'≠wh'->av H H'->dS Z.gR H' y' kn' wh' ks ws m->Q (.ref y') H'
include ji nN in
theorem ER {f:Addr}{fd:FuncData}(F:Fun K "twin" "Yard.twin" kW f fd)(T:Txt K mg Z):aI P w K mg base CX0 3 f fd kO (xE K Z):=by
 refine F.ok wA (fun vs H Q E h=>?_) (fun cdv A outer s H vs Q E hr h=>?_)
 ·obtain ⟨y,kn,wh,ks,ws,m,rfl,hy,q⟩:=h
  rfl
 ·obtain ⟨y,kn,wh,ks,ws,m,rfl,hy,q⟩:=h
  refine ⟨_,ag (aL (i:=1) wA.nd rfl orL (nj ji.M nN hr.dn (by rfl) T.LW ji.b .nil aO (ae (bC af) (ae (aH (pv 0) (by rfl)) af)))) (ag (c9 (pv 1) (bK bQ (by rfl) T.fD dB (ae (aH (pv 0) (by rfl)) af)) rfl) (ag (c9 (pv 1) (bK bQ (by rfl) T.fD dB (ae (aH (pv 0) (by rfl)) af)) rfl) (aj (aw (pv 1))))),?_⟩
  k_all
  obtain ⟨⟨dy,hob⟩,hkn,hwh⟩:=id hy
  k_mem
  refine ⟨by decide,fun p0 hp0=>⟨_,_,_,upo hob hp0,T.bM,T.lR,_,rfl,?_⟩⟩
  refine fun x dx hx hdx nxd=>?_
  have s0:=(av.refl H).lay (o:=HO.lst []) hp0
  have hx':upd (upd H p0 (HO.lst [])) dx (.own x) x=none:=by rw [aV (Ne.symm nxd)];exact hx
  refine ⟨x,dx,p0,[],m,rfl,ai,⟨[],SqL.of (upo (upo ai hdx) hx'),n6.nil⟩,by decide,fun kn0 wh0 H1 hkn0 hwh0 nkw kp hy1=>⟨rfl,?_⟩⟩
  have s1:=s0.trans (kJ hx hdx kp)
  obtain ⟨⟨dx1,hob1⟩,hkn1,hwh1⟩:=id hy1
  have hxn:H x=none:=s0.free hx
  clear kp hy1
  k_mem
  refine ⟨_,_,_,s1 _ _ hob,T.bM,T.kz,_,rfl,?_⟩
  k_mem
  refine ⟨_,.inl (SqL.of (s1 _ _ hkn)),fun k1 hk1=>⟨_,_,_,upo hob1 hk1,T.bM,T.kz,by show 3 < 1000;decide,?_⟩⟩
  have nk1:k1≠x:=fun z=>by rw [z,hob1] at hk1;cases hk1
  have s2:av H (upd (upd H1 k1 (HO.lst (ks.map V.str))) x (HO.ins Z.gR dx1 (bL "kinds" (.ref k1) [("kinds",V.ref kn0),("where",V.ref wh0),("many",V.int m)]))):=(s1.lay hk1).rewr hxn
  have hob2:upd (upd H1 k1 (HO.lst (ks.map V.str))) x (HO.ins Z.gR dx1 (bL "kinds" (.ref k1) [("kinds",V.ref kn0),("where",V.ref wh0),("many",V.int m)])) x=some (HO.ins Z.gR dx1 [("kinds",V.ref k1),("where",V.ref wh0),("many",V.int m)]):=by rw [ai];rfl
  have hk2:upd (upd H1 k1 (HO.lst (ks.map V.str))) x (HO.ins Z.gR dx1 (bL "kinds" (.ref k1) [("kinds",V.ref kn0),("where",V.ref wh0),("many",V.int m)])) k1=some (HO.lst (ks.map V.str)):=by rw [aV nk1,ai]
  generalize upd (upd H1 k1 (HO.lst (ks.map V.str))) x (HO.ins Z.gR dx1 (bL "kinds" (.ref k1) [("kinds",V.ref kn0),("where",V.ref wh0),("many",V.int m)]))=H2 at *
  refine ⟨_,_,_,s2 _ _ hob,T.bM,T.cG,_,rfl,?_⟩
  k_mem
  refine ⟨_,.inl (SqL.of (s2 _ _ hwh)),fun w1 hw1=>⟨_,_,_,upo hob2 hw1,T.bM,T.cG,by show 3 < 1000;decide,?_⟩⟩
  have nw1:w1≠x:=fun z=>by rw [z,hob2] at hw1;cases hw1
  have nkw1:k1≠w1:=aq hk2 hw1
  refine q x k1 w1 _ hxn (s1.free hk1) (s2.free hw1) nkw1 ((s2.lay hw1).rewr hxn) ⟨⟨dx1,by rw [ai];rfl⟩,?_,?_⟩
  ·rw [aV nk1,aV nkw1];exact hk2
  ·rw [aV nw1,ai]
variable (sW:bu K Z.gR "twin" "Yard.twin" kW kO y4 xl)(zp:aI P w K mg base CX0 3 y4 xl kO (xE K Z))
theorem Qb (s:Int)(x:Cd):inV (.int s) (cdV x)=decide (s=x.1\/s=x.2):=Iz s x.1 x.2
def vd (K:PySem.W.Frag)(Z:Adr):Sp:=fun vs H Q E=>∃(b cs fl st:Addr) (ls:List Cd) (fs:List Bool) (e:Eng) (lv s:Int),vs=[.ref b,.int lv,.int s]/\bR Z.bZ K H b cs fl st ls fs e/\
 (¬(0<=lv/\lv < ls.length)->E (.ref Z.aN) none H)/\
 (0<=lv->lv < ls.length->fs.getD lv.toNat false=true->E (.ref Z.j7) none H)/\
 (0<=lv->lv < ls.length->fs.getD lv.toNat false=false->¬(s=(jr ls lv).1\/s=(jr ls lv).2)->E (.ref Z.mE) none H)/\
 (0<=lv->lv < ls.length->fs.getD lv.toNat false=false->(s=(jr ls lv).1\/s=(jr ls lv).2)->∀st' H',aA b H H'->bR Z.bZ K H' b cs fl st' ls fs (.wait lv s)->Q .non H')
include aW bO in
theorem Cn {f:Addr}{fd:FuncData}(F:Fun K "ring" "Bells.ring" jP f fd)(T:Txt K mg Z):aI P w K mg base (CXf P w) 3 f fd jx (vd K Z):=by
 refine F.okF BR (fun vs H Q E h=>?_) (fun cdv A outer s H vs Q E hr h=>?_)
 ·obtain ⟨b,cs,fl,st,ls,fs,e,lv,s,rfl,hB,q1,q2,q3,q4⟩:=h
  rfl
 ·obtain ⟨b,cs,fl,st,ls,fs,e,lv,s,rfl,hB,q1,q2,q3,q4⟩:=h
  refine seg 3 (aj (c9 (pv 0) (bq (ae aR (ae (pv 1) (ae (pv 2) (ae gf af))))) rfl)) fun zt3 zh3=>?_
  k_all
  intro ze3
  refine seg 2 (ag (bb (ax pK (pv 2) (au aK (aH (pv 0) (by rfl)) (pv 1)) (by rfl)) (aj (bE T.FV (by rfl) T.FJ (ae aR af))) (aC)) zh3) fun zt2 zh2=>?_
  k_all
  intro ze2
  refine seg 1 (ag (bb (dj (au aK (aH (pv 0) (by rfl)) (pv 1))) (aj (bE T.HK (by rfl) T.Hu (ae aR af))) (aC)) zh2) fun zt1 zh1=>?_
  k_all
  intro ze1
  refine ⟨_,ag (bB (aF bO hr.dn (by rfl) aW.m aW.F.kp aW.b .nil bT (ae (pv 1) (ae (aM aG (by rfl) T.cy bD (ae (aH (pv 0) (by rfl)) af)) af)))) zh1,?_⟩
  k_all
  obtain ⟨⟨dx,hob⟩,⟨as,hcs,hT⟩,hfl,hst,nn,ln⟩:=id hB
  k_mem
  refine ⟨_,_,_,hob,T.bt,T.dQ,_,rfl,?_⟩
  k_mem
  refine ⟨_,.inl (SqL.of hcs),_,_,rfl,?_⟩
  rw [List.length_map,hT.1]
  k_upd
  refine ⟨fun hlv=>?_,q1⟩
  k_mem
  refine ⟨_,_,_,hob,T.bt,T.dk,_,rfl,?_⟩
  k_mem
  refine ⟨_,SqL.of hfl,_,pR hlv.1 (by omega),?_⟩
  k_mem
  split
  ·rename_i h
   k_upd
   exact ⟨by decide,q2 hlv.1 hlv.2 h⟩
  ·rename_i h
   k_upd
   refine ⟨_,_,_,hob,T.bt,T.dQ,_,rfl,?_⟩
   k_mem
   obtain ⟨ar,ea,hr⟩:=v9 hT hlv.1 hlv.2
   k_upd
   refine ⟨_,SqL.of hcs,_,ea,?_⟩
   k_mem
   refine ⟨_,.inr hr,rfl,rfl,?_⟩
   rw [Qb]
   k_mem
   split
   ·rename_i h2
    k_upd
    exact ⟨by decide,q3 hlv.1 hlv.2 (by simpa using h) h2⟩
   ·rename_i h2
    k_upd
    refine ⟨by decide,fun st' hst'=>⟨_,_,_,upo hob hst',T.bt,T.bU,by show 3 < 1000;decide,?_⟩⟩
    have nsx:st'≠b:=fun z=>by rw [z,hob] at hst';cases hst'
    refine q4 hlv.1 hlv.2 (by simpa using h) (Decidable.not_not.mp h2) st' _ ((aA.of ((av.refl H).lay hst')).put) (hB.state ((aA.of ((av.refl H).lay hst')).put) (dx:=dx) (by rw [ai];rfl) (SqT.of ?_))
    rw [aV nsx,ai];rfl
variable (qf:bu K Z.bZ "ring" "Bells.ring" jP jx wZ uJ)(xF:aI P w K mg base (CXf P w) 3 wZ uJ jx (vd K Z))
def ve (K:PySem.W.Frag)(Z:Adr):Sp:=fun vs H Q E=>∃(b cs fl st:Addr) (ls:List Cd) (fs:List Bool) (e:Eng) (lv:Int),vs=[.ref b,.int lv]/\bR Z.bZ K H b cs fl st ls fs e/\
 (¬(0<=lv/\lv < ls.length)->E (.ref Z.aN) none H)/\
 (0<=lv->lv < ls.length->fs.getD lv.toNat false=true->E (.ref Z.fV) none H)/\
 (0<=lv->lv < ls.length->fs.getD lv.toNat false=false->∀H',aA fl H H'->H' fl=some (.lst ((fs.set lv.toNat true).map V.bl))->Q .non H')
include aW bO in
theorem Co {f:Addr}{fd:FuncData}(F:Fun K "fail" "Bells.fail" jQ f fd)(T:Txt K mg Z):aI P w K mg base (CXf P w) 3 f fd jy (ve K Z):=by
 refine F.okF BS (fun vs H Q E h=>?_) (fun cdv A outer s H vs Q E hr h=>?_)
 ·obtain ⟨b,cs,fl,st,ls,fs,e,lv,rfl,hB,q1,q2,q3⟩:=h
  rfl
 ·obtain ⟨b,cs,fl,st,ls,fs,e,lv,rfl,hB,q1,q2,q3⟩:=h
  refine seg 2 (aj (kj ft (xZ (aH (pv 0) (by rfl)) (pv 1) oq))) fun zt2 zh2=>?_
  k_all
  intro ze2
  refine seg 1 (ag (bb (dj (au aK (aH (pv 0) (by rfl)) (pv 1))) (aj (bE T.AL (by rfl) T.AF (ae aR af))) (aC)) zh2) fun zt1 zh1=>?_
  k_all
  intro ze1
  refine ⟨_,ag (bB (aF bO hr.dn (by rfl) aW.m aW.F.kp aW.b .nil bT (ae (pv 1) (ae (aM aG (by rfl) T.cy bD (ae (aH (pv 0) (by rfl)) af)) af)))) zh1,?_⟩
  k_all
  obtain ⟨⟨dx,hob⟩,⟨as,hcs,hT⟩,hfl,hst,nn,ln⟩:=id hB
  k_mem
  refine ⟨_,_,_,hob,T.bt,T.dQ,_,rfl,?_⟩
  k_mem
  refine ⟨_,.inl (SqL.of hcs),_,_,rfl,?_⟩
  rw [List.length_map,hT.1]
  k_upd
  refine ⟨fun hlv=>?_,q1⟩
  k_mem
  refine ⟨_,_,_,hob,T.bt,T.dk,_,rfl,?_⟩
  k_mem
  refine ⟨_,SqL.of hfl,_,pR hlv.1 (by omega),?_⟩
  k_mem
  split
  ·rename_i h
   k_upd
   exact ⟨by decide,q2 hlv.1 hlv.2 h⟩
  ·rename_i h
   k_upd
   refine ⟨_,_,_,hob,T.bt,T.dk,_,rfl,?_⟩
   k_mem
   refine ⟨_,hfl,_,Em hlv.1 (by rw [List.length_map];omega),?_⟩
   k_upd
   exact q3 hlv.1 hlv.2 (by simpa using h) _ ((aA.of (av.refl H)).put) (by rw [ai,List.map_set])
variable (qg:bu K Z.bZ "fail" "Bells.fail" jQ jy w6 uK)(xG:aI P w K mg base (CXf P w) 3 w6 uK jy (ve K Z))
theorem Qc (e:Eng)(lv c:Int):eqL (pQ e) [V.str "armed",V.int lv,V.int c,V.int c]=match e with | .armed l' r=>decide (l'=lv/\r=c) | _=>false:=by
 cases e with
 | armed l r=>
  simp only [pQ,eqL,Ek,Bool.and_true]
  have:eqV (V.str "armed") (V.str "armed")=true:=rfl
  rw [this]
  by_cases h1:l=lv<;>by_cases h2:r=c<;>simp [h1,h2]
 | _=>rfl
theorem NJ {k:Str}(hk:k="men"\/k="coal"):∃i:Int,(if eqV (V.str "men") (V.str k)=true then (0:Int) else 1)=i/\(eqV (V.str "men") (V.str k) || eqV (V.str "coal") (V.str k))=true/\∀x:Cd,atI (cdV x) i=some (.int (if k="men" then x.1 else x.2)):=by
 rcases hk with rfl | rfl
 ·exact ⟨0,rfl,rfl,fun x=>rfl⟩
 ·exact ⟨1,rfl,rfl,fun x=>rfl⟩
def xH (K:PySem.W.Frag)(Z:Adr):Sp:=fun vs H Q E=>∃(b cs fl st:Addr) (ls:List Cd) (fs:List Bool) (e:Eng) (lv:Int) (k:Str),vs=[.ref b,.int lv,.str k]/\bR Z.bZ K H b cs fl st ls fs e/\(k="men"\/k="coal")/\
 (¬(0<=lv/\lv < ls.length)->E (.ref Z.aN) none H)/\
 (0<=lv->lv < ls.length->e≠.armed lv (dC ls lv k)->∀H',av H H'->E (.ref Z.iP) none H')/\
 (0<=lv->lv < ls.length->e=.armed lv (dC ls lv k)->∀st' H',aA b H H'->bR Z.bZ K H' b cs fl st' ls fs (.used lv (dC ls lv k))->Q .non H')
include aW bO in
theorem ES {f:Addr}{fd:FuncData}(F:Fun K "use" "Bells.use" kX f fd)(T:Txt K mg Z):aI P w K mg base (CXf P w) 3 f fd kP (xH K Z):=by
 refine F.okF wB (fun vs H Q E h=>?_) (fun cdv A outer s H vs Q E hr h=>?_)
 ·obtain ⟨b,cs,fl,st,ls,fs,e,lv,k,rfl,hB,hk,q1,q2,q3⟩:=h
  rfl
 ·obtain ⟨b,cs,fl,st,ls,fs,e,lv,k,rfl,hB,hk,q1,q2,q3⟩:=h
  refine seg 3 (aj (c9 (pv 0) (bq (ae aR (ae (pv 1) (ae (pv 3) (ae (pv 3) af))))) rfl)) fun zt3 zh3=>?_
  k_all
  intro ze3
  refine seg 2 (ag (bb (ax (Pg hr.units0) (aH (pv 0) (by rfl)) (bq (ae aR (ae (pv 1) (ae (pv 3) (ae (pv 3) af))))) (aJ _)) (aj (bE T.HM (by rfl) T.Hv (ae aR af))) (aC)) zh3) fun zt2 zh2=>?_
  k_all
  intro ze2
  refine seg 1 (ag (aL (i:=3) wB.nd rfl orL (au aE (au aK (aH (pv 0) (by rfl)) (pv 1)) (vU PySem.F.plainAttrs_tuple PySem.F.slot_tuple_index PySem.F.type_tuple_index JA (eT (by rfl) T.Nx) (ae (pv 2) af)))) zh2) fun zt1 zh1=>?_
  k_all
  intro ze1
  refine ⟨_,ag (bB (aF bO hr.dn (by rfl) aW.m aW.F.kp aW.b .nil bT (ae (pv 1) (ae (aM aG (by rfl) T.cy bD (ae (aH (pv 0) (by rfl)) af)) af)))) zh1,?_⟩
  k_all
  obtain ⟨⟨dx,hob⟩,⟨as,hcs,hT⟩,hfl,hst,nn,ln⟩:=id hB
  k_mem
  refine ⟨_,_,_,hob,T.bt,T.dQ,_,rfl,?_⟩
  k_mem
  refine ⟨_,.inl (SqL.of hcs),_,_,rfl,?_⟩
  rw [List.length_map,hT.1]
  k_upd
  refine ⟨fun hlv=>?_,q1⟩
  k_mem
  obtain ⟨ar,ea,hr⟩:=v9 hT hlv.1 hlv.2
  obtain ⟨i,ei,ek,ex⟩:=NJ hk
  k_upd
  refine ⟨_,_,_,hob,T.bt,T.dQ,_,rfl,?_⟩
  k_mem
  refine ⟨_,SqL.of hcs,_,ea,.inr (.inl ⟨rfl,T.Nz⟩),_,_,_,_,rfl,rfl,T.Ny _,rfl,rfl,rfl,ek,?_⟩
  rw [ei]
  k_mem
  refine ⟨_,hr,_,ex _,?_⟩
  k_mem
  have ec:(if k=Str.ofString "men" then (jr ls lv).1 else (jr ls lv).2)=dC ls lv k:=rfl
  rw [ec]
  k_upd
  refine ⟨_,_,_,hob,T.bt,T.bU,_,rfl,by decide,fun tp htp=>?_⟩
  k_mem
  refine ⟨_,_,_,_,rfl,rfl,((av.refl H).lay htp).tup hst,SqT.of ai,List.all_eq_true.mpr (yk e),rfl,?_⟩
  have s0:=(av.refl H).lay (o:=HO.tup [V.str (Str.ofString "armed"),V.int lv,V.int (dC ls lv k),V.int (dC ls lv k)]) htp
  have e2:eqL (pQ e) [V.str (Str.ofString "armed"),V.int lv,V.int (dC ls lv k),V.int (dC ls lv k)]=_:=Qc e lv (dC ls lv k)
  rw [e2]
  have hob0:=s0 _ _ hob
  generalize upd H tp (HO.tup [V.str (Str.ofString "armed"),V.int lv,V.int (dC ls lv k),V.int (dC ls lv k)])=H0 at *
  have no:e≠.armed lv (dC ls lv k)->E (.ref Z.iP) none H0:=fun z=>q2 hlv.1 hlv.2 z H0 s0
  cases e with
  | armed l' r=>
   k_mem
   by_cases hh:l'=lv/\r=dC ls lv k
   ·rw [if_neg (by simp [hh])]
    k_mem
    refine ⟨by decide,fun st' hst'=>⟨_,_,_,upo hob0 hst',T.bt,T.bU,by show 3 < 1000;decide,?_⟩⟩
    have nsx:st'≠b:=fun z=>by rw [z,hob0] at hst';cases hst'
    have k0:=((aA.of (s0.lay (o:=HO.tup [V.str (Str.ofString "used up"),V.int lv,V.int (dC ls lv k),V.int (dC ls lv k)]) hst')).put (o:=HO.ins Z.bZ dx (bL "state" (.ref st') [("codes",V.ref cs),("failed",V.ref fl),("state",V.ref st)])) (p:=b))
    refine q3 hlv.1 hlv.2 (by rw [hh.1,hh.2]) st' _ k0 (hB.state k0 (dx:=dx) (by rw [ai];rfl) (SqT.of ?_))
    rw [aV nsx,ai];rfl
   ·rw [if_pos (by simp;intro z1 z2;exact hh ⟨z1,z2⟩)]
    k_mem
    exact ⟨by decide,no fun z=>by injection z with z1 z2;exact hh ⟨z1,z2⟩⟩
  | _=>
   k_mem
   exact ⟨by decide,no fun z=>Eng.noConfusion z⟩
variable (sX:bu K Z.bZ "use" "Bells.use" kX kP y6 xm)(zq:aI P w K mg base (CXf P w) 3 y6 xm kP (xH K Z))
def vf (K:PySem.W.Frag)(Z:Adr):Sp:=fun vs H Q _=>∃(b cs fl st:Addr) (ls:List Cd) (fs:List Bool) (e:Eng),vs=[.ref b]/\bR Z.bZ K H b cs fl st ls fs e/\ls.length<=1000/\∀(b' cs' fl':Addr) (H':Hp),H b'=none->H cs'=none->H fl'=none->av H H'->bR Z.bZ K H' b' cs' fl' st ls fs e->Q (.ref b') H'
include gS lS in
theorem Cp {f:Addr}{fd:FuncData}(F:Fun K "twin" "Bells.twin" jS f fd)(T:Txt K mg Z):aI P w K mg base CX0 3 f fd jA (vf K Z):=by
 refine F.ok ub (fun vs H Q E h=>?_) (fun cdv A outer s H vs Q E hr h=>?_)
 ·obtain ⟨b,cs,fl,st,ls,fs,e,rfl,hB,hn,q⟩:=h
  rfl
 ·obtain ⟨b,cs,fl,st,ls,fs,e,rfl,hB,hn,q⟩:=h
  refine ⟨_,ag (aL (i:=1) ub.nd rfl orL (nj gS.M lS hr.dn (by rfl) T.IT gS.b .nil aO (ae (aH (pv 0) (by rfl)) af))) (ag (c9 (pv 1) (bK bQ (by rfl) T.fD dB (ae (aH (pv 0) (by rfl)) af)) rfl) (ag (c9 (pv 1) (aH (pv 0) (by rfl)) rfl) (aj (aw (pv 1))))),?_⟩
  k_all
  obtain ⟨⟨db,hob⟩,⟨as,hcs,hT⟩,hfl,hst,nn,ln⟩:=id hB
  k_mem
  refine ⟨_,_,_,hob,T.bt,T.dQ,_,rfl,?_⟩
  refine fun x dx hx hdx nxd=>?_
  have hx':upd H dx (.own x) x=none:=by rw [aV (Ne.symm nxd)];exact hx
  refine ⟨x,dx,cs,ls,rfl,ai,hB.rows.same (((av.refl H).lay hdx).lay hx'),hn,fun cs1 fl1 st1 H1 hcs1 hfl1 kp hB1=>⟨rfl,?_⟩⟩
  have s1:=kJ hx hdx kp
  obtain ⟨⟨dx1,hob1⟩,⟨as1,hc1,hT1⟩,hf1,_,nn1,ln1⟩:=id hB1
  clear kp
  k_mem
  refine ⟨_,_,_,s1 _ _ hob,T.bt,T.dk,_,rfl,?_⟩
  k_mem
  refine ⟨_,.inl (SqL.of (s1 _ _ hfl)),fun f2 hf2=>⟨_,_,_,upo hob1 hf2,T.bt,T.dk,by show 3 < 1000;decide,?_⟩⟩
  have nf2:f2≠x:=fun z=>by rw [z,hob1] at hf2;cases hf2
  have ncf:cs1≠f2:=aq hc1 hf2
  have ncx:cs1≠x:=fun z=>by rw [z,hob1] at hc1;cases hc1
  have s2:av H (upd (upd H1 f2 (HO.lst (fs.map V.bl))) x (HO.ins Z.bZ dx1 (bL "failed" (.ref f2) [("codes",V.ref cs1),("failed",V.ref fl1),("state",V.ref st1)]))):=(s1.lay hf2).rewr hx
  have k2:L2.aA x H1 (upd (upd H1 f2 (HO.lst (fs.map V.bl))) x (HO.ins Z.bZ dx1 (bL "failed" (.ref f2) [("codes",V.ref cs1),("failed",V.ref fl1),("state",V.ref st1)]))):=(aA.of ((av.refl H1).lay hf2)).put
  have hob2:upd (upd H1 f2 (HO.lst (fs.map V.bl))) x (HO.ins Z.bZ dx1 (bL "failed" (.ref f2) [("codes",V.ref cs1),("failed",V.ref fl1),("state",V.ref st1)])) x=some (HO.ins Z.bZ dx1 [("codes",V.ref cs1),("failed",V.ref f2),("state",V.ref st1)]):=by rw [ai];rfl
  have hff:upd (upd H1 f2 (HO.lst (fs.map V.bl))) x (HO.ins Z.bZ dx1 (bL "failed" (.ref f2) [("codes",V.ref cs1),("failed",V.ref fl1),("state",V.ref st1)])) f2=some (HO.lst (fs.map V.bl)):=by rw [aV nf2,ai]
  generalize upd (upd H1 f2 (HO.lst (fs.map V.bl))) x (HO.ins Z.bZ dx1 (bL "failed" (.ref f2) [("codes",V.ref cs1),("failed",V.ref fl1),("state",V.ref st1)]))=H2 at *
  refine ⟨_,_,_,s2 _ _ hob,T.bt,T.bU,_,rfl,?_⟩
  k_mem
  refine ⟨_,_,_,hob2,T.bt,T.bU,by show 3 < 1000;decide,?_⟩
  have k3:L2.aA x H2 (upd H2 x (HO.ins Z.bZ dx1 (bL "state" (.ref st) [("codes",V.ref cs1),("failed",V.ref f2),("state",V.ref st1)]))):=(aA.of (av.refl H2)).put
  refine q x cs1 f2 _ hx (jt hcs1) (s1.free hf2) (s2.rewr hx) ⟨⟨dx1,by rw [ai];rfl⟩,⟨as1,k3 _ _ ncx (k2 _ _ ncx hc1),(hT1.keepI k2 hob1).keepI k3 hob2⟩,k3 _ _ nf2 hff,(s2.rewr hx).tup hst,ncf,ln⟩
variable (qh:bu K Z.bZ "twin" "Bells.twin" jS jA w8 uL)(xI:aI P w K mg base CX0 3 w8 uL jA (vf K Z))
def sY (K:PySem.W.Frag)(Z:Adr):Sp:=fun vs H Q _=>∃(a:Addr) (ds:List Int) (c lv:Int),vs=[.ref a,.int c,.int lv]/\SqL K H a (ds.map V.int)/\0<=lv/\lv < ds.length/\Q (.int (if c=0 then ds.getD lv.toNat 0 else cv ds - ds.getD lv.toNat 0)) H
include cu fY in
theorem Bs {f:Addr}{fd:FuncData}(F:Fun K "wound_place" "wound_place" iE f fd)(T:Txt K mg Z):aI P w K mg base CX0 3 f fd ij (sY K Z):=by
 refine F.ok Ap (fun vs H Q E h=>?_) (fun cdv A outer s H vs Q E hr h=>?_)
 ·obtain ⟨a,ds,c,lv,rfl,hS,h0,h1,q⟩:=h
  rfl
 ·obtain ⟨a,ds,c,lv,rfl,hS,h0,h1,q⟩:=h
  refine seg 1 (aj (aw (aF fY hr.dn (by rfl) cu.m cu.F.kp cu.b .nil aO (ae (pv 0) (ae (au aK (pv 0) (pv 2)) af))))) fun zt1 zh1=>?_
  k_all
  intro ze1
  refine ⟨_,ag (bb (ax bI (pv 1) ah (aJ _)) (aj (aw (au aK (pv 0) (pv 2)))) (aC)) zh1,?_⟩
  k_all
  k_mem
  split
  ·rename_i hc
   k_upd
   rw [if_pos hc] at q
   k_upd
   exact ⟨_,hS,_,eQ h0 h1,q⟩
  ·rename_i hc
   k_upd
   rw [if_neg hc] at q
   k_upd
   refine ⟨_,hS,_,eQ h0 h1,?_⟩
   k_mem
   exact ⟨a,ds,_,rfl,hS,by omega,q⟩
variable (kD:Def K mg "wound_place" iE ij uw sg)(vg:aI P w K mg base CX0 3 uw sg ij (sY K Z))
def zr (K:PySem.W.Frag)(Z:Adr):Sp:=fun vs H Q _=>∃(a:Addr) (ds:List Int) (pl:Int),vs=[.ref a,.int pl]/\SqL K H a (ds.map V.int)/\0 < ds.length/\ds.length<=1000/\∀(b:Addr) (H':Hp),H b=none->av H H'->H' b=some (.lst ((nv ds pl).map V.int))->Q (.ref b) H'
include cu fY in
theorem Gy {f:Addr}{fd:FuncData}(F:Fun K "gates_by" "gates_by" mr f fd)(T:Txt K mg Z):aI P w K mg base CX0 3 f fd mh (zr K Z):=by
 refine F.ok yU (fun vs H Q E h=>?_) (fun cdv A outer s H vs Q E hr h=>?_)
 ·obtain ⟨a,ds,pl,rfl,hS,h0,h1,q⟩:=h
  rfl
 ·obtain ⟨a,ds,pl,rfl,hS,h0,h1,q⟩:=h
  refine ⟨_,ag (aL (i:=2) yU.nd rfl (Or.inr rfl) (bq (ae (pv 1) (ae (aF fY hr.dn (by rfl) cu.m cu.F.kp cu.b .nil aO (ae (pv 0) (ae (pv 1) af))) af)))) (aj (aw (qs ["level","depths","stands"] [none,some 0,some 2] (cw (by rfl) T.c7 (ae (aM aG (by rfl) T.cy bD (ae (pv 0) af)) af)) (fun _ _ _ _=>(aB (i:=0) (show (["level","depths","stands"]:List Str).Nodup by decide +kernel) rfl orL)) (fun _ _ _ _=>(tF (ax (show OpR _ _ (rIn K false) from tD) (au (show IxR _ (Mq K) from aK) (pv 1) (pv 0)) (pv 2) (by rfl)))) (fun _ _ _ _=>(pv 0))))),?_⟩
  k_all
  k_mem
  refine ⟨a,ds,pl,rfl,hS,h0,?_⟩
  k_mem
  refine ⟨by decide,fun t ht=>⟨_,.inl (((av.refl H).lay ht).seq hS),by omega,by rw [List.length_map];omega,?_⟩⟩
  refine iW (fun i=>decide (ds.getD i 0=pl\/ds.getD i 0=cv ds - pl)) (fun i=>V.int (i:Int)) (Nat.le_of_lt (dX (by rw [List.length_map];omega))) rfl (fun i hi N q=>?_) (fun i hi _ N q=>?_) (fun b hb=>?_)
  ·rw [List.length_map] at hi
   k_mem
   refine ⟨_,((av.refl H).lay ht).seq hS,_,by rw [Int.zero_add];exact kH (by omega),_,.inr (SqT.of ai),rfl,rfl,?_⟩
   rw [Iz]
   exact q
  ·k_mem
   rw [Int.zero_add]
   exact q
  ·refine q b _ (upn hb) (((av.refl H).lay ht).lay hb) ?_
   rw [ai]
   unfold nv
   rw [List.map_map,List.length_map]
   rfl
variable (qi:Def K mg "gates_by" mr mh AU zf)(Bt:aI P w K mg base CX0 3 AU zf mh (zr K Z))
def NK (rs:List Row):Prop:=∀r∈rs,1<=r.speed/\r.speed<=500/\0<=r.began
def L9 (H:Hp)(n0:aY)(rs:List Row)(t:Int)(x0:V)(i:Nat)(σ:St)(H':Hp):Prop:=H'=H/\∃a b c d e,σ=[some x0,some (.int t),some (.int (gu n0 (rs.take i) t).1),some (.int (gu n0 (rs.take i) t).2),a,b,c,d,e]
def pB (K:PySem.W.Frag)(Z:Adr):Sp:=fun vs H Q E=>∃(bk rl:Addr) (g:Cfg) (n0:aY) (rs:List Row) (t:Int),vs=[.ref bk,.int t]/\BAt (clZ Z) K H bk rl g n0 rs/\NK rs/\bw rs<=1000000/\(0<=t/\t<=bw rs->Q (.int (iY n0 rs t)) H)/\(¬(0<=t/\t<=bw rs)->E (.ref Z.cO) none H)
include kA uW cY fG in
theorem yF {f:Addr}{fd:FuncData}(F:Fun K "place_at" "Book.place_at" fS f fd)(T:Txt K mg Z):aI P w K mg base (CXf P w) 3 f fd fM (pB K Z):=by
 refine F.okF bW (fun vs H Q E h=>?_) (fun cdv A outer s H vs Q E hr h=>?_)
 ·obtain ⟨bk,rl,g,n0,rs,t,rfl,hB,hrs,hnow,q1,q2⟩:=h
  rfl
 ·obtain ⟨bk,rl,g,n0,rs,t,rfl,hB,hrs,hnow,q1,q2⟩:=h
  refine seg 4 (aj (aw (pv 2))) fun zt4 zh4=>?_
  k_all
  intro ze4
  refine seg 3 (ag (dA yh rfl (fz (aH (pv 0) (by rfl))) (jm rfl (aQ (aB (i:=4) bW.nd rfl orL) (aQ (aB (i:=5) bW.nd rfl orL) (aQ (aB (i:=6) bW.nd rfl orL) (aQ (aB (i:=7) bW.nd rfl orL) (aQ (aB (i:=8) bW.nd rfl orL) dz)))))) (aj (bb (ax Ik (pv 4) (pv 1) (aJ _)) (ag (aL (i:=2) bW.nd rfl orL (aF uW hr.dn (by rfl) kA.m kA.F.kp kA.b .nil aO (ae (pv 3) (ae (aH (pv 8) (by rfl)) (ae (pv 7) (ae (aS eS (pv 1) (pv 4)) af)))))) (aj (aL (i:=3) bW.nd rfl orL (aH (pv 8) (by rfl))))) (aC)))) zh4) fun zt3 zh3=>?_
  k_all
  intro ze3
  refine seg 2 (ag (aL (i:=3) bW.nd rfl orL (aH (aH (pv 0) (by rfl)) (by rfl))) zh3) fun zt2 zh2=>?_
  k_all
  intro ze2
  refine seg 1 (ag (aL (i:=2) bW.nd rfl orL (aH (aH (pv 0) (by rfl)) (by rfl))) zh2) fun zt1 zh1=>?_
  k_all
  intro ze1
  refine ⟨_,ag (bB (bj (pv 0) T.bg cY.M fG hr.dn cY.b .nil bT (ae (pv 1) af))) zh1,?_⟩
  k_all
  obtain ⟨⟨dx,f0,hob,A0,hF⟩,as,hrl,hR⟩:=id hB
  have hl:=hR.1
  k_mem
  refine ⟨_,_,hob,rfl,_,_,_,_,_,_,rfl,hB,fun ht=>?_,q2⟩
  k_mem
  refine ⟨_,_,_,hob,T.bg,T.iS,_,rfl,?_⟩
  k_mem
  refine ⟨_,_,_,hF.ob,T.aP,T.bN,_,rfl,?_⟩
  k_mem
  refine ⟨_,_,_,hob,T.bg,T.iS,_,rfl,?_⟩
  k_mem
  refine ⟨_,_,_,hF.ob,T.aP,T.bN,_,rfl,?_⟩
  k_mem
  refine ⟨_,_,_,hob,T.bg,T.cf,_,rfl,?_⟩
  k_mem
  refine ⟨⟨_,SqL.of hrl⟩,?_⟩
  k_upd
  refine jc (as.map V.ref) (L9 H n0 rs t (.ref bk)) ⟨rfl,_,_,_,_,_,rfl⟩ (fun i σ H' _ ⟨e,_⟩=>by rw [e];exact SqL.of hrl) ?_ ?_
  ·rintro i x σ H' hx ⟨rfl,a1,a2,a3,a4,a5,rfl⟩
   rw [List.getElem?_map] at hx
   obtain ⟨a,ea,rfl⟩:=Option.map_eq_some_iff.mp hx
   have hi:i < as.length:=(List.getElem?_eq_some_iff.mp ea).1
   have hi':i < rs.length:=by omega
   obtain ⟨dd,s,hra,hdd,A,hA⟩:=hR.2 i a _ ea (List.getElem?_eq_getElem hi')
   have hok:=hrs _ (List.getElem_mem hi')
   have et:=Ez n0 rs t hi'
   k_mem
   refine ⟨_,hra,rfl,?_⟩
   k_mem
   split
   ·rename_i hb
    k_upd
    refine ⟨_,_,_,hA.ob,T.aP,T.bN,_,rfl,?_⟩
    k_mem
    have hn:=Int.mul_nonneg (show 0<=rs[i].speed by omega) (show 0<=t - rs[i].began by omega)
    k_upd
    refine ⟨_,_,_,_,rfl,by omega,by omega,hn,fun v h1 h2 h3=>?_⟩
    have ev:=PQ h1 h2 h3
    k_mem
    refine ⟨_,_,_,hA.ob,T.aP,T.bN,_,rfl,?_⟩
    k_mem
    have e2:gu n0 (rs.take (i+1)) t=(v,rs[i].sn.place):=by rw [et,ev];unfold yP;rw [if_pos hb]
    unfold L9
    rw [e2]
    k_upd
    exact ⟨rfl,_,_,_,_,_,rfl⟩
   ·rename_i hb
    have e2:gu n0 (rs.take (i+1)) t=gu n0 (rs.take i) t:=by rw [et];unfold yP;rw [if_neg hb]
    unfold L9
    rw [e2]
    k_upd
    exact ⟨rfl,_,_,_,_,_,rfl⟩
  ·rintro σ H' ⟨rfl,a1,a2,a3,a4,a5,rfl⟩
   k_mem
   have q':=q1 ht
   unfold iY at q'
   rw [List.length_map,hl,List.take_length]
   k_upd
   exact q'
variable (lF:bu K Z.pY "place_at" "Book.place_at" fS fM qx pd)(qQ:aI P w K mg base (CXf P w) 3 qx pd fM (pB K Z))
def Rp (H:Hp)(n0:aY)(rs:List Row)(t:Int)(x0:V)(i:Nat)(σ:St)(H':Hp):Prop:=av H H'/\∃p a b c d e,σ=[some x0,some (.int t),some (.ref p),a,b,c,d,e]/\H p=none/\H' p=some (.lst ((dR n0 (rs.take i) t).map V.int))
def pC (K:PySem.W.Frag)(Z:Adr):Sp:=fun vs H Q E=>∃(bk rl:Addr) (g:Cfg) (n0:aY) (rs:List Row) (t:Int),vs=[.ref bk,.int t]/\BAt (clZ Z) K H bk rl g n0 rs/\(0<=t/\t<=bw rs->∀p H',H p=none->av H H'->H' p=some (.lst ((dR n0 rs t).map V.int))->Q (.ref p) H')/\(¬(0<=t/\t<=bw rs)->E (.ref Z.cO) none H)
include cT fE cY fG in
theorem yG {f:Addr}{fd:FuncData}(F:Fun K "spots_at" "Book.spots_at" fT f fd)(T:Txt K mg Z):aI P w K mg base (CXf P w) 3 f fd fN (pC K Z):=by
 refine F.okF cR (fun vs H Q E h=>?_) (fun cdv A outer s H vs Q E hr h=>?_)
 ·obtain ⟨bk,rl,g,n0,rs,t,rfl,hB,q1,q2⟩:=h
  rfl
 ·obtain ⟨bk,rl,g,n0,rs,t,rfl,hB,q1,q2⟩:=h
  refine seg 3 (aj (aw (pv 2))) fun zt3 zh3=>?_
  k_all
  intro ze3
  refine seg 2 (ag (dA yh rfl (fz (aH (pv 0) (by rfl))) (jm rfl (aQ (aB (i:=3) cR.nd rfl orL) (aQ (aB (i:=4) cR.nd rfl orL) (aQ (aB (i:=5) cR.nd rfl orL) (aQ (aB (i:=6) cR.nd rfl orL) (aQ (aB (i:=7) cR.nd rfl orL) dz)))))) (aj (bb (ax Ik (pv 4) (pv 1) (aJ _)) (aj (aL (i:=2) cR.nd rfl orL (ba (aH (pv 7) (by rfl)) T.bM cT.M fE hr.dn cT.b .nil aO))) (aC)))) zh3) fun zt2 zh2=>?_
  k_all
  intro ze2
  refine seg 1 (ag (aL (i:=2) cR.nd rfl orL (ba (aH (aH (pv 0) (by rfl)) (by rfl)) T.bM cT.M fE hr.dn cT.b .nil aO)) zh2) fun zt1 zh1=>?_
  k_all
  intro ze1
  refine ⟨_,ag (bB (bj (pv 0) T.bg cY.M fG hr.dn cY.b .nil bT (ae (pv 1) af))) zh1,?_⟩
  k_all
  obtain ⟨⟨dx,f0,hob,A0,hF⟩,as,hrl,hR⟩:=id hB
  have hl:=hR.1
  k_mem
  refine ⟨_,_,hob,rfl,_,_,_,_,_,_,rfl,hB,fun ht=>?_,q2⟩
  k_mem
  refine ⟨_,_,_,hob,T.bg,T.iS,_,rfl,?_⟩
  k_mem
  refine ⟨_,_,_,hF.ob,T.aP,T.bA,_,rfl,?_⟩
  k_mem
  obtain ⟨dy,hyb⟩:=hF.ya.ob
  k_upd
  refine ⟨_,_,hyb,rfl,_,_,_,_,_,_,rfl,hF.ya,fun p hp=>?_⟩
  have s1:=(av.refl H).lay (o:=HO.lst (n0.ws.map V.int)) hp
  k_mem
  refine ⟨_,_,_,s1 _ _ hob,T.bg,T.cf,_,rfl,?_⟩
  k_mem
  refine ⟨⟨_,SqL.of (s1 _ _ hrl)⟩,?_⟩
  k_upd
  refine jc (as.map V.ref) (Rp H n0 rs t (.ref bk)) ⟨s1,p,_,_,_,_,_,rfl,hp,ai⟩ (fun i σ H' _ h=>SqL.of (h.1 _ _ hrl)) ?_ ?_
  ·rintro i x σ H' hx ⟨s2,p2,a1,a2,a3,a4,a5,rfl,hp2,ep2⟩
   rw [List.getElem?_map] at hx
   obtain ⟨a,ea,rfl⟩:=Option.map_eq_some_iff.mp hx
   have hi:i < as.length:=(List.getElem?_eq_some_iff.mp ea).1
   have hi':i < rs.length:=by omega
   obtain ⟨dd,s,hra,hdd,A,hA⟩:=hR.2 i a _ ea (List.getElem?_eq_getElem hi')
   have et:=EA n0 rs t hi'
   have hA':=hA.same s2
   k_mem
   refine ⟨_,s2.tup hra,rfl,?_⟩
   k_mem
   split
   ·rename_i hb
    k_upd
    refine ⟨_,_,_,hA'.ob,T.aP,T.bA,_,rfl,?_⟩
    k_mem
    obtain ⟨dy2,hyb2⟩:=hA'.ya.ob
    k_upd
    refine ⟨_,_,hyb2,rfl,_,_,_,_,_,_,rfl,hA'.ya,fun p3 hp3=>?_⟩
    k_mem
    refine ⟨s2.lay hp3,p3,_,_,_,_,_,rfl,s2.free hp3,?_⟩
    rw [et,ai]
    unfold wq
    k_upd
    rw [if_pos hb]
   ·rename_i hb
    k_upd
    refine ⟨s2,p2,_,_,_,_,_,rfl,hp2,?_⟩
    rw [et,ep2]
    unfold wq
    k_upd
    rw [if_neg hb]
  ·rintro σ H' ⟨s2,p2,a1,a2,a3,a4,a5,rfl,hp2,ep2⟩
   k_mem
   rw [List.length_map,hl,List.take_length] at ep2
   k_upd
   exact q1 ht p2 H' hp2 s2 ep2
variable (lG:bu K Z.pY "spots_at" "Book.spots_at" fT fN qy pe)(qR:aI P w K mg base (CXf P w) 3 qy pe fN (pC K Z))
def vh (K:PySem.W.Frag)(Z:Adr):Sp:=fun vs H Q E=>∃(x dx d c l:Addr) (ds:List Int) (ls:List Cd) (lds:List Ld) (slow fast:Int) (N:Addr->Prop),vs=[.ref x,.ref d,.ref c,.int slow,.int fast,.ref l]/\H x=some (.ins Z.bF dx [])/\SqL K H d (ds.map V.int)/\n8 cdV K H c ls/\iX K H l lds/\ds.length<=1000/\ls.length<=1000/\lds.length<=1000/\(∀p,N p->∃ys,H p=some (.lst ys))/\
 (¬cM ds->E (.ref Z.jg) none H)/\
 (cM ds->¬((ls.length:Int)=(ds.length:Nat)/\∀x∈ls,gx x)->E (.ref Z.lj) none H)/\
 (cM ds->((ls.length:Int)=(ds.length:Nat)/\∀x∈ls,gx x)->¬(1<=slow/\slow<=fast/\fast<=500)->E (.ref Z.jh) none H)/\
 (cM ds->((ls.length:Int)=(ds.length:Nat)/\∀x∈ls,gx x)->(1<=slow/\slow<=fast/\fast<=500)->¬(lds.length<=30/\∀x∈lds,l4 (ds.length:Nat) x)->E (.ref Z.lh) none H)/\
 (cM ds->((ls.length:Int)=(ds.length:Nat)/\∀x∈ls,gx x)->(1<=slow/\slow<=fast/\fast<=500)->(lds.length<=30/\∀x∈lds,l4 (ds.length:Nat) x)->∀bk rl H',aA x H H'->H rl=none->WAt (clZ Z) K H' x bk rl (fI ds ls slow fast lds N) (eU ds ls lds) []->Q .non H')
include ji nN gS lS j9 sr ka sv dZ i4 sC zi kB uZ kC u6 in
theorem Cq {f:Addr}{fd:FuncData}(F:Fun K "__init__" "Works.__init__" jW f fd)(T:Txt K mg Z):aI P w K mg base (CXf P w) 3 f fd jE (vh K Z):=by
 refine F.okF oa (fun vs H Q E h=>?_) (fun cdv A outer s H vs Q E hr h=>?_)
 ·obtain ⟨x,dx,d,c,l,ds,ls,lds,slow,fast,N,rfl,hx,hD,hC,hL,n1,n2,n3,hN,q1,q2,q3,q4,q5⟩:=h
  rfl
 ·obtain ⟨x,dx,d,c,l,ds,ls,lds,slow,fast,N,rfl,hx,hD,hC,hL,n1,n2,n3,hN,q1,q2,q3,q4,q5⟩:=h
  refine ⟨_,ag (bB (aF sr hr.dn (by rfl) j9.m j9.F.kp j9.b .nil bT (ae (pv 1) af))) (ag (bB (aF u6 hr.dn (by rfl) kC.m kC.F.kp kC.b .nil bT (ae (pv 2) (ae (aM aG (by rfl) T.cy bD (ae (pv 1) af)) af)))) (ag (bB (aF sv hr.dn (by rfl) ka.m ka.F.kp ka.b .nil bT (ae (pv 3) (ae (pv 4) af)))) (ag (bB (aF uZ hr.dn (by rfl) kB.m kB.F.kp kB.b .nil bT (ae (pv 5) (ae (aM aG (by rfl) T.cy bD (ae (pv 1) af)) af)))) (ag (c9 (pv 0) (bK bQ (by rfl) T.fD dB (ae (pv 1) af)) rfl) (ag (c9 (pv 0) (pv 3) rfl) (ag (c9 (pv 0) (pv 4) rfl) (ag (c9 (pv 0) (qs ["kind","level","goal"] [none,none,none] (fz (pv 5)) (fun _ _ _ _=>(show PG _ _ (DY K 3 _) from jm (n:=3) rfl (aQ (aB (i:=0) (show (["kind","level","goal"]:List Str).Nodup by decide +kernel) rfl orL) (aQ (aB (i:=1) (show (["kind","level","goal"]:List Str).Nodup by decide +kernel) rfl orL) (aQ (aB (i:=2) (show (["kind","level","goal"]:List Str).Nodup by decide +kernel) rfl orL) dz))))) (fun _ _ _ _=>kv) (fun _ _ _ _=>(pv 2))) rfl) (ag (KY ["depth"] [none] (iy:=6) oa.nd rfl rfl (fz (pv 1)) (fun _ _ _ _=>(aB (i:=0) (show (["depth"]:List Str).Nodup by decide +kernel) rfl orL)) (fun _ _ _ _=>kv) (fun _ _ _ _=>ft)) (ag (aL (i:=7) oa.nd rfl orL (nj dZ.M i4 hr.dn (by rfl) T.AG dZ.b .nil aO (ae (au aK (pv 1) ah) (ae (pv 6) (ae (nj gS.M lS hr.dn (by rfl) T.IT gS.b .nil aO (ae (pv 2) af)) (ae (nj ji.M nN hr.dn (by rfl) T.LW ji.b .nil aO (ae (pv 5) (ae (aM aG (by rfl) T.cy bD (ae (pv 1) af)) af))) af)))))) (aj (c9 (pv 0) (nj sC.M zi hr.dn (by rfl) T.PV sC.b .nil aO (ae (pv 7) (ae (eT (by rfl) T.EJ) af))) rfl))))))))))),?_⟩
  k_all
  k_mem
  refine ⟨d,ds,rfl,hD,by omega,fun sh=>?_,q1⟩
  k_mem
  refine ⟨_,.inl hD,?_⟩
  rw [List.length_map]
  refine ⟨c,ls,_,rfl,hC,fun h2=>?_,q2 sh⟩
  k_mem
  refine ⟨_,_,rfl,?_⟩
  by_cases h3:1<=slow/\slow<=fast/\fast<=500
  case neg=>rw [if_neg h3];exact q3 sh h2 h3
  rw [if_pos h3]
  k_mem
  refine ⟨_,.inl hD,?_⟩
  rw [List.length_map]
  refine ⟨l,lds,_,rfl,hL,fun h4=>?_,q4 sh h2 h3⟩
  replace q5:=q5 sh h2 h3 h4
  clear q1 q2 q3 q4
  k_mem
  refine ⟨_,.inl hD,fun dl hdl=>⟨_,_,_,upo hx hdl,T.aD,T.dm,by decide,_,_,_,ai,T.aD,T.uf,by show 1 < 1000;decide,_,_,_,ai,T.aD,T.ug,by show 2 < 1000;decide,?_⟩⟩
  have ndx:dl≠x:=fun z=>by rw [z,hx] at hdl;cases hdl
  have k1:L2.aA x H (upd (upd (upd (upd H dl (HO.lst (ds.map V.int))) x (HO.ins Z.bF dx (bL "depths" (.ref dl) []))) x (HO.ins Z.bF dx (bL "slow" (.int slow) (bL "depths" (.ref dl) [])))) x (HO.ins Z.bF dx (bL "fast" (.int fast) (bL "slow" (.int slow) (bL "depths" (.ref dl) []))))):=(((aA.of ((av.refl H).lay hdl)).put).put).put
  have hx1:upd (upd (upd (upd H dl (HO.lst (ds.map V.int))) x (HO.ins Z.bF dx (bL "depths" (.ref dl) []))) x (HO.ins Z.bF dx (bL "slow" (.int slow) (bL "depths" (.ref dl) [])))) x (HO.ins Z.bF dx (bL "fast" (.int fast) (bL "slow" (.int slow) (bL "depths" (.ref dl) [])))) x=some (HO.ins Z.bF dx [("depths",.ref dl),("slow",.int slow),("fast",.int fast)]):=by rw [ai];rfl
  have hd1:upd (upd (upd (upd H dl (HO.lst (ds.map V.int))) x (HO.ins Z.bF dx (bL "depths" (.ref dl) []))) x (HO.ins Z.bF dx (bL "slow" (.int slow) (bL "depths" (.ref dl) [])))) x (HO.ins Z.bF dx (bL "fast" (.int fast) (bL "slow" (.int slow) (bL "depths" (.ref dl) [])))) dl=some (HO.lst (ds.map V.int)):=by rw [aV ndx,aV ndx,aV ndx,ai]
  generalize upd (upd (upd (upd H dl (HO.lst (ds.map V.int))) x (HO.ins Z.bF dx (bL "depths" (.ref dl) []))) x (HO.ins Z.bF dx (bL "slow" (.int slow) (bL "depths" (.ref dl) [])))) x (HO.ins Z.bF dx (bL "fast" (.int fast) (bL "slow" (.int slow) (bL "depths" (.ref dl) []))))=H1 at *
  obtain ⟨asL,hLs,hLt⟩:=id hL
  refine ⟨⟨_,hLs.keepI k1 hx⟩,yr (fun y=>.int y.2.2) (hL.keepI k1 hx) (by rw [sizeLine_eq];omega) rfl (fun y _ M hM=>by k_mem;exact hM) fun gl hgl=>?_⟩
  k_mem
  refine ⟨_,_,_,upo hx1 hgl,T.aD,T.rK,by show 3 < 1000;decide,?_⟩
  have ngx:gl≠x:=fun z=>by rw [z,hx1] at hgl;cases hgl
  have ngd:dl≠gl:=aq hd1 hgl
  have k2:L2.aA x H1 (upd (upd H1 gl (HO.lst (lds.map fun y=>V.int y.2.2))) x (HO.ins Z.bF dx (bL "goals" (.ref gl) [("depths",.ref dl),("slow",.int slow),("fast",.int fast)]))):=(aA.of ((av.refl H1).lay hgl)).put
  have hx2:upd (upd H1 gl (HO.lst (lds.map fun y=>V.int y.2.2))) x (HO.ins Z.bF dx (bL "goals" (.ref gl) [("depths",.ref dl),("slow",.int slow),("fast",.int fast)])) x=some (HO.ins Z.bF dx [("depths",.ref dl),("slow",.int slow),("fast",.int fast),("goals",.ref gl)]):=by rw [ai];rfl
  have hg2:upd (upd H1 gl (HO.lst (lds.map fun y=>V.int y.2.2))) x (HO.ins Z.bF dx (bL "goals" (.ref gl) [("depths",.ref dl),("slow",.int slow),("fast",.int fast)])) gl=some (HO.lst ((lds.map (·.2.2)).map V.int)):=by rw [aV ngx,ai,List.map_map];rfl
  generalize upd (upd H1 gl (HO.lst (lds.map fun y=>V.int y.2.2))) x (HO.ins Z.bF dx (bL "goals" (.ref gl) [("depths",.ref dl),("slow",.int slow),("fast",.int fast)]))=H2 at *
  have k12:=k1.trans k2
  have hd2:=k2 _ _ ndx hd1
  refine ⟨⟨_,hD.keepI k12 hx⟩,?_⟩
  refine yK (fun _=>true) (fun _=>V.bl false) (hD.keepI k12 hx) (by rw [List.length_map,sizeLine_eq];omega) rfl (fun y _ M hM=>by k_mem;exact hM) (fun y _ _ M hM=>by k_mem;exact hM) fun sh1 hsh1=>?_
  have es:((ds.map V.int).filter fun _=>true).map (fun _=>V.bl false)=(ds.map fun _=>false).map V.bl:=by
   rw [List.filter_eq_self.mpr (by simp),List.map_map,List.map_map];rfl
  rw [es]
  have f3:=(av.refl H2).lay (o:=HO.lst ((ds.map fun _=>false).map V.bl)) hsh1
  have hs3:upd H2 sh1 (HO.lst ((ds.map fun _=>false).map V.bl)) sh1=some (HO.lst ((ds.map fun _=>false).map V.bl)):=ai
  generalize upd H2 sh1 (HO.lst ((ds.map fun _=>false).map V.bl))=H3 at *
  have k13:L2.aA x H H3:=k12.trans (aA.of f3)
  have sl2:=sh.l2
  k_mem
  refine ⟨_,hD.keepI k13 hx,_,eQ (k:=0) (by omega) (by omega),?_⟩
  k_mem
  refine fun b db hb hdb nbd=>?_
  have hb':upd H3 db (.own b) b=none:=by rw [aV (Ne.symm nbd)];exact hb
  refine ⟨b,db,c,ls,rfl,ai,(hC.keepI k13 hx).same (((av.refl H3).lay hdb).lay hb'),n2,fun cs fl st H4 hcs hfl kp hB=>⟨rfl,?_⟩⟩
  have f4:=kJ hb hdb kp
  have fcs:=jt hcs
  have ffl:=jt hfl
  clear kp hcs hfl
  have f34:=f3.trans f4
  have k14:L2.aA x H H4:=k13.trans (aA.of f4)
  k_mem
  refine ⟨_,.inl (hD.keepI k14 hx),?_⟩
  rw [List.length_map]
  refine fun y dy hy hdy nyd=>?_
  have hy':upd H4 dy (.own y) y=none:=by rw [aV (Ne.symm nyd)];exact hy
  refine ⟨y,dy,l,lds,_,rfl,ai,(hL.keepI k14 hx).same (((av.refl H4).lay hdy).lay hy'),n3,fun kn wh H5 hkn hwh nkw kp hY=>⟨rfl,?_⟩⟩
  have f5:=kJ hy hdy kp
  have fkn:=jt hkn
  have fwh:=jt hwh
  clear kp hkn hwh
  k_mem
  refine fun s ds1 hs hds1 nsd=>?_
  have hs':upd H5 ds1 (.own s) s=none:=by rw [aV (Ne.symm nsd)];exact hs
  refine ⟨s,ds1,sh1,b,y,ds.getD 0 0,ds.map fun _=>false,rfl,ai,(((av.refl H5).lay hds1).lay hs').seq (SqL.of (f5 _ _ (f4 _ _ hs3))),fun ol H6 hol kp hob6 hol6=>⟨rfl,?_⟩⟩
  have f6:=kJ hs hds1 kp
  have fol:=jt hol
  clear kp hol
  k_mem
  refine fun bk dbk hbk hdbk nbk=>?_
  refine ⟨bk,dbk,s,rfl,ai,fun rl H7 hrl kp hob7 hrl7=>⟨rfl,?_⟩⟩
  have f7:=kJ hbk hdbk kp
  have frl:=jt hrl
  clear kp hrl
  have f26:=(f3.trans f4).trans (f5.trans f6)
  have f27:=f26.trans f7
  have hx7:=f27 _ _ hx2
  k_mem
  refine ⟨_,_,_,hx7,T.aD,T.bh,by show 4 < 1000;decide,?_⟩
  have k8:L2.aA x H7 (upd H7 x (HO.ins Z.bF dx (bL "log" (.ref bk) [("depths",.ref dl),("slow",.int slow),("fast",.int fast),("goals",.ref gl)]))):=(aA.of (av.refl H7)).put
  have hx8:upd H7 x (HO.ins Z.bF dx (bL "log" (.ref bk) [("depths",.ref dl),("slow",.int slow),("fast",.int fast),("goals",.ref gl)])) x=some (HO.ins Z.bF dx [("depths",.ref dl),("slow",.int slow),("fast",.int fast),("goals",.ref gl),("log",.ref bk)]):=by rw [ai];rfl
  generalize upd H7 x (HO.ins Z.bF dx (bL "log" (.ref bk) [("depths",.ref dl),("slow",.int slow),("fast",.int fast),("goals",.ref gl)]))=H8 at *
  have frx:∀z,H6 z=none->H z=none:=fun z hz=>by
   by_cases e:z=x
   ·subst e;rw [f26 _ _ hx2] at hz;cases hz
   ·exact k12.free e (f26.free hz)
  obtain ⟨_,⟨asc,oc4,_⟩,of4,_,ncf,_⟩:=id hB
  obtain ⟨_,okn5,owh5⟩:=id hY
  have hsx:s≠x:=fun z=>by rw [z] at hs;rw [f5 _ _ (f34 _ _ hx2)] at hs;cases hs
  have hbx:b≠x:=fun z=>by rw [z] at hb;rw [f3 _ _ hx2] at hb;cases hb
  have hyx:y≠x:=fun z=>by rw [z] at hy;rw [f34 _ _ hx2] at hy;cases hy
  have hbkx:bk≠x:=fun z=>by rw [z] at hbk;rw [f26 _ _ hx2] at hbk;cases hbk
  have f46:=f5.trans f6
  have hN6:∀p,N p->∃ys,H6 p=some (.lst ys):=fun p hp=>by
   obtain ⟨ys,e⟩:=hN p hp
   exact ⟨ys,f26 _ _ (k12 _ _ (fun z=>by rw [z,hx] at e;cases e) e)⟩
  have hNn:∀p,N p->∀z,H z=none->z≠p:=fun p hp z hz e=>by
   obtain ⟨ys,e'⟩:=hN p hp
   rw [←e,hz] at e';cases e'
  have fr3:∀z,z≠x->H3 z=none->H z=none:=fun z e hz=>k13.free e hz
  have nx3:∀z,H3 z=none->z≠x:=fun z hz e=>by rw [e,f3 _ _ hx2] at hz;cases hz
  have gcs:=fr3 cs (nx3 cs fcs) fcs
  have gfl:=fr3 fl (nx3 fl ffl) ffl
  have gkn:=fr3 kn (nx3 kn (f4.free fkn)) (f4.free fkn)
  have gwh:=fr3 wh (nx3 wh (f4.free fwh)) (f4.free fwh)
  have gol:=fr3 ol (nx3 ol (f4.free (f5.free fol))) (f4.free (f5.free fol))
  have cs5:=f5 _ _ oc4
  have fl5:=f5 _ _ of4
  have hst:br (clZ Z) K H7 rl (fI ds ls slow fast lds N) s ⟨ds1,ol,b,cs,fl,st,y,kn,wh⟩ (eU ds ls lds):=
   ⟨f7 _ _ hob6,f7 _ _ hol6,((hB.same f5).same f6).same f7,(hY.same f6).same f7,
    ⟨aq hol6 frl,aq (f6 _ _ cs5) frl,aq (f6 _ _ fl5) frl,aq (f6 _ _ okn5) frl,aq (f6 _ _ owh5) frl,
    aq cs5 fol,aq fl5 fol,aq okn5 fol,aq owh5 fol,
    (aq fl5 fol).symm,(aq of4 fkn).symm,(aq of4 fwh).symm,
    (aq owh5 fol).symm,aq oc4 fwh,aq of4 fwh,nkw⟩,
    ⟨fun p hp=>by obtain ⟨ys,e⟩:=hN6 p hp;exact ⟨ys,f7 _ _ e⟩,fun p hp=>hNn p hp rl (frx rl frl),fun p hp=>hNn p hp ol gol,fun p hp=>hNn p hp cs gcs,fun p hp=>hNn p hp fl gfl,fun p hp=>hNn p hp kn gkn,fun p hp=>hNn p hp wh gwh⟩⟩
  have hst8:=hst.keepI k8 hx7 hsx hbx hyx
  have nrx:rl≠x:=fun z=>by rw [z] at frl;rw [f26 _ _ hx2] at frl;cases frl
  refine q5 bk rl H8 ((k12.trans (aA.of f27)).trans k8) (frx rl frl) ⟨⟨dx,dl,gl,hx8,k8 _ _ ndx (f27 _ _ hd2),k8 _ _ ngx (f27 _ _ hg2),aq (f26 _ _ hd2) frl,aq (f26 _ _ hg2) frl,fun p hp=>hNn p hp dl hdl,fun p hp=>hNn p hp gl (k1.free ngx hgl)⟩,⟨dbk,s,k8 _ _ hbkx hob7,hst8.at⟩,[],k8 _ _ nrx hrl7,rfl,fun i a r e=>by simp at e⟩
variable (qj:BG K Z.bF "Works.__init__" jW jE w9 uM)(xJ:aI P w K mg base (CXf P w) 3 w9 uM jE (vh K Z))
def zt (Z:Adr)(K:PySem.W.Frag)(H:Hp)(w bk rl:Addr)(g:Cfg)(n0:aY)(rs:List Row)(d:Dd)(Q:VK)(E:XK):Prop:=
 (300<=rs.length->∀H',av H H'->E (.ref Z.iQ) none H')/\(rs.length < 300->∀H',aA rl H H'->WAt (clZ Z) K H' w bk rl g n0 (rs++[ny g n0 rs d])->Q (.int (bw rs+fC g (ak n0 rs) d)) H')
def sZ (K:PySem.W.Frag)(Z:Adr):Sp:=fun vs H Q E=>∃(w bk rl:Addr) (g:Cfg) (n0:aY) (rs:List Row) (dd s:Addr) (tk:Int) (dv:List V) (n:aY),vs=[.ref w,.ref dd,.int tk,.ref s]/\WAt (clZ Z) K H w bk rl g n0 rs/\SqT K H dd dv/\gn (clZ Z) K H rl g s n/\g.ks.length=n.ws.length/\(300<=rs.length->∀H',av H H'->E (.ref Z.iQ) none H')/\(rs.length < 300->∀H',aA rl H H'->WAt (clZ Z) K H' w bk rl g n0 (rs++[⟨bw rs,bw rs+tk,dv,cS g n,n⟩])->Q (.int (bw rs+tk)) H')
include p7 xv cZ fH jj nQ in
theorem Bu {f:Addr}{fd:FuncData}(F:Fun K "write" "Works.write" iJ f fd)(T:Txt K mg Z):aI P w K mg base (CXf P w) 3 f fd iq (sZ K Z):=by
 refine F.okF As (fun vs H Q E h=>?_) (fun cdv A outer s H vs Q E hr h=>?_)
 ·obtain ⟨w,bk,rl,g,n0,rs,dd,s0,tk,dv,n,rfl,hW,hD,hS,hl,q1,q2⟩:=h
  rfl
 ·obtain ⟨w,bk,rl,g,n0,rs,dd,s0,tk,dv,n,rfl,hW,hD,hS,hl,q1,q2⟩:=h
  refine seg 1 (aj (aw (ba (pv 0) T.aD jj.M nQ hr.dn jj.b .nil aO))) fun zt1 zh1=>?_
  k_all
  intro ze1
  refine ⟨_,ag (bB (bj (aH (pv 0) (by rfl)) T.bg p7.M xv hr.dn p7.b .nil bT (ae (pv 1) (ae (pv 2) (ae (bj (pv 0) T.aD cZ.M fH hr.dn cZ.b .nil aO (ae (pv 3) af)) (ae (pv 3) af)))))) zh1,?_⟩
  k_all
  obtain ⟨⟨dx,dl,gl,hob,hdl,hgl,n1,n2⟩,hB⟩:=id hW
  obtain ⟨⟨db,f0,hbo,hF⟩,as,hrl,hR⟩:=id hB
  k_mem
  refine ⟨_,_,_,hob,T.aD,T.bh,_,rfl,?_⟩
  k_mem
  refine ⟨_,_,hbo,rfl,_,_,hob,rfl,_,_,_,_,_,_,_,_,rfl,hW,hS,hl,fun H1 s1=>?_⟩
  k_mem
  refine ⟨bk,rl,dd,s0,g,n0,n,rs,tk,cS g n,dv,rfl,hB.same s1,s1.tup hD,hS.same s1,fun h=>q1 h H1 s1,fun h H2 k2 hB2=>?_⟩
  k_mem
  have k1:L2.aA rl H H2:=(aA.of s1).trans k2
  have hW2:WAt (clZ Z) K H2 w bk rl g n0 _:=(hW.same s1).keep k2 (s1 _ _ hrl) hB2
  obtain ⟨dx2,_,_,hob2,_⟩:=id hW2.ob
  k_upd
  refine ⟨_,_,hob2,rfl,_,_,_,_,_,_,rfl,hW2,?_⟩
  rw [jd]
  k_upd
  exact q2 h H2 k1 hW2
variable (bf:bu K Z.bF "write" "Works.write" iJ iq ux si)(bP:aI P w K mg base (CXf P w) 3 ux si iq (sZ K Z))
def lu (K:PySem.W.Frag)(Z:Adr):Sp:=fun vs H Q _=>∃(w bk rl:Addr) (g:Cfg) (n0:aY) (rs:List Row) (pl:Int),vs=[.ref w,.int pl]/\WAt (clZ Z) K H w bk rl g n0 rs/\0 < g.ds.length/\∀p,H p=none->Q (.ref p) (upd H p (.tup [.int pl,.int (cv g.ds - pl)]))
include cu fY in
theorem td {f:Addr}{fd:FuncData}(F:Fun K "both_places" "Works.both_places" dw f fd)(T:Txt K mg Z):aI P w K mg base CX0 3 f fd dq (lu K Z):=by
 refine F.ok rq (fun vs H Q E h=>?_) (fun cdv A outer s H vs Q E hr h=>?_)
 ·obtain ⟨w,bk,rl,g,n0,rs,pl,rfl,hW,hn,q⟩:=h
  rfl
 ·obtain ⟨w,bk,rl,g,n0,rs,pl,rfl,hW,hn,q⟩:=h
  refine ⟨_,aj (aw (bq (ae (pv 1) (ae (aF fY hr.dn (by rfl) cu.m cu.F.kp cu.b .nil aO (ae (aH (pv 0) (by rfl)) (ae (pv 1) af))) af)))),?_⟩
  k_all
  obtain ⟨⟨dx,dl,gl,hob,hdl,hgl,n1,n2⟩,hB⟩:=id hW
  obtain ⟨⟨db,f0,hbo,hF⟩,as,hrl,hR⟩:=id hB
  k_mem
  refine ⟨_,_,_,hob,T.aD,T.dm,_,rfl,?_⟩
  k_mem
  refine ⟨_,_,_,rfl,SqL.of hdl,hn,?_⟩
  k_mem
  exact ⟨by decide,q⟩
variable (cU:bu K Z.bF "both_places" "Works.both_places" dw dq lH lr)(eR:aI P w K mg base CX0 3 lH lr dq (lu K Z))
theorem J0 {x y z i:Int}(h0:0<=i)(h2:i<=2):atI [V.int x,V.int y,V.int z] i=some (.int (if i=0 then x else if i=1 then y else z)):=by
 rcases (by omega:i=0\/i=1\/i=2) with rfl | rfl | rfl<;>rfl
def Bv (K:PySem.W.Frag)(Z:Adr):Sp:=fun vs H Q _=>∃(a:Addr) (ns:List Int),vs=[.ref a]/\SqL K H a (ns.map V.int)/\∀(p dl cl:Addr) (ds:List Int) (as:List Addr) (ls:List Cd) (slow fast:Int) (H':Hp),av H H'->H p=none->H dl=none->H cl=none->dl≠cl->H' p=some (.lst [.ref dl,.ref cl,.int slow,.int fast])->H' dl=some (.lst (ds.map V.int))->cM ds->H' cl=some (.lst (as.map V.ref))->dI cdV K H' as ls->ls.length=ds.length->(∀x∈ls,gx x)->(1<=slow/\slow<=fast/\fast<=500)->Q (.ref p) H'
include fm oi aU cI qd Bo tS DK in
theorem Ie {f:Addr}{fd:FuncData}(F:Fun K "_law_shaft" "_law_shaft" km f fd)(T:Txt K mg Z):aI P w K mg base CX0 3 f fd oC (Bv K Z):=by
 refine F.ok i8 (fun vs H Q E h=>?_) (fun cdv A outer s H vs Q E hr h=>?_)
 ·obtain ⟨a,ns,rfl,hS,q⟩:=h
  rfl
 ·obtain ⟨a,ns,rfl,hS,q⟩:=h
  obtain ⟨t1,h1,k1⟩:∃t,PSs (vQ CX0 P w K mg base ["_law_script","_law_depths_here","_law_codes_here","_law_cell","_law_slow","_law_fast"] "_law_shaft" (ao km) f cdv A outer s H E).nox ((cJ km).drop 4) t/\∀(dl cl:Addr) (ds:List Int) (as:List Addr) (ls:List Cd) (c slow:Int) (H1:Hp),av H H1->H dl=none->H cl=none->dl≠cl->H1 dl=some (.lst (ds.map V.int))->cM ds->H1 cl=some (.lst (as.map V.ref))->dI cdV K H1 as ls->ls.length=ds.length->(∀x∈ls,gx x)->1<=slow->slow<=500->t ({nx:=fun _ H2=>Q .non H2,rt:=Q}:mY) [some (.ref a),some (.ref dl),some (.ref cl),some (.int c),some (.int slow),none] H1:=by
   refine ⟨_,ag (bb (ax bI (aF cI hr.dn (by rfl) aU.m aU.F.kp aU.b .nil aO (ae (pv 3) (ae ah (ae ah af)))) ah (aJ _)) (aj (aL (i:=4) i8.nd rfl orL ah)) (aC)) (ag (aL (i:=5) i8.nd rfl orL (au aK (bC (ae (pv 4) (ae ah (ae (aS cb (pv 4) (aF cI hr.dn (by rfl) aU.m aU.F.kp aU.b .nil aO (ae (pv 3) (ae ah (ae (aS eS ah (pv 4)) af))))) af)))) (aM (tx rfl) (by rfl) T.IS Ef (ae ah (ae (aF cI hr.dn (by rfl) aU.m aU.F.kp aU.b .nil aO (ae (pv 3) (ae ah (ae ah af)))) af))))) (aj (aw (bC (ae (pv 1) (ae (pv 2) (ae (pv 4) (ae (pv 5) af)))))))),?_⟩
   intro dl cl ds as ls c slow H1 s1 fd fc ndc hdl hsh hcl hT hlen hg h1 h5
   k_all
   k_mem
   refine ⟨c,4,16,rfl,by omega,by omega,by omega,fun r4 h40 h41=>?_⟩
   k_mem
   split
   all_goals
    refine ⟨c,2,_,rfl,by omega,by omega,by omega,fun r2 h20 h21=>⟨by decide,fun p1 hp1=>⟨c,3,8,rfl,by omega,by omega,by omega,fun r3 h30 h31=>?_⟩⟩⟩
    k_mem
    refine ⟨_,SqL.of ai,_,J0 (by split<;>omega) (by split<;>omega),by decide,fun p2 hp2=>?_⟩
    refine q p2 dl cl ds as ls _ _ _ (s1.trans (((av.refl H1).lay hp1).lay hp2)) (s1.free (upn hp2)) fd fc ndc ai (upo (upo hdl hp1) hp2) hsh (upo (upo hcl hp1) hp2) (hT.same (((av.refl H1).lay hp1).lay hp2)) hlen hg ⟨by omega,?_,?_⟩
    ·(repeat' split)<;>omega
    ·(repeat' split)<;>omega
  refine ⟨_,ag (aL (i:=1) i8.nd rfl orL (aF Bo hr.dn (by rfl) qd.m qd.F.kp qd.b .nil aO (ae (aF oi hr.dn (by rfl) fm.m fm.F.kp fm.b .nil aO (ae (pv 0) (ae ah af))) af))) (ag (aL (i:=2) i8.nd rfl orL (aF DK hr.dn (by rfl) tS.m tS.F.kp tS.b .nil aO (ae (aF oi hr.dn (by rfl) fm.m fm.F.kp fm.b .nil aO (ae (pv 0) (ae ah af))) (ae (aM aG (by rfl) T.cy bD (ae (pv 1) af)) af)))) (ag (aL (i:=3) i8.nd rfl orL (aF oi hr.dn (by rfl) fm.m fm.F.kp fm.b .nil aO (ae (pv 0) (ae ah af)))) (ag (aL (i:=4) i8.nd rfl orL (aS cb ah (aF cI hr.dn (by rfl) aU.m aU.F.kp aU.b .nil aO (ae (pv 3) (ae ah (ae (au aK (bC (ae ah (ae ah af))) (aF cI hr.dn (by rfl) aU.m aU.F.kp aU.b .nil aO (ae (pv 3) (ae ah (ae ah af))))) af)))))) h1))),?_⟩
  k_all
  k_mem
  refine ⟨a,ns,1,rfl,hS,by omega,?_⟩
  k_mem
  refine ⟨_,rfl,fun dl ds H1 hdn s1 hdl hsh=>?_⟩
  have l2:=hsh.l2
  have l6:=hsh.l6
  k_mem
  refine ⟨a,ns,2,rfl,s1.seq hS,by omega,?_⟩
  k_mem
  refine ⟨_,.inl (SqL.of hdl),?_⟩
  rw [List.length_map]
  refine ⟨_,_,rfl,by omega,by omega,fun cl as ls H2 hcn s2 hcl hT hlen hg=>?_⟩
  have ndc:dl≠cl:=aq hdl hcn
  k_mem
  refine ⟨a,ns,3,rfl,(s1.trans s2).seq hS,by omega,?_⟩
  k_mem
  refine ⟨by decide,fun p hp=>⟨_,0,2,rfl,by omega,by omega,by omega,fun r0 h00 h01=>?_⟩⟩
  have e0:∃m:Int,(m=30\/m=500)/\atI [V.int 30,V.int 500] r0=some (.int m):=Mx (x:=30) (y:=500) (by omega)
  obtain ⟨m,hm,em⟩:=e0
  k_mem
  refine ⟨_,SqL.of ai,_,em,_,1,m,rfl,by omega,by omega,by omega,fun r1 h10 h11=>?_⟩
  k_mem
  have sx:=(av.refl H2).lay (o:=HO.lst [V.int 30,V.int 500]) hp
  exact k1 dl cl ds as ls _ _ _ ((s1.trans s2).trans sx) hdn (s1.free hcn) ndc (sx _ _ (s2 _ _ hdl)) hsh (sx _ _ hcl) (hT.same sx) (by omega) hg (by omega) (by omega)
variable (tU:Def K mg "_law_shaft" km oC Dr A4)(DN:aI P w K mg base CX0 3 Dr A4 oC (Bv K Z))
def tf (K:PySem.W.Frag)(Z:Adr):Sp:=fun vs H Q _=>∃(p dl cl ll sl:Addr) (g:Cfg) (lds:List Ld) (n0:aY) (rs:List Row) (c:Int),vs=[.ref p,.ref sl,.int c]/\gp K H p dl cl ll g lds/\fu g/\dD g (ak n0 rs)/\(∃as:List Addr,H sl=some (.lst (as.map V.ref))/\je (ma K H) as (nz n0 rs))/\(∀dd d H',av H H'->SqT K H' dd (ddV d)->Eo d->g0 g (ak n0 rs) d=none->Q (.ref dd) H')/\(rs≠[]->∀dd H',av H H'->SqT K H' dd [.str "take back"]->Q (.ref dd) H')
include gU pw gV pz in
theorem Bw {f:Addr}{fd:FuncData}(F:Fun K "_law_good_deed" "_law_good_deed" bX f fd)(T:Txt K mg Z):aI P w K mg base CX0 3 f fd ix (tf K Z):=by
 refine F.ok j6 (fun vs H Q E h=>?_) (fun cdv A outer s H vs Q E hr h=>?_)
 ·obtain ⟨p,dl,cl,ll,sl,g,lds,n0,rs,c,rfl,hP,hg,hn,⟨as,hsl,hA⟩,q,qb⟩:=h
  rfl
 ·obtain ⟨p,dl,cl,ll,sl,g,lds,n0,rs,c,rfl,hP,hg,hn,⟨as,hsl,hA⟩,q,qb⟩:=h
  obtain ⟨t4,h4,k4⟩:∃t,PSs (vQ CX0 P w K mg base ["_law_setup_here","_law_states","_law_cell","_law_state","_law_rest","_law_level"] "_law_good_deed" (ao bX) f cdv A outer s H E).nox ((cJ bX).drop 8) t/\∀(a:Addr) (lv:Int),ma K H a (ak n0 rs,bw rs)->0<=lv->lv < g.ds.length->t ({nx:=fun _ H2=>Q .non H2,rt:=Q}:mY) [some (.ref p),some (.ref sl),some (.int c),some (.ref a),some (.int (c / 12)),some (.int lv)] H:=by
   refine ⟨_,aj (aw (au aK (bC (ae (bq (ae aR (ae (pv 5) af))) (ae (bq (ae aR (ae (pv 5) af))) af))) (bK lW (by rfl) T.wK pL (ae (au aE (au aE (pv 3) ah) (pv 5)) af)))),?_⟩
   intro a lv hSt v0 v1
   obtain ⟨gt,lt,ht,dt,h1,h2,h3,h4,h5⟩:=hSt.un
   have gl:=hn.gl
   k_all
   k_mem
   refine ⟨by decide,fun p2 hp2=>⟨by decide,fun p3 hp3=>⟨by decide,fun p4 hp4=>?_⟩⟩⟩
   have f4:=(((av.refl H).lay (o:=HO.tup [V.str (Str.ofString "open"),V.int lv]) hp2).lay (o:=HO.tup [V.str (Str.ofString "shut"),V.int lv]) hp3).lay (o:=HO.lst [V.ref p2,V.ref p3]) hp4
   have e2:upd (upd (upd H p2 (HO.tup [V.str (Str.ofString "open"),V.int lv])) p3 (HO.tup [V.str (Str.ofString "shut"),V.int lv])) p4 (HO.lst [V.ref p2,V.ref p3]) p2=some (HO.tup [V.str (Str.ofString "open"),V.int lv]):=upo (upo ai hp3) hp4
   have e3:upd (upd (upd H p2 (HO.tup [V.str (Str.ofString "open"),V.int lv])) p3 (HO.tup [V.str (Str.ofString "shut"),V.int lv])) p4 (HO.lst [V.ref p2,V.ref p3]) p3=some (HO.tup [V.str (Str.ofString "shut"),V.int lv]):=upo ai hp4
   have e4:upd (upd (upd H p2 (HO.tup [V.str (Str.ofString "open"),V.int lv])) p3 (HO.tup [V.str (Str.ofString "shut"),V.int lv])) p4 (HO.lst [V.ref p2,V.ref p3]) p4=some (HO.lst [V.ref p2,V.ref p3]):=ai
   generalize upd (upd (upd H p2 (HO.tup [V.str (Str.ofString "open"),V.int lv])) p3 (HO.tup [V.str (Str.ofString "shut"),V.int lv])) p4 (HO.lst [V.ref p2,V.ref p3])=H3 at *
   k_upd
   refine ⟨_,f4.tup h1,_,rfl,?_⟩
   k_mem
   refine ⟨_,f4.tup h2,_,pR v0 (by omega),?_⟩
   k_mem
   refine ⟨_,SqL.of e4,_,IP,?_⟩
   by_cases hb:(ak n0 rs).gates.getD lv.toNat false=true
   ·rw [if_pos hb]
    k_upd
    exact q p3 (.sht lv) _ f4 (SqT.of e3) trivial (pT v0 v1 hb)
   ·rw [if_neg hb]
    k_upd
    exact q p2 (.opn lv) _ f4 (SqT.of e2) trivial (vw v0 v1 (by simpa using hb))
  obtain ⟨t3,h3,k3⟩:∃t,PSs (vQ CX0 P w K mg base ["_law_setup_here","_law_states","_law_cell","_law_state","_law_rest","_law_level"] "_law_good_deed" (ao bX) f cdv A outer s H E).nox ((cJ bX).drop 7) t/\∀(a:Addr) (lv:Int),ma K H a (ak n0 rs,bw rs)->0<=lv->lv < g.ds.length->t ({nx:=fun _ H2=>Q .non H2,rt:=Q}:mY) [some (.ref p),some (.ref sl),some (.int c),some (.ref a),some (.int (c / 12)),some (.int lv)] H:=by
   refine ⟨_,ag (bb (nZ (ax bI (aS cV (pv 2) ah) ah (aJ _)) (nZ (ax bI (aS cV (pv 4) ah) ah (aJ _)) (lM (ax zW (aM aG (by rfl) T.cy bD (ae (pv 1) af)) ah (aJ _))))).pt (aj (aw (bq (ae aR af)))) (aC)) h4,?_⟩
   intro a lv hSt v0 v1
   obtain ⟨gt,lt,ht,dt,h1,h2,h3,h4,h5⟩:=hSt.un
   have hlen:=hA.1
   rw [CM] at hlen
   k_all
   k_mem
   split
   ·split
    ·k_upd
     refine ⟨_,.inl (SqL.of hsl),?_⟩
     rw [List.length_map]
     k_mem
     split
     ·rename_i hgt
      k_upd
      refine ⟨by decide,fun dd hdd=>?_⟩
      k_upd
      exact qb (fun z=>by rw [z] at hlen;simp only [List.length_nil] at hlen;omega) dd _ ((av.refl H).lay hdd) (SqT.of ai)
     ·exact k4 a lv hSt v0 v1
    ·exact k4 a lv hSt v0 v1
   ·exact k4 a lv hSt v0 v1
  obtain ⟨t2,h2,k2⟩:∃t,PSs (vQ CX0 P w K mg base ["_law_setup_here","_law_states","_law_cell","_law_state","_law_rest","_law_level"] "_law_good_deed" (ao bX) f cdv A outer s H E).nox ((cJ bX).drop 6) t/\∀(a:Addr) (lv:Int),ma K H a (ak n0 rs,bw rs)->0<=lv->lv < g.ds.length->t ({nx:=fun _ H2=>Q .non H2,rt:=Q}:mY) [some (.ref p),some (.ref sl),some (.int c),some (.ref a),some (.int (c / 12)),some (.int lv)] H:=by
   refine ⟨_,ag (bb (nZ (ax bI (aS cV (pv 2) ah) ah (aJ _)) (lM (ax bI (au aE (au aE (pv 3) ah) ah) aR (aJ _)))).pt (aj (aw (bq (ae aR (ae (aS cb ah (aS cV (pv 4) ah)) af))))) (aC)) h3,?_⟩
   intro a lv hSt v0 v1
   obtain ⟨gt,lt,ht,dt,h1,h2,h3,h4,h5⟩:=hSt.un
   k_all
   k_mem
   split
   ·k_upd
    refine ⟨_,h1,_,rfl,?_⟩
    k_mem
    rcases Rg (ak n0 rs).e with ⟨l,rr,he⟩ | ⟨l,rr,he⟩ | ⟨w1,w2,w3,w4,he,na,nb⟩
    ·rw [he] at h4
     k_upd
     refine ⟨_,h4,_,rfl,?_⟩
     k_mem
     rw [if_pos rfl]
     k_upd
     refine ⟨by decide,fun dd hdd=>?_⟩
     k_upd
     exact q dd (.rept _) _ ((av.refl H).lay hdd) (SqT.of ai) trivial (yN he (by omega) (by omega))
    ·rw [he] at h4
     k_upd
     refine ⟨_,h4,_,rfl,?_⟩
     k_mem
     rw [if_neg (by decide)]
     exact k3 a lv hSt v0 v1
    ·rw [he] at h4
     k_upd
     refine ⟨_,h4,_,rfl,?_⟩
     k_mem
     rw [if_neg na]
     exact k3 a lv hSt v0 v1
   ·exact k3 a lv hSt v0 v1
  obtain ⟨t1,h1,k1⟩:∃t,PSs (vQ CX0 P w K mg base ["_law_setup_here","_law_states","_law_cell","_law_state","_law_rest","_law_level"] "_law_good_deed" (ao bX) f cdv A outer s H E).nox ((cJ bX).drop 5) t/\∀(a:Addr) (lv:Int),ma K H a (ak n0 rs,bw rs)->0<=lv->lv < g.ds.length->t ({nx:=fun _ H2=>Q .non H2,rt:=Q}:mY) [some (.ref p),some (.ref sl),some (.int c),some (.ref a),some (.int (c / 12)),some (.int lv)] H:=by
   refine ⟨_,ag (bb (nZ (ax bI (aS cV (pv 2) ah) ah (aJ _)) (lM (ax pK (pv 5) (au aE (pv 3) ah) (by rfl)))).pt (aj (aw (au aK (bC (ae (bq (ae aR (ae (pv 5) (ae (au aE (au aK (au aK (pv 0) ah) (pv 5)) (aS cV (aS ni (pv 4) ah) ah)) af)))) (ae (bq (ae aR (ae (pv 5) af))) af))) (bK lW (by rfl) T.wK pL (ae (gm bI (aS cV (pv 4) ah) ah (aJ _)) af))))) (aC)) h2,?_⟩
   intro a lv hSt v0 v1
   obtain ⟨gt,lt,ht,dt,h1,h2,h3,h4,h5⟩:=hSt.un
   obtain ⟨hp,hdl,⟨bs,hcl,hT⟩,_,_⟩:=id hP
   have gl:=hn.gl
   have fl:=hn.fl
   have ed:inV (V.int lv) ((dJ (ak n0 rs).fs).map V.int)=(ak n0 rs).fs.getD lv.toNat false:=by
    rw [vZ,Bool.eq_iff_iff,decide_eq_true_eq,ow]
    k_upd
    exact ⟨fun z=>z.2.2,fun z=>⟨v0,by omega,z⟩⟩
   k_all
   k_mem
   split
   ·k_upd
    refine ⟨_,h1,_,rfl,?_⟩
    k_mem
    refine ⟨_,.inr h5,rfl,by simp [cL],?_⟩
    rw [ed]
    k_mem
    split
    ·rename_i hf
     obtain ⟨ra,era,hra⟩:=v9 hT v0 (by rw [hg.lc];exact v1)
     k_upd
     refine ⟨_,SqL.of hp,_,rfl,?_⟩
     k_mem
     refine ⟨_,SqL.of hcl,_,era,?_⟩
     k_mem
     refine ⟨_,hra,_,two_deep (by omega) (by omega),?_⟩
     generalize hcd:(if c / 12 / 6 % 2=0 then (jr g.ls lv).fst else (jr g.ls lv).snd)=cd
     have hcd':cd=(jr g.ls lv).1\/cd=(jr g.ls lv).2:=by
      rw [←hcd]
      k_upd
      split
      ·exact .inl rfl
      ·exact .inr rfl
     k_upd
     refine ⟨by decide,fun p2 hp2=>⟨by decide,fun p3 hp3=>⟨by decide,fun p4 hp4=>?_⟩⟩⟩
     have f4:=(((av.refl H).lay (o:=HO.tup [V.str (Str.ofString "ring"),V.int lv,V.int cd]) hp2).lay (o:=HO.tup [V.str (Str.ofString "fail"),V.int lv]) hp3).lay (o:=HO.lst [V.ref p2,V.ref p3]) hp4
     k_upd
     refine ⟨_,SqL.of ai,_,IP,?_⟩
     by_cases hb:c / 12 % 5=4
     ·rw [if_pos (decide_eq_true hb)]
      k_upd
      exact q p3 (.fail lv) _ f4 (SqT.of (upo ai hp4)) trivial (FA v0 v1 hf)
     ·rw [if_neg (by simpa using hb)]
      k_upd
      exact q p2 (.ring lv cd) _ f4 (SqT.of (upo (upo ai hp3) hp4)) trivial (yM v0 v1 hf hcd')
    ·exact k2 a lv hSt v0 v1
   ·exact k2 a lv hSt v0 v1
  refine seg 4 (ag (bb (ax qr (aS cV (pv 2) ah) ah (aJ _)) (aj (aw (aF pz hr.dn (by rfl) gV.m gV.F.kp gV.b .nil aO (ae (pv 0) (ae (pv 3) (ae (pv 4) af)))))) (aC)) h1) fun zt4 zh4=>?_
  k_all
  intro ze4
  refine seg 3 (ag (bb (ax qr (aS cV (pv 2) ah) ah (aJ _)) (aj (aw (aF pw hr.dn (by rfl) gU.m gU.F.kp gU.b .nil aO (ae (pv 0) (ae (pv 3) (ae (pv 4) af)))))) (aC)) zh4) fun zt3 zh3=>?_
  k_all
  intro ze3
  refine seg 2 (ag (aL (i:=5) j6.nd rfl orL (aS cV (pv 4) (aM aG (by rfl) T.cy bD (ae (au aK (pv 0) ah) af)))) zh3) fun zt2 zh2=>?_
  k_all
  intro ze2
  refine seg 1 (ag (aL (i:=4) j6.nd rfl orL (aS ni (pv 2) ah)) zh2) fun zt1 zh1=>?_
  k_all
  intro ze1
  refine ⟨_,ag (aL (i:=3) j6.nd rfl orL (au aK (pv 1) (jn fA ah))) zh1,?_⟩
  k_all
  obtain ⟨as1,a,rfl,hSt⟩:=Et hA
  obtain ⟨hp,hdl,_,_,_⟩:=id hP
  have l2:=hg.sh.l2
  k_mem
  refine ⟨_,SqL.of hsl,_,nA,?_⟩
  k_mem
  refine ⟨_,SqL.of hp,_,rfl,?_⟩
  k_mem
  refine ⟨_,.inl (SqL.of hdl),by rw [List.length_map];omega,?_⟩
  rw [List.length_map]
  have v0:0<=c / 12 % (g.ds.length:Int):=Int.emod_nonneg _ (by omega)
  have v1:c / 12 % (g.ds.length:Int) < (g.ds.length:Int):=Int.emod_lt_of_pos _ (by omega)
  generalize c / 12 % (g.ds.length:Int)=lv at *
  k_mem
  split
  ·k_upd
   refine ⟨p,dl,cl,ll,a,g,lds,_,_,_,rfl,hP,hg,hn,hSt,fun dd d H1 s1 hd ok hr=>?_⟩
   k_upd
   exact q dd d H1 s1 hd ok hr
  k_upd
  split
  ·k_upd
   refine ⟨p,dl,cl,ll,a,g,lds,_,_,_,rfl,hP,hg,hn,hSt,fun dd d H1 s1 hd ok hr=>?_⟩
   k_upd
   exact q dd d H1 s1 hd ok hr
  exact k1 a lv hSt v0 v1
variable (kE:Def K mg "_law_good_deed" bX ix uy sj)(vi:aI P w K mg base CX0 3 uy sj ix (tf K Z))
def pD (K:PySem.W.Frag)(Z:Adr):Sp:=fun vs H Q _=>∃(s rl:Addr) (g:Cfg) (n:aY) (ys:List V),vs=[.ref s]/\gn (clZ Z) K H rl g s n/\H rl=some (.lst ys)/\g.ls.length<=1000/\∀(s':Addr) (A:SA) (H':Hp),av H H'->H s'=none->H A.ol=none->H A.b=none->H A.fl=none->H A.y=none->H A.wh=none->br (clZ Z) K H' rl g s' A n->Q (.ref s') H'
include dZ i4 sW zp qh xI in
theorem yH {f:Addr}{fd:FuncData}(F:Fun K "twin" "Standing.twin" fR f fd)(T:Txt K mg Z):aI P w K mg base CX0 4 f fd fL (pD K Z):=by
 refine F.ok yv (fun vs H Q E h=>?_) (fun cdv A outer s H vs Q E hr h=>?_)
 ·obtain ⟨s0,rl,g,n,ys,rfl,⟨A0,hA⟩,hrl,hls,q⟩:=h
  rfl
 ·obtain ⟨s0,rl,g,n,ys,rfl,⟨A0,hA⟩,hrl,hls,q⟩:=h
  refine ⟨_,aj (aw (nj dZ.M i4 hr.dn (by rfl) T.AG dZ.b .nil aO (ae (aH (pv 0) (by rfl)) (ae (aH (pv 0) (by rfl)) (ae (ba (aH (pv 0) (by rfl)) T.bt qh.M xI hr.dn qh.b .nil aO) (ae (ba (aH (pv 0) (by rfl)) T.bM sW.M zp hr.dn sW.b .nil aO) af)))))),?_⟩
  k_all
  k_mem
  refine ⟨_,_,_,hA.ob,T.aP,T.bN,_,rfl,_,_,_,hA.ob,T.aP,T.cP,_,rfl,_,_,_,hA.ob,T.aP,T.cz,_,rfl,?_⟩
  k_mem
  obtain ⟨db,hbb⟩:=hA.be.ob
  obtain ⟨dy,hyb⟩:=hA.ya.ob
  k_upd
  refine ⟨_,_,hbb,rfl,_,_,_,_,_,_,_,rfl,hA.be,hls,fun b1 cs1 fl1 H1 hb1 hc1 hf1 s1 hB1=>?_⟩
  k_upd
  refine ⟨_,_,_,s1 _ _ hA.ob,T.aP,T.bA,_,rfl,?_⟩
  k_mem
  refine ⟨_,_,s1 _ _ hyb,rfl,_,_,_,_,_,_,rfl,hA.ya.same s1,fun y2 kn2 wh2 H2 hy2 hk2 hw2 nkw s2 hY2=>?_⟩
  refine fun x dx hx hdx nxd=>?_
  have s12:=s1.trans s2
  have hx':upd H2 dx (.own x) x=none:=by rw [aV (Ne.symm nxd)];exact hx
  k_upd
  refine ⟨x,dx,A0.ol,b1,y2,n.place,n.gates,rfl,ai,(((av.refl H2).lay hdx).lay hx').seq (SqL.of (s12 _ _ hA.go)),fun ol H3 hol kp hob3 hol3=>⟨rfl,?_⟩⟩
  have s3:=kJ hx hdx kp
  have holn:=jt hol
  obtain ⟨_,⟨as1,oc1,_⟩,of1,_⟩:=id hB1
  obtain ⟨_,okn2,owh2⟩:=id hY2
  have cs2:=s2 _ _ oc1
  have fl2:=s2 _ _ of1
  refine q x ⟨dx,ol,b1,cs1,fl1,A0.st,y2,kn2,wh2⟩ H3 (s12.trans s3) (s12.free hx) (s12.free holn) hb1 hf1 (s1.free hy2) (s1.free hw2) ⟨hob3,hol3,(hB1.same s2).same s3,hY2.same s3,⟨?_,?_,?_,?_,?_,?_,?_,?_,?_,?_,?_,?_,?_,?_,?_,?_⟩,⟨(hA.nn.same (s12.trans s3)).al,hA.nn.nr,?_,?_,?_,?_,?_⟩⟩
  ·exact (aq hrl (s12.free holn)).symm
  ·exact (aq hrl hc1).symm
  ·exact (aq hrl hf1).symm
  ·exact (aq hrl (s1.free hk2)).symm
  ·exact (aq hrl (s1.free hw2)).symm
  ·exact aq cs2 holn
  ·exact aq fl2 holn
  ·exact aq okn2 holn
  ·exact aq owh2 holn
  ·exact (aq fl2 holn).symm
  ·exact (aq of1 hk2).symm
  ·exact (aq of1 hw2).symm
  ·exact (aq owh2 holn).symm
  ·exact aq oc1 hw2
  ·exact aq of1 hw2
  ·exact nkw
  all_goals
   intro q hq
   obtain ⟨us,hu⟩:=hA.nn.al q hq
  ·exact (aq hu (s12.free holn)).symm
  ·exact (aq hu hc1).symm
  ·exact (aq hu hf1).symm
  ·exact (aq hu (s1.free hk2)).symm
  ·exact (aq hu (s1.free hw2)).symm
variable (aZ:bu K Z.fW "twin" "Standing.twin" fR fL qz pf)(bx:aI P w K mg base CX0 4 qz pf fL (pD K Z))
def tj (K:PySem.W.Frag)(Z:Adr):Sp:=fun vs H Q _=>∃(w bk rl:Addr) (g:Cfg) (n0:aY) (rs:List Row),vs=[.ref w]/\WAt (clZ Z) K H w bk rl g n0 rs/\0 < g.ds.length/\∀p,H p=none->Q (.ref p) (upd H p (.tup [.int (ak n0 rs).place,.int (cv g.ds - (ak n0 rs).place)]))
include az aT cU eR in
theorem Bx {f:Addr}{fd:FuncData}(F:Fun K "cages" "Works.cages" iL f fd)(T:Txt K mg Z):aI P w K mg base CX0 4 f fd iu (tj K Z):=by
 refine F.ok Av (fun vs H Q E h=>?_) (fun cdv A outer s H vs Q E hr h=>?_)
 ·obtain ⟨w,bk,rl,g,n0,rs,rfl,hW,hn,q⟩:=h
  rfl
 ·obtain ⟨w,bk,rl,g,n0,rs,rfl,hW,hn,q⟩:=h
  refine ⟨_,aj (aw (bj (pv 0) T.aD cU.M eR hr.dn cU.b .nil aO (ae (aH (ba (aH (pv 0) (by rfl)) T.bg az.M aT hr.dn az.b .nil aO) (by rfl)) af))),?_⟩
  k_all
  obtain ⟨⟨dx,dl,gl,hob,hdl,hgl,n1,n2⟩,hB⟩:=id hW
  obtain ⟨⟨db,f0,hbo,hF⟩,as,hrl,hR⟩:=id hB
  k_mem
  refine ⟨_,_,hob,rfl,_,_,_,hob,T.aD,T.bh,_,rfl,?_⟩
  k_mem
  refine ⟨_,_,hbo,rfl,_,_,_,_,_,rfl,hB,fun s0 ⟨A,hA⟩=>?_⟩
  k_mem
  refine ⟨_,_,_,hA.ob,T.aP,T.bN,_,rfl,?_⟩
  k_upd
  exact ⟨_,_,_,_,_,_,_,rfl,hW,hn,q⟩
variable (fZ:bu K Z.bF "cages" "Works.cages" iL iu uz sk)(kF:aI P w K mg base CX0 4 uz sk iu (tj K Z))
def nT (K:PySem.W.Frag)(Z:Adr):Sp:=fun vs H Q E=>∃(w bk rl:Addr) (g:Cfg) (n0:aY) (rs:List Row) (t:Int),vs=[.ref w,.int t]/\WAt (clZ Z) K H w bk rl g n0 rs/\0 < g.ds.length/\NK rs/\bw rs<=1000000/\(0<=t/\t<=bw rs->∀p,H p=none->Q (.ref p) (upd H p (.tup [.int (iY n0 rs t),.int (cv g.ds - iY n0 rs t)])))/\(¬(0<=t/\t<=bw rs)->E (.ref Z.cO) none H)
include lF qQ cU eR in
theorem xK {f:Addr}{fd:FuncData}(F:Fun K "cages_at" "Works.cages_at" fg f fd)(T:Txt K mg Z):aI P w K mg base (CXf P w) 4 f fd eW (nT K Z):=by
 refine F.okF wD (fun vs H Q E h=>?_) (fun cdv A outer s H vs Q E hr h=>?_)
 ·obtain ⟨w,bk,rl,g,n0,rs,t,rfl,hW,hn,hrs,hnow,q1,q2⟩:=h
  rfl
 ·obtain ⟨w,bk,rl,g,n0,rs,t,rfl,hW,hn,hrs,hnow,q1,q2⟩:=h
  refine ⟨_,aj (aw (bj (pv 0) T.aD cU.M eR hr.dn cU.b .nil aO (ae (bj (aH (pv 0) (by rfl)) T.bg lF.M qQ hr.dn lF.b .nil bT (ae (pv 1) af)) af))),?_⟩
  k_all
  obtain ⟨⟨dx,dl,gl,hob,hdl,hgl,n1,n2⟩,hB⟩:=id hW
  obtain ⟨⟨db,f0,hbo,hF⟩,as,hrl,hR⟩:=id hB
  k_mem
  refine ⟨_,_,hob,rfl,?_⟩
  k_mem
  refine ⟨_,_,_,hob,T.aD,T.bh,_,rfl,?_⟩
  k_mem
  refine ⟨_,_,hbo,rfl,_,_,_,_,_,_,rfl,hB,hrs,hnow,fun ht=>?_,q2⟩
  k_mem
  exact ⟨_,_,_,_,_,_,_,rfl,hW,hn,q1 ht⟩
variable (kq:bu K Z.bF "cages_at" "Works.cages_at" fg eW oX nJ)(pE:aI P w K mg base (CXf P w) 4 oX nJ eW (nT K Z))
def nU (K:PySem.W.Frag)(Z:Adr):Sp:=fun vs H Q E=>∃(w bk rl:Addr) (g:Cfg) (n0:aY) (rs:List Row) (t:Int),vs=[.ref w,.int t]/\WAt (clZ Z) K H w bk rl g n0 rs/\(0<=t/\t<=bw rs->∀p H',H p=none->av H H'->H' p=some (.lst ((dR n0 rs t).map V.int))->Q (.ref p) H')/\(¬(0<=t/\t<=bw rs)->E (.ref Z.cO) none H)
include lG qR in
theorem xM {f:Addr}{fd:FuncData}(F:Fun K "spots_at" "Works.spots_at" fh f fd)(T:Txt K mg Z):aI P w K mg base (CXf P w) 4 f fd eX (nU K Z):=by
 refine F.okF wF (fun vs H Q E h=>?_) (fun cdv A outer s H vs Q E hr h=>?_)
 ·obtain ⟨w,bk,rl,g,n0,rs,t,rfl,hW,q1,q2⟩:=h
  rfl
 ·obtain ⟨w,bk,rl,g,n0,rs,t,rfl,hW,q1,q2⟩:=h
  refine ⟨_,aj (aw (bj (aH (pv 0) (by rfl)) T.bg lG.M qR hr.dn lG.b .nil bT (ae (pv 1) af))),?_⟩
  k_all
  obtain ⟨⟨dx,dl,gl,hob,hdl,hgl,n1,n2⟩,hB⟩:=id hW
  obtain ⟨⟨db,f0,hbo,hF⟩,as,hrl,hR⟩:=id hB
  k_mem
  refine ⟨_,_,_,hob,T.aD,T.bh,_,rfl,?_⟩
  k_mem
  exact ⟨_,_,hbo,rfl,_,_,_,_,_,_,rfl,hB,q1,q2⟩
variable (kr:bu K Z.bF "spots_at" "Works.spots_at" fh eX oY nK)(pF:aI P w K mg base (CXf P w) 4 oY nK eX (nU K Z))
def nV (K:PySem.W.Frag)(Z:Adr):Sp:=fun vs H Q E=>∃(w bk rl:Addr) (g:Cfg) (n0:aY) (rs:List Row) (lv:Int),vs=[.ref w,.int lv]/\WAt (clZ Z) K H w bk rl g n0 rs/\(ak n0 rs).ws.length<=1000/\(0<=lv/\lv < g.ds.length->∀p H',H p=none->av H H'->H' p=some (.lst ((l7 (ak n0 rs).ws lv).map V.int))->Q (.ref p) H')/\(¬(0<=lv/\lv < g.ds.length)->E (.ref Z.aN) none H)
include az aT lE qP in
theorem xN {f:Addr}{fd:FuncData}(F:Fun K "at_level" "Works.at_level" fi f fd)(T:Txt K mg Z):aI P w K mg base (CXf P w) 4 f fd eY (nV K Z):=by
 refine F.okF wG (fun vs H Q E h=>?_) (fun cdv A outer s H vs Q E hr h=>?_)
 ·obtain ⟨w,bk,rl,g,n0,rs,lv,rfl,hW,hn,q1,q2⟩:=h
  rfl
 ·obtain ⟨w,bk,rl,g,n0,rs,lv,rfl,hW,hn,q1,q2⟩:=h
  refine ⟨_,aj (aw (bj (aH (ba (aH (pv 0) (by rfl)) T.bg az.M aT hr.dn az.b .nil aO) (by rfl)) T.bM lE.M qP hr.dn lE.b .nil bT (ae (pv 1) af))),?_⟩
  k_all
  obtain ⟨⟨dx,dl,gl,hob,hdl,hgl,n1,n2⟩,hB⟩:=id hW
  obtain ⟨⟨db,f0,hbo,hF⟩,as,hrl,hR⟩:=id hB
  k_mem
  refine ⟨_,_,_,hob,T.aD,T.bh,_,rfl,?_⟩
  k_mem
  refine ⟨_,_,hbo,rfl,_,_,_,_,_,rfl,hB,fun s0 ⟨A,hA⟩=>?_⟩
  k_mem
  refine ⟨_,_,_,hA.ob,T.aP,T.bA,_,rfl,?_⟩
  k_mem
  obtain ⟨dy,hyb⟩:=hA.ya.ob
  k_upd
  exact ⟨_,_,hyb,rfl,_,_,_,_,_,_,_,rfl,hA.ya,hn,q1,q2⟩
variable (ku:bu K Z.bF "at_level" "Works.at_level" fi eY oZ nL)(pG:aI P w K mg base (CXf P w) 4 oZ nL eY (nV K Z))
def By (K:PySem.W.Frag)(Z:Adr):Sp:=fun vs H Q _=>∃(a:Addr) (ns:List Int) (mo:Int),vs=[.ref a,.int mo]/\SqL K H a (ns.map V.int)/\0<=mo/\mo<=30/\∀(p dl cl ll:Addr) (ds:List Int) (ls:List Cd) (slow fast:Int) (lds:List Ld) (H':Hp),av H H'->H p=none->H dl=none->H cl=none->H ll=none->gp K H' p dl cl ll (fI ds ls slow fast lds fun _=>False) lds->cM ds->ls.length=ds.length->(∀x∈ls,gx x)->(1<=slow/\slow<=fast/\fast<=500)->(lds.length:Int)<=mo->(∀x∈lds,l4 (ds.length:Nat) x/\He x)->Q (.ref p) H'
include fm oi tT DL tU DN in
theorem Ig {f:Addr}{fd:FuncData}(F:Fun K "_law_setup" "_law_setup" oP f fd)(T:Txt K mg Z):aI P w K mg base CX0 4 f fd oE (By K Z):=by
 refine F.ok mB (fun vs H Q E h=>?_) (fun cdv A outer s H vs Q E hr h=>?_)
 ·obtain ⟨a,ns,mo,rfl,hS,h0,h1,q⟩:=h
  rfl
 ·obtain ⟨a,ns,mo,rfl,hS,h0,h1,q⟩:=h
  refine seg 1 (aj (aw (bC (ae (pv 2) (ae (pv 3) (ae (pv 4) (ae (pv 5) (ae (aF DL hr.dn (by rfl) tT.m tT.F.kp tT.b .nil aO (ae (aF oi hr.dn (by rfl) fm.m fm.F.kp fm.b .nil aO (ae (pv 0) (ae ah af))) (ae (aM aG (by rfl) T.cy bD (ae (pv 2) af)) (ae (pv 1) af)))) af)))))))) fun zt1 zh1=>?_
  k_all
  intro ze1
  refine ⟨_,ag (kj (aF DN hr.dn (by rfl) tU.m tU.F.kp tU.b .nil aO (ae (pv 0) af)) (Ah rfl (aQ (aB (i:=2) mB.nd rfl orL) (aQ (aB (i:=3) mB.nd rfl orL) (aQ (aB (i:=4) mB.nd rfl orL) (aQ (aB (i:=5) mB.nd rfl orL) dz)))))) zh1,?_⟩
  k_all
  k_mem
  refine ⟨a,ns,rfl,hS,fun p dl cl ds as ls slow fast H1 s1 hpn hdn hcn ndc hp hdl hsh hcl hT hlen hg hsp=>?_⟩
  have l2:=hsh.l2
  have l6:=hsh.l6
  k_mem
  refine ⟨_,SqL.of hp,rfl,?_⟩
  k_mem
  refine ⟨a,ns,4,rfl,s1.seq hS,by omega,?_⟩
  k_mem
  refine ⟨_,.inl (SqL.of hdl),?_⟩
  rw [List.length_map]
  k_upd
  refine ⟨_,_,_,rfl,by omega,h0,by omega,fun ll bs lds H2 hln s2 hll hT2 hlen2 hk=>?_⟩
  k_mem
  refine ⟨by decide,fun p5 hp5=>?_⟩
  have s3:=s2.lay (o:=HO.lst [V.ref dl,V.ref cl,V.int slow,V.int fast,V.ref ll]) hp5
  have s23:=(av.refl H2).lay (o:=HO.lst [V.ref dl,V.ref cl,V.int slow,V.int fast,V.ref ll]) hp5
  k_upd
  exact q p5 dl cl ll ds ls slow fast lds _ (s1.trans s3) (s1.free (s2.free hp5)) hdn hcn (s1.free hln) ⟨ai,s3 _ _ hdl,⟨as,s3 _ _ hcl,hT.same s3⟩,⟨bs,s23 _ _ hll,hT2.same s23⟩,rfl⟩ hsh hlen hg hsp hlen2 hk
variable (lY:Def K mg "_law_setup" oP oE Ds A5)(tV:aI P w K mg base CX0 4 Ds A5 oE (By K Z))
def vj (K:PySem.W.Frag)(Z:Adr):Sp:=fun vs H Q E=>∃(w bk rl:Addr) (g:Cfg) (n0:aY) (rs:List Row) (lv s:Int),vs=[.ref w,.int lv,.int s]/\WAt (clZ Z) K H w bk rl g n0 rs/\g.ls.length<=1000/\g.ks.length=(ak n0 rs).ws.length/\
 (¬(0<=lv/\lv < g.ls.length)->∀H',av H H'->E (.ref Z.aN) none H')/\
 (0<=lv->lv < g.ls.length->(ak n0 rs).fs.getD lv.toNat false=true->∀H',av H H'->E (.ref Z.j7) none H')/\
 (0<=lv->lv < g.ls.length->(ak n0 rs).fs.getD lv.toNat false=false->¬(s=(jr g.ls lv).1\/s=(jr g.ls lv).2)->∀H',av H H'->E (.ref Z.mE) none H')/\
 (0<=lv->lv < g.ls.length->(ak n0 rs).fs.getD lv.toNat false=false->(s=(jr g.ls lv).1\/s=(jr g.ls lv).2)->zt Z K H w bk rl g n0 rs (.ring lv s) Q E)
include az aT qf xF bf bP aZ bx in
theorem Cr {f:Addr}{fd:FuncData}(F:Fun K "ring" "Works.ring" jX f fd)(T:Txt K mg Z):aI P w K mg base (CXf P w) 5 f fd jF (vj K Z):=by
 refine F.okF ud (fun vs H Q E h=>?_) (fun cdv A outer s H vs Q E hr h=>?_)
 ·obtain ⟨w,bk,rl,g,n0,rs,lv,s,rfl,hW,hls,hks,q1,q2,q3,q4⟩:=h
  rfl
 ·obtain ⟨w,bk,rl,g,n0,rs,lv,s,rfl,hW,hls,hks,q1,q2,q3,q4⟩:=h
  refine seg 2 (aj (aw (bj (pv 0) T.aD bf.M bP hr.dn bf.b .nil bT (ae (bq (ae aR (ae (pv 1) (ae (pv 2) af)))) (ae ah (ae (pv 3) af)))))) fun zt2 zh2=>?_
  k_all
  intro ze2
  refine seg 1 (ag (bB (bj (aH (pv 3) (by rfl)) T.bt qf.M xF hr.dn qf.b .nil bT (ae (pv 1) (ae (pv 2) af)))) zh2) fun zt1 zh1=>?_
  k_all
  intro ze1
  refine ⟨_,ag (aL (i:=3) ud.nd rfl orL (ba (ba (aH (pv 0) (by rfl)) T.bg az.M aT hr.dn az.b .nil aO) T.aP aZ.M bx hr.dn aZ.b .nil aO)) zh1,?_⟩
  k_all
  obtain ⟨⟨dx,dl,gl,hob,hdl,hgl,n1,n2⟩,hB⟩:=id hW
  obtain ⟨⟨db,f0,hbo,hF⟩,as,hrl,hR⟩:=id hB
  k_mem
  refine ⟨_,_,_,hob,T.aD,T.bh,_,rfl,?_⟩
  k_mem
  refine ⟨_,_,hbo,rfl,_,_,_,_,_,rfl,hB,fun s0 ⟨A0,hA0⟩=>?_⟩
  k_mem
  refine ⟨_,_,hA0.ob,rfl,_,_,_,_,_,rfl,hA0.at,hrl,hls,fun s1 A H1 e1 hs1 ho1 hb1 hf1 hy1 hw1 hA=>?_⟩
  have hW1:=hW.same e1
  have hob1:=e1 _ _ hob
  have hbo1:=e1 _ _ hbo
  have hrl1:=e1 _ _ hrl
  have hdl1:=e1 _ _ hdl
  k_mem
  refine ⟨_,_,_,hA.ob,T.aP,T.cz,_,rfl,?_⟩
  k_mem
  obtain ⟨db1,hbb⟩:=hA.be.ob
  k_upd
  refine ⟨_,_,hbb,rfl,_,_,_,_,_,_,_,_,_,rfl,hA.be,fun h=>q1 h _ e1,fun h h' h2=>q2 h h' h2 _ e1,fun h h' h2 h4=>q3 h h' h2 h4 _ e1,fun h h' h2 h4 st2 H2 k2 hB2=>?_⟩
  have h3:=q4 h h' h2 h4
  have e2:=e1.keeps k2 hb1
  have hA2:=hA.bells k2 hB2
  clear k2 hB2
  k_mem
  refine ⟨_,_,e2 _ _ hob,rfl,by decide,fun p hp=>?_⟩
  have e3:=e2.lay (o:=HO.tup [V.str (Str.ofString "ring"),V.int lv,V.int s]) hp
  have f3:=(av.refl H2).lay (o:=HO.tup [V.str (Str.ofString "ring"),V.int lv,V.int s]) hp
  k_upd
  refine ⟨_,_,_,_,_,_,p,s1,1,ddV (.ring lv s),cC g (ak n0 rs) (.ring lv s),rfl,hW.same e3,SqT.of (by rw [ai];rfl),?_,?_,fun h H' s'=>h3.1 h H' (e3.trans s'),fun h H' k hWn=>?_⟩
  ·exact (br.at hA2).same f3
  ·rw [hks];first | rfl | simp only [cC,List.length_set]
  ·k_upd
   exact h3.2 h H' ((aA.of e3).trans k) hWn
variable (qk:bu K Z.bF "ring" "Works.ring" jX jF xa uN)(xO:aI P w K mg base (CXf P w) 5 xa uN jF (vj K Z))
def qS (K:PySem.W.Frag)(Z:Adr):Sp:=fun vs H Q E=>∃(w bk rl:Addr) (g:Cfg) (n0:aY) (rs:List Row) (s:Int),vs=[.ref w,.int s]/\WAt (clZ Z) K H w bk rl g n0 rs/\g.ls.length<=1000/\g.ks.length=(ak n0 rs).ws.length/\
 ((∀l r,(ak n0 rs).e≠.wait l r)->∀H',av H H'->E (.ref Z.eL) none H')/\
 (∀l r,(ak n0 rs).e=.wait l r->¬(1<=s/\s<=9)->∀H',av H H'->E (.ref Z.mE) none H')/\
 (∀l r,(ak n0 rs).e=.wait l r->(1<=s/\s<=9)->(300<=rs.length->∀H',av H H'->E (.ref Z.iQ) none H')/\(rs.length < 300->∀p H',aA rl H H'->WAt (clZ Z) K H' w bk rl g n0 (rs++[ny g n0 rs (.rept s)])->SqT K H' p [.bl (decide (s=r)),.int r,.int s]->Q (.ref p) H'))
include az aT mQ sQ bf bP aZ bx in
theorem zH {f:Addr}{fd:FuncData}(F:Fun K "repeat" "Works.repeat" gL f fd)(T:Txt K mg Z):aI P w K mg base (CXf P w) 5 f fd gD (qS K Z):=by
 refine F.okF lA (fun vs H Q E h=>?_) (fun cdv A outer s H vs Q E hr h=>?_)
 ·obtain ⟨w,bk,rl,g,n0,rs,s,rfl,hW,hls,hks,q1,q2,q3⟩:=h
  rfl
 ·obtain ⟨w,bk,rl,g,n0,rs,s,rfl,hW,hls,hks,q1,q2,q3⟩:=h
  refine seg 3 (aj (aw (pv 3))) fun zt3 zh3=>?_
  k_all
  intro ze3
  refine seg 2 (ag (bB (bj (pv 0) T.aD bf.M bP hr.dn bf.b .nil bT (ae (bq (ae aR (ae (pv 1) af))) (ae ah (ae (pv 2) af))))) zh3) fun zt2 zh2=>?_
  k_all
  intro ze2
  refine seg 1 (ag (aL (i:=3) lA.nd rfl orL (bj (aH (pv 2) (by rfl)) T.bt mQ.M sQ hr.dn mQ.b .nil bT (ae (pv 1) af))) zh2) fun zt1 zh1=>?_
  k_all
  intro ze1
  refine ⟨_,ag (aL (i:=2) lA.nd rfl orL (ba (ba (aH (pv 0) (by rfl)) T.bg az.M aT hr.dn az.b .nil aO) T.aP aZ.M bx hr.dn aZ.b .nil aO)) zh1,?_⟩
  k_all
  obtain ⟨⟨dx,dl,gl,hob,hdl,hgl,n1,n2⟩,hB⟩:=id hW
  obtain ⟨⟨db,f0,hbo,hF⟩,as,hrl,hR⟩:=id hB
  k_mem
  refine ⟨_,_,_,hob,T.aD,T.bh,_,rfl,?_⟩
  k_mem
  refine ⟨_,_,hbo,rfl,_,_,_,_,_,rfl,hB,fun s0 ⟨A0,hA0⟩=>?_⟩
  k_mem
  refine ⟨_,_,hA0.ob,rfl,_,_,_,_,_,rfl,hA0.at,hrl,hls,fun s1 A H1 e1 hs1 ho1 hb1 hf1 hy1 hw1 hA=>?_⟩
  have hW1:=hW.same e1
  have hob1:=e1 _ _ hob
  have hbo1:=e1 _ _ hbo
  have hrl1:=e1 _ _ hrl
  have hdl1:=e1 _ _ hdl
  k_mem
  refine ⟨_,_,_,hA.ob,T.aP,T.cz,_,rfl,?_⟩
  k_mem
  obtain ⟨db1,hbb⟩:=hA.be.ob
  k_upd
  refine ⟨_,_,hbb,rfl,_,_,_,_,_,_,_,_,rfl,hA.be,fun h=>q1 h _ e1,fun l r h h'=>q2 l r h h' _ e1,fun l r h h' st2 p2 H2 hp2 k2 hB2 hT2=>?_⟩
  have h3:=q3 l r h h'
  have e2:=e1.keeps k2 hb1
  have hA2:br (clZ Z) K H2 rl g s1 {A with st:=st2} (cC g (ak n0 rs) (.rept s)):=by
   have:=hA.bells k2 hB2
   have e0:cC g (ak n0 rs) (.rept s)={(ak n0 rs) with e:=(if s=r then Eng.armed l r else Eng.other l r s)}:=by
    show aY.mk _ _ _ (Ae g (ak n0 rs) (.rept s)) _=_
    rw [show Ae g (ak n0 rs) (.rept s)=(if s=r then Eng.armed l r else Eng.other l r s) from by simp only [Ae,h]]
   rw [e0]
   exact this
  clear k2 hB2
  k_mem
  refine ⟨_,_,e2 _ _ hob,rfl,by decide,fun p hp=>?_⟩
  have e3:=e2.lay (o:=HO.tup [V.str (Str.ofString "repeat"),V.int s]) hp
  have f3:=(av.refl H2).lay (o:=HO.tup [V.str (Str.ofString "repeat"),V.int s]) hp
  k_upd
  refine ⟨_,_,_,_,_,_,p,s1,1,ddV (.rept s),cC g (ak n0 rs) (.rept s),rfl,hW.same e3,SqT.of (by rw [ai];rfl),?_,?_,fun h H' s'=>h3.1 h H' (e3.trans s'),fun h H' k hWn=>?_⟩
  ·exact (br.at hA2).same f3
  ·rw [hks];first | rfl | simp only [cC,List.length_set]
  ·k_upd
   exact h3.2 h _ H' ((aA.of e3).trans k) hWn ((f3.tup hT2).keep k (e3 _ _ hrl))
variable (mT:bu K Z.bF "repeat" "Works.repeat" gL gD rS qH)(tu:aI P w K mg base (CXf P w) 5 rS qH gD (qS K Z))
def vk (K:PySem.W.Frag)(Z:Adr):Sp:=fun vs H Q E=>∃(w bk rl:Addr) (g:Cfg) (n0:aY) (rs:List Row) (lv:Int),vs=[.ref w,.int lv]/\WAt (clZ Z) K H w bk rl g n0 rs/\g.ls.length<=1000/\g.ks.length=(ak n0 rs).ws.length/\
 (¬(0<=lv/\lv < g.ls.length)->∀H',av H H'->E (.ref Z.aN) none H')/\
 (0<=lv->lv < g.ls.length->(ak n0 rs).fs.getD lv.toNat false=true->∀H',av H H'->E (.ref Z.fV) none H')/\
 (0<=lv->lv < g.ls.length->(ak n0 rs).fs.getD lv.toNat false=false->zt Z K H w bk rl g n0 rs (.fail lv) Q E)
include az aT qg xG bf bP aZ bx in
theorem Cs {f:Addr}{fd:FuncData}(F:Fun K "fail" "Works.fail" jY f fd)(T:Txt K mg Z):aI P w K mg base (CXf P w) 5 f fd jG (vk K Z):=by
 refine F.okF ue (fun vs H Q E h=>?_) (fun cdv A outer s H vs Q E hr h=>?_)
 ·obtain ⟨w,bk,rl,g,n0,rs,lv,rfl,hW,hls,hks,q1,q2,q3⟩:=h
  rfl
 ·obtain ⟨w,bk,rl,g,n0,rs,lv,rfl,hW,hls,hks,q1,q2,q3⟩:=h
  refine seg 2 (aj (aw (bj (pv 0) T.aD bf.M bP hr.dn bf.b .nil bT (ae (bq (ae aR (ae (pv 1) af))) (ae ah (ae (pv 2) af)))))) fun zt2 zh2=>?_
  k_all
  intro ze2
  refine seg 1 (ag (bB (bj (aH (pv 2) (by rfl)) T.bt qg.M xG hr.dn qg.b .nil bT (ae (pv 1) af))) zh2) fun zt1 zh1=>?_
  k_all
  intro ze1
  refine ⟨_,ag (aL (i:=2) ue.nd rfl orL (ba (ba (aH (pv 0) (by rfl)) T.bg az.M aT hr.dn az.b .nil aO) T.aP aZ.M bx hr.dn aZ.b .nil aO)) zh1,?_⟩
  k_all
  obtain ⟨⟨dx,dl,gl,hob,hdl,hgl,n1,n2⟩,hB⟩:=id hW
  obtain ⟨⟨db,f0,hbo,hF⟩,as,hrl,hR⟩:=id hB
  k_mem
  refine ⟨_,_,_,hob,T.aD,T.bh,_,rfl,?_⟩
  k_mem
  refine ⟨_,_,hbo,rfl,_,_,_,_,_,rfl,hB,fun s0 ⟨A0,hA0⟩=>?_⟩
  k_mem
  refine ⟨_,_,hA0.ob,rfl,_,_,_,_,_,rfl,hA0.at,hrl,hls,fun s1 A H1 e1 hs1 ho1 hb1 hf1 hy1 hw1 hA=>?_⟩
  have hW1:=hW.same e1
  have hob1:=e1 _ _ hob
  have hbo1:=e1 _ _ hbo
  have hrl1:=e1 _ _ hrl
  have hdl1:=e1 _ _ hdl
  k_mem
  refine ⟨_,_,_,hA.ob,T.aP,T.cz,_,rfl,?_⟩
  k_mem
  obtain ⟨db1,hbb⟩:=hA.be.ob
  k_upd
  refine ⟨_,_,hbb,rfl,_,_,_,_,_,_,_,_,rfl,hA.be,fun h=>q1 h _ e1,fun h h' h2=>q2 h h' h2 _ e1,fun h h' h2 H2 k2 hB2=>?_⟩
  have h3:=q3 h h' h2
  have e2:=e1.keeps k2 hf1
  have hA2:=hA.fail k2 hB2 (List.length_set ..)
  clear k2 hB2
  k_mem
  refine ⟨_,_,e2 _ _ hob,rfl,by decide,fun p hp=>?_⟩
  have e3:=e2.lay (o:=HO.tup [V.str (Str.ofString "fail"),V.int lv]) hp
  have f3:=(av.refl H2).lay (o:=HO.tup [V.str (Str.ofString "fail"),V.int lv]) hp
  k_upd
  refine ⟨_,_,_,_,_,_,p,s1,1,ddV (.fail lv),cC g (ak n0 rs) (.fail lv),rfl,hW.same e3,SqT.of (by rw [ai];rfl),?_,?_,fun h H' s'=>h3.1 h H' (e3.trans s'),fun h H' k hWn=>?_⟩
  ·exact (br.at hA2).same f3
  ·rw [hks];first | rfl | simp only [cC,List.length_set]
  ·k_upd
   exact h3.2 h H' ((aA.of e3).trans k) hWn
variable (ql:bu K Z.bF "fail" "Works.fail" jY jG xb uO)(xP:aI P w K mg base (CXf P w) 5 xb uO jG (vk K Z))
def mU (K:PySem.W.Frag)(Z:Adr):Sp:=fun vs H Q E=>∃(w bk rl:Addr) (g:Cfg) (n0:aY) (rs:List Row) (wd:Str) (lv:Int) (b:Bool) (d:Dd),vs=[.ref w,.str wd,.int lv,.bl b]/\WAt (clZ Z) K H w bk rl g n0 rs/\g.ls.length<=1000/\g.ks.length=(ak n0 rs).ws.length/\(ak n0 rs).gates.length=g.ds.length/\((wd="open"/\b=true/\d=.opn lv)\/(wd="shut"/\b=false/\d=.sht lv))/\
 (¬(0<=lv/\lv < g.ds.length)->∀H',av H H'->E (.ref Z.aN) none H')/\
 (0<=lv->lv < g.ds.length->(ak n0 rs).gates.getD lv.toNat false=b->∀H',av H H'->E (.ref Z.fV) none H')/\
 (0<=lv->lv < g.ds.length->(ak n0 rs).gates.getD lv.toNat false=!b->zt Z K H w bk rl g n0 rs d Q E)
include az aT aW bO bf bP aZ bx in
theorem vL {f:Addr}{fd:FuncData}(F:Fun K "turn_gate" "Works.turn_gate" eJ f fd)(T:Txt K mg Z):aI P w K mg base (CXf P w) 5 f fd eA (mU K Z):=by
 refine F.okF mx (fun vs H Q E h=>?_) (fun cdv A outer s H vs Q E hr h=>?_)
 ·obtain ⟨w,bk,rl,g,n0,rs,wd,lv,b,d,rfl,hW,hls,hks,hgl2,hd,q1,q2,q3⟩:=h
  rfl
 ·obtain ⟨w,bk,rl,g,n0,rs,wd,lv,b,d,rfl,hW,hls,hks,hgl2,hd,q1,q2,q3⟩:=h
  refine seg 4 (aj (aw (bj (pv 0) T.aD bf.M bP hr.dn bf.b .nil bT (ae (bq (ae (pv 1) (ae (pv 2) af))) (ae ah (ae (pv 4) af)))))) fun zt4 zh4=>?_
  k_all
  intro ze4
  refine seg 3 (ag (kj (pv 3) (xZ (aH (pv 4) (by rfl)) (pv 2) oq)) zh4) fun zt3 zh3=>?_
  k_all
  intro ze3
  refine seg 2 (ag (bb (ax bI (au aK (aH (pv 4) (by rfl)) (pv 2)) (pv 3) (aJ _)) (aj (bE T.AL (by rfl) T.AF (ae aR af))) (aC)) zh3) fun zt2 zh2=>?_
  k_all
  intro ze2
  refine seg 1 (ag (bB (aF bO hr.dn (by rfl) aW.m aW.F.kp aW.b .nil bT (ae (pv 2) (ae (aM aG (by rfl) T.cy bD (ae (aH (pv 0) (by rfl)) af)) af)))) zh2) fun zt1 zh1=>?_
  k_all
  intro ze1
  refine ⟨_,ag (aL (i:=4) mx.nd rfl orL (ba (ba (aH (pv 0) (by rfl)) T.bg az.M aT hr.dn az.b .nil aO) T.aP aZ.M bx hr.dn aZ.b .nil aO)) zh1,?_⟩
  k_all
  obtain ⟨⟨dx,dl,gl,hob,hdl,hgl,n1,n2⟩,hB⟩:=id hW
  obtain ⟨⟨db,f0,hbo,hF⟩,as,hrl,hR⟩:=id hB
  k_mem
  refine ⟨_,_,_,hob,T.aD,T.bh,_,rfl,?_⟩
  k_mem
  refine ⟨_,_,hbo,rfl,_,_,_,_,_,rfl,hB,fun s0 ⟨A0,hA0⟩=>?_⟩
  k_mem
  refine ⟨_,_,hA0.ob,rfl,_,_,_,_,_,rfl,hA0.at,hrl,hls,fun s1 A H1 e1 hs1 ho1 hb1 hf1 hy1 hw1 hA=>?_⟩
  have hW1:=hW.same e1
  have hob1:=e1 _ _ hob
  have hbo1:=e1 _ _ hbo
  have hrl1:=e1 _ _ hrl
  have hdl1:=e1 _ _ hdl
  k_mem
  refine ⟨_,_,_,hob1,T.aD,T.dm,_,rfl,?_⟩
  k_mem
  refine ⟨_,.inl (SqL.of hdl1),_,_,rfl,?_⟩
  rw [List.length_map]
  k_upd
  refine ⟨fun hlv=>?_,fun h=>q1 h _ e1⟩
  k_mem
  refine ⟨_,_,_,hA.ob,T.aP,T.cP,_,rfl,?_⟩
  k_mem
  refine ⟨_,SqL.of hA.go,_,pR hlv.1 (by omega),?_⟩
  k_mem
  split
  ·rename_i h
   k_upd
   exact ⟨by decide,q2 hlv.1 hlv.2 h _ e1⟩
  ·rename_i h
   have h3:=q3 hlv.1 hlv.2 (by cases b<;>simpa using h)
   k_upd
   refine ⟨_,_,_,hA.ob,T.aP,T.cP,_,rfl,?_⟩
   k_mem
   refine ⟨_,hA.go,_,Em hlv.1 (by rw [List.length_map];omega),?_⟩
   have e2:=e1.rewr (o:=HO.lst (((ak n0 rs).gates.map V.bl).set lv.toNat (V.bl b))) ho1
   have k2:L2.aA A.ol H1 (upd H1 A.ol (HO.lst (((ak n0 rs).gates.map V.bl).set lv.toNat (V.bl b)))):=(aA.of (av.refl H1)).put
   have hA2:=hA.gates k2 (gs:=(ak n0 rs).gates.set lv.toNat b) (by rw [ai,List.map_set])
   generalize upd H1 A.ol (HO.lst (((ak n0 rs).gates.map V.bl).set lv.toNat (V.bl b)))=H2 at *
   have hW2:=hW.same e2
   k_upd
   refine ⟨_,_,e2 _ _ hob,rfl,by decide,fun p hp=>?_⟩
   have e3:=e2.lay (o:=HO.tup [V.str wd,V.int lv]) hp
   have f3:=(av.refl H2).lay (o:=HO.tup [V.str wd,V.int lv]) hp
   k_upd
   refine ⟨_,_,_,_,_,_,p,s1,1,ddV d,cC g (ak n0 rs) d,rfl,hW.same e3,SqT.of ?_,?_,?_,fun h H' s'=>h3.1 h H' (e3.trans s'),fun h H' k hWn=>?_⟩
   ·rw [ai];rcases hd with ⟨rfl,_,rfl⟩ | ⟨rfl,_,rfl⟩<;>rfl
   ·refine (br.at (A:=A) ?_).same f3
    rcases hd with ⟨_,rfl,rfl⟩ | ⟨_,rfl,rfl⟩<;>exact hA2
   ·rw [hks];rcases hd with ⟨_,rfl,rfl⟩ | ⟨_,rfl,rfl⟩<;>rfl
   ·have:=h3.2 h H' ((aA.of e3).trans k)
    rcases hd with ⟨_,rfl,rfl⟩ | ⟨_,rfl,rfl⟩<;>exact this hWn
variable (di:bu K Z.bF "turn_gate" "Works.turn_gate" eJ eA nE mK)(gv:aI P w K mg base (CXf P w) 5 nE mK eA (mU K Z))
def NL (w:Addr)(c lv:Int)(kd:Str)(s:Addr)(H:Hp)(gs:List Int)(gates:List Bool)(i:Nat)(σ:St)(H':Hp):Prop:=H'=H/\(∃t,σ=[some (.ref w),some (.int c),some (.int lv),some (.str kd),some (.ref s),t,none,none])/\∀j,j < i->∀x,gs[j]?=some x->gates.getD x.toNat false=false
def vm (K:PySem.W.Frag)(Z:Adr):Sp:=fun vs H Q E=>∃(w bk rl:Addr) (g:Cfg) (n0:aY) (rs:List Row) (c lv:Int) (kd:Str),vs=[.ref w,.int c,.int lv,.str kd]/\WAt (clZ Z) K H w bk rl g n0 rs/\g.ls.length<=1000/\g.ks.length=(ak n0 rs).ws.length/\cM g.ds/\(ak n0 rs).gates.length=g.ds.length/\g.ls.length=g.ds.length/\1<=cS g (ak n0 rs)/\cS g (ak n0 rs)<=500/\(kd="men"\/kd="coal")/\
 (¬(0<=lv/\lv < g.ds.length)->∀H',av H H'->E (.ref Z.aN) none H')/\
 (0<=lv->lv < g.ds.length->l8 g (ak n0 rs)=true->∀H',av H H'->E (.ref Z.lq) none H')/\
 (0<=lv->lv < g.ds.length->l8 g (ak n0 rs)=false->(ak n0 rs).e≠.armed lv (dC g.ls lv kd)->∀H',av H H'->E (.ref Z.iP) none H')/\
 (0<=lv->lv < g.ds.length->l8 g (ak n0 rs)=false->(ak n0 rs).e=.armed lv (dC g.ls lv kd)->zt Z K H w bk rl g n0 rs (.wind c lv kd) Q E)
include lU xq az aT aW bO cZ fH sX zq kD vg qi Bt bf bP aZ bx in
theorem Ct {f:Addr}{fd:FuncData}(F:Fun K "wind" "Works.wind" j0 f fd)(T:Txt K mg Z):aI P w K mg base (CXf P w) 5 f fd jI (vm K Z):=by
 refine F.okF iI (fun vs H Q E h=>?_) (fun cdv A outer s H vs Q E hr h=>?_)
 ·obtain ⟨w,bk,rl,g,n0,rs,c,lv,kd,rfl,hW,hls,hks,hsh,hgl2,hlc,hsp1,hsp5,hkd,q1,q2,q3,q4⟩:=h
  rfl
 ·obtain ⟨w,bk,rl,g,n0,rs,c,lv,kd,rfl,hW,hls,hks,hsh,hgl2,hlc,hsp1,hsp5,hkd,q1,q2,q3,q4⟩:=h
  refine seg 7 (aj (aw (bj (pv 0) T.aD bf.M bP hr.dn bf.b .nil bT (ae (bq (ae aR (ae (pv 1) (ae (pv 2) (ae (pv 3) af))))) (ae (pv 7) (ae (pv 4) af)))))) fun zt7 zh7=>?_
  k_all
  intro ze7
  refine seg 6 (ag (c9 (pv 4) (pv 6) rfl) zh7) fun zt6 zh6=>?_
  k_all
  intro ze6
  refine seg 5 (ag (aL (i:=7) iI.nd rfl orL (aF xq hr.dn (by rfl) lU.m lU.F.kp lU.b .nil aO (ae (aM zZ (by rfl) T.LU Hb (ae (aS eS (pv 6) (aH (pv 4) (by rfl))) af)) (ae (bj (pv 0) T.aD cZ.M fH hr.dn cZ.b .nil aO (ae (pv 4) af)) af)))) zh6) fun zt5 zh5=>?_
  k_all
  intro ze5
  refine seg 4 (ag (aL (i:=6) iI.nd rfl orL (aF vg hr.dn (by rfl) kD.m kD.F.kp kD.b .nil aO (ae (aH (pv 0) (by rfl)) (ae (pv 1) (ae (pv 2) af))))) zh5) fun zt4 zh4=>?_
  k_all
  intro ze4
  refine seg 3 (ag (bB (bj (aH (pv 4) (by rfl)) T.bt sX.M zq hr.dn sX.b .nil bT (ae (pv 2) (ae (pv 3) af)))) zh4) fun zt3 zh3=>?_
  k_all
  intro ze3
  refine seg 2 (ag (dA yh rfl (fz (aF Bt hr.dn (by rfl) qi.m qi.F.kp qi.b .nil aO (ae (aH (pv 0) (by rfl)) (ae (aH (pv 4) (by rfl)) af)))) (aB (i:=5) iI.nd rfl orL) (aj (bb (dj (au aK (aH (pv 4) (by rfl)) (pv 5))) (aj (bE T.HR (by rfl) T.Hx (ae aR af))) (aC)))) zh3) fun zt2 zh2=>?_
  k_all
  intro ze2
  refine seg 1 (ag (bB (aF bO hr.dn (by rfl) aW.m aW.F.kp aW.b .nil bT (ae (pv 2) (ae (aM aG (by rfl) T.cy bD (ae (aH (pv 0) (by rfl)) af)) af)))) zh2) fun zt1 zh1=>?_
  k_all
  intro ze1
  refine ⟨_,ag (aL (i:=4) iI.nd rfl orL (ba (ba (aH (pv 0) (by rfl)) T.bg az.M aT hr.dn az.b .nil aO) T.aP aZ.M bx hr.dn aZ.b .nil aO)) zh1,?_⟩
  k_all
  obtain ⟨⟨dx,dl,gl,hob,hdl,hgl,n1,n2⟩,hB⟩:=id hW
  obtain ⟨⟨db,f0,hbo,hF⟩,as,hrl,hR⟩:=id hB
  k_mem
  refine ⟨_,_,_,hob,T.aD,T.bh,_,rfl,?_⟩
  k_mem
  refine ⟨_,_,hbo,rfl,_,_,_,_,_,rfl,hB,fun s0 ⟨A0,hA0⟩=>?_⟩
  k_mem
  refine ⟨_,_,hA0.ob,rfl,_,_,_,_,_,rfl,hA0.at,hrl,hls,fun s1 A H1 e1 hs1 ho1 hb1 hf1 hy1 hw1 hA=>?_⟩
  have hW1:=hW.same e1
  have hob1:=e1 _ _ hob
  have hbo1:=e1 _ _ hbo
  have hrl1:=e1 _ _ hrl
  have hdl1:=e1 _ _ hdl
  k_mem
  refine ⟨_,_,_,hob1,T.aD,T.dm,_,rfl,?_⟩
  k_mem
  refine ⟨_,.inl (SqL.of hdl1),_,_,rfl,?_⟩
  rw [List.length_map]
  k_upd
  refine ⟨fun hlv=>?_,fun h=>q1 h _ e1⟩
  have l6:=hsh.l6
  k_mem
  refine ⟨_,_,_,hob1,T.aD,T.dm,_,rfl,?_⟩
  k_upd
  refine ⟨_,_,_,hA.ob,T.aP,T.bN,_,rfl,?_⟩
  k_mem
  refine ⟨_,_,_,rfl,SqL.of hdl1,by omega,by omega,fun gb H2 hgb f2 hgb2=>?_⟩
  have e2:=e1.trans f2
  replace hA:=hA.same f2
  k_mem
  refine ⟨⟨_,SqL.of hgb2⟩,?_⟩
  have gr:∀x∈nv g.ds (ak n0 rs).place,0<=x/\x < g.ds.length:=fun x hx=>by
   unfold nv at hx
   rw [List.mem_map] at hx
   obtain ⟨i,hi,rfl⟩:=hx
   have:=List.mem_range.mp (List.mem_filter.mp hi).1
   omega
  k_upd
  refine jc ((nv g.ds (ak n0 rs).place).map V.int) (NL w c lv kd s1 H2 (nv g.ds (ak n0 rs).place) (ak n0 rs).gates) ⟨rfl,⟨_,rfl⟩,fun j hj=>absurd hj (Nat.not_lt_zero _)⟩ ?_ ?_ ?_
  ·rintro i σ H' _ ⟨rfl,_⟩
   exact SqL.of hgb2
  ·rintro i x σ H' hx ⟨rfl,⟨t,rfl⟩,hj⟩
   obtain ⟨z,rfl,hz,hzm⟩:=pO hx
   have hzr:=gr z hzm
   k_mem
   refine ⟨_,_,_,hA.ob,T.aP,T.cP,_,rfl,?_⟩
   k_mem
   refine ⟨_,SqL.of hA.go,_,pR hzr.1 (by omega),?_⟩
   k_mem
   split
   ·rename_i hopen
    k_upd
    exact ⟨by decide,q2 hlv.1 hlv.2 (List.any_eq_true.mpr ⟨z,hzm,hopen⟩) _ e2⟩
   ·rename_i hopen
    k_upd
    refine ⟨rfl,⟨_,rfl⟩,fun j hj' y hy=>?_⟩
    by_cases e:j=i
    ·subst e
     rw [hz] at hy
     cases hy
     simpa using hopen
    ·exact hj j (by omega) y hy
  ·rintro σ H' ⟨rfl,⟨t,rfl⟩,hj⟩
   have hno:l8 g (ak n0 rs)=false:=by
    unfold l8
    rw [List.any_eq_false]
    intro x hx
    obtain ⟨j,hjx⟩:=List.getElem?_of_mem hx
    rw [hj j (by rw [List.length_map];exact (List.getElem?_eq_some_iff.mp hjx).1) x hjx]
    exact Bool.false_ne_true
   k_mem
   refine ⟨_,_,_,hA.ob,T.aP,T.cz,_,rfl,?_⟩
   k_mem
   obtain ⟨db1,hbb⟩:=hA.be.ob
   k_upd
   refine ⟨_,_,hbb,rfl,_,_,_,_,_,_,_,_,_,rfl,hA.be,hkd,fun h=>absurd ⟨hlv.1,by omega⟩ h,fun _ _ h H' s'=>q3 hlv.1 hlv.2 hno h H' (e2.trans s'),fun _ _ harm st2 H3 k3 hB3=>?_⟩
   have h3:=q4 hlv.1 hlv.2 hno harm
   have e3:=e2.keeps k3 hb1
   have hA3:=hA.bells k3 hB3
   clear k3 hB3
   k_mem
   refine ⟨_,_,_,e3 _ _ hob,T.aD,T.dm,_,rfl,?_⟩
   k_mem
   refine ⟨_,_,_,_,rfl,SqL.of (e3 _ _ hdl),hlv.1,hlv.2,?_⟩
   rw [show (if c=0 then g.ds.getD lv.toNat 0 else cv g.ds - g.ds.getD lv.toNat 0)=dU g.ds c lv from rfl]
   k_mem
   refine ⟨_,_,_,hA3.ob,T.aP,T.bN,_,rfl,?_⟩
   k_mem
   refine ⟨_,_,e3 _ _ hob,rfl,_,_,_,_,_,_,_,_,rfl,hW.same e3,hA3.at,hks,fun H4 f4=>?_⟩
   have e4:=e3.trans f4
   replace hA3:=hA3.same f4
   have hspd:cS g {(ak n0 rs) with e:=Eng.used lv (dC g.ls lv kd)}=cS g (ak n0 rs):=rfl
   rw [hspd]
   k_upd
   refine ⟨_,_,rfl,by omega,Int.lt_of_le_of_lt hsp5 (by decide),?_⟩
   k_mem
   refine ⟨_,_,_,hA3.ob,T.aP,T.bN,by show 4 < 1000;decide,?_⟩
   have k5:L2.aA s1 H4 (upd H4 s1 (HO.ins (clZ Z).S A.dx (bL "place" (.int (dU g.ds c lv)) [("place",.int (ak n0 rs).place),("opened",.ref A.ol),("bells",.ref A.b),("yard",.ref A.y)]))):=(aA.of (av.refl H4)).put
   have e5:=e4.keeps k5 hs1
   have hA5:=hA3.placed k5 (pl:=dU g.ds c lv) (by rw [ai];rfl)
   clear hgb2 f2 f4
   generalize upd H4 s1 (HO.ins (clZ Z).S A.dx (bL "place" (.int (dU g.ds c lv)) [("place",.int (ak n0 rs).place),("opened",.ref A.ol),("bells",.ref A.b),("yard",.ref A.y)]))=H5 at *
   k_upd
   refine ⟨_,_,e5 _ _ hob,rfl,by decide,fun p hp=>?_⟩
   have e6:=e5.lay (o:=HO.tup [V.str (Str.ofString "wind"),V.int c,V.int lv,V.str kd]) hp
   have f6:=(av.refl H5).lay (o:=HO.tup [V.str (Str.ofString "wind"),V.int c,V.int lv,V.str kd]) hp
   k_upd
   refine ⟨_,_,_,_,_,_,p,s1,(fC g (ak n0 rs) (.wind c lv kd)),ddV (.wind c lv kd),cC g (ak n0 rs) (.wind c lv kd),rfl,hW.same e6,SqT.of (by rw [ai];rfl),?_,?_,fun h H' s'=>h3.1 h H' (e6.trans s'),fun h H' k hWn=>?_⟩
   ·exact (br.at hA5).same f6
   ·rw [hks];first | rfl | simp only [cC,List.length_set]
   ·k_upd
    exact h3.2 h H' ((aA.of e6).trans k) hWn
variable (qm:bu K Z.bF "wind" "Works.wind" j0 jI xc uP)(xQ:aI P w K mg base (CXf P w) 5 xc uP jI (vm K Z))
theorem two_deepW {p q c:Int}(h0:0<=c)(h1:c < 2):atI [V.int p,V.int q] c=some (.int (if c=0 then p else q)):=by
 rcases (by omega:c=0\/c=1) with rfl | rfl<;>rfl
def nW (K:PySem.W.Frag)(Z:Adr):Sp:=fun vs H Q _=>∃(w bk rl:Addr) (g:Cfg) (n0:aY) (rs:List Row) (c:Int),vs=[.ref w,.int c]/\WAt (clZ Z) K H w bk rl g n0 rs/\cM g.ds/\0<=c/\c < 2/\∀H',av H H'->Q (lvV (cj g.ds (ak n0 rs).place c)) H'
include p6 A7 fZ kF in
theorem xR {f:Addr}{fd:FuncData}(F:Fun K "level_of" "Works.level_of" ff f fd)(T:Txt K mg Z):aI P w K mg base CX0 5 f fd eV (nW K Z):=by
 refine F.ok wC (fun vs H Q E h=>?_) (fun cdv A outer s H vs Q E hr h=>?_)
 ·obtain ⟨w,bk,rl,g,n0,rs,c,rfl,hW,hsh,h0,h1,q⟩:=h
  rfl
 ·obtain ⟨w,bk,rl,g,n0,rs,c,rfl,hW,hsh,h0,h1,q⟩:=h
  refine ⟨_,aj (aw (aF A7 hr.dn (by rfl) p6.m p6.F.kp p6.b .nil aO (ae (aH (pv 0) (by rfl)) (ae (au aE (ba (pv 0) T.aD fZ.M kF hr.dn fZ.b .nil aO) (pv 1)) af)))),?_⟩
  k_all
  obtain ⟨⟨dx,dl,gl,hob,hdl,hgl,n1,n2⟩,hB⟩:=id hW
  obtain ⟨⟨db,f0,hbo,hF⟩,as,hrl,hR⟩:=id hB
  k_mem
  refine ⟨_,_,_,hob,T.aD,T.dm,_,rfl,?_⟩
  k_mem
  refine ⟨_,_,hob,rfl,_,_,_,_,_,_,rfl,hW,by have:=hsh.l2;omega,fun p hp=>?_⟩
  have s1:=(av.refl H).lay (o:=HO.tup [.int (ak n0 rs).place,.int (cv g.ds - (ak n0 rs).place)]) hp
  k_mem
  refine ⟨_,SqT.of ai,_,two_deepW h0 h1,?_⟩
  have l6:=hsh.l6
  k_upd
  refine ⟨_,_,_,rfl,SqL.of (s1 _ _ hdl),by omega,fun i hi e=>?_,fun hne=>?_⟩
  ·have q':=q _ s1
   rw [show cj g.ds (ak n0 rs).place c=some (i:Int) from by rw [cj];split<;>rename_i hc<;>(first | rw [if_pos hc] at e | rw [if_neg hc] at e)<;>exact l5 hsh hi e] at q'
   k_upd
   exact q'
  ·have q':=q _ s1
   rw [show cj g.ds (ak n0 rs).place c=none from by rw [cj];split<;>rename_i hc<;>refine Fg fun i hi=>?_<;>have:=hne i hi<;>(first | rw [if_pos hc] at this | rw [if_neg hc] at this)<;>exact this] at q'
   k_upd
   exact q'
variable (dH:bu K Z.bF "level_of" "Works.level_of" ff eV o6 nM)(gW:aI P w K mg base CX0 5 o6 nM eV (nW K Z))
def xS (K:PySem.W.Frag):Nat->Sp
 | 0=>fun _ _ _ _=>False
 | n+1=>fun vs H Q _=>∃(x y:V) (d:Dt),vs=[x,y]/\Rep K H n x d/\Rep K H n y d/\∀H',av H H'->Q (.bl true) H'
def DO (K:PySem.W.Frag)(Z:Adr):Sp:=xS K 5
def Ji (x y:V)(H:Hp)(_:Nat)(σ:St)(H':Hp):Prop:=av H H'/\∃t,σ=[some x,some y,none,t]
theorem J1 {v:V}{T:String}(h:Ac v=some T):(["list","tuple"].any (Fc T))=false:=by
 cases v<;>simp only [Ac,Option.some.injEq,reduceCtorEq] at h<;>subst h<;>decide
theorem Gz {v:V}(h:cL v=true):∃T,Ac v=some T:=by
 cases v<;>simp only [cL,reduceCtorEq,Bool.false_eq_true] at h<;>exact ⟨_,rfl⟩
theorem J2 {v:V}(h:cL v=true):BD v v=true:=by
 cases v<;>simp only [cL,reduceCtorEq,Bool.false_eq_true] at h<;>rfl
theorem GA {f:Addr}{fd:FuncData}(F:Fun K "_law_same" "_law_same" lg f fd)(T:Txt K mg Z)(bG:Def K mg "_law_same" lg ["_law_found","_law_due"] f fd){n:Nat}
  (fq:aI P w K mg base CX0 n f fd ["_law_found","_law_due"] (xS K n)):aI P w K mg base CX0 (n+1) f fd ["_law_found","_law_due"] (xS K (n+1)):=by
 refine F.ok yx (fun vs H Q E h=>?_) (fun cdv A outer s H vs Q E hr h=>?_)
 ·obtain ⟨x,y,d,rfl,_⟩:=h
  rfl
 ·obtain ⟨x,y,d,rfl,hx,hy,q⟩:=h
  refine ⟨_,ag (bb (eN (dj (aM yi (by rfl) T.bS bH (ae (pv 1) (ae (bq (ae (eO (v:=.ty "list") (by rfl) T.fD dB rfl) (ae (eO (v:=.ty "tuple") (by rfl) T.tM ot rfl) af))) af))))) (ag (aL (i:=2) yx.nd rfl orL (gm bI (aM yi (by rfl) T.bS bH (ae (pv 0) (ae (bq (ae (eO (v:=.ty "int") (by rfl) T.wK pL rfl) (ae (eO (v:=.ty "str") (by rfl) T.OC KC rfl) af))) af))) (aM yi (by rfl) T.bS bH (ae (pv 1) (ae (bq (ae (eO (v:=.ty "int") (by rfl) T.wK pL rfl) (ae (eO (v:=.ty "str") (by rfl) T.OC KC rfl) af))) af))) (aJ _))) (aj (aw (zV (pv 2) (zV (gm bI (aM lX (by rfl) T.bS bH (ae (pv 0) (ae (eO (v:=.ty "bool") (by rfl) T.Ht Eg rfl) af))) (aM lX (by rfl) T.bS bH (ae (pv 1) (ae (eO (v:=.ty "bool") (by rfl) T.Ht Eg rfl) af))) (aJ _)) (DW (gm bI (pv 0) (pv 1) (aJ _)))))))) (aC)) (ag (bb (ax qp (aM lX (by rfl) T.bS bH (ae (pv 0) (ae (eO (v:=.ty "list") (by rfl) T.fD dB rfl) af))) (aM lX (by rfl) T.bS bH (ae (pv 1) (ae (eO (v:=.ty "list") (by rfl) T.fD dB rfl) af))) (aJ _)) (aj (aw ft)) (aC)) (ag (bb (kh (ax qp (aM lX (by rfl) T.bS bH (ae (pv 0) (ae (eO (v:=.ty "tuple") (by rfl) T.tM ot rfl) af))) (aM lX (by rfl) T.bS bH (ae (pv 1) (ae (eO (v:=.ty "tuple") (by rfl) T.tM ot rfl) af))) (aJ _)) (jl (ax qp (aM aG (by rfl) T.cy bD (ae (pv 0) af)) (aM aG (by rfl) T.cy bD (ae (pv 1) af)) (aJ _)))).pt (aj (aw ft)) (aC)) (ag (dA PassesOwn.never rfl (cw (by rfl) T.c7 (ae (aM aG (by rfl) T.cy bD (ae (pv 1) af)) af)) (aB (i:=3) yx.nd rfl orL) (aj (bb (eN (dj (aF fq hr (by rfl) bG.m bG.F.kp bG.b .nil aO (ae (au Kv (pv 0) (pv 3)) (ae (au Kv (pv 1) (pv 3)) af))))) (aj (aw ft)) (aC)))) (aj (aw ft))))),?_⟩
  k_all
  k_mem
  refine ⟨by decide,fun tp htp=>?_⟩
  have s1:=(av.refl H).lay (o:=HO.tup [V.ty "list",V.ty "tuple"]) htp
  have ht1:upd H tp (HO.tup [V.ty "list",V.ty "tuple"]) tp=some (HO.tup (["list","tuple"].map V.ty)):=ai
  generalize upd H tp (HO.tup [V.ty "list",V.ty "tuple"])=H1 at *
  cases hx with
  | @flat _ v hv=>
   cases hy with
   | flat _=>
    obtain ⟨T0,hT⟩:=Gz hv
    refine ⟨_,tp,["list","tuple"],T0,rfl,SqT.of ht1,.inl hT,by decide,?_⟩
    rw [J1 hT]
    k_mem
    refine ⟨by decide,fun p1 hp1=>⟨_,p1,["int","str"],T0,rfl,SqT.of ai,.inl hT,by decide,?_⟩⟩
    refine ⟨by decide,fun p2 hp2=>⟨_,p2,["int","str"],T0,rfl,SqT.of ai,.inl hT,by decide,?_⟩⟩
    k_mem
    rw [if_pos rfl]
    refine ⟨_,"bool",T0,rfl,.inl hT,by decide,_,"bool",T0,rfl,.inl hT,by decide,?_⟩
    k_mem
    rw [if_pos rfl]
    refine Ew.mp ⟨J2 hv,?_⟩
    rw [decide_eq_true rfl]
    exact q _ ((s1.lay hp1).lay hp2)
  | @lst m a xs ds hs hb hl hrx=>
   cases hy with
   | @lst _ b ys _ hs' hb' hl' hry=>
    have ha1:=s1.seq hs
    have hb1:=s1.seq hs'
    refine ⟨.ref b,tp,["list","tuple"],"list",rfl,SqT.of ht1,.inr (.inl ⟨b,ys,rfl,hb1,rfl⟩),by decide,?_⟩
    rw [show (["list","tuple"].any (Fc "list"))=true from by decide]
    k_mem
    refine ⟨.ref a,"list","list",rfl,.inr (.inl ⟨a,xs,rfl,ha1,rfl⟩),by decide,.ref b,"list","list",rfl,.inr (.inl ⟨b,ys,rfl,hb1,rfl⟩),by decide,?_⟩
    k_mem
    refine ⟨.ref a,"tuple","list",rfl,.inr (.inl ⟨a,xs,rfl,ha1,rfl⟩),by decide,.ref b,"tuple","list",rfl,.inr (.inl ⟨b,ys,rfl,hb1,rfl⟩),by decide,?_⟩
    k_mem
    refine ⟨xs,.inl ha1,ys,.inl hb1,?_⟩
    rw [if_neg (by omega)]
    refine ⟨ys,.inl hb1,by omega,by omega,?_⟩
    refine cN (Ji (.ref a) (.ref b) H1) ⟨av.refl _,_,rfl⟩ ?_ ?_
    ·rintro i σ H2 hi ⟨s2,t,rfl⟩
     have hi1:i < xs.length:=by omega
     have hi2:i < ys.length:=by omega
     have hi3:i < ds.length:=by omega
     have ex:xs[i]?=some xs[i]:=List.getElem?_eq_getElem hi1
     have ey:ys[i]?=some ys[i]:=List.getElem?_eq_getElem hi2
     have ed:ds[i]?=some ds[i]:=List.getElem?_eq_getElem hi3
     k_mem
     rw [Int.zero_add]
     refine .inl ⟨a,xs,_,_,rfl,rfl,s2.seq ha1,pP ex,.inl ⟨b,ys,_,_,rfl,rfl,s2.seq hb1,pP ey,?_⟩⟩
     refine ⟨_,_,ds[i],rfl,(hrx i _ _ ex ed).same (s1.trans s2),(hry i _ _ ey ed).same (s1.trans s2),fun H3 s3=>?_⟩
     k_mem
     exact ⟨s2.trans s3,_,rfl⟩
    ·rintro σ H2 ⟨s2,t,rfl⟩
     k_mem
     exact q _ (s1.trans s2)
  | @tup m a xs ds hs hb hl hrx=>
   cases hy with
   | @tup _ b ys _ hs' hb' hl' hry=>
    have ha1:=s1.tup hs
    have hb1:=s1.tup hs'
    refine ⟨.ref b,tp,["list","tuple"],"tuple",rfl,SqT.of ht1,.inr (.inr ⟨b,ys,rfl,hb1,rfl⟩),by decide,?_⟩
    rw [show (["list","tuple"].any (Fc "tuple"))=true from by decide]
    k_mem
    refine ⟨.ref a,"list","tuple",rfl,.inr (.inr ⟨a,xs,rfl,ha1,rfl⟩),by decide,.ref b,"list","tuple",rfl,.inr (.inr ⟨b,ys,rfl,hb1,rfl⟩),by decide,?_⟩
    k_mem
    refine ⟨.ref a,"tuple","tuple",rfl,.inr (.inr ⟨a,xs,rfl,ha1,rfl⟩),by decide,.ref b,"tuple","tuple",rfl,.inr (.inr ⟨b,ys,rfl,hb1,rfl⟩),by decide,?_⟩
    k_mem
    refine ⟨xs,.inr ha1,ys,.inr hb1,?_⟩
    rw [if_neg (by omega)]
    refine ⟨ys,.inr hb1,by omega,by omega,?_⟩
    refine cN (Ji (.ref a) (.ref b) H1) ⟨av.refl _,_,rfl⟩ ?_ ?_
    ·rintro i σ H2 hi ⟨s2,t,rfl⟩
     have hi1:i < xs.length:=by omega
     have hi2:i < ys.length:=by omega
     have hi3:i < ds.length:=by omega
     have ex:xs[i]?=some xs[i]:=List.getElem?_eq_getElem hi1
     have ey:ys[i]?=some ys[i]:=List.getElem?_eq_getElem hi2
     have ed:ds[i]?=some ds[i]:=List.getElem?_eq_getElem hi3
     k_mem
     rw [Int.zero_add]
     refine .inr (.inl ⟨a,xs,_,_,rfl,rfl,s2.tup ha1,pP ex,.inr (.inl ⟨b,ys,_,_,rfl,rfl,s2.tup hb1,pP ey,?_⟩)⟩)
     refine ⟨_,_,ds[i],rfl,(hrx i _ _ ex ed).same (s1.trans s2),(hry i _ _ ey ed).same (s1.trans s2),fun H3 s3=>?_⟩
     k_mem
     exact ⟨s2.trans s3,_,rfl⟩
    ·rintro σ H2 ⟨s2,t,rfl⟩
     k_mem
     exact q _ (s1.trans s2)
theorem J3 {f:Addr}{fd:FuncData}(F:Fun K "_law_same" "_law_same" lg f fd)(T:Txt K mg Z)(bG:Def K mg "_law_same" lg ["_law_found","_law_due"] f fd):aI P w K mg base CX0 5 f fd ["_law_found","_law_due"] (DO K Z):=by
 have h:∀n,aI P w K mg base CX0 n f fd ["_law_found","_law_due"] (xS K n):=by
  intro n
  induction n with
  | zero=>exact KP
  | succ n ih=>exact GA F T bG ih
 exact h 5
variable (bG:Def K mg "_law_same" lg wu Gh Dx)(fq:aI P w K mg base CX0 5 Gh Dx wu (DO K Z))
def DP (K:PySem.W.Frag)(Z:Adr):Sp:=fun vs H Q _=>∃(p dl cl ll:Addr) (ds:List Int) (ls:List Cd) (slow fast:Int) (lds:List Ld) (N0:Addr->Prop),vs=[.ref p]/\gp K H p dl cl ll (fI ds ls slow fast lds N0) lds/\cM ds/\ls.length=ds.length/\(∀x∈ls,gx x)/\(1<=slow/\slow<=fast/\fast<=500)/\lds.length<=30/\(∀x∈lds,l4 (ds.length:Nat) x)/\∀(w bk rl:Addr) (N:Addr->Prop) (H':Hp),av H H'->H rl=none->H w=none->WAt (clZ Z) K H' w bk rl (fI ds ls slow fast lds N) (eU ds ls lds) []->Q (.ref w) H'
include qj xJ in
theorem J4 {f:Addr}{fd:FuncData}(F:Fun K "_law_made" "_law_made" rA f fd)(T:Txt K mg Z):aI P w K mg base (CXf P w) 5 f fd rg (DP K Z):=by
 refine F.okF jf (fun vs H Q E h=>?_) (fun cdv A outer s H vs Q E hr h=>?_)
 ·obtain ⟨p,dl,cl,ll,ds,ls,slow,fast,lds,N0,rfl,hP,hsh,hlen,hg,hsp,h30,hld,q⟩:=h
  rfl
 ·obtain ⟨p,dl,cl,ll,ds,ls,slow,fast,lds,N0,rfl,hP,hsh,hlen,hg,hsp,h30,hld,q⟩:=h
  refine seg 6 (aj (aw (pv 7))) fun zt6 zh6=>?_
  k_all
  intro ze6
  refine seg 5 (ag (bB (z7 PySem.F.plainAttrs_list PySem.F.slot_list_clear PySem.F.type_list_clear E7 (au aK (pv 6) ah))) zh6) fun zt5 zh5=>?_
  k_all
  intro ze5
  refine seg 4 (ag (bB (z7 PySem.F.plainAttrs_list PySem.F.slot_list_clear PySem.F.type_list_clear E7 (au aK (pv 6) ah))) zh5) fun zt4 zh4=>?_
  k_all
  intro ze4
  refine seg 3 (ag (kj ah (xZ (au aK (pv 6) ah) (jn fA ah) oq)) zh4) fun zt3 zh3=>?_
  k_all
  intro ze3
  refine seg 2 (ag (aL (i:=7) jf.nd rfl orL (nj qj.M xJ hr.dn (by rfl) T.NA qj.b .nil bT (ae (au aK (pv 6) ah) (ae (au aK (pv 6) ah) (ae (pv 3) (ae (pv 4) (ae (au aK (pv 6) ah) af))))))) zh3) fun zt2 zh2=>?_
  k_all
  intro ze2
  refine seg 1 (ag (aL (i:=6) jf.nd rfl orL (bC (ae (bK bQ (by rfl) T.fD dB (ae (pv 1) af)) (ae (bK bQ (by rfl) T.fD dB (ae (pv 2) af)) (ae (bK bQ (by rfl) T.fD dB (ae (pv 5) af)) af))))) zh2) fun zt1 zh1=>?_
  k_all
  intro ze1
  refine ⟨_,ag (kj (pv 0) (Ah rfl (aQ (aB (i:=1) jf.nd rfl orL) (aQ (aB (i:=2) jf.nd rfl orL) (aQ (aB (i:=3) jf.nd rfl orL) (aQ (aB (i:=4) jf.nd rfl orL) (aQ (aB (i:=5) jf.nd rfl orL) dz))))))) zh1,?_⟩
  k_all
  obtain ⟨hp,hdl,⟨as,hcl,hT⟩,⟨bs,hll,hT2⟩,_⟩:=id hP
  replace hdl:H dl=some (HO.lst (ds.map V.int)):=hdl
  replace hp:H p=some (HO.lst [V.ref dl,V.ref cl,V.int slow,V.int fast,V.ref ll]):=hp
  replace hT:dI cdV K H as ls:=hT
  have l2:=hsh.l2
  have l6:=hsh.l6
  k_mem
  refine ⟨_,SqL.of hp,rfl,?_⟩
  k_mem
  refine ⟨_,.inl (SqL.of hdl),fun p1 hp1=>⟨_,.inl (SqL.of (upo hcl hp1)),fun p2 hp2=>⟨_,.inl (SqL.of (upo (upo hll hp1) hp2)),fun p3 hp3=>⟨by decide,fun h hh=>?_⟩⟩⟩⟩
  have s2:=(((((av.refl H).lay (o:=HO.lst (ds.map V.int)) hp1).lay (o:=HO.lst (as.map V.ref)) hp2).lay (o:=HO.lst (bs.map V.ref)) hp3).lay (o:=HO.lst [V.ref p1,V.ref p2,V.ref p3]) hh)
  have q1:upd (upd (upd (upd H p1 (HO.lst (ds.map V.int))) p2 (HO.lst (as.map V.ref))) p3 (HO.lst (bs.map V.ref))) h (HO.lst [V.ref p1,V.ref p2,V.ref p3]) p1=some (HO.lst (ds.map V.int)):=upo (upo (upo ai hp2) hp3) hh
  have q2:upd (upd (upd (upd H p1 (HO.lst (ds.map V.int))) p2 (HO.lst (as.map V.ref))) p3 (HO.lst (bs.map V.ref))) h (HO.lst [V.ref p1,V.ref p2,V.ref p3]) p2=some (HO.lst (as.map V.ref)):=upo (upo ai hp3) hh
  have q3:upd (upd (upd (upd H p1 (HO.lst (ds.map V.int))) p2 (HO.lst (as.map V.ref))) p3 (HO.lst (bs.map V.ref))) h (HO.lst [V.ref p1,V.ref p2,V.ref p3]) p3=some (HO.lst (bs.map V.ref)):=upo ai hh
  have q4:upd (upd (upd (upd H p1 (HO.lst (ds.map V.int))) p2 (HO.lst (as.map V.ref))) p3 (HO.lst (bs.map V.ref))) h (HO.lst [V.ref p1,V.ref p2,V.ref p3]) h=some (HO.lst [V.ref p1,V.ref p2,V.ref p3]):=ai
  have f1:=hp1
  have f2:=upn hp2
  have f3:=upn (upn hp3)
  have n12:p1≠p2:=aq ai hp2
  have n13:p1≠p3:=aq (upo ai hp2) hp3
  have n23:p2≠p3:=aq ai hp3
  have nh1:p1≠h:=aq (upo (upo ai hp2) hp3) hh
  have nh2:p2≠h:=aq (upo ai hp3) hh
  have nh3:p3≠h:=aq ai hh
  generalize upd (upd (upd (upd H p1 (HO.lst (ds.map V.int))) p2 (HO.lst (as.map V.ref))) p3 (HO.lst (bs.map V.ref))) h (HO.lst [V.ref p1,V.ref p2,V.ref p3])=H2 at *
  k_upd
  refine ⟨_,SqL.of q4,_,rfl,_,SqL.of q4,_,rfl,_,SqL.of q4,_,rfl,?_⟩
  refine fun x dx hx hdx nxd=>?_
  have hx':upd H2 dx (.own x) x=none:=by rw [aV (Ne.symm nxd)];exact hx
  have sx:=((av.refl H2).lay (o:=HO.own x) hdx).lay (o:=HO.ins Z.bF dx []) hx'
  k_upd
  refine ⟨x,dx,p1,p2,p3,ds,ls,lds,slow,fast,fun z=>z=p1\/z=p2\/z=p3,rfl,ai,sx.seq (SqL.of q1),⟨as,sx.seq (SqL.of q2),(hT.same s2).same sx⟩,⟨bs,sx.seq (SqL.of q3),(hT2.same s2).same sx⟩,by omega,by omega,by omega,?_,fun h=>absurd hsh h,fun _ h=>absurd ⟨by omega,hg⟩ h,fun _ _ h=>absurd hsp h,fun _ _ _ h=>absurd ⟨h30,hld⟩ h,fun _ _ _ _ bk rl H3 kx hrl hW=>⟨rfl,?_⟩⟩
  ·rintro z (rfl | rfl | rfl)
   ·k_upd
    exact ⟨_,sx _ _ q1⟩
   ·k_upd
    exact ⟨_,sx _ _ q2⟩
   ·k_upd
    exact ⟨_,sx _ _ q3⟩
  have s3:=kJ hx hdx kx
  have frl:H2 rl=none:=jt hrl
  clear kx hrl sx
  k_mem
  refine ⟨_,SqL.of (s3 _ _ q4),_,rfl,_,s3 _ _ q1,ds.length - 1,by rw [List.length_map];exact Pn (by omega),?_⟩
  have k4:L2.aA p1 H3 (upd H3 p1 (HO.lst ((ds.map V.int).set (ds.length - 1) (V.int 777)))):=(aA.of (av.refl H3)).put
  have e4:upd H3 p1 (HO.lst ((ds.map V.int).set (ds.length - 1) (V.int 777))) p1=some (HO.lst ((ds.map V.int).set (ds.length - 1) (V.int 777))):=ai
  generalize upd H3 p1 (HO.lst ((ds.map V.int).set (ds.length - 1) (V.int 777)))=H4 at *
  have hW4:=hW.own (.inl rfl) k4 e4
  have s4:av H H4:=(s2.trans s3).keeps k4 f1
  have r2:=k4 _ _ n12.symm (s3 _ _ q2)
  have r3:=k4 _ _ n13.symm (s3 _ _ q3)
  have r4:=k4 _ _ nh1.symm (s3 _ _ q4)
  k_mem
  refine ⟨_,SqL.of r4,_,rfl,.inl ⟨rfl,_,SqL.of r2⟩,?_⟩
  k_mem
  refine ⟨_,r2,?_⟩
  have k5:L2.aA p2 H4 (upd H4 p2 (HO.lst [])):=(aA.of (av.refl H4)).put
  have e5:upd H4 p2 (HO.lst []) p2=some (HO.lst []):=ai
  generalize upd H4 p2 (HO.lst [])=H5 at *
  have hW5:=hW4.own (.inr (.inl rfl)) k5 e5
  have s5:av H H5:=s4.keeps k5 f2
  have u3:=k5 _ _ n23.symm r3
  have u4:=k5 _ _ nh2.symm r4
  k_mem
  refine ⟨_,SqL.of u4,_,rfl,.inl ⟨rfl,_,SqL.of u3⟩,?_⟩
  k_mem
  refine ⟨_,u3,?_⟩
  have k6:L2.aA p3 H5 (upd H5 p3 (HO.lst [])):=(aA.of (av.refl H5)).put
  have e6:upd H5 p3 (HO.lst []) p3=some (HO.lst []):=ai
  have hW6:=hW5.own (.inr (.inr rfl)) k6 e6
  k_upd
  exact q x bk rl _ _ (s5.keeps k6 f3) (s2.free frl) (s2.free hx) hW6
variable (pH:Def K mg "_law_made" rA rg Gi Dy)(xT:aI P w K mg base (CXf P w) 5 Gi Dy rg (DP K Z))
def GB (K:PySem.W.Frag)(Z:Adr):Sp:=fun vs H Q _=>∃(w bk rl:Addr) (g:Cfg) (n0:aY) (rs:List Row) (c t:Int),vs=[.ref w,.int c,.int t]/\(c=0\/c=1)/\WAt (clZ Z) K H w bk rl g n0 rs/\0 < g.ds.length/\NK rs/\bw rs<=1000000/\(0<=t/\t<=bw rs->∀p ph pt H',av H H'->H' p=some (.lst [.ref pt,.ref ph])->H' ph=some (.lst [.bl false,.bl false])->(c=0->H' pt=some (.tup [.int (iY n0 rs t),.int (cv g.ds - iY n0 rs t)]))->(c=1->H' pt=some (.lst ((dR n0 rs t).map V.int)))->Q (.ref p) H')/\(¬(0<=t/\t<=bw rs)->∀p ph H',av H H'->H' p=some (.lst [.non,.ref ph])->H' ph=some (.lst [.bl true,.bl false])->Q (.ref p) H')
include kq pE kr pF in
theorem Ma {f:Addr}{fd:FuncData}(F:Fun K "_law_ask" "_law_ask" wI f fd)(T:Txt K mg Z):aI P w K mg base CX0 5 f fd wz (GB K Z):=by
 refine F.ok mD (fun vs H Q E h=>?_) (fun cdv A outer s H vs Q E hr h=>?_)
 ·obtain ⟨w,bk,rl,g,n0,rs,c,t,rfl,hc,hW,hl,hrs,hnow,q1,q2⟩:=h
  rfl
 ·obtain ⟨w,bk,rl,g,n0,rs,c,t,rfl,hc,hW,hl,hrs,hnow,q1,q2⟩:=h
  refine seg 3 (aj (aw (bC (ae (pv 4) (ae (pv 3) af))))) fun zt3 zh3=>?_
  k_all
  intro ze3
  refine seg 2 (ag (O9 (i:=5) rfl rfl (fun _ _=>aj (bb (ax bI (pv 1) ah (aJ _)) (aj (aL (i:=4) mD.nd rfl orL (Fv (pv 0) T.aD kq.M pE hr.dn kq.b .nil (ae (pv 2) af)))) (aj (aL (i:=4) mD.nd rfl orL (Fv (pv 0) T.aD kr.M pF hr.dn kr.b .nil (ae (pv 2) af)))))) (fun _=>aj (aL (i:=3) mD.nd rfl orL (bC (ae (aM (show kG _ (.builtin "isinstance") (MA K) from Fb) (by rfl) T.bS bH (ae (pv 5) (ae (DV (v:=.ref Z.cO) (by rfl) T.FL rfl) af))) (ae (aM (show kG _ (.builtin "isinstance") (MA K) from Fb) (by rfl) T.bS bH (ae (pv 5) (ae (DV (v:=.ref Z.aN) (by rfl) T.rH rfl) af))) af))))) mD.nd rfl rfl (by rfl) T.FN) zh3) fun zt2 zh2=>?_
  k_all
  intro ze2
  refine seg 1 (ag (aL (i:=4) mD.nd rfl orL gf) zh2) fun zt1 zh1=>?_
  k_all
  intro ze1
  refine ⟨_,ag (aL (i:=3) mD.nd rfl orL (bC (ae ft (ae ft af)))) zh1,?_⟩
  k_all
  k_mem
  refine ⟨by decide,fun h0 hh0=>?_⟩
  (generalize hE:upd H h0 _=H1 at *;have s1:=gg hE hh0;have e1:=cW hE;clear hE)
  have hW1:=hW.same s1
  obtain ⟨dx,dl,gl,hob,_⟩:=id hW1.ob
  k_mem
  rcases hc with rfl | rfl
  ·rw [if_pos rfl]
   k_upd
   refine ⟨_,_,_,rfl,hob,rfl,_,_,_,_,_,_,_,rfl,hW1,hl,hrs,hnow,fun ht p2 hp2=>?_,fun ht=>⟨T.mF,fun y hy=>?_⟩⟩
   ·(generalize hE:upd H1 p2 _=H2 at *;have s2:=gg hE hp2;have e2:=cW hE;clear hE)
    k_mem
    refine ⟨by decide,fun p3 hp3=>?_⟩
    (generalize hE:upd H2 p3 _=H3 at *;have s3:=gg hE hp3;have e3:=cW hE;clear hE)
    k_upd
    exact q1 ht p3 h0 p2 H3 ((s1.trans s2).trans s3) e3 (s3 _ _ (s2 _ _ e1)) (fun _=>s3 _ _ e2) (fun z=>by cases z)
   ·(generalize hE:upd H1 y _=H2 at *;have s3:=gg hE hy;have e3:=cW hE;clear hE)
    refine MB e3 T.wM T.qt v7 (MB e3 T.wM T.ki v7 ⟨by decide,fun p1 hp1=>?_⟩)
    (generalize hE:upd H2 p1 _=H3 at *;have s4:=gg hE hp1;have e4:=cW hE;clear hE)
    k_mem
    refine ⟨by decide,fun p2 hp2=>?_⟩
    (generalize hE:upd H3 p2 _=H4 at *;have s5:=gg hE hp2;have e5:=cW hE;clear hE)
    k_upd
    exact q2 ht p2 p1 H4 (((s1.trans s3).trans s4).trans s5) e5 (s5 _ _ e4)
  ·rw [if_neg (by decide)]
   k_upd
   refine ⟨_,_,_,rfl,hob,rfl,_,_,_,_,_,_,_,rfl,hW1,fun ht p2 H2 hp2 s2 e2=>?_,fun ht=>⟨T.mF,fun y hy=>?_⟩⟩
   ·k_mem
    k_upd
    refine ⟨by decide,fun p3 hp3=>?_⟩
    (generalize hE:upd H2 p3 _=H3 at *;have s3:=gg hE hp3;have e3:=cW hE;clear hE)
    k_upd
    exact q1 ht p3 h0 p2 H3 ((s1.trans s2).trans s3) e3 (s3 _ _ (s2 _ _ e1)) (fun z=>by cases z) (fun _=>s3 _ _ e2)
   ·(generalize hE:upd H1 y _=H2 at *;have s3:=gg hE hy;have e3:=cW hE;clear hE)
    refine MB e3 T.wM T.qt v7 (MB e3 T.wM T.ki v7 ⟨by decide,fun p1 hp1=>?_⟩)
    (generalize hE:upd H2 p1 _=H3 at *;have s4:=gg hE hp1;have e4:=cW hE;clear hE)
    k_mem
    refine ⟨by decide,fun p2 hp2=>?_⟩
    (generalize hE:upd H3 p2 _=H4 at *;have s5:=gg hE hp2;have e5:=cW hE;clear hE)
    k_upd
    exact q2 ht p2 p1 H4 (((s1.trans s3).trans s4).trans s5) e5 (s5 _ _ e4)
variable (i5:Def K mg "_law_ask" wI wz Jc Gn)(tW:aI P w K mg base CX0 5 Jc Gn wz (GB K Z))
def mV (K:PySem.W.Frag)(Z:Adr):Sp:=fun vs H Q E=>∃(w bk rl:Addr) (g:Cfg) (n0:aY) (rs:List Row) (lv:Int),vs=[.ref w,.int lv]/\WAt (clZ Z) K H w bk rl g n0 rs/\g.ls.length<=1000/\g.ks.length=(ak n0 rs).ws.length/\(ak n0 rs).gates.length=g.ds.length/\
 (¬(0<=lv/\lv < g.ds.length)->∀H',av H H'->E (.ref Z.aN) none H')/\
 (0<=lv->lv < g.ds.length->(ak n0 rs).gates.getD lv.toNat false=true->∀H',av H H'->E (.ref Z.fV) none H')/\
 (0<=lv->lv < g.ds.length->(ak n0 rs).gates.getD lv.toNat false=false->zt Z K H w bk rl g n0 rs (.opn lv) Q E)
include di gv in
theorem vM {f:Addr}{fd:FuncData}(F:Fun K "open_gate" "Works.open_gate" eD f fd)(T:Txt K mg Z):aI P w K mg base (CXf P w) 6 f fd eo (mV K Z):=by
 refine F.okF vx (fun vs H Q E h=>?_) (fun cdv A outer s H vs Q E hr h=>?_)
 ·obtain ⟨w,bk,rl,g,n0,rs,lv,rfl,hW,hls,hks,hgl2,q1,q2,q3⟩:=h
  rfl
 ·obtain ⟨w,bk,rl,g,n0,rs,lv,rfl,hW,hls,hks,hgl2,q1,q2,q3⟩:=h
  refine ⟨_,aj (aw (bj (pv 0) T.aD di.M gv hr.dn di.b .nil bT (ae aR (ae (pv 1) (ae ft af))))),?_⟩
  k_all
  obtain ⟨dx,dl,gl,hob,_⟩:=id hW.ob
  k_mem
  exact ⟨_,_,hob,rfl,_,_,_,_,_,_,_,_,_,_,rfl,hW,hls,hks,hgl2,.inl ⟨rfl,rfl,rfl⟩,q1,q2,q3⟩
variable (ke:bu K Z.bF "open_gate" "Works.open_gate" eD eo nF mL)(nX:aI P w K mg base (CXf P w) 6 nF mL eo (mV K Z))
def mW (K:PySem.W.Frag)(Z:Adr):Sp:=fun vs H Q E=>∃(w bk rl:Addr) (g:Cfg) (n0:aY) (rs:List Row) (lv:Int),vs=[.ref w,.int lv]/\WAt (clZ Z) K H w bk rl g n0 rs/\g.ls.length<=1000/\g.ks.length=(ak n0 rs).ws.length/\(ak n0 rs).gates.length=g.ds.length/\
 (¬(0<=lv/\lv < g.ds.length)->∀H',av H H'->E (.ref Z.aN) none H')/\
 (0<=lv->lv < g.ds.length->(ak n0 rs).gates.getD lv.toNat false=false->∀H',av H H'->E (.ref Z.fV) none H')/\
 (0<=lv->lv < g.ds.length->(ak n0 rs).gates.getD lv.toNat false=true->zt Z K H w bk rl g n0 rs (.sht lv) Q E)
include di gv in
theorem vN {f:Addr}{fd:FuncData}(F:Fun K "shut_gate" "Works.shut_gate" eI f fd)(T:Txt K mg Z):aI P w K mg base (CXf P w) 6 f fd ez (mW K Z):=by
 refine F.okF vy (fun vs H Q E h=>?_) (fun cdv A outer s H vs Q E hr h=>?_)
 ·obtain ⟨w,bk,rl,g,n0,rs,lv,rfl,hW,hls,hks,hgl2,q1,q2,q3⟩:=h
  rfl
 ·obtain ⟨w,bk,rl,g,n0,rs,lv,rfl,hW,hls,hks,hgl2,q1,q2,q3⟩:=h
  refine ⟨_,aj (aw (bj (pv 0) T.aD di.M gv hr.dn di.b .nil bT (ae aR (ae (pv 1) (ae ft af))))),?_⟩
  k_all
  obtain ⟨dx,dl,gl,hob,_⟩:=id hW.ob
  k_mem
  exact ⟨_,_,hob,rfl,_,_,_,_,_,_,_,_,_,_,rfl,hW,hls,hks,hgl2,.inr ⟨rfl,rfl,rfl⟩,q1,q2,q3⟩
variable (kg:bu K Z.bF "shut_gate" "Works.shut_gate" eI ez nG mM)(nY:aI P w K mg base (CXf P w) 6 nG mM ez (mW K Z))
def vn (K:PySem.W.Frag)(Z:Adr):Sp:=fun vs H Q E=>∃(w bk rl:Addr) (g:Cfg) (n0:aY) (rs:List Row) (k c:Int),vs=[.ref w,.int k,.int c]/\WAt (clZ Z) K H w bk rl g n0 rs/\g.ls.length<=1000/\g.ks.length=(ak n0 rs).ws.length/\cM g.ds/\(ak n0 rs).gates.length=g.ds.length/\g.goals.length=(ak n0 rs).ws.length/\0<=c/\c < 2/\
 (¬(0<=k/\k < (ak n0 rs).ws.length)->∀H',av H H'->E (.ref Z.dG) none H')/\
 (0<=k->k < (ak n0 rs).ws.length->(∀l,cj g.ds (ak n0 rs).place c=some l->(ak n0 rs).ws.getD k.toNat 0≠l)->∀H',av H H'->E (.ref Z.iO) none H')/\
 (∀l,0<=k->k < (ak n0 rs).ws.length->cj g.ds (ak n0 rs).place c=some l->(ak n0 rs).ws.getD k.toNat 0=l->10+c∈(ak n0 rs).ws->∀H',av H H'->E (.ref Z.gP) none H')/\
 (∀l,0<=k->k < (ak n0 rs).ws.length->cj g.ds (ak n0 rs).place c=some l->(ak n0 rs).ws.getD k.toNat 0=l->¬10+c∈(ak n0 rs).ws->(ak n0 rs).gates.getD l.toNat false=false->∀H',av H H'->E (.ref Z.iR) none H')/\
 (∀l,0<=k->k < (ak n0 rs).ws.length->cj g.ds (ak n0 rs).place c=some l->(ak n0 rs).ws.getD k.toNat 0=l->¬10+c∈(ak n0 rs).ws->(ak n0 rs).gates.getD l.toNat false=true->zt Z K H w bk rl g n0 rs (.load k c) Q E)
include cT fE az aT eM lV bY c8 sV zm bf bP aZ bx dH gW in
theorem Cu {f:Addr}{fd:FuncData}(F:Fun K "load" "Works.load" jZ f fd)(T:Txt K mg Z):aI P w K mg base (CXf P w) 6 f fd jH (vn K Z):=by
 refine F.okF og (fun vs H Q E h=>?_) (fun cdv A outer s H vs Q E hr h=>?_)
 ·obtain ⟨w,bk,rl,g,n0,rs,k,c,rfl,hW,hls,hks,hsh,hgl2,hgo,h0,h1,q1,q2,q3,q4,q5⟩:=h
  rfl
 ·obtain ⟨w,bk,rl,g,n0,rs,k,c,rfl,hW,hls,hks,hsh,hgl2,hgo,h0,h1,q1,q2,q3,q4,q5⟩:=h
  refine seg 6 (aj (aw (bj (pv 0) T.aD bf.M bP hr.dn bf.b .nil bT (ae (bq (ae aR (ae (pv 1) (ae (pv 2) af)))) (ae ah (ae (pv 3) af)))))) fun zt6 zh6=>?_
  k_all
  intro ze6
  refine seg 5 (ag (bB (bj (pv 0) T.aD bY.M c8 hr.dn bY.b .nil bT (ae (pv 4) af))) zh6) fun zt5 zh5=>?_
  k_all
  intro ze5
  refine seg 4 (ag (bB (bj (aH (pv 3) (by rfl)) T.bM sV.M zm hr.dn sV.b .nil bT (ae (pv 1) (ae (pv 2) af)))) zh5) fun zt4 zh4=>?_
  k_all
  intro ze4
  refine seg 3 (ag (bb (kh (ax DZ (pv 4) gf (aJ _)) (jl (ax qp (au aK (ba (aH (pv 3) (by rfl)) T.bM cT.M fE hr.dn cT.b .nil aO) (pv 1)) (pv 4) (aJ _)))).pt (aj (bE T.vF (by rfl) T.vD (ae aR af))) (aC)) zh4) fun zt3 zh3=>?_
  k_all
  intro ze3
  refine seg 2 (ag (aL (i:=4) og.nd rfl orL (bj (pv 0) T.aD dH.M gW hr.dn dH.b .nil aO (ae (pv 2) af))) zh3) fun zt2 zh2=>?_
  k_all
  intro ze2
  refine seg 1 (ag (bB (aF lV hr.dn (by rfl) eM.m eM.F.kp eM.b .nil bT (ae (pv 1) (ae (aM aG (by rfl) T.cy bD (ae (aH (pv 0) (by rfl)) af)) af)))) zh2) fun zt1 zh1=>?_
  k_all
  intro ze1
  refine ⟨_,ag (aL (i:=3) og.nd rfl orL (ba (ba (aH (pv 0) (by rfl)) T.bg az.M aT hr.dn az.b .nil aO) T.aP aZ.M bx hr.dn aZ.b .nil aO)) zh1,?_⟩
  k_all
  obtain ⟨⟨dx,dl,gl,hob,hdl,hgl,n1,n2⟩,hB⟩:=id hW
  obtain ⟨⟨db,f0,hbo,hF⟩,as,hrl,hR⟩:=id hB
  k_mem
  refine ⟨_,_,_,hob,T.aD,T.bh,_,rfl,?_⟩
  k_mem
  refine ⟨_,_,hbo,rfl,_,_,_,_,_,rfl,hB,fun s0 ⟨A0,hA0⟩=>?_⟩
  k_mem
  refine ⟨_,_,hA0.ob,rfl,_,_,_,_,_,rfl,hA0.at,hrl,hls,fun s1 A H1 e1 hs1 ho1 hb1 hf1 hy1 hw1 hA=>?_⟩
  have hW1:=hW.same e1
  have hob1:=e1 _ _ hob
  have hbo1:=e1 _ _ hbo
  have hrl1:=e1 _ _ hrl
  have hdl1:=e1 _ _ hdl
  k_mem
  refine ⟨_,_,_,hob1,T.aD,T.rK,_,rfl,?_⟩
  k_mem
  refine ⟨_,.inl (SqL.of (e1 _ _ hgl)),_,_,rfl,?_⟩
  rw [List.length_map,hgo]
  k_upd
  refine ⟨fun hk=>?_,fun h=>q1 h _ e1⟩
  k_mem
  refine ⟨_,_,hob1,rfl,_,_,_,_,_,_,_,rfl,hW1,hsh,h0,h1,fun H2 f2=>?_⟩
  have e2:=e1.trans f2
  replace hA:=hA.same f2
  k_mem
  cases hc:cj g.ds (ak n0 rs).place c with
  | none=>
   rw [if_pos (show lvV none=V.non from rfl)]
   k_upd
   exact ⟨by decide,q2 hk.1 hk.2 (fun l e=>by rw [hc] at e;cases e) _ e2⟩
  | some l=>
   obtain ⟨l0,l1,_⟩:=i6 hc
   have l6:=hsh.l6
   k_upd
   rw [if_neg (show ¬(lvV (some l)=V.non) from fun z=>V.noConfusion z)]
   k_upd
   refine ⟨_,_,_,hA.ob,T.aP,T.bA,_,rfl,?_⟩
   k_mem
   obtain ⟨dy,hyb⟩:=hA.ya.ob
   k_upd
   refine ⟨_,_,hyb,rfl,_,_,_,_,_,_,rfl,hA.ya,fun p hp=>?_⟩
   have e3:=e2.lay (o:=HO.lst ((ak n0 rs).ws.map V.int)) hp
   have f3:=(av.refl H2).lay (o:=HO.lst ((ak n0 rs).ws.map V.int)) hp
   have hq3:upd H2 p (HO.lst ((ak n0 rs).ws.map V.int)) p=some (HO.lst ((ak n0 rs).ws.map V.int)):=ai
   replace hA:=hA.same f3
   generalize upd H2 p (HO.lst ((ak n0 rs).ws.map V.int))=H3 at *
   k_mem
   refine ⟨_,SqL.of hq3,_,eQ hk.1 hk.2,?_⟩
   simp only [lvV]
   k_mem
   split
   ·rename_i hne
    k_upd
    exact ⟨by decide,q2 hk.1 hk.2 (fun l' e=>by rw [hc] at e;cases e;exact hne) _ e3⟩
   ·rename_i hne
    have heq:(ak n0 rs).ws.getD k.toNat 0=l:=Decidable.not_not.mp hne
    k_upd
    refine ⟨_,_,_,hA.ob,T.aP,T.bA,_,rfl,?_⟩
    k_mem
    obtain ⟨dy,hyb⟩:=hA.ya.ob
    k_upd
    refine ⟨_,_,hyb,rfl,_,_,_,_,_,_,_,_,rfl,hA.ya,h0,h1,fun h=>absurd hk h,fun _ _ h=>by omega,fun _ _ _ h H' s'=>q3 l hk.1 hk.2 hc heq h H' (e3.trans s'),fun _ _ _ hni H4 k4 hw4=>?_⟩
    have e4:=e3.keeps k4 hw1
    have hA4:=hA.spots k4 hw4
    clear k4 hw4
    k_mem
    refine ⟨_,_,e4 _ _ hob,rfl,_,_,_,_,_,_,_,rfl,hW.same e4,l0,by omega,fun hg=>?_,fun hg=>q4 l hk.1 hk.2 hc heq hni hg _ e4⟩
    have h3:=q5 l hk.1 hk.2 hc heq hni hg
    k_mem
    refine ⟨_,_,e4 _ _ hob,rfl,by decide,fun p hp=>?_⟩
    have e5:=e4.lay (o:=HO.tup [V.str (Str.ofString "load"),V.int k,V.int c]) hp
    have f5:=(av.refl H4).lay (o:=HO.tup [V.str (Str.ofString "load"),V.int k,V.int c]) hp
    k_upd
    refine ⟨_,_,_,_,_,_,p,s1,1,ddV (.load k c),cC g (ak n0 rs) (.load k c),rfl,hW.same e5,SqT.of (by rw [ai];rfl),?_,?_,fun h H' s'=>h3.1 h H' (e5.trans s'),fun h H' k9 hWn=>?_⟩
    ·exact (br.at hA4).same f5
    ·rw [hks];first | rfl | simp only [cC,List.length_set]
    ·k_upd
     exact h3.2 h H' ((aA.of e5).trans k9) hWn
variable (qo:bu K Z.bF "load" "Works.load" jZ jH xf uQ)(xU:aI P w K mg base (CXf P w) 6 xf uQ jH (vn K Z))
def qT (K:PySem.W.Frag)(Z:Adr):Sp:=fun vs H Q E=>∃(w bk rl:Addr) (g:Cfg) (n0:aY) (rs:List Row) (c:Int),vs=[.ref w,.int c]/\WAt (clZ Z) K H w bk rl g n0 rs/\g.ls.length<=1000/\g.ks.length=(ak n0 rs).ws.length/\cM g.ds/\(ak n0 rs).gates.length=g.ds.length/\0<=c/\c < 2/\
 (¬10+c∈(ak n0 rs).ws->∀H',av H H'->E (.ref Z.gQ) none H')/\
 (10+c∈(ak n0 rs).ws->cj g.ds (ak n0 rs).place c=none->∀H',av H H'->E (.ref Z.iO) none H')/\
 (∀l,10+c∈(ak n0 rs).ws->cj g.ds (ak n0 rs).place c=some l->(ak n0 rs).gates.getD l.toNat false=false->∀H',av H H'->E (.ref Z.iR) none H')/\
 (∀l,10+c∈(ak n0 rs).ws->cj g.ds (ak n0 rs).place c=some l->(ak n0 rs).gates.getD l.toNat false=true->zt Z K H w bk rl g n0 rs (.unload c) Q E)
include bV de az aT bY c8 vK Br bf bP aZ bx dH gW in
theorem zI {f:Addr}{fd:FuncData}(F:Fun K "unload" "Works.unload" gM f fd)(T:Txt K mg Z):aI P w K mg base (CXf P w) 6 f fd gE (qT K Z):=by
 refine F.okF lB (fun vs H Q E h=>?_) (fun cdv A outer s H vs Q E hr h=>?_)
 ·obtain ⟨w,bk,rl,g,n0,rs,c,rfl,hW,hls,hks,hsh,hgl2,h0,h1,q1,q2,q3,q4⟩:=h
  rfl
 ·obtain ⟨w,bk,rl,g,n0,rs,c,rfl,hW,hls,hks,hsh,hgl2,h0,h1,q1,q2,q3,q4⟩:=h
  refine seg 6 (aj (aw (bj (pv 0) T.aD bf.M bP hr.dn bf.b .nil bT (ae (bq (ae aR (ae (pv 1) af))) (ae ah (ae (pv 2) af)))))) fun zt6 zh6=>?_
  k_all
  intro ze6
  refine seg 5 (ag (bB (bj (aH (pv 2) (by rfl)) T.bM vK.M Br hr.dn vK.b .nil bT (ae (pv 1) (ae (pv 3) af)))) zh6) fun zt5 zh5=>?_
  k_all
  intro ze5
  refine seg 4 (ag (bB (bj (pv 0) T.aD bY.M c8 hr.dn bY.b .nil bT (ae (pv 3) af))) zh5) fun zt4 zh4=>?_
  k_all
  intro ze4
  refine seg 3 (ag (bb (ax DZ (pv 3) gf (aJ _)) (aj (bE T.vF (by rfl) T.vD (ae aR af))) (aC)) zh4) fun zt3 zh3=>?_
  k_all
  intro ze3
  refine seg 2 (ag (aL (i:=3) lB.nd rfl orL (bj (pv 0) T.aD dH.M gW hr.dn dH.b .nil aO (ae (pv 1) af))) zh3) fun zt2 zh2=>?_
  k_all
  intro ze2
  refine seg 1 (ag (bb (ax DZ (bj (aH (pv 2) (by rfl)) T.bM bV.M de hr.dn bV.b .nil aO (ae (pv 1) af)) gf (aJ _)) (aj (bE T.yW (by rfl) T.yV (ae aR af))) (aC)) zh2) fun zt1 zh1=>?_
  k_all
  intro ze1
  refine ⟨_,ag (aL (i:=2) lB.nd rfl orL (ba (ba (aH (pv 0) (by rfl)) T.bg az.M aT hr.dn az.b .nil aO) T.aP aZ.M bx hr.dn aZ.b .nil aO)) zh1,?_⟩
  k_all
  obtain ⟨⟨dx,dl,gl,hob,hdl,hgl,n1,n2⟩,hB⟩:=id hW
  obtain ⟨⟨db,f0,hbo,hF⟩,as,hrl,hR⟩:=id hB
  k_mem
  refine ⟨_,_,_,hob,T.aD,T.bh,_,rfl,?_⟩
  k_mem
  refine ⟨_,_,hbo,rfl,_,_,_,_,_,rfl,hB,fun s0 ⟨A0,hA0⟩=>?_⟩
  k_mem
  refine ⟨_,_,hA0.ob,rfl,_,_,_,_,_,rfl,hA0.at,hrl,hls,fun s1 A H1 e1 hs1 ho1 hb1 hf1 hy1 hw1 hA=>?_⟩
  have hW1:=hW.same e1
  have hob1:=e1 _ _ hob
  have hbo1:=e1 _ _ hbo
  have hrl1:=e1 _ _ hrl
  have hdl1:=e1 _ _ hdl
  k_mem
  refine ⟨_,_,_,hA.ob,T.aP,T.bA,_,rfl,?_⟩
  k_mem
  obtain ⟨dy,hyb⟩:=hA.ya.ob
  k_upd
  refine ⟨_,_,hyb,rfl,_,_,_,_,_,_,_,rfl,hA.ya,h0,h1,fun H2 f2=>?_⟩
  have e2:=e1.trans f2
  replace hA:=hA.same f2
  k_mem
  by_cases hm:10+c∈(ak n0 rs).ws
  ·rw [inC,if_pos hm]
   k_upd
   rw [if_neg (show ¬(V.int _=V.non) from fun z=>V.noConfusion z)]
   k_mem
   refine ⟨_,_,e2 _ _ hob,rfl,_,_,_,_,_,_,_,rfl,hW.same e2,hsh,h0,h1,fun H3 f3=>?_⟩
   have e3:=e2.trans f3
   replace hA:=hA.same f3
   k_mem
   cases hc:cj g.ds (ak n0 rs).place c with
   | none=>
    rw [if_pos (show lvV none=V.non from rfl)]
    k_upd
    exact ⟨by decide,q2 hm hc _ e3⟩
   | some l=>
    obtain ⟨l0,l1,_⟩:=i6 hc
    k_upd
    rw [if_neg (show ¬(lvV (some l)=V.non) from fun z=>V.noConfusion z)]
    k_mem
    refine ⟨_,_,e3 _ _ hob,rfl,_,_,_,_,_,_,_,rfl,hW.same e3,l0,by omega,fun hg=>?_,fun hg=>q3 l hm hc hg _ e3⟩
    have h3:=q4 l hm hc hg
    k_mem
    refine ⟨_,_,_,hA.ob,T.aP,T.bA,_,rfl,?_⟩
    k_mem
    obtain ⟨dy,hyb⟩:=hA.ya.ob
    k_upd
    refine ⟨_,_,hyb,rfl,_,_,_,_,_,_,_,_,rfl,hA.ya,h0,h1,fun h=>absurd ⟨l0,l1⟩ h,fun _ _ h=>absurd hm h,fun _ _ _ H4 k4 hw4=>?_⟩
    have e4:=e3.keeps k4 hw1
    have hA4:br (clZ Z) K H4 rl g s1 A (cC g (ak n0 rs) (.unload c)):=by
     have:=hA.spots k4 hw4
     simp only [cC,hc,Option.getD_some]
     exact this
    clear k4 hw4
    k_mem
    refine ⟨_,_,e4 _ _ hob,rfl,by decide,fun p hp=>?_⟩
    have e5:=e4.lay (o:=HO.tup [V.str (Str.ofString "unload"),V.int c]) hp
    have f5:=(av.refl H4).lay (o:=HO.tup [V.str (Str.ofString "unload"),V.int c]) hp
    k_upd
    refine ⟨_,_,_,_,_,_,p,s1,1,ddV (.unload c),cC g (ak n0 rs) (.unload c),rfl,hW.same e5,SqT.of (by rw [ai];rfl),?_,?_,fun h H' s'=>h3.1 h H' (e5.trans s'),fun h H' k hWn=>?_⟩
    ·exact (br.at hA4).same f5
    ·rw [hks];first | rfl | simp only [cC,List.length_set]
    ·k_upd
     exact h3.2 h H' ((aA.of e5).trans k) hWn
  ·rw [inC,if_neg hm]
   k_upd
   rw [if_pos rfl]
   k_upd
   exact ⟨by decide,q1 hm _ e2⟩
variable (mX:bu K Z.bF "unload" "Works.unload" gM gE rT qI)(tw:aI P w K mg base (CXf P w) 6 rT qI gE (qT K Z))
def Mb (g:Cfg)(n:aY)(t:Int):List Dt:=[.flat (.int t),.tup ((pQ n.e).map Dt.flat),.lst ((n.gates.map V.bl).map Dt.flat),.lst (((dJ n.fs).map V.int).map Dt.flat),.tup ([V.int n.place,V.int (cv g.ds - n.place)].map Dt.flat),.lst ((n.ws.map V.int).map Dt.flat)]
def OI (ws:List Int):Dt:=.lst [.flat (inC ws 0),.flat (inC ws 1)]
def NM (H:Hp)(held:Addr)(ws:List Int)(a0 a1 a2 a3 a4 a5 a6 a7 a8 a9:V)(i:Nat)(σ:St)(H':Hp):Prop:=aA held H H'/\(∃x0 x1,H' held=some (.lst [x0,x1])/\HV ws i 0 x0/\HV ws i 1 x1)/\∃t,σ=[some a0,some a1,some a2,some a3,some a4,some a5,some a6,some a7,some a8,some a9,some (.ref held),t,none,none,none]
def DQ (K:PySem.W.Frag)(Z:Adr):Sp:=fun vs H Q E=>∃(H0:Hp) (wk bk rl p dl cl ll sl wl:Addr) (g:Cfg) (lds:List Ld) (n0:aY) (rs:List Row),vs=[.ref wk,.ref p,.ref sl,.ref wl]/\pU (clZ Z) K H0 H p dl cl ll wk bk rl sl wl g lds n0 rs/\rs.length<=300/\∀H',av H H'->Q (.bl true) H'
include jj nQ qa xx mS sS qc xy oj vb om vc fX lD fZ kF ku pG bG fq in
theorem Ka {f:Addr}{fd:FuncData}(F:Fun K "_law_view" "_law_view" j5 f fd)(T:Txt K mg Z):aI P w K mg base (CXf P w) 6 f fd rm (DQ K Z):=by
 refine F.okF dY (fun vs H Q E h=>?_) (fun cdv A outer s H vs Q E hr h=>?_)
 ·obtain ⟨H0,wk,bk,rl,p,dl,cl,ll,sl,wl,g,lds,n0,rs,rfl,hX,h300,q⟩:=h
  rfl
 ·obtain ⟨H0,wk,bk,rl,p,dl,cl,ll,sl,wl,g,lds,n0,rs,rfl,hX,h300,q⟩:=h
  obtain ⟨t2,h2,k2⟩:∃t,PSs (cxF P w K mg base ["_law_works","_law_setup_here","_law_states","_law_rows","_law_place","_law_gates","_law_lying","_law_heard_here","_law_dead","_law_clock","_law_held","_law_k","_law_waits","_law_due","_law_found"] "_law_view" (ao j5) f cdv A outer s H E) ((cJ j5).drop 5) t/\∀(gt lt ht dt held waits due:Addr) (kk:Option V) (dv:List V) (H1:Hp),av H H1->SqT K H1 gt ((ak n0 rs).gates.map V.bl)->H1 due=some (.lst dv)->dv.length=6->ox K H1 3 dv (Mb g (ak n0 rs) (bw rs))->Rep K H1 3 (.ref held) (OI (ak n0 rs).ws)->Rep K H1 3 (.ref waits) (Hr (ak n0 rs).ws g.ds.length)->t ({nx:=fun _ H2=>Q .non H2,rt:=Q}:mY) [some (.ref wk),some (.ref p),some (.ref sl),some (.ref wl),some (.int (ak n0 rs).place),some (.ref gt),some (.ref lt),some (.ref ht),some (.ref dt),some (.int (bw rs)),some (.ref held),kk,some (.ref waits),some (.ref due),none] H1:=by
   refine seg 3 (aj (aw (aF fq hr.dn (by rfl) bG.m bG.F.kp bG.b .nil aO (ae (aS Ed (pv 14) (bC (ae (ba (pv 0) T.aD qa.M xx hr.dn qa.b .nil aO) af))) (ae (aS Ed (pv 13) (bC (ae (pv 10) (ae (pv 12) (ae (pv 3) af))))) af))))) fun zt3 zh3=>?_
   k_all
   intro ze3
   refine seg 2 (ag (bB (vU PySem.F.plainAttrs_list PySem.F.slot_list_append PySem.F.type_list_append jb (pv 14) (ae (qs ["_law_at_here","_law_works"] [none,some 0] (cw (by rfl) T.c7 (ae (aM aG (by rfl) T.cy bD (ae (pv 5) af)) af)) (fun _ _ _ _=>(aB (i:=0) (show (["_law_at_here","_law_works"]:List Str).Nodup by decide +kernel) rfl orL)) (fun _ _ _ _=>kv) (fun _ _ _ _=>(bj (pv 1) T.aD ku.M pG.calm0 hr.dn ku.b .nil aO (ae (pv 0) af)))) af))) zh3) fun zt2 zh2=>?_
   k_all
   intro ze2
   refine seg 1 (ag (bB (vU PySem.F.plainAttrs_list PySem.F.slot_list_append PySem.F.type_list_append jb (pv 14) (ae (bC (ae (bj (pv 0) T.aD fX.M lD hr.dn fX.b .nil aO (ae ah af)) (ae (bj (pv 0) T.aD fX.M lD hr.dn fX.b .nil aO (ae ah af)) af))) af))) zh2) fun zt1 zh1=>?_
   k_all
   intro ze1
   refine ⟨_,ag (aL (i:=14) dY.nd rfl orL (bC (ae (ba (pv 0) T.aD jj.M nQ hr.dn jj.b .nil aO) (ae (ba (pv 0) T.aD mS.M sS hr.dn mS.b .nil aO) (ae (ba (pv 0) T.aD oj.M vb hr.dn oj.b .nil aO) (ae (ba (pv 0) T.aD qc.M xy hr.dn qc.b .nil aO) (ae (ba (pv 0) T.aD fZ.M kF hr.dn fZ.b .nil aO) (ae (ba (pv 0) T.aD om.M vc hr.dn om.b .nil aO) af)))))))) zh1,?_⟩
   intro gt lt ht dt held waits due kk dv H1 s1 hgt hdue hdv hrep hheld hwaits
   have hW:=(hX.same s1).da.wk
   have hg:=hX.cg
   have hn:=hX.snap
   have gl:=hn.gl
   have wl':=hn.wl
   have k30:=hg.k30
   have l6:=hg.sh.l6
   have l2:=hg.sh.l2
   have fl:=hn.fl
   obtain ⟨⟨dx,dl',gl',hob,_⟩,_⟩:=id hW
   k_all
   k_mem
   refine ⟨_,_,hob,rfl,_,_,_,_,_,_,rfl,hW,?_⟩
   k_mem
   refine ⟨_,_,hob,rfl,_,_,_,_,_,_,rfl,hW,fun st hst=>?_⟩
   k_mem
   refine ⟨_,_,hob,rfl,_,_,_,_,_,_,rfl,hW,fun p1 hp1=>?_⟩
   (generalize hE:upd H1 p1 _=H2 at *;have s2:=gg hE hp1;have e1:=cW hE;clear hE)
   k_mem
   refine ⟨_,_,s2 _ _ hob,rfl,_,_,_,_,_,_,rfl,hW.same s2,by omega,fun p2 H3 hp2 s3 e2=>?_⟩
   have s13:=s2.trans s3
   k_mem
   refine ⟨_,_,s13 _ _ hob,rfl,_,_,_,_,_,_,rfl,hW.same s13,by omega,fun p3 hp3=>?_⟩
   (generalize hE:upd H3 p3 _=H4 at *;have s4:=gg hE hp3;have e3:=cW hE;clear hE)
   have s14:=s13.trans s4
   k_mem
   refine ⟨_,_,s14 _ _ hob,rfl,_,_,_,_,_,_,rfl,hW.same s14,fun p4 hp4=>?_⟩
   (generalize hE:upd H4 p4 _=H5 at *;have s5:=gg hE hp4;have e4:=cW hE;clear hE)
   have s15:=s14.trans s5
   have hf6:ox K H5 3 [.int (bw rs),.ref st,.ref p1,.ref p2,.ref p3,.ref p4] (Mb g (ak n0 rs) (bw rs)):=
    .cons (.flat rfl) (.cons (gO (s15.tup hst) (by rw [Ff];decide) (yk _)) (.cons (tL (SqL.of (((s3.trans s4).trans s5) _ _ e1)) (by omega)) (.cons (js (SqL.of ((s4.trans s5) _ _ e2)) (by have:=yq (ak n0 rs).fs;omega)) (.cons (gO (SqT.of (s5 _ _ e3)) (by show 2<=100000;decide) (FF rfl rfl)) (.cons (js (SqL.of e4) (by omega)) .nil)))))
   k_mem
   refine ⟨by decide,fun fo hfo=>?_⟩
   (generalize hE:upd H5 fo _=H6 at *;have s6:=gg hE hfo;have e6:=cW hE;clear hE)
   have s16:=s15.trans s6
   k_upd
   refine ⟨.inl ⟨rfl,_,SqL.of e6⟩,?_⟩
   k_upd
   refine ⟨_,_,s16 _ _ hob,rfl,_,_,_,_,_,_,_,rfl,hW.same s16,by omega,by omega,fun H7 s7=>?_⟩
   have s17:=s16.trans s7
   k_mem
   refine ⟨_,_,s17 _ _ hob,rfl,_,_,_,_,_,_,_,rfl,hW.same s17,by omega,by omega,fun H8 s8=>?_⟩
   have s18:=s17.trans s8
   k_mem
   refine ⟨by decide,fun ic hic=>?_⟩
   (generalize hE:upd H8 ic _=H9 at *;have s9:=gg hE hic;have e9:=cW hE;clear hE)
   have s19:=s18.trans s9
   k_upd
   refine ⟨_,((s7.trans s8).trans s9) _ _ e6,by show 6 < sizeLine;decide,?_⟩
   have k10:L2.aA fo H9 (upd H9 fo (HO.lst ([V.int (bw rs),V.ref st,V.ref p1,V.ref p2,V.ref p3,V.ref p4]++[V.ref ic]))):=(aA.of (av.refl H9)).put
   have e10:upd H9 fo (HO.lst ([V.int (bw rs),V.ref st,V.ref p1,V.ref p2,V.ref p3,V.ref p4]++[V.ref ic])) fo=some (HO.lst [V.int (bw rs),V.ref st,V.ref p1,V.ref p2,V.ref p3,V.ref p4,V.ref ic]):=ai
   have ffo:H5 fo=none:=hfo
   generalize upd H9 fo (HO.lst ([V.int (bw rs),V.ref st,V.ref p1,V.ref p2,V.ref p3,V.ref p4]++[V.ref ic]))=H10 at *
   have nic:ic≠fo:=fun z=>by
    have:=(s7.trans s8) _ _ e6
    rw [←z,hic] at this
    cases this
   have s5A:av H5 H10:=(((s6.trans s7).trans s8).trans s9).keeps k10 ffo
   have s1A:av H1 H10:=s15.trans s5A
   have eicA:H10 ic=some (HO.lst [inC (ak n0 rs).ws 0,inC (ak n0 rs).ws 1]):=k10 _ _ nic e9
   k_mem
   refine ⟨.inl ⟨rfl,_,SqL.of e10⟩,?_⟩
   k_upd
   refine ⟨_,.inr (s1A.tup hgt),by omega,by rw [List.length_map];omega,?_⟩
   rw [List.length_map,Int.toNat_natCast,gl]
   refine v8 (fun i acc H'=>av H10 H'/\∃as:List Addr,acc=as.map V.ref/\gq H' (ak n0 rs).ws as i/\∀a∈as,H10 a=none) ⟨av.refl _,[],rfl,gq.nil,fun a h=>by cases h⟩ rfl ?_ ?_
   ·rintro i acc H' hi ⟨sx,as,rfl,hws,hfr⟩
    k_upd
    refine ⟨by rw [List.length_map,hws.1,sizeLine_eq];omega,fun N hN=>?_⟩
    have s1x:=s1A.trans sx
    k_mem
    refine ⟨_,_,s1x _ _ hob,rfl,_,_,_,_,_,_,_,rfl,hW.same s1x,by omega,fun _ pp H'' hpp sy epp=>?_,fun z=>absurd ⟨by omega,by omega⟩ z⟩
    refine hN _ _ ⟨sx.trans sy,as++[pp],by rw [List.map_append];rfl,(hws.same sy).push (by rw [Int.zero_add] at epp;exact epp),fun a ha=>?_⟩
    rcases List.mem_append.mp ha with ha | ha
    ·exact hfr a ha
    ·rw [List.mem_singleton] at ha
     rw [ha]
     exact sx.free hpp
   rintro acc HA ⟨sx,as,rfl,hws,hfr⟩ al hal
   (generalize hE:upd HA al _=HB at *;have sy:=gg hE hal;have eal:=cW hE;clear hE)
   have sAB:=sx.trans sy
   k_mem
   refine ⟨_,sAB _ _ e10,by show 7 < sizeLine;decide,?_⟩
   have k11:L2.aA fo HB (upd HB fo (HO.lst ([V.int (bw rs),V.ref st,V.ref p1,V.ref p2,V.ref p3,V.ref p4,V.ref ic]++[V.ref al]))):=(aA.of (av.refl HB)).put
   have e11:upd HB fo (HO.lst ([V.int (bw rs),V.ref st,V.ref p1,V.ref p2,V.ref p3,V.ref p4,V.ref ic]++[V.ref al])) fo=some (HO.lst [V.int (bw rs),V.ref st,V.ref p1,V.ref p2,V.ref p3,V.ref p4,V.ref ic,V.ref al]):=ai
   generalize upd HB fo (HO.lst ([V.int (bw rs),V.ref st,V.ref p1,V.ref p2,V.ref p3,V.ref p4,V.ref ic]++[V.ref al]))=HC at *
   have s5C:av H5 HC:=(s5A.trans sAB).keeps k11 ffo
   have s1C:av H1 HC:=s15.trans s5C
   have eicC:=k11 _ _ nic (sAB _ _ eicA)
   have ealC:=k11 _ _ (fun z=>by have:=sx _ _ e10;rw [←z,hal] at this;cases this) eal
   have hwsC:gq HC (ak n0 rs).ws as g.ds.length:=⟨hws.1,fun j a e=>k11 _ _ (fun z=>by
    have:=hfr a (List.mem_of_getElem? e)
    rw [z,e10] at this
    cases this) (sy _ _ (hws.2 j a e))⟩
   have hWC:=hW.same s1C
   have hX1:=hX.same s1
   obtain ⟨bs,hwl,hB⟩:=hX1.da.ro
   k_mem
   refine ⟨_,_,s1C _ _ hob,rfl,_,_,_,_,_,_,rfl,hWC,by omega,fun bp bas HD hbp sD ebp hbt=>?_⟩
   k_mem
   refine ⟨by decide,fun l1 hl1=>?_⟩
   (generalize hE:upd HD l1 _=HE at *;have sE:=gg hE hl1;have eE:=cW hE;clear hE)
   have sCE:=sD.trans sE
   have s1E:=s1C.trans sCE
   k_upd
   refine ⟨_,sCE _ _ e11,_,eE,by show 9<=sizeLine;decide,fun fo2 hfo2=>?_⟩
   have sF:=(av.refl HE).lay (o:=HO.lst ([V.int (bw rs),V.ref st,V.ref p1,V.ref p2,V.ref p3,V.ref p4,V.ref ic,V.ref al]++[V.ref bp])) hfo2
   have eF:upd HE fo2 (HO.lst ([V.int (bw rs),V.ref st,V.ref p1,V.ref p2,V.ref p3,V.ref p4,V.ref ic,V.ref al]++[V.ref bp])) fo2=some (HO.lst [V.int (bw rs),V.ref st,V.ref p1,V.ref p2,V.ref p3,V.ref p4,V.ref ic,V.ref al,V.ref bp]):=ai
   generalize upd HE fo2 (HO.lst ([V.int (bw rs),V.ref st,V.ref p1,V.ref p2,V.ref p3,V.ref p4,V.ref ic,V.ref al]++[V.ref bp]))=HF at *
   have s1F:=s1E.trans sF
   k_upd
   refine ⟨by decide,fun l2 hl2=>?_⟩
   (generalize hE:upd HF l2 _=HG at *;have sG:=gg hE hl2;have eG:=cW hE;clear hE)
   have s1G:=s1F.trans sG
   k_upd
   refine ⟨_,s1G _ _ hdue,_,eG,by rw [hdv];show 9<=sizeLine;decide,fun du2 hdu2=>?_⟩
   (generalize hE:upd HG du2 _=HH at *;have sH:=gg hE hdu2;have eH:=cW hE;clear hE)
   have s1H:=s1G.trans sH
   have sEH:=(sF.trans sG).trans sH
   have hdeeds:=hX.da.run.deeds
   k_upd
   refine ⟨_,_,.lst (Mb g (ak n0 rs) (bw rs)++[OI (ak n0 rs).ws,Hr (ak n0 rs).ws g.ds.length,Oa rs]),rfl,?_,?_,fun HI sI=>q HI ((s1.trans s1H).trans sI)⟩
   ·refine ox.rep (xs:=[V.int (bw rs),V.ref st,V.ref p1,V.ref p2,V.ref p3,V.ref p4]++[V.ref ic,V.ref al,V.ref bp]) ((hf6.same (((s5C.trans sCE).trans sEH))).append (.cons ?_ (.cons ?_ (.cons ?_ .nil)))) (SqL.of ((sG.trans sH) _ _ eF)) (by show 9<=100000;decide)
    ·exact Fh (SqL.of ((sCE.trans sEH) _ _ eicC)) (.flat (wo _ _)) (.flat (wo _ _))
    ·exact CQ (SqL.of ((sCE.trans sEH) _ _ ealC)) (hwsC.same (sCE.trans sEH)) (by omega) (by omega)
    ·exact Fu (SqL.of ((sE.trans sEH) _ _ ebp)) (hbt.same (sE.trans sEH)) hdeeds (by omega)
   ·refine ox.rep ((hrep.same s1H).append (.cons (hheld.same s1H) (.cons (hwaits.same s1H) (.cons ?_ .nil)))) (SqL.of eH) (by rw [List.length_append,hdv];show 9<=100000;decide)
    exact Fu (SqL.of (s1H _ _ hwl)) (hB.same s1H) hdeeds (by omega)
  obtain ⟨t1,h1,k1⟩:∃t,PSs (cxF P w K mg base ["_law_works","_law_setup_here","_law_states","_law_rows","_law_place","_law_gates","_law_lying","_law_heard_here","_law_dead","_law_clock","_law_held","_law_k","_law_waits","_law_due","_law_found"] "_law_view" (ao j5) f cdv A outer s H E) ((cJ j5).drop 3) t/\∀(gt lt ht dt held:Addr) (kk:Option V) (H1:Hp),av H H1->SqT K H1 gt ((ak n0 rs).gates.map V.bl)->H1 lt=some (.tup ((ak n0 rs).ws.map V.int))->SqT K H1 ht (pQ (ak n0 rs).e)->SqT K H1 dt ((dJ (ak n0 rs).fs).map V.int)->H1 held=some (.lst [inC (ak n0 rs).ws 0,inC (ak n0 rs).ws 1])->t ({nx:=fun _ H2=>Q .non H2,rt:=Q}:mY) [some (.ref wk),some (.ref p),some (.ref sl),some (.ref wl),some (.int (ak n0 rs).place),some (.ref gt),some (.ref lt),some (.ref ht),some (.ref dt),some (.int (bw rs)),some (.ref held),kk,none,none,none] H1:=by
   refine seg 1 (ag (aL (i:=13) dY.nd rfl orL (bC (ae (pv 9) (ae (pv 7) (ae (bK bQ (by rfl) T.fD dB (ae (pv 5) af)) (ae (bK bQ (by rfl) T.fD dB (ae (pv 8) af)) (ae (bq (ae (pv 4) (ae (aS eS (au aK (au aK (pv 1) ah) (jn fA ah)) (pv 4)) af))) (ae (bK bQ (by rfl) T.fD dB (ae (pv 6) af)) af)))))))) h2) fun zt1 zh1=>?_
   k_all
   intro ze1
   refine ⟨_,ag (PM ["_law_at_here","_law_lying"] "_law_at_here" [none,some 6] (iy:=12) dY.nd rfl rfl (cw (by rfl) T.c7 (ae (aM aG (by rfl) T.cy bD (ae (pv 5) af)) af)) (fun _ _ _ _=>(aB (i:=0) (show (["_law_at_here","_law_lying"]:List Str).Nodup by decide +kernel) rfl (Or.inr rfl))) (fun _ _ _ _=>kv) (fun _ _ _ _=>(qs ["_law_k","_law_lying","_law_at_here"] [none,some 1,some 0] (cw (by rfl) T.c7 (ae (aM (show kG _ (.builtin "len") (fun xs H Q=>∃p ys,xs=[.ref p]/\(SqL K H p ys\/SqT K H p ys)/\Q (.int ys.length) H) from aG) (by rfl) T.cy bD (ae (pv 1) af)) af)) (fun _ _ _ _=>(aB (i:=0) (show (["_law_k","_law_lying","_law_at_here"]:List Str).Nodup by decide +kernel) rfl orL)) (fun _ _ _ _=>(tF (ax bI (au (show IxR _ (E6 K) from aE) (pv 1) (pv 0)) (pv 2) (aJ _)))) (fun _ _ _ _=>(pv 0))))) zh1,?_⟩
   intro gt lt ht dt held kk H1 s1 h2 h3 h4 h5 hheld
   have hg:=hX.cg
   have hn:=hX.snap
   have gl:=hn.gl
   have wl':=hn.wl
   have k30:=hg.k30
   have l6:=hg.sh.l6
   have l2:=hg.sh.l2
   have fl:=hn.fl
   have hP:=hX.setup.same s1
   k_all
   k_mem
   refine ⟨_,.inr h2,by omega,by rw [List.length_map];omega,?_⟩
   rw [List.length_map,Int.toNat_natCast,gl]
   refine v8 (fun i acc H'=>av H1 H'/\∃as:List Addr,acc=as.map V.ref/\gq H' (ak n0 rs).ws as i) ⟨av.refl _,[],rfl,gq.nil⟩ rfl ?_ ?_
   ·rintro i acc H' hi ⟨sx,as,rfl,hws⟩
    k_upd
    refine ⟨by rw [List.length_map,hws.1,sizeLine_eq];omega,fun N hN=>?_⟩
    k_mem
    refine ⟨_,.inr (SqT.of (sx _ _ h3)),by omega,by rw [List.length_map];omega,?_⟩
    rw [List.length_map,Int.toNat_natCast]
    refine iW (fun j=>decide ((ak n0 rs).ws.getD j 0=(i:Int))) (fun (j:Nat)=>.int (j:Int)) (by rw [sizeLine_eq];omega) rfl (fun j hj N hN=>?_) (fun j hj _ N hN=>?_) fun lv hlv=>?_
    ·k_mem
     k_upd
     refine ⟨_,SqT.of (sx _ _ h3),_,by rw [Int.zero_add];exact kH hj,?_⟩
     k_mem
     rw [Int.zero_add]
     by_cases e:(ak n0 rs).ws.getD j 0=(i:Int)
     ·rw [if_pos e];rw [decide_eq_true e] at hN;exact hN
     ·rw [if_neg e];rw [decide_eq_false e] at hN;exact hN
    ·k_mem
     rw [Int.zero_add]
     exact hN
    ·refine hN _ _ ⟨sx.lay hlv,as++[lv],by rw [List.map_append];rfl,(hws.same ((av.refl H').lay hlv)).push ?_⟩
     rw [ai]
     unfold l7 BH
     rw [List.map_map];rfl
   rintro acc H2 ⟨sx,as,rfl,hws⟩ wt hwt
   have s3:=sx.lay (o:=HO.lst (as.map V.ref)) hwt
   (generalize hE:upd H2 wt _=H3 at *;have f3:=gg hE hwt;have ewt:=cW hE;clear hE)
   have s13:=s1.trans s3
   k_mem
   refine ⟨_,.inr (s3.tup h2),fun p1 hp1=>?_⟩
   (generalize hE:upd H3 p1 _=H4 at *;have f4:=gg hE hp1;have e4:=cW hE;clear hE)
   k_upd
   refine ⟨_,.inr ((s3.trans f4).tup h5),fun p2 hp2=>?_⟩
   (generalize hE:upd H4 p2 _=H5 at *;have f5:=gg hE hp2;have e5:=cW hE;clear hE)
   have s15:=(s3.trans f4).trans f5
   k_upd
   refine ⟨_,SqL.of (s15 _ _ hP.ob),_,rfl,?_⟩
   k_mem
   refine ⟨_,SqL.of (s15 _ _ hP.od),_,Ej (by omega),?_⟩
   k_mem
   refine ⟨by decide,fun p3 hp3=>?_⟩
   (generalize hE:upd H5 p3 _=H6 at *;have f6:=gg hE hp3;have e6:=cW hE;clear hE)
   have s16:=s15.trans f6
   k_upd
   refine ⟨_,.inr (SqT.of (s16 _ _ h3)),fun p4 hp4=>?_⟩
   (generalize hE:upd H6 p4 _=H7 at *;have f7:=gg hE hp4;have e7:=cW hE;clear hE)
   have s17:=s16.trans f7
   k_upd
   refine ⟨by decide,fun du hdu=>?_⟩
   (generalize hE:upd H7 du _=H8 at *;have f8:=gg hE hdu;have e8:=cW hE;clear hE)
   have s18:=s17.trans f8
   refine k2 gt lt ht dt held wt du kk _ H8 (s1.trans s18) (s18.tup h2) e8 rfl ?_ ?_ ?_
   ·exact .cons (.flat rfl) (.cons (gO (s18.tup h4) (by rw [Ff];decide) (yk _)) (.cons (tL (SqL.of ((((f5.trans f6).trans f7).trans f8) _ _ e4)) (by omega)) (.cons (js (SqL.of (((f6.trans f7).trans f8) _ _ e5)) (by have:=yq (ak n0 rs).fs;omega)) (.cons (gO (SqT.of ((f7.trans f8) _ _ e6)) (by show 2<=100000;decide) (FF rfl rfl)) (.cons (js (SqL.of (f8 _ _ e7)) (by omega)) .nil)))))
   ·exact Fh (SqL.of (s18 _ _ hheld)) (.flat (wo _ _)) (.flat (wo _ _))
   ·have f38:=(((f4.trans f5).trans f6).trans f7).trans f8
    exact CQ (SqL.of (f38 _ _ ewt)) ((hws.same f3).same f38) (by omega) (by omega)
  refine seg 2 (ag (dA yh rfl (cw (by rfl) T.c7 (ae (aM aG (by rfl) T.cy bD (ae (pv 6) af)) af)) (aB (i:=11) dY.nd rfl orL) (aj (bb (ax Cw (au aE (pv 6) (pv 11)) ah (aJ _)) (aj (kj (pv 11) (xZ (pv 10) (aS eS (au aE (pv 6) (pv 11)) ah) oq))) (aC)))) h1) fun zt2 zh2=>?_
  k_all
  intro ze2
  refine seg 1 (ag (aL (i:=10) dY.nd rfl orL (bC (ae gf (ae gf af)))) zh2) fun zt1 zh1=>?_
  k_all
  intro ze1
  refine ⟨_,ag (kj (au aK (pv 2) (jn fA ah)) (jm rfl (aQ (aB (i:=4) dY.nd rfl orL) (aQ (aB (i:=5) dY.nd rfl orL) (aQ (aB (i:=6) dY.nd rfl (Or.inr rfl)) (aQ (aB (i:=7) dY.nd rfl orL) (aQ (aB (i:=8) dY.nd rfl orL) (aQ (aB (i:=9) dY.nd rfl orL) dz)))))))) zh1,?_⟩
  k_all
  obtain ⟨hW,⟨as,hsl,hA⟩,⟨bs,hwl,hB⟩,hNs,hNw,hne,hrun⟩:=id hX.da
  have hg:=hX.cg
  have hn:=hX.snap
  have wl':=hn.wl
  have k30:=hg.k30
  have l6:=hg.sh.l6
  obtain ⟨as1,a,rfl,hSt⟩:=Et hA
  obtain ⟨gt,lt,ht,dt,h1,h2,h3,h4,h5⟩:=hSt.un
  k_mem
  refine ⟨_,SqL.of hsl,_,nA,?_⟩
  k_mem
  refine ⟨_,h1,rfl,?_⟩
  k_mem
  refine ⟨by decide,fun held hheld=>?_⟩
  (generalize hE:upd H held _=H1 at *;have f1:=gg hE hheld;have e1:=cW hE;clear hE)
  k_upd
  refine ⟨_,.inr (SqT.of (f1 _ _ h3)),by omega,by rw [List.length_map];omega,?_⟩
  rw [List.length_map,Int.toNat_natCast]
  k_upd
  refine cN (NM H1 held (ak n0 rs).ws (.ref wk) (.ref p) (.ref sl) (.ref wl) (.int (ak n0 rs).place) (.ref gt) (.ref lt) (.ref ht) (.ref dt) (.int (bw rs))) ⟨aA.of (av.refl _),⟨_,_,e1,HV.nil,HV.nil⟩,_,rfl⟩ ?_ ?_
  ·rintro i σ H2 hi ⟨k2,⟨x0,x1,ex,v0,v1⟩,t,rfl⟩
   have hlt:=f1.keeps k2 hheld _ _ h3
   have hwr:=hn.wr _ (df hi)
   k_mem
   refine ⟨_,SqT.of hlt,_,by rw [Int.zero_add];exact kH hi,?_⟩
   k_mem
   split
   ·rename_i h10
    k_upd
    refine ⟨_,SqT.of hlt,_,by rw [Int.zero_add];exact kH hi,?_⟩
    k_mem
    rcases (by omega:(ak n0 rs).ws.getD i 0=10\/(ak n0 rs).ws.getD i 0=11) with e | e
    ·rw [e]
     k_upd
     refine ⟨_,ex,0,rfl,?_⟩
     rw [Int.zero_add]
     k_upd
     exact ⟨k2.put,⟨_,_,ai,HV.yes (by rw [e];rfl),v1.no (by rw [e];decide)⟩,_,rfl⟩
    ·rw [e]
     k_upd
     refine ⟨_,ex,1,rfl,?_⟩
     rw [Int.zero_add]
     k_upd
     exact ⟨k2.put,⟨_,_,ai,v0.no (by rw [e];decide),HV.yes (by rw [e];rfl)⟩,_,rfl⟩
   ·rename_i h10
    k_upd
    exact ⟨k2,⟨_,_,ex,v0.no (by omega),v1.no (by omega)⟩,_,rfl⟩
  ·rintro σ H2 ⟨k2,⟨x0,x1,ex,v0,v1⟩,t,rfl⟩
   have s2:=f1.keeps k2 hheld
   rw [v0.all hn (by omega),v1.all hn (by omega)] at ex
   exact k1 gt lt ht dt held t H2 s2 (s2.tup h2) (s2 _ _ h3) (s2.tup h4) (s2.tup h5) ex
variable (pI:Def K mg "_law_view" j5 rm Gj Dz)(xV:aI P w K mg base (CXf P w) 6 Gj Dz rm (DQ K Z))
def RO (Z:Adr):Rw->Addr
 | .lv=>Z.aN
 | .db=>Z.j7
 | .nc=>Z.mE
 | .nr=>Z.eL
 | .ch=>Z.fV
 | .na=>Z.iP
 | .ul=>Z.dG
 | .nt=>Z.iO
 | .ct=>Z.gP
 | .gs=>Z.iR
 | .ce=>Z.gQ
 | .go=>Z.lq
def DR (K:PySem.W.Frag)(Z:Adr):Sp:=fun vs H Q E=>∃(w bk rl dd:Addr) (g:Cfg) (n0:aY) (rs:List Row),vs=[.ref w,.ref dd]/\WAt (clZ Z) K H w bk rl g n0 rs/\fu g/\dD g (ak n0 rs)/\rs.length < 300/\
 ((∃d,SqT K H dd (ddV d)/\Eo d/\(∀r,g0 g (ak n0 rs) d=some r->∀H',av H H'->E (.ref (RO Z r)) none H')/\(g0 g (ak n0 rs) d=none->∀v H',aA rl H H'->WAt (clZ Z) K H' w bk rl g n0 (rs++[ny g n0 rs d])->BM K H' (ak n0 rs) (bw rs+fC g (ak n0 rs) d) d v->Q v H'))\/
  (SqT K H dd [.str "take back"]/\∃rs' r,rs=rs'++[r]/\∀p H',aA rl H H'->WAt (clZ Z) K H' w bk rl g n0 rs'->SqT K H' p r.deed->Q (.ref p) H'))
include kb nP qk xO mT tu ql xP qm xQ ke nX kg nY qo xU mX tw in
theorem Kb {f:Addr}{fd:FuncData}(F:Fun K "_law_call" "_law_call" rD f fd)(T:Txt K mg Z):aI P w K mg base (CXf P w) 7 f fd rk (DR K Z):=by
 refine F.okF JT (fun vs H Q E h=>?_) (fun cdv A outer s H vs Q E hr h=>?_)
 ·obtain ⟨w,bk,rl,dd,g,n0,rs,rfl,hW,hg,hn,h300,hc⟩:=h
  rfl
 ·obtain ⟨w,bk,rl,dd,g,n0,rs,rfl,hW,hg,hn,h300,hc⟩:=h
  refine seg 8 (aj (aw (ba (pv 0) T.aD kb.M nP hr.dn kb.b .nil bT))) fun zt8 zh8=>?_
  k_all
  intro ze8
  refine seg 7 (ag (bb (ax bI (au aE (pv 1) ah) aR (aJ _)) (aj (aw (bj (pv 0) T.aD ql.M xP hr.dn ql.b .nil bT (ae (au aE (pv 1) ah) af)))) (aC)) zh8) fun zt7 zh7=>?_
  k_all
  intro ze7
  refine seg 6 (ag (bb (ax bI (au aE (pv 1) ah) aR (aJ _)) (aj (aw (bj (pv 0) T.aD qm.M xQ hr.dn qm.b .nil bT (ae (au aE (pv 1) ah) (ae (au aE (pv 1) ah) (ae (au aE (pv 1) ah) af)))))) (aC)) zh7) fun zt6 zh6=>?_
  k_all
  intro ze6
  refine seg 5 (ag (bb (ax bI (au aE (pv 1) ah) aR (aJ _)) (aj (aw (bj (pv 0) T.aD mX.M tw hr.dn mX.b .nil bT (ae (au aE (pv 1) ah) af)))) (aC)) zh6) fun zt5 zh5=>?_
  k_all
  intro ze5
  refine seg 4 (ag (bb (ax bI (au aE (pv 1) ah) aR (aJ _)) (aj (aw (bj (pv 0) T.aD qo.M xU hr.dn qo.b .nil bT (ae (au aE (pv 1) ah) (ae (au aE (pv 1) ah) af))))) (aC)) zh5) fun zt4 zh4=>?_
  k_all
  intro ze4
  refine seg 3 (ag (bb (ax bI (au aE (pv 1) ah) aR (aJ _)) (aj (aw (bj (pv 0) T.aD kg.M nY hr.dn kg.b .nil bT (ae (au aE (pv 1) ah) af)))) (aC)) zh4) fun zt3 zh3=>?_
  k_all
  intro ze3
  refine seg 2 (ag (bb (ax bI (au aE (pv 1) ah) aR (aJ _)) (aj (aw (bj (pv 0) T.aD ke.M nX hr.dn ke.b .nil bT (ae (au aE (pv 1) ah) af)))) (aC)) zh3) fun zt2 zh2=>?_
  k_all
  intro ze2
  refine seg 1 (ag (bb (ax bI (au aE (pv 1) ah) aR (aJ _)) (aj (aw (bj (pv 0) T.aD mT.M tu hr.dn mT.b .nil bT (ae (au aE (pv 1) ah) af)))) (aC)) zh2) fun zt1 zh1=>?_
  k_all
  intro ze1
  refine ⟨_,ag (bb (ax bI (au aE (pv 1) ah) aR (aJ _)) (aj (aw (bj (pv 0) T.aD qk.M xO hr.dn qk.b .nil bT (ae (au aE (pv 1) ah) (ae (au aE (pv 1) ah) af))))) (aC)) zh1,?_⟩
  k_all
  obtain ⟨⟨dx,dl,gl,hob,hdl,hgl,n1,n2⟩,hB⟩:=id hW
  have l2:=hg.sh.l2
  have l6:=hg.sh.l6
  have lc:=hg.lc
  have wl:=hn.wl
  have gk:=hg.gk
  have full:¬300<=rs.length:=by omega
  k_mem
  rcases hc with ⟨d,hD,ok,qe,q⟩ | ⟨hD,rs2,r,rfl,q⟩
  rotate_left
  ·k_upd
   refine ⟨_,hD,_,rfl,?_⟩
   k_mem
   rw [if_neg (by decide)]
   k_upd
   refine ⟨_,hD,_,rfl,?_⟩
   k_mem
   rw [if_neg (by decide)]
   k_upd
   refine ⟨_,hD,_,rfl,?_⟩
   k_mem
   rw [if_neg (by decide)]
   k_upd
   refine ⟨_,hD,_,rfl,?_⟩
   k_mem
   rw [if_neg (by decide)]
   k_upd
   refine ⟨_,hD,_,rfl,?_⟩
   k_mem
   rw [if_neg (by decide)]
   k_upd
   refine ⟨_,hD,_,rfl,?_⟩
   k_mem
   rw [if_neg (by decide)]
   k_upd
   refine ⟨_,hD,_,rfl,?_⟩
   k_mem
   rw [if_neg (by decide)]
   k_upd
   refine ⟨_,hD,_,rfl,?_⟩
   k_mem
   rw [if_neg (by decide)]
   k_upd
   exact ⟨_,_,hob,rfl,_,_,_,_,_,_,rfl,hW,fun z=>by simp at z,fun rs3 r3 e p H2 k hW2 hp=>by obtain ⟨rfl,rfl⟩:=Ft e;exact q p H2 k hW2 hp⟩
  ·cases d with
   | ring l s=>
    refine ⟨_,hD,_,rfl,?_⟩
    k_mem
    rw [if_pos rfl]
    k_upd
    refine ⟨_,_,hob,rfl,_,hD,_,rfl,_,hD,_,rfl,?_⟩
    k_mem
    refine ⟨_,_,_,_,_,_,_,_,rfl,hW,by omega,wl.symm,fun h H2 s2=>qe .lv ?_ H2 s2,fun h h' h3 H2 s2=>qe .db ?_ H2 s2,fun h h' h3 h4 H2 s2=>qe .nc ?_ H2 s2,fun h h' h3 h4=>⟨fun z=>absurd z full,fun _ H2 k2 hW2=>q ?_ _ H2 k2 hW2 rfl⟩⟩
    ·rw [lc] at h
     exact if_pos h
    ·rw [lc] at h'
     exact (if_neg (fun z=>z ⟨h,h'⟩)).trans (if_pos h3)
    ·rw [lc] at h'
     exact (if_neg (fun z=>z ⟨h,h'⟩)).trans ((if_neg (by rw [h3];exact Bool.false_ne_true)).trans (if_neg h4))
    ·rw [lc] at h'
     exact (if_neg (fun z=>z ⟨h,h'⟩)).trans ((if_neg (by rw [h3];exact Bool.false_ne_true)).trans (if_pos h4))
   | rept s=>
    refine ⟨_,hD,_,rfl,?_⟩
    k_mem
    rw [if_neg (by decide)]
    k_upd
    refine ⟨_,hD,_,rfl,?_⟩
    k_mem
    rw [if_pos rfl]
    k_upd
    refine ⟨_,_,hob,rfl,_,hD,_,rfl,?_⟩
    k_mem
    refine ⟨_,_,_,_,_,_,_,rfl,hW,by omega,wl.symm,fun h H2 s2=>qe .nr ?_ H2 s2,fun l r e h H2 s2=>qe .nc ?_ H2 s2,fun l r e h=>⟨fun z=>absurd z full,fun _ p H2 k2 hW2 hT=>q ?_ _ H2 k2 hW2 ⟨p,l,r,rfl,e,hT⟩⟩⟩
    ·simp only [g0]
    ·simp only [g0,e];exact if_neg h
    ·simp only [g0,e];exact if_pos h
   | opn l=>
    refine ⟨_,hD,_,rfl,?_⟩
    k_mem
    rw [if_neg (by decide)]
    k_upd
    refine ⟨_,hD,_,rfl,?_⟩
    k_mem
    rw [if_neg (by decide)]
    k_upd
    refine ⟨_,hD,_,rfl,?_⟩
    k_mem
    rw [if_pos rfl]
    k_upd
    refine ⟨_,_,hob,rfl,_,hD,_,rfl,?_⟩
    k_mem
    refine ⟨_,_,_,_,_,_,_,rfl,hW,by omega,wl.symm,hn.gl,fun h H2 s2=>qe .lv (if_pos h) H2 s2,fun h h' h3 H2 s2=>qe .ch ((if_neg (fun z=>z ⟨h,h'⟩)).trans (if_pos h3)) H2 s2,fun h h' h3=>⟨fun z=>absurd z full,fun _ H2 k2 hW2=>q ((if_neg (fun z=>z ⟨h,h'⟩)).trans (if_neg (by rw [h3];decide))) _ H2 k2 hW2 rfl⟩⟩
   | sht l=>
    refine ⟨_,hD,_,rfl,?_⟩
    k_mem
    rw [if_neg (by decide)]
    k_upd
    refine ⟨_,hD,_,rfl,?_⟩
    k_mem
    rw [if_neg (by decide)]
    k_upd
    refine ⟨_,hD,_,rfl,?_⟩
    k_mem
    rw [if_neg (by decide)]
    k_upd
    refine ⟨_,hD,_,rfl,?_⟩
    k_mem
    rw [if_pos rfl]
    k_upd
    refine ⟨_,_,hob,rfl,_,hD,_,rfl,?_⟩
    k_mem
    refine ⟨_,_,_,_,_,_,_,rfl,hW,by omega,wl.symm,hn.gl,fun h H2 s2=>qe .lv (if_pos h) H2 s2,fun h h' h3 H2 s2=>qe .ch ((if_neg (fun z=>z ⟨h,h'⟩)).trans (if_pos h3)) H2 s2,fun h h' h3=>⟨fun z=>absurd z full,fun _ H2 k2 hW2=>q ((if_neg (fun z=>z ⟨h,h'⟩)).trans (if_neg (by rw [h3];decide))) _ H2 k2 hW2 rfl⟩⟩
   | load k c=>
    refine ⟨_,hD,_,rfl,?_⟩
    k_mem
    rw [if_neg (by decide)]
    k_upd
    refine ⟨_,hD,_,rfl,?_⟩
    k_mem
    rw [if_neg (by decide)]
    k_upd
    refine ⟨_,hD,_,rfl,?_⟩
    k_mem
    rw [if_neg (by decide)]
    k_upd
    refine ⟨_,hD,_,rfl,?_⟩
    k_mem
    rw [if_neg (by decide)]
    k_upd
    refine ⟨_,hD,_,rfl,?_⟩
    k_mem
    rw [if_pos rfl]
    k_upd
    refine ⟨_,_,hob,rfl,_,hD,_,rfl,_,hD,_,rfl,?_⟩
    k_mem
    refine ⟨_,_,_,_,_,_,_,_,rfl,hW,by omega,wl.symm,hg.sh,hn.gl,by omega,ok.1,ok.2,fun h H2 s2=>qe .ul (if_pos h) H2 s2,fun h h' h3 H2 s2=>qe .nt ?_ H2 s2,fun l h h' hl h3 h4 H2 s2=>qe .ct ?_ H2 s2,fun l h h' hl h3 h4 h5 H2 s2=>qe .gs ?_ H2 s2,fun l h h' hl h3 h4 h5=>⟨fun z=>absurd z full,fun _ H2 k2 hW2=>q ?_ _ H2 k2 hW2 rfl⟩⟩
    ·refine (if_neg (fun z=>z ⟨h,h'⟩)).trans ?_
     cases hl:cj g.ds (ak n0 rs).place c with
     | none=>rfl
     | some l=>exact if_pos (h3 l hl)
    ·refine (if_neg (fun z=>z ⟨h,h'⟩)).trans ?_
     rw [hl]
     exact (if_neg (fun z=>z h3)).trans (if_pos h4)
    ·refine (if_neg (fun z=>z ⟨h,h'⟩)).trans ?_
     rw [hl]
     exact (if_neg (fun z=>z h3)).trans ((if_neg h4).trans (if_neg (by rw [h5];exact Bool.false_ne_true)))
    ·refine (if_neg (fun z=>z ⟨h,h'⟩)).trans ?_
     rw [hl]
     exact (if_neg (fun z=>z h3)).trans ((if_neg h4).trans (if_pos h5))
   | unload c=>
    refine ⟨_,hD,_,rfl,?_⟩
    k_mem
    rw [if_neg (by decide)]
    k_upd
    refine ⟨_,hD,_,rfl,?_⟩
    k_mem
    rw [if_neg (by decide)]
    k_upd
    refine ⟨_,hD,_,rfl,?_⟩
    k_mem
    rw [if_neg (by decide)]
    k_upd
    refine ⟨_,hD,_,rfl,?_⟩
    k_mem
    rw [if_neg (by decide)]
    k_upd
    refine ⟨_,hD,_,rfl,?_⟩
    k_mem
    rw [if_neg (by decide)]
    k_upd
    refine ⟨_,hD,_,rfl,?_⟩
    k_mem
    rw [if_pos rfl]
    k_upd
    refine ⟨_,_,hob,rfl,_,hD,_,rfl,?_⟩
    k_mem
    refine ⟨_,_,_,_,_,_,_,rfl,hW,by omega,wl.symm,hg.sh,hn.gl,ok.1,ok.2,fun h H2 s2=>qe .ce (if_pos h) H2 s2,fun h hl H2 s2=>qe .nt ?_ H2 s2,fun l h hl h3 H2 s2=>qe .gs ?_ H2 s2,fun l h hl h3=>⟨fun z=>absurd z full,fun _ H2 k2 hW2=>q ?_ _ H2 k2 hW2 rfl⟩⟩
    ·refine (if_neg (fun z=>z h)).trans ?_
     simp only [hl]
    ·refine (if_neg (fun z=>z h)).trans ?_
     rw [hl]
     exact if_neg (by rw [h3];exact Bool.false_ne_true)
    ·refine (if_neg (fun z=>z h)).trans ?_
     rw [hl]
     exact if_pos h3
   | wind c l k=>
    refine ⟨_,hD,_,rfl,?_⟩
    k_mem
    rw [if_neg (by decide)]
    k_upd
    refine ⟨_,hD,_,rfl,?_⟩
    k_mem
    rw [if_neg (by decide)]
    k_upd
    refine ⟨_,hD,_,rfl,?_⟩
    k_mem
    rw [if_neg (by decide)]
    k_upd
    refine ⟨_,hD,_,rfl,?_⟩
    k_mem
    rw [if_neg (by decide)]
    k_upd
    refine ⟨_,hD,_,rfl,?_⟩
    k_mem
    rw [if_neg (by decide)]
    k_upd
    refine ⟨_,hD,_,rfl,?_⟩
    k_mem
    rw [if_neg (by decide)]
    k_upd
    refine ⟨_,hD,_,rfl,?_⟩
    k_mem
    rw [if_pos rfl]
    have sp:=hg.speed (ak n0 rs)
    k_upd
    refine ⟨_,_,hob,rfl,_,hD,_,rfl,_,hD,_,rfl,_,hD,_,rfl,?_⟩
    k_mem
    refine ⟨_,_,_,_,_,_,_,_,_,rfl,hW,by omega,wl.symm,hg.sh,hn.gl,lc,sp.1,sp.2,ok.2,fun h H2 s2=>qe .lv (if_pos h) H2 s2,fun h h' h3 H2 s2=>qe .go ((if_neg (fun z=>z ⟨h,h'⟩)).trans (if_pos h3)) H2 s2,fun h h' h3 h4 H2 s2=>qe .na ((if_neg (fun z=>z ⟨h,h'⟩)).trans ((if_neg (by rw [h3];exact Bool.false_ne_true)).trans (if_neg h4))) H2 s2,fun h h' h3 h4=>⟨fun z=>absurd z full,fun _ H2 k2 hW2=>q ((if_neg (fun z=>z ⟨h,h'⟩)).trans ((if_neg (by rw [h3];exact Bool.false_ne_true)).trans (if_pos h4))) _ H2 k2 hW2 rfl⟩⟩
   | fail l=>
    refine ⟨_,hD,_,rfl,?_⟩
    k_mem
    rw [if_neg (by decide)]
    k_upd
    refine ⟨_,hD,_,rfl,?_⟩
    k_mem
    rw [if_neg (by decide)]
    k_upd
    refine ⟨_,hD,_,rfl,?_⟩
    k_mem
    rw [if_neg (by decide)]
    k_upd
    refine ⟨_,hD,_,rfl,?_⟩
    k_mem
    rw [if_neg (by decide)]
    k_upd
    refine ⟨_,hD,_,rfl,?_⟩
    k_mem
    rw [if_neg (by decide)]
    k_upd
    refine ⟨_,hD,_,rfl,?_⟩
    k_mem
    rw [if_neg (by decide)]
    k_upd
    refine ⟨_,hD,_,rfl,?_⟩
    k_mem
    rw [if_neg (by decide)]
    k_upd
    refine ⟨_,hD,_,rfl,?_⟩
    k_mem
    rw [if_pos rfl]
    k_upd
    refine ⟨_,_,hob,rfl,_,hD,_,rfl,?_⟩
    k_mem
    refine ⟨_,_,_,_,_,_,_,rfl,hW,by omega,wl.symm,fun h H2 s2=>qe .lv ?_ H2 s2,fun h h' h3 H2 s2=>qe .ch ?_ H2 s2,fun h h' h3=>⟨fun z=>absurd z full,fun _ H2 k2 hW2=>q ?_ _ H2 k2 hW2 rfl⟩⟩
    ·rw [lc] at h
     exact if_pos h
    ·rw [lc] at h'
     exact (if_neg (fun z=>z ⟨h,h'⟩)).trans (if_pos h3)
    ·rw [lc] at h'
     exact (if_neg (fun z=>z ⟨h,h'⟩)).trans (if_neg (by rw [h3];exact Bool.false_ne_true))
variable (xW:Def K mg "_law_call" rD rk Gk DA)(GC:aI P w K mg base (CXf P w) 7 Gk DA rk (DR K Z))
def DS (K:PySem.W.Frag)(Z:Adr):Sp:=fun vs H Q E=>∃(H0:Hp) (w bk rl p dl cl ll sl wl dd:Addr) (g:Cfg) (lds:List Ld) (n0:aY) (rs:List Row),vs=[.ref w,.ref p,.ref sl,.ref wl,.ref dd]/\pU (clZ Z) K H0 H p dl cl ll w bk rl sl wl g lds n0 rs/\rs.length < 300/\
 ((∃d,SqT K H dd (ddV d)/\Eo d/\g0 g (ak n0 rs) d=none/\∀H',cD rl sl wl H H'->pU (clZ Z) K H0 H' p dl cl ll w bk rl sl wl g lds n0 (rs++[ny g n0 rs d])->Q (.bl true) H')\/
  (SqT K H dd [.str "take back"]/\∃rs' r,rs=rs'++[r]/\∀H',cD rl sl wl H H'->pU (clZ Z) K H0 H' p dl cl ll w bk rl sl wl g lds n0 rs'->Q (.bl true) H'))
include xA Gw bG fq xW GC in
theorem Kc {f:Addr}{fd:FuncData}(F:Fun K "_law_done" "_law_done" rE f fd)(T:Txt K mg Z):aI P w K mg base (CXf P w) 8 f fd rn (DS K Z):=by
 refine F.okF yy (fun vs H Q E h=>?_) (fun cdv A outer s H vs Q E hr h=>?_)
 ·obtain ⟨H0,w,bk,rl,p,dl,cl,ll,sl,wl,dd,g,lds,n0,rs,rfl,hX,h300,hc⟩:=h
  rfl
 ·obtain ⟨H0,w,bk,rl,p,dl,cl,ll,sl,wl,dd,g,lds,n0,rs,rfl,hX,h300,hc⟩:=h
  refine seg 6 (aj (aw (aF fq hr.dn (by rfl) bG.m bG.F.kp bG.b .nil aO (ae (pv 5) (ae (au aE (au aK (pv 2) (jn fA ah)) ah) af))))) fun zt6 zh6=>?_
  k_all
  intro ze6
  refine seg 5 (ag (bb (ax bI (au aE (pv 4) ah) aR (aJ _)) (aj (aw (aF fq hr.dn (by rfl) bG.m bG.F.kp bG.b .nil aO (ae (pv 5) (ae (bq (ae (gm bI (au aE (pv 4) ah) (au aE (pv 6) ah) (aJ _)) (ae (au aE (pv 6) ah) (ae (au aE (pv 4) ah) af)))) af))))) (aC)) zh6) fun zt5 zh5=>?_
  k_all
  intro ze5
  refine seg 4 (ag (bB (vU PySem.F.plainAttrs_list PySem.F.slot_list_append PySem.F.type_list_append jb (pv 3) (ae (bq (ae (au aE (au aK (pv 2) (jn fA ah)) ah) (ae (au aE (au aK (pv 2) (jn fA ah)) ah) (ae (pv 4) af)))) af))) zh5) fun zt4 zh4=>?_
  k_all
  intro ze4
  refine seg 3 (ag (bB (vU PySem.F.plainAttrs_list PySem.F.slot_list_append PySem.F.type_list_append jb (pv 2) (ae (aF Gw hr.dn (by rfl) xA.m xA.F.kp xA.b .nil aO (ae (pv 1) (ae (au aK (pv 2) (jn fA ah)) (ae (pv 4) af)))) af))) zh4) fun zt3 zh3=>?_
  k_all
  intro ze3
  refine seg 2 (ag (aL (i:=6) yy.nd rfl orL (au aE (au aK (pv 2) (jn fA ah)) ah)) zh3) fun zt2 zh2=>?_
  k_all
  intro ze2
  refine seg 1 (ag (bb (ax bI (au aE (pv 4) ah) aR (aJ _)) (ag (bB (z7 PySem.F.plainAttrs_list PySem.F.slot_list_pop PySem.F.type_list_pop GX (pv 2))) (aj (aw (aF fq hr.dn (by rfl) bG.m bG.F.kp bG.b .nil aO (ae (pv 5) (ae (au aE (z7 PySem.F.plainAttrs_list PySem.F.slot_list_pop PySem.F.type_list_pop GX (pv 3)) ah) af)))))) (aC)) zh2) fun zt1 zh1=>?_
  k_all
  intro ze1
  refine ⟨_,ag (aL (i:=5) yy.nd rfl orL (aF GC hr.dn (by rfl) xW.m xW.F.kp xW.b .nil bT (ae (pv 0) (ae (pv 4) af)))) zh1,?_⟩
  k_all
  obtain ⟨hW,⟨as,hsl,hA⟩,⟨bs,hwl,hB⟩,hNs,hNw,hne,hrun⟩:=id hX.da
  have hg:=hX.cg
  have hn:=hX.snap
  obtain ⟨rr,hrl⟩:=hW.rows
  have nrs:rl≠sl:=hW.off sl hNs
  have nrw:rl≠wl:=hW.off wl hNw
  k_mem
  rcases hc with ⟨d,hD,ok,hrf,q⟩ | ⟨hD,rs2,r,rfl,q⟩
  ·k_upd
   refine ⟨w,bk,rl,dd,g,n0,rs,rfl,hW,hg,hn,h300,.inl ⟨d,hD,ok,fun r e=>(by rw [hrf] at e;cases e),fun _ v H1 k1 hW1 ans=>?_⟩⟩
   have hD1:=hD.keep k1 hrl
   have hsl1:=k1 _ _ nrs.symm hsl
   have hwl1:=k1 _ _ nrw.symm hwl
   have hA1:je (ma K H1) as (nz n0 rs):=hA.imp fun a x h=>h.keep k1 hrl
   have hB1:dW K H1 bs rs:=hB.keep k1 hrl
   have sa1:av H0 H1:=hX.sa.keeps k1 hX.fr
   obtain ⟨as1,a,rfl,hSt⟩:=Et hA1
   obtain ⟨gt,lt,ht,dt,h1,h2,h3,h4,h5⟩:=hSt.un
   obtain ⟨w0,ew0,nw0⟩:=Nq d
   have hal:=hA1.1
   have hbl:=hB1.1
   rw [CM,List.length_append,List.length_singleton] at hal
   k_mem
   refine ⟨_,hD1,_,ew0,?_⟩
   k_mem
   rw [if_neg nw0]
   k_upd
   refine ⟨_,SqL.of hsl1,_,nA,?_⟩
   k_mem
   refine ⟨_,h1,_,rfl,?_⟩
   k_mem
   refine ⟨.inl ⟨rfl,_,SqL.of hsl1⟩,_,SqL.of hsl1,_,nA,?_⟩
   k_mem
   refine ⟨p,dl,cl,ll,a,dd,g,lds,ak n0 rs,bw rs,d,rfl,hX.su.same sa1,hg,hn,hSt,hD1,ok,hrf,fun b H2 s2 hb=>?_⟩
   k_mem
   refine ⟨_,s2 _ _ hsl1,dX (by rw [List.length_map,List.length_append,List.length_singleton];omega),?_⟩
   have k3:L2.aA sl H2 (upd H2 sl (HO.lst (List.map V.ref (as1++[a])++[V.ref b]))):=(aA.of (av.refl H2)).put
   have e3:upd H2 sl (HO.lst (List.map V.ref (as1++[a])++[V.ref b])) sl=some (HO.lst ((as1++[a]++[b]).map V.ref)):=by rw [ai];simp
   generalize upd H2 sl (HO.lst (List.map V.ref (as1++[a])++[V.ref b]))=H3 at *
   have hW3:=(hW1.same s2).own hNs k3 e3
   have hwl3:=k3 _ _ hne.symm (s2 _ _ hwl1)
   have hb3:=hb.keep k3 (s2 _ _ hsl1)
   have h13:=(s2.tup h1).keep k3 (s2 _ _ hsl1)
   obtain ⟨gt2,lt2,ht2,dt2,hb31,_⟩:=hb3.un
   k_mem
   refine ⟨.inl ⟨rfl,_,SqL.of hwl3⟩,_,SqL.of e3,_,Nt,?_⟩
   k_mem
   refine ⟨_,h13,_,rfl,_,SqL.of e3,_,nA,?_⟩
   k_mem
   refine ⟨_,hb31,_,rfl,by decide,fun tp htp=>?_⟩
   (generalize hE:upd H3 tp _=H4 at *;have f4:=gg hE htp;have e4:=cW hE;clear hE)
   k_upd
   refine ⟨_,f4 _ _ hwl3,dX (by rw [List.length_map];omega),?_⟩
   have k5:L2.aA wl H4 (upd H4 wl (HO.lst (List.map V.ref bs++[V.ref tp]))):=(aA.of (av.refl H4)).put
   have e5:upd H4 wl (HO.lst (List.map V.ref bs++[V.ref tp])) wl=some (HO.lst ((bs++[tp]).map V.ref)):=by rw [ai];simp
   generalize upd H4 wl (HO.lst (List.map V.ref bs++[V.ref tp]))=H5 at *
   have hwl4:=f4 _ _ hwl3
   have hW5:=(hW3.same f4).own hNw k5 e5
   have hD5:SqT K H5 dd (ddV d):=(f4.tup ((s2.tup hD1).keep k3 (s2 _ _ hsl1))).keep k5 hwl4
   have hsl5:=k5 _ _ hne (f4 _ _ e3)
   have h45:SqT K H5 ht (pQ (ak n0 rs).e):=(f4.tup ((s2.tup h4).keep k3 (s2 _ _ hsl1))).keep k5 hwl4
   have hb51:=(f4.tup hb31).keep k5 hwl4
   have K05:cD rl sl wl H H5:=((((cD.a k1).trans (cD.of s2)).trans (cD.b k3)).trans (cD.of f4)).trans (cD.c k5)
   have hX5:pU (clZ Z) K H0 H5 p dl cl ll w bk rl sl wl g lds n0 (rs++[ny g n0 rs d]):=hX.to K05 ⟨hW5,⟨as1++[a]++[b],hsl5,?_⟩,⟨bs++[tp],e5,?_⟩,hNs,hNw,hne,.snoc hrun ok hrf⟩
   rotate_left
   ·rw [vt]
    exact je.push (hA1.imp fun a x h=>(((h.same s2).keep k3 (s2 _ _ hsl1)).same f4).keep k5 hwl4) ((hb3.same f4).keep k5 hwl4)
   ·exact ((((hB1.same s2).keep k3 (s2 _ _ hsl1)).same f4).keep k5 hwl4).push ⟨dd,(SqT.of e4).keep k5 hwl4,hD5⟩
   have ans5:BM K H5 (ak n0 rs) (bw rs+fC g (ak n0 rs) d) d v:=(((ans.same s2).keep k3 (s2 _ _ hsl1)).same f4).keep k5 hwl4
   have qq:∀H',av H5 H'->Q (.bl true) H':=fun H' s=>q H' (K05.trans (cD.of s)) (hX5.same s)
   clear hX5 K05 hW5 hW3 hW1 hsl1 hwl1 hA1 hB1 sa1 h13 hb31 hb3 hwl3 k3 f4 k5 hD1
   k_mem
   by_cases hr:∃s,d=.rept s
   ·obtain ⟨s,rfl⟩:=hr
    obtain ⟨pa,l,r,rfl,he,hpa⟩:=ans5
    rw [he] at h45
    k_upd
    refine ⟨_,hD5,_,rfl,?_⟩
    k_mem
    rw [if_pos rfl]
    k_upd
    refine ⟨_,hD5,_,rfl,_,h45,_,rfl,?_⟩
    k_mem
    refine ⟨_,h45,_,rfl,_,hD5,_,rfl,by decide,fun tq htq=>?_⟩
    have f6:=(av.refl H5).lay (o:=HO.tup [V.bl (decide (s=r)),V.int r,V.int s]) htq
    k_upd
    refine ⟨_,_,_,rfl,gO (f6.tup hpa) (by show 3<=100000;decide) ?_,gO (SqT.of ai) (by show 3<=100000;decide) ?_,fun H' s'=>qq H' (f6.trans s')⟩
    all_goals
     intro x hx
     simp only [List.mem_cons,List.not_mem_nil,or_false] at hx
     rcases hx with rfl | rfl | rfl<;>rfl
   ·obtain ⟨w1,ew1,nw1⟩:=Nr (d:=d) fun s e=>hr ⟨s,e⟩
    have ev:=ans5.int fun s e=>hr ⟨s,e⟩
    subst ev
    k_upd
    refine ⟨_,hD5,_,ew1,?_⟩
    k_mem
    rw [if_neg nw1]
    k_upd
    refine ⟨_,SqL.of hsl5,_,nA,?_⟩
    k_mem
    refine ⟨_,hb51,_,rfl,?_⟩
    k_mem
    exact ⟨_,_,_,rfl,.flat rfl,.flat rfl,qq⟩
  ·k_upd
   refine ⟨w,bk,rl,dd,g,n0,rs2++[r],rfl,hW,hg,hn,h300,.inr ⟨hD,rs2,r,rfl,fun pp H1 k1 hW1 hpp=>?_⟩⟩
   have hD1:=hD.keep k1 hrl
   have hsl1:=k1 _ _ nrs.symm hsl
   have hwl1:=k1 _ _ nrw.symm hwl
   have hA1:je (ma K H1) as (nz n0 (rs2++[r])):=hA.imp fun a x h=>h.keep k1 hrl
   have hB1:dW K H1 bs (rs2++[r]):=hB.keep k1 hrl
   rw [vt] at hA1
   obtain ⟨as1,a,rfl,hA2,_⟩:=hA1.last
   obtain ⟨bs1,b,rfl,hB2,dd2,hb1,hb2⟩:=hB1.last
   obtain ⟨dr,hdr⟩:=hrun.deeds r (by simp)
   k_mem
   refine ⟨_,hD1,_,rfl,?_⟩
   k_mem
   rw [if_pos rfl]
   k_upd
   refine ⟨.inl ⟨rfl,_,SqL.of hsl1⟩,_,hsl1,.ref a,by simp,?_⟩
   have k3:L2.aA sl H1 (upd H1 sl (HO.lst (List.map V.ref (as1++[a])).dropLast)):=(aA.of (av.refl H1)).put
   have e3:upd H1 sl (HO.lst (List.map V.ref (as1++[a])).dropLast) sl=some (HO.lst (as1.map V.ref)):=by rw [ai];simp
   generalize upd H1 sl (HO.lst (List.map V.ref (as1++[a])).dropLast)=H3 at *
   have hwl3:=k3 _ _ hne.symm hwl1
   k_mem
   refine ⟨.inl ⟨rfl,_,SqL.of hwl3⟩,_,hwl3,.ref b,by simp,?_⟩
   have k5:L2.aA wl H3 (upd H3 wl (HO.lst (List.map V.ref (bs1++[b])).dropLast)):=(aA.of (av.refl H3)).put
   have e5:upd H3 wl (HO.lst (List.map V.ref (bs1++[b])).dropLast) wl=some (HO.lst (bs1.map V.ref)):=by rw [ai];simp
   generalize upd H3 wl (HO.lst (List.map V.ref (bs1++[b])).dropLast)=H5 at *
   have K05:cD rl sl wl H H5:=((cD.a k1).trans (cD.b k3)).trans (cD.c k5)
   have hX5:pU (clZ Z) K H0 H5 p dl cl ll w bk rl sl wl g lds n0 rs2:=hX.to K05 ⟨(hW1.own hNs k3 e3).own hNw k5 e5,⟨as1,k5 _ _ hne e3,hA2.imp fun a x h=>(h.keep k3 hsl1).keep k5 hwl3⟩,⟨bs1,e5,(hB2.keep k3 hsl1).keep k5 hwl3⟩,hNs,hNw,hne,hrun.inv.1⟩
   have lenr:=IF dr
   k_mem
   refine ⟨_,(hb1.keep k3 hsl1).keep k5 hwl3,_,rfl,?_⟩
   k_mem
   refine ⟨_,_,_,rfl,gO ((hpp.keep k3 hsl1).keep k5 hwl3) (by rw [hdr];omega) (by rw [hdr];exact Ad dr),gO ((hb2.keep k3 hsl1).keep k5 hwl3) (by rw [hdr];omega) (by rw [hdr];exact Ad dr),fun H' s=>q H' (K05.trans (cD.of s)) (hX5.same s)⟩
variable (xX:Def K mg "_law_done" rE rn Gm DB)(GD:aI P w K mg base (CXf P w) 8 Gm DB rn (DS K Z))
def Qd (Z:Adr)(K:PySem.W.Frag)(H0 H:Hp)(p dl cl ll w bk rl sl wl a:Addr)(g:Cfg)(lds:List Ld)(n0:aY)(b e:Int)(i:Nat)(σ:St)(H':Hp):Prop:=∃rs,cD rl sl wl H H'/\pU (clZ Z) K H0 H' p dl cl ll w bk rl sl wl g lds n0 rs/\rs.length<=i/\∃t u,σ=[some (.ref w),some (.ref p),some (.ref a),some (.int b),some (.int e),some (.ref sl),some (.ref wl),t,u]
def GF (K:PySem.W.Frag)(Z:Adr):Sp:=fun vs H Q E=>∃(H0:Hp) (w bk rl p dl cl ll a:Addr) (ds:List Int) (ls:List Cd) (slow fast:Int) (lds:List Ld) (N:Addr->Prop) (ns:List Int) (b e:Int),vs=[.ref w,.ref p,.ref a,.int b,.int e]/\CP ds ls slow fast lds/\gp K H0 p dl cl ll (fI ds ls slow fast lds N) lds/\av H0 H/\H0 rl=none/\SqL K H0 a (ns.map V.int)/\ns.length<=63/\0<=b/\b<=1000/\0<=e/\e<=1000/\WAt (clZ Z) K H w bk rl (fI ds ls slow fast lds N) (eU ds ls lds) []/\
 ∀(lp sl wl:Addr) (N':Addr->Prop) (rs:List Row) (H':Hp),H lp=none->lp≠rl->aA rl H H'->pU (clZ Z) K H0 H' p dl cl ll w bk rl sl wl (fI ds ls slow fast lds N') lds (eU ds ls lds) rs->rs.length<=63->H' lp=some (.lst [.ref sl,.ref wl])->Q (.ref lp) H'
include tN DD tQ DH kE vi xX GD in
theorem Mc {f:Addr}{fd:FuncData}(F:Fun K "_law_day" "_law_day" wH f fd)(T:Txt K mg Z):aI P w K mg base (CXf P w) 9 f fd wx (GF K Z):=by
 refine F.okF rF (fun vs H Q E h=>?_) (fun cdv A outer s H vs Q E hr h=>?_)
 ·obtain ⟨H0,w,bk,rl,p,dl,cl,ll,a,ds,ls,slow,fast,lds,N,ns,b,e,rfl,hU,hP,sa,fr,hS,h63,b0,b1,e0,e1,hW,q⟩:=h
  rfl
 ·obtain ⟨H0,w,bk,rl,p,dl,cl,ll,a,ds,ls,slow,fast,lds,N,ns,b,e,rfl,hU,hP,sa,fr,hS,h63,b0,b1,e0,e1,hW,q⟩:=h
  refine seg 3 (aj (aw (bC (ae (pv 5) (ae (pv 6) af))))) fun zt3 zh3=>?_
  k_all
  intro ze3
  refine seg 2 (ag (dA yh rfl (Cv (by rfl) T.c7 (ae (pv 3) (ae (aM (tx rfl) (by rfl) T.IS Ef (ae (pv 4) (ae (aM aG (by rfl) T.cy bD (ae (pv 2) af)) af))) af))) (aB (i:=7) rF.nd rfl orL) (ag (aL (i:=8) rF.nd rfl orL (aF vi hr.dn (by rfl) kE.m kE.F.kp kE.b .nil aO (ae (pv 1) (ae (pv 5) (ae (aF DD hr.dn (by rfl) tN.m tN.F.kp tN.b .nil aO (ae (pv 2) (ae (pv 7) af))) af))))) (aj (bb (eN (dj (aF GD hr.dn (by rfl) xX.m xX.F.kp xX.b .nil bT (ae (pv 0) (ae (pv 1) (ae (pv 5) (ae (pv 6) (ae (pv 8) af)))))))) (aj (aw (bC af))) (aC))))) zh3) fun zt2 zh2=>?_
  k_all
  intro ze2
  refine seg 1 (ag (aL (i:=6) rF.nd rfl orL (bC af)) zh2) fun zt1 zh1=>?_
  k_all
  intro ze1
  refine ⟨_,ag (aL (i:=5) rF.nd rfl orL (bC (ae (aF DH hr.dn (by rfl) tQ.m tQ.F.kp tQ.b .nil aO (ae (pv 1) af)) af))) zh1,?_⟩
  k_all
  have l2:=hU.sh.l2
  have l6:=hU.sh.l6
  k_mem
  refine ⟨p,dl,cl,ll,ds,ls,slow,fast,lds,N,rfl,hP.same sa,l2,l6,hU.l30,fun st H1 s1 hst=>?_⟩
  k_mem
  refine ⟨by decide,fun sl hsl=>?_⟩
  have f2:=(av.refl H1).lay (o:=HO.lst [V.ref st]) hsl
  have e2:upd H1 sl (HO.lst [V.ref st]) sl=some (HO.lst [V.ref st]):=ai
  have hWa:=(hW.same s1).grow hsl f2 e2
  generalize upd H1 sl (HO.lst [V.ref st])=H2 at *
  k_upd
  refine ⟨by decide,fun wl hwl=>?_⟩
  have f3:=(av.refl H2).lay (o:=HO.lst []) hwl
  have e3:upd H2 wl (HO.lst []) wl=some (HO.lst []):=ai
  have nsw:sl≠wl:=aq e2 hwl
  have hWb:=hWa.grow hwl f3 e3
  generalize upd H2 wl (HO.lst [])=H3 at *
  have s03:=(s1.trans f2).trans f3
  have hsl0:H sl=none:=s1.free hsl
  have hwl0:H wl=none:=(s1.trans f2).free hwl
  obtain ⟨rr,hrl⟩:=hW.rows
  have hX:pU (clZ Z) K H0 H3 p dl cl ll w bk rl sl wl (fI ds ls slow fast lds fun q=>(N q\/q=sl)\/q=wl) lds (eU ds ls lds) []:=⟨⟨hP.ob,hP.od,hP.oc,hP.ol,hP.ek⟩,sa.trans s03,fr,sa.free hsl0,sa.free hwl0,⟨hWb,⟨[st],f3 _ _ e2,je.nil.push ((hst.same f2).same f3)⟩,⟨[],e3,dW.nil⟩,.inl (.inr rfl),.inr rfl,nsw,.nil⟩,hU.cfg _,hU.snap _⟩
  clear hWa hWb hst
  k_mem
  refine ⟨_,.inl ((sa.trans s03).seq hS),?_⟩
  rw [List.length_map]
  k_mem
  have hj:(if (ns.length:Int) < e then (ns.length:Int) else e)<=ns.length:=by split<;>omega
  have hj1:(if (ns.length:Int) < e then (ns.length:Int) else e)<=1000:=by split<;>omega
  have hj0:0<=(if (ns.length:Int) < e then (ns.length:Int) else e):=by split<;>omega
  generalize (if (ns.length:Int) < e then (ns.length:Int) else e)=j at *
  k_upd
  refine ⟨⟨by omega,by omega,by omega,by omega⟩,?_⟩
  k_upd
  refine cN (Qd Z K H0 H3 p dl cl ll w bk rl sl wl a (fI ds ls slow fast lds fun q=>(N q\/q=sl)\/q=wl) lds (eU ds ls lds) b e) ⟨[],cD.of (av.refl _),hX,Nat.le_refl _,_,_,rfl⟩ ?_ ?_
  ·rintro i σ H4 hi ⟨rs,k4,hX4,hlen,t,u,rfl⟩
   obtain ⟨as,hsl4,hA4⟩:=hX4.da.st
   k_mem
   refine ⟨a,ns,b+(i:Int),rfl,hX4.sa.seq hS,by omega,by omega,fun c=>?_⟩
   k_mem
   refine ⟨p,dl,cl,ll,sl,_,lds,_,rs,c,rfl,hX4.setup,hX4.cg,hX4.snap,⟨as,hsl4,hA4⟩,fun dd d H5 s5 hd ok hr=>?_,fun hrs dd H5 s5 hd=>?_⟩
   ·k_mem
    k_upd
    refine ⟨H0,w,bk,rl,p,dl,cl,ll,sl,wl,dd,_,lds,_,rs,rfl,hX4.same s5,by omega,.inl ⟨d,hd,ok,hr,fun H6 k6 hX6=>?_⟩⟩
    k_mem
    exact ⟨_,(k4.trans (cD.of s5)).trans k6,hX6,by rw [List.length_append,List.length_singleton];omega,_,_,rfl⟩
   ·obtain ⟨rs2,r,rfl⟩:∃rs2 r,rs=rs2++[r]:=by
     rcases dE rs with z | z
     ·exact absurd z hrs
     ·exact z
    k_mem
    refine ⟨H0,w,bk,rl,p,dl,cl,ll,sl,wl,dd,_,lds,_,rs2++[r],rfl,hX4.same s5,by omega,.inr ⟨hd,rs2,r,rfl,fun H6 k6 hX6=>?_⟩⟩
    k_mem
    exact ⟨_,(k4.trans (cD.of s5)).trans k6,hX6,by rw [List.length_append,List.length_singleton] at hlen;omega,_,_,rfl⟩
  ·rintro σ H4 ⟨rs,k4,hX4,hlen,t,u,rfl⟩
   k_mem
   refine ⟨by decide,fun lp hlp=>?_⟩
   have f5:=(av.refl H4).lay (o:=HO.lst [V.ref sl,V.ref wl]) hlp
   have k04:L2.aA rl H H4:=fun d o n e=>k4 d o n (aq e hsl0) (aq e hwl0) (s03 d o e)
   have nlr:lp≠rl:=fun z=>by
    obtain ⟨r2,hr2⟩:=hX4.da.wk.rows
    rw [z,hr2] at hlp
    cases hlp
   k_upd
   exact q lp sl wl _ rs _ (k04.free nlr hlp) nlr (k04.trans (aA.of f5)) (hX4.same f5) (by omega) ai
variable (tX:Def K mg "_law_day" wH wx Jd Gp)(zS:aI P w K mg base (CXf P w) 9 Jd Gp wx (GF K Z))
def Qe (H:Hp)(x0 x1 x2 x3 x4 x5 x6 x7 x8:V)(_:Nat)(σ:St)(H':Hp):Prop:=av H H'/\∃a b,σ=[some x0,some x1,some x2,some x3,some x4,some x5,some x6,some x7,some x8,a,b,none,none,none,none,none]
def Qf (H:Hp)(x0 x1 x2 x3 x4 x5 x6 x7 x8 x9:V)(_:Nat)(σ:St)(H':Hp):Prop:=av H H'/\∃b,σ=[some x0,some x1,some x2,some x3,some x4,some x5,some x6,some x7,some x8,some x9,b,none,none,none,none,none]
def Qg (H:Hp)(x0 x1 x2 x3 x4 x5 x6 x7 x8:V)(_:Nat)(σ:St)(H':Hp):Prop:=av H H'/\∃a b c d e f g,σ=[some x0,some x1,some x2,some x3,some x4,some x5,some x6,some x7,some x8,a,b,c,d,e,f,g]
def Qh (H:Hp)(x0 x1 x2 x3 x4 x5 x6 x7 x8 x9 x11 x12 x13 x14:V)(b:Option V)(_:Nat)(σ:St)(H':Hp):Prop:=av H H'/\∃g,σ=[some x0,some x1,some x2,some x3,some x4,some x5,some x6,some x7,some x8,some x9,b,some x11,some x12,some x13,some x14,g]
def Bz (K:PySem.W.Frag)(Z:Adr):Sp:=fun vs H Q _=>∃(a:Addr) (ns:List Int),vs=[.ref a]/\SqL K H a (ns.map V.int)/\ns.length<=63/\∀H',Q (.bl true) H'
include gT pk fm oi lY tV bG fq pH xT i5 tW pI xV tX zS in
theorem Qi {f:Addr}{fd:FuncData}(F:Fun K "law" "law" AB f fd)(T:Txt K mg Z):aI P w K mg base (CXf P w) 10 f fd LS (Bz K Z):=by
 refine F.okF gh (fun vs H Q E h=>?_) (fun cdv A outer s H vs Q E hr h=>?_)
 ·obtain ⟨a,ns,rfl,hS,hn,q⟩:=h
  rfl
 ·obtain ⟨a,ns,rfl,hS,hn,q⟩:=h
  refine seg 10 (aj (aw (aF xV hr.dn (by rfl) pI.m pI.F.kp pI.b .nil bT (ae (pv 2) (ae (pv 1) (ae (pv 4) (ae (pv 5) af))))))) fun zt10 zh10=>?_
  k_all
  intro ze10
  refine seg 9 (ag (dA yh rfl (fz (bC (ae ah (ae (pv 6) (ae (aS cV (pv 8) (aS cb (pv 6) ah)) af))))) (aB (i:=9) gh.nd rfl orL) (ag (kj (aF tW hr.dn (by rfl) i5.m i5.F.kp i5.b .nil aO (ae (pv 2) (ae ah (ae (pv 9) af)))) (Ah rfl (aQ (aB (i:=11) gh.nd rfl orL) (aQ (aB (i:=12) gh.nd rfl orL) dz)))) (ag (bb (kh (eN (dj (aM vX (by rfl) T.bS bH (ae (pv 11) (ae (eO (v:=.ty "tuple") (by rfl) T.tM ot rfl) af))))) (kh (ax qp (aM aG (by rfl) T.cy bD (ae (pv 11) af)) ah (aJ _)) (jl (ax (Hh hr.units0) (pv 12) (bC (ae ft (ae ft af))) (aJ _))))).pt (aj (aw ft)) (aC)) (ag (bb (kh (eN (dj (aF pk hr.dn (by rfl) gT.m gT.F.kp gT.b .nil aO (ae (au aE (pv 11) ah) af)))) (kh (eN (dj (aF pk hr.dn (by rfl) gT.m gT.F.kp gT.b .nil aO (ae (au aE (pv 11) ah) af)))) (jl (ax qp (aM (JR rfl) (by rfl) T.Rj PU (ae (pv 11) af)) (pv 7) (aJ _))))).pt (aj (aw ft)) (aC)) (ag (kj (aF tW hr.dn (by rfl) i5.m i5.F.kp i5.b .nil aO (ae (pv 2) (ae ah (ae (pv 9) af)))) (Ah rfl (aQ (aB (i:=13) gh.nd rfl orL) (aQ (aB (i:=12) gh.nd rfl orL) dz)))) (ag (bb (kh (eN (dj (aM vX (by rfl) T.bS bH (ae (pv 13) (ae (eO (v:=.ty "list") (by rfl) T.fD dB rfl) af))))) (kh (ax qp (aM aG (by rfl) T.cy bD (ae (pv 13) af)) (aM aG (by rfl) T.cy bD (ae (au aK (pv 1) ah) af)) (aJ _)) (jl (ax (Hh hr.units0) (pv 12) (bC (ae ft (ae ft af))) (aJ _))))).pt (aj (aw ft)) (aC)) (ag (aL (i:=14) gh.nd rfl orL (bC (ae (au aK (pv 4) ah) (ae (au aK (pv 4) (jn fA ah)) af)))) (aj (dA yh rfl (cw (by rfl) T.c7 (ae ah af)) (aB (i:=15) gh.nd rfl orL) (aj (bb (nZ (ax bI (pv 9) (au aK (bC (ae ah (ae (pv 6) af))) (pv 15)) (aJ _)) (lM (kh (ax bI (pv 15) ah (aJ _)) (jl (ax zW (pv 6) ah (aJ _)))).pt)).pt (aj (bb (kh (ax qp (au aE (pv 11) ah) (au aE (au aK (pv 14) (pv 15)) ah) (aJ _)) (jl (eN (dj (aF fq hr.dn (by rfl) bG.m bG.F.kp bG.b .nil aO (ae (pv 13) (ae (bK bQ (by rfl) T.fD dB (ae (au aE (au aK (pv 14) (pv 15)) ah) af)) af))))))).pt (aj (aw ft)) (aC))) (aC)))))))))))) zh10) fun zt9 zh9=>?_
  k_all
  intro ze9
  refine seg 8 (ag (dA yh rfl (fz (bC (ae (jn fA ah) (ae (aS cb (pv 6) ah) (ae (aS eS (jn fA ah) (aS cV (pv 8) ah)) (ae (aS cb (aS cb (pv 6) ah) (aS cV (pv 8) ah)) (ae (aS OU ah ah) af))))))) (aB (i:=9) gh.nd rfl orL) (aj (dA yh rfl (cw (by rfl) T.c7 (ae ah af)) (aB (i:=10) gh.nd rfl orL) (aj (bb (eN (dj (aF fq hr.dn (by rfl) bG.m bG.F.kp bG.b .nil aO (ae (au aK (aF tW hr.dn (by rfl) i5.m i5.F.kp i5.b .nil aO (ae (pv 2) (ae (pv 10) (ae (pv 9) af)))) ah) (ae (bC (ae ft (ae ft af))) af))))) (aj (aw ft)) (aC)))))) zh9) fun zt8 zh8=>?_
  k_all
  intro ze8
  refine seg 7 (ag (aL (i:=8) gh.nd rfl orL (aS ni (aF oi hr.dn (by rfl) fm.m fm.F.kp fm.b .nil aO (ae (pv 0) (ae ah af))) ah)) zh8) fun zt7 zh7=>?_
  k_all
  intro ze7
  refine seg 6 (ag (aL (i:=7) gh.nd rfl orL (au aK (au aK (pv 1) ah) (jn fA ah))) zh7) fun zt6 zh6=>?_
  k_all
  intro ze6
  refine seg 5 (ag (aL (i:=6) gh.nd rfl orL (au aE (au aK (pv 4) (jn fA ah)) ah)) zh6) fun zt5 zh5=>?_
  k_all
  intro ze5
  refine seg 4 (ag (kj (pv 3) (Ah rfl (aQ (aB (i:=4) gh.nd rfl orL) (aQ (aB (i:=5) gh.nd rfl orL) dz)))) zh5) fun zt4 zh4=>?_
  k_all
  intro ze4
  refine seg 3 (ag (bb (ax (PN hr.units0) (pv 3) (bC af) (aJ _)) (aj (aw ft)) (aC)) zh4) fun zt3 zh3=>?_
  k_all
  intro ze3
  refine seg 2 (ag (aL (i:=3) gh.nd rfl orL (aF zS hr.dn (by rfl) tX.m tX.F.kp tX.b .nil bT (ae (pv 2) (ae (pv 1) (ae (pv 0) (ae ah (ae ah af))))))) zh3) fun zt2 zh2=>?_
  k_all
  intro ze2
  refine seg 1 (ag (aL (i:=2) gh.nd rfl orL (aF xT hr.dn (by rfl) pH.m pH.F.kp pH.b .nil bT (ae (pv 1) af))) zh2) fun zt1 zh1=>?_
  k_all
  intro ze1
  refine ⟨_,ag (aL (i:=1) gh.nd rfl orL (aF tV hr.dn (by rfl) lY.m lY.F.kp lY.b .nil aO (ae (pv 0) (ae ah af)))) zh1,?_⟩
  k_all
  k_mem
  refine ⟨a,ns,8,rfl,hS,by omega,by omega,fun p dl cl ll ds ls slow fast lds H1 s1 fp fdl fcl fll hP hsh hlen hgd hsp hlm hld=>?_⟩
  have hU:CP ds ls slow fast lds:=⟨hsh,hlen,hgd,hsp,by omega,fun x hx=>(hld x hx).1⟩
  k_mem
  refine ⟨p,dl,cl,ll,ds,ls,slow,fast,lds,_,rfl,hP,hsh,hlen,hgd,hsp,hU.l30,hU.gl,fun wk bk rl N H2 s2 frl fwk hW=>?_⟩
  k_mem
  refine ⟨H1,wk,bk,rl,p,dl,cl,ll,a,ds,ls,slow,fast,lds,N,ns,5,45,rfl,hU,⟨hP.ob,hP.od,hP.oc,hP.ol,hP.ek⟩,s2,frl,s1.seq hS,hn,by omega,by omega,by omega,by omega,hW,fun lp sl wl N' rs H3 flp nlp k3 hX h63 hlp=>?_⟩
  k_mem
  refine ⟨by decide,fun p0 hp0=>?_⟩
  have f4:=(av.refl H3).lay (o:=HO.lst []) hp0
  have e4:upd H3 p0 (HO.lst []) p0=some (HO.lst []):=ai
  generalize upd H3 p0 (HO.lst [])=H4 at *
  k_upd
  refine ⟨_,SqL.of (f4 _ _ hlp),_,SqL.of e4,by show (2:Nat)≠0;decide,?_⟩
  k_mem
  refine ⟨_,SqL.of (f4 _ _ hlp),rfl,?_⟩
  k_mem
  replace hX:=hX.same f4
  have hg:=hX.cg
  have l2:=hg.sh.l2
  obtain ⟨hW,⟨as,hsl,hA⟩,⟨bs,hwl,hB⟩,hNs,hNw,hne,hrun⟩:=id hX.da
  have hmem:=hrun.mem hg hX.c0
  have hnow:=hrun.now hg
  have hrs:NK rs:=fun r hr=>by have:=hmem.2 r hr;omega
  obtain ⟨z1,z2,z3⟩:=hrun.zero hg rfl
  obtain ⟨y1,y2⟩:=hrun.behind hg (Int.le_refl _)
  obtain ⟨as',sa,rfl,hSt⟩:=Et hA
  obtain ⟨sa0,es0,hSt0⟩:=hA.get (JQ (eU ds ls lds) rs (k:=0) (Nat.zero_le _))
  have at00:atI ((as'++[sa]).map V.ref) 0=some (.ref sa0):=pP (k:=0) (by rw [List.getElem?_map,es0];rfl)
  obtain ⟨gt0,lt0,ht0,dt0,v1,v2,v3,v4,v5⟩:=hSt0.un
  obtain ⟨gt,lt,ht,dt,u1,u2,u3,u4,u5⟩:=hSt.un
  k_upd
  refine ⟨_,SqL.of hsl,_,nA,?_⟩
  k_mem
  refine ⟨_,u1,_,rfl,?_⟩
  k_mem
  have hP4:=hX.setup
  k_upd
  refine ⟨_,SqL.of hP4.ob,_,rfl,?_⟩
  k_mem
  refine ⟨_,SqL.of hP4.od,_,Ej (by omega),?_⟩
  k_mem
  refine ⟨a,ns,0,rfl,hX.sa.seq (s1.seq hS),by decide,?_⟩
  k_mem
  generalize ns.getD 0 0 / 2=wd at *
  k_upd
  refine ⟨by decide,by decide,fun tp htp=>?_⟩
  (generalize hE:upd H4 tp _=H5 at *;have s5:=gg hE htp;have e5:=cW hE;clear hE)
  k_upd
  refine ⟨⟨_,SqL.of e5⟩,?_⟩
  k_upd
  refine jc [V.int (-1),V.int (bw rs+1),V.int (-1 - wd % 1000),V.int (bw rs+1+wd % 1000),V.int 1000000000000000000000000000000] (Qe H5 (.ref a) (.ref p) (.ref wk) (.ref lp) (.ref sl) (.ref wl) (.int (bw rs)) (.int (cv (fI ds ls slow fast lds N').ds)) (.int wd)) ⟨av.refl _,_,_,rfl⟩ (fun i σ H' _ h=>SqL.of (h.1 _ _ e5)) ?_ ?_
  ·rintro i x σ H6 hx ⟨s6,a1,a2,rfl⟩
   obtain ⟨t,rfl,ht⟩:∃t:Int,x=.int t/\¬(0<=t/\t<=bw rs):=by
    match i,hx with
    | 0,hx=>cases hx;exact ⟨_,rfl,by omega⟩
    | 1,hx=>cases hx;exact ⟨_,rfl,by omega⟩
    | 2,hx=>cases hx;exact ⟨_,rfl,by omega⟩
    | 3,hx=>cases hx;exact ⟨_,rfl,by omega⟩
    | 4,hx=>cases hx;exact ⟨_,rfl,by omega⟩
   k_mem
   refine ⟨by decide,by decide,?_⟩
   k_upd
   refine cN (Qf H6 (.ref a) (.ref p) (.ref wk) (.ref lp) (.ref sl) (.ref wl) (.int (bw rs)) (.int (cv (fI ds ls slow fast lds N').ds)) (.int wd) (.int t)) ⟨av.refl _,_,rfl⟩ ?_ ?_
   ·rintro j σ H7 hj ⟨s7,a3,rfl⟩
    have hX7:=hX.same ((s5.trans s6).trans s7)
    k_mem
    refine ⟨wk,bk,rl,_,_,rs,_,t,rfl,by omega,hX7.da.wk,by omega,hrs,by omega,fun z=>absurd z ht,fun _ p8 ph8 H8 s8 e8 eh8=>?_⟩
    k_mem
    refine ⟨_,SqL.of e8,_,rfl,?_⟩
    k_mem
    refine ⟨by decide,fun p9 hp9=>?_⟩
    (generalize hE:upd H8 p9 _=H9 at *;have s9:=gg hE hp9;have e9:=cW hE;clear hE)
    k_upd
    refine ⟨_,_,.lst (([true,false].map V.bl).map Dt.flat),rfl,tL (SqL.of (s9 _ _ eh8)) (by decide),tL (SqL.of e9) (by decide),fun H10 s10=>?_⟩
    k_mem
    exact ⟨s7.trans ((s8.trans s9).trans s10),_,rfl⟩
   ·rintro σ H7 ⟨s7,a3,rfl⟩
    k_mem
    exact ⟨s6.trans s7,_,_,rfl⟩
  ·rintro σ H6 ⟨s6,a1,a2,rfl⟩
   have s46:=s5.trans s6
   k_mem
   refine ⟨by omega,by decide,fun tq htq=>?_⟩
   (generalize hE:upd H6 tq _=H7 at *;have s7:=gg hE htq;have e7:=cW hE;clear hE)
   k_upd
   refine ⟨⟨_,SqL.of e7⟩,?_⟩
   have hmod:=Int.emod_nonneg wd (show bw rs+1≠0 by omega)
   have hmod2:=Int.emod_lt_of_pos wd (show 0 < bw rs+1 by omega)
   generalize wd % (bw rs+1)=wm at *
   have s47:=s46.trans s7
   k_upd
   refine jc [V.int 0,V.int (bw rs),V.int wm] (Qg H7 (.ref a) (.ref p) (.ref wk) (.ref lp) (.ref sl) (.ref wl) (.int (bw rs)) (.int (cv (fI ds ls slow fast lds N').ds)) (.int wd)) ⟨av.refl _,_,_,_,_,_,_,_,rfl⟩ (fun i σ H' _ h=>SqL.of (h.1 _ _ e7)) ?_ ?_
   ·rintro i x σ H8 hx ⟨s8,b1,b2,b3,b4,b5,b6,b7,rfl⟩
    obtain ⟨t,rfl,ht⟩:∃t:Int,x=.int t/\(0<=t/\t<=bw rs):=by
     match i,hx with
     | 0,hx=>cases hx;exact ⟨_,rfl,by omega⟩
     | 1,hx=>cases hx;exact ⟨_,rfl,by omega⟩
     | 2,hx=>cases hx;exact ⟨_,rfl,by omega⟩
    have s48:=s47.trans s8
    have hX8:=hX.same s48
    k_mem
    refine ⟨wk,bk,rl,_,_,rs,_,t,rfl,.inl rfl,hX8.da.wk,by omega,hrs,by omega,fun _ p9 ph9 pt9 H9 s9 e9 eh9 et9 _=>?_,fun z=>absurd ht z⟩
    replace et9:=et9 rfl
    k_mem
    refine ⟨_,SqL.of e9,rfl,?_⟩
    k_mem
    refine ⟨_,_,_,_,rfl,.tup et9,Ab,?_⟩
    k_mem
    refine ⟨_,.inr (SqT.of et9),?_⟩
    k_mem
    rw [if_neg (fun z=>z rfl)]
    k_upd
    refine ⟨by decide,fun p10 hp10=>?_⟩
    (generalize hE:upd H9 p10 _=H10 at *;have s10:=gg hE hp10;have e10:=cW hE;clear hE)
    k_upd
    refine ⟨_,SqL.of (s10 _ _ eh9),_,SqL.of e10,rfl,rfl,?_⟩
    k_mem
    have et10:=s10 _ _ et9
    k_upd
    rw [if_neg (by decide)]
    k_upd
    refine ⟨_,SqT.of et10,_,rfl,_,rfl,?_⟩
    k_mem
    refine ⟨_,SqT.of et10,_,rfl,_,rfl,?_⟩
    k_mem
    refine ⟨_,[iY (eU ds ls lds) rs t,cv (fI ds ls slow fast lds N').ds - iY (eU ds ls lds) rs t],rfl,SqT.of et10,?_⟩
    k_upd
    rw [if_neg (by simp only [List.sum_cons,List.sum_nil];omega)]
    k_upd
    have hX10:=hX8.same (s9.trans s10)
    k_upd
    refine ⟨wk,bk,rl,_,_,rs,_,t,rfl,.inr rfl,hX10.da.wk,by omega,hrs,by omega,fun _ p11 ph11 pt11 H11 s11 e11 eh11 _ et11=>?_,fun z=>absurd ht z⟩
    replace et11:=et11 rfl
    k_mem
    refine ⟨_,SqL.of e11,rfl,?_⟩
    k_mem
    refine ⟨_,_,_,_,rfl,.lst et11,Ab,?_⟩
    k_mem
    have hX11:=hX10.same s11
    have hP11:=hX11.setup
    k_upd
    refine ⟨_,.inl (SqL.of et11),?_⟩
    k_mem
    obtain ⟨asl,hll,hLd⟩:=hP11.ol
    k_upd
    refine ⟨_,SqL.of hP11.ob,_,rfl,?_⟩
    k_mem
    have hle:(dR (eU ds ls lds) rs t).length=lds.length:=by
     have h1:=hrun.spots_len hg hX.c0 t
     have h2:=hP11.ek
     rw [h1,h2,List.length_map]
    k_upd
    refine ⟨_,.inl (SqL.of hll),?_⟩
    k_upd
    rw [if_neg (by rw [List.length_map,List.length_map,hle,hLd.1];exact fun z=>z rfl)]
    k_upd
    refine ⟨by decide,fun p12 hp12=>?_⟩
    (generalize hE:upd H11 p12 _=H12 at *;have s12:=gg hE hp12;have e12:=cW hE;clear hE)
    k_upd
    refine ⟨_,SqL.of (s12 _ _ eh11),_,SqL.of e12,rfl,rfl,?_⟩
    k_upd
    rw [if_neg (by decide)]
    have s412:=s48.trans (((s9.trans s10).trans s11).trans s12)
    have hsl12:=s412 _ _ hsl
    k_upd
    refine ⟨_,SqL.of hsl12,_,at00,_,SqL.of hsl12,_,nA,by decide,fun p13 hp13=>?_⟩
    (generalize hE:upd H12 p13 _=H13 at *;have s13:=gg hE hp13;have e13:=cW hE;clear hE)
    have s413:=s412.trans s13
    have etp13:=((s11.trans s12).trans s13) _ _ et10
    have etl13:=(s12.trans s13) _ _ et11
    k_upd
    refine ⟨by decide,by decide,?_⟩
    k_upd
    refine cN (Qh H13 (.ref a) (.ref p) (.ref wk) (.ref lp) (.ref sl) (.ref wl) (.int (bw rs)) (.int (cv (fI ds ls slow fast lds N').ds)) (.int wd) (.int t) (.ref pt9) (.ref ph11) (.ref pt11) (.ref p13) b2) ⟨av.refl _,_,rfl⟩ ?_ ?_
    ·rintro j σ H14 hj ⟨s14,g1,rfl⟩
     have s414:=s413.trans s14
     k_mem
     refine ⟨by decide,fun p15 hp15=>?_⟩
     (generalize hE:upd H14 p15 _=H15 at *;have s15:=gg hE hp15;have e15:=cW hE;clear hE)
     have s415:=s414.trans s15
     have k30:=hg.k30
     have hw1:(dR (eU ds ls lds) rs t).length<=1000:=by omega
     rcases (by omega:j=0\/j=1) with rfl | rfl
     ·k_upd
      refine ⟨_,SqL.of e15,_,rfl,?_⟩
      k_mem
      split
      ·rename_i hz
       subst hz
       k_upd
       rw [if_neg (by decide)]
       k_upd
       split
       ·k_upd
        refine ⟨_,SqT.of ((s14.trans s15) _ _ etp13),_,rfl,_,SqL.of ((s14.trans s15) _ _ e13),_,rfl,?_⟩
        k_mem
        refine ⟨_,s415.tup v1,_,rfl,?_⟩
        k_mem
        rw [if_neg (fun z=>z (show iY (eU ds ls lds) rs 0=_ by unfold iY;rw [z1];rfl))]
        k_upd
        refine ⟨_,SqL.of ((s14.trans s15) _ _ e13),_,rfl,?_⟩
        k_mem
        refine ⟨_,s415.tup v1,_,rfl,?_⟩
        k_mem
        refine ⟨_,.inr (SqT.of (s415 _ _ v3)),fun p16 hp16=>?_⟩
        (generalize hE:upd H15 p16 _=H16 at *;have s16:=gg hE hp16;have e16:=cW hE;clear hE)
        k_upd
        refine ⟨_,_,.lst (((dR (eU ds ls lds) rs 0).map V.int).map Dt.flat),rfl,?_,?_,fun H17 s17=>?_⟩
        ·exact js (SqL.of (((s14.trans s15).trans s16) _ _ etl13)) (by omega)
        ·rw [z2]
         exact js (SqL.of e16) (by have:=hrun.spots_len hg hX.c0 0;rw [z2] at this;omega)
        k_mem
        exact ⟨s14.trans ((s15.trans s16).trans s17),_,rfl⟩
       ·k_upd
        exact ⟨s14.trans s15,_,rfl⟩
      ·k_upd
       exact ⟨s14.trans s15,_,rfl⟩
     ·k_upd
      refine ⟨_,SqL.of e15,_,rfl,?_⟩
      k_mem
      split
      ·rename_i hz
       subst hz
       k_upd
       rw [if_pos (by decide)]
       k_upd
       refine ⟨_,SqT.of ((s14.trans s15) _ _ etp13),_,rfl,_,SqL.of ((s14.trans s15) _ _ e13),_,rfl,?_⟩
       k_mem
       refine ⟨_,s415.tup u1,_,rfl,?_⟩
       k_mem
       rw [if_neg (fun z=>z (show iY (eU ds ls lds) rs (bw rs)=_ by unfold iY;rw [y1]))]
       k_upd
       refine ⟨_,SqL.of ((s14.trans s15) _ _ e13),_,rfl,?_⟩
       k_mem
       refine ⟨_,s415.tup u1,_,rfl,?_⟩
       k_mem
       refine ⟨_,.inr (SqT.of (s415 _ _ u3)),fun p16 hp16=>?_⟩
       (generalize hE:upd H15 p16 _=H16 at *;have s16:=gg hE hp16;have e16:=cW hE;clear hE)
       k_upd
       refine ⟨_,_,.lst (((dR (eU ds ls lds) rs (bw rs)).map V.int).map Dt.flat),rfl,?_,?_,fun H17 s17=>?_⟩
       ·exact js (SqL.of (((s14.trans s15).trans s16) _ _ etl13)) (by omega)
       ·rw [y2]
        exact js (SqL.of e16) (by have:=hrun.spots_len hg hX.c0 (bw rs);rw [y2] at this;omega)
       k_mem
       exact ⟨s14.trans ((s15.trans s16).trans s17),_,rfl⟩
      ·k_upd
       exact ⟨s14.trans s15,_,rfl⟩
    ·rintro σ H14 ⟨s14,g1,rfl⟩
     k_mem
     exact ⟨s8.trans ((((s9.trans s10).trans s11).trans s12).trans (s13.trans s14)),_,_,_,_,_,_,_,rfl⟩
   ·rintro σ H8 ⟨s8,b1,b2,b3,b4,b5,b6,b7,rfl⟩
    k_mem
    have hX8:=hX.same (s47.trans s8)
    k_upd
    exact ⟨_,wk,bk,rl,p,dl,cl,ll,sl,wl,_,lds,_,rs,rfl,hX8,by omega,fun H9 s9=>q H9⟩
include gT pk fm oi lY tV bG fq pH xT i5 tW pI xV tX zS in
theorem Qj {f:Addr}{fd:FuncData}(F:Fun K "law" "law" AB f fd)(T:Txt K mg Z):aI P w K mg base CX0 10 f fd LS (Bz K Z):=(Qi gT pk fm oi lY tV bG fq pH xT i5 tW pI xV tX zS F T).calm fun vs H Q E h=>h
end
theorem Qk {l:PySem.W.OpenLaw}{w:World}{K:PySem.W.Frag}{h:Heap}{mg:Str->Option Value}{fa:Addr}(X:K.In h)(G:h.Ns mainGlobals mg)(hfa:mg "law"=some (.ref fa)){C0 C1 C2 C3 C4 C5 C6 C7 C8 C9 C10 C11 C12 C13 C14 C15 C16 C17 C18 C19 C20 C21 C22 C23 C24:Addr}{ta_KINDS:Addr}{tk_KINDS_0 tk_KINDS_1:Tok}{tn_KINDS:Nat}{ts_KINDS:Array (Option Value)}{ta_CAGE_SPOTS:Addr}{tk_CAGE_SPOTS_0 tk_CAGE_SPOTS_1:Tok}{to_CAGE_SPOTS:Option Addr}{tn_CAGE_SPOTS:Nat}{ts_CAGE_SPOTS:Array (Option Value)}(fx:OH K C0 C1 C2 C3 C4 C5 C6 C7 C8 C9 C10 C11 C12 C13 C14 C15 C16 C17 C18 C19 C20 C21 C22 C23 C24 ta_KINDS tk_KINDS_0 tk_KINDS_1 tn_KINDS ts_KINDS ta_CAGE_SPOTS tk_CAGE_SPOTS_0 tk_CAGE_SPOTS_1 to_CAGE_SPOTS tn_CAGE_SPOTS ts_CAGE_SPOTS)
 : ∃Z:Adr,∃fd:FuncData,(∀(s:Shared) (v:Value),BindsTo s fd ⟨[v],[]⟩ [("_law_script",v)])/\∀base:Heap,K.In base->base.Ns mainGlobals mg->aI l.prog w K mg base CX0 10 fa fd ["_law_script"] (Bz K Z):=by
 obtain ⟨z_len,z_list,z_enumerate,z_zip,z_range,z_min,z_abs,z_isinstance,z_int,z_bool,z_tuple,z_str,z_sorted,z_sum,m0,m1,m2,m3,m4,m5,m6,m7,m8,m9,m10,m11,m12,m13,m14,m15,m16,m17,m18,m19,m20,m21,m22,m23,m24,n_MOST_LOADS,n_FEWEST_STROKES,n_MOST_STROKES,n_FEWEST_LEVELS,n_MOST_LEVELS,n_GREATEST_DEPTH,n_GREATEST_SPEED,n_MOST_DEEDS,n_KINDS,lt_KINDS,n_CAGE_SPOTS,lt_CAGE_SPOTS,cl20,na20_kinds,na20_where,na20_many,cl21,na21_codes,na21_failed,na21_state,cl22,na22_place,na22_opened,na22_bells,na22_yard,cl23,na23_first,na23_most,na23_rows,cl24,na24_depths,na24_slow,na24_fast,na24_goals,na24_log,l0,x0,x1,x2,x3,x4,x5,x6,x7,x8,x9,x10,x11,x12,x13,x14,x15,x16,x17,x18,e0_CageError,k0_NoTick,k0_UnknownLevel,e1_CageError,k1_NoTick,k1_UnknownLevel,e2_CageError,k2_NoTick,k2_UnknownLevel,e3_CageError,k3_NoTick,k3_UnknownLevel,e4_CageError,k4_NoTick,k4_UnknownLevel,e5_CageError,k5_NoTick,k5_UnknownLevel,e6_CageError,k6_NoTick,k6_UnknownLevel,e7_CageError,k7_NoTick,k7_UnknownLevel,e8_CageError,k8_NoTick,k8_UnknownLevel,e9_CageError,k9_NoTick,k9_UnknownLevel,e10_CageError,k10_NoTick,k10_UnknownLevel,e11_CageError,k11_NoTick,k11_UnknownLevel,e12_CageError,k12_NoTick,k12_UnknownLevel,e13_CageError,k13_NoTick,k13_UnknownLevel,e14_CageError,k14_NoTick,k14_UnknownLevel,e15_CageError,k15_NoTick,k15_UnknownLevel,e16_CageError,k16_NoTick,k16_UnknownLevel,e17_CageError,k17_NoTick,k17_UnknownLevel,e18_CageError,k18_NoTick,k18_UnknownLevel,d0,d1,d2,d3,d4,d5,d6,d7,d8,d9,d10,d11,d12,d13,d14,d15,d16,d17,d18,d19,d20,d21,d22,d23,d24,d25,d26,d27,d28,d29,d30,d31,d32,d33,d34,d35,d36,d37,d38,d39,d40,d41,d42,d43,d44,d45,d46,d47,d48,d49,d50,d51,d52,d53,d54,d55,d56,d57,d58,d59,d60,d61,d62,d63,d64,d65,d66,d67,d68,d69,d70,d71,d72,d73,d74,d75,d76,d77,d78,d79,d80,d81,d82,d83,d84,d85,d86,d87,d88,d89,d90,d91,d92,d93,d94,d95⟩:=fx
 obtain ⟨f0,_,b0,F0⟩:=d0
 obtain ⟨f1,_,b1,F1⟩:=d1
 obtain ⟨f2,_,b2,F2⟩:=d2
 obtain ⟨f3,_,b3,F3⟩:=d3
 obtain ⟨f4,_,b4,F4⟩:=d4
 obtain ⟨f5,_,b5,F5⟩:=d5
 obtain ⟨f6,_,b6,F6⟩:=d6
 obtain ⟨f7,_,b7,F7⟩:=d7
 obtain ⟨f8,_,b8,F8⟩:=d8
 obtain ⟨f9,_,b9,F9⟩:=d9
 obtain ⟨f10,_,b10,F10⟩:=d10
 obtain ⟨f11,_,b11,F11⟩:=d11
 obtain ⟨f12,_,b12,F12⟩:=d12
 obtain ⟨f13,_,b13,F13⟩:=d13
 obtain ⟨f14,_,b14,F14⟩:=d14
 obtain ⟨f15,_,b15,F15⟩:=d15
 obtain ⟨f16,_,b16,F16⟩:=d16
 obtain ⟨f17,_,b17,F17⟩:=d17
 obtain ⟨f18,_,b18,F18⟩:=d18
 obtain ⟨f19,_,b19,F19⟩:=d19
 obtain ⟨f20,_,b20,F20⟩:=d20
 obtain ⟨f21,_,b21,F21⟩:=d21
 obtain ⟨f22,_,b22,F22⟩:=d22
 obtain ⟨f23,_,b23,F23⟩:=d23
 obtain ⟨f24,_,b24,F24⟩:=d24
 obtain ⟨f25,_,b25,F25⟩:=d25
 obtain ⟨f26,_,b26,F26⟩:=d26
 obtain ⟨f27,_,b27,F27⟩:=d27
 obtain ⟨f28,_,b28,F28⟩:=d28
 obtain ⟨f29,_,b29,F29⟩:=d29
 obtain ⟨f30,_,b30,F30⟩:=d30
 obtain ⟨f31,_,b31,F31⟩:=d31
 obtain ⟨f32,_,b32,F32⟩:=d32
 obtain ⟨f33,_,b33,F33⟩:=d33
 obtain ⟨f34,_,b34,F34⟩:=d34
 obtain ⟨f35,_,b35,F35⟩:=d35
 obtain ⟨f36,_,b36,F36⟩:=d36
 obtain ⟨f37,_,b37,F37⟩:=d37
 obtain ⟨f38,_,b38,F38⟩:=d38
 obtain ⟨f39,_,b39,F39⟩:=d39
 obtain ⟨f40,_,b40,F40⟩:=d40
 obtain ⟨f41,_,b41,F41⟩:=d41
 obtain ⟨f42,_,b42,F42⟩:=d42
 obtain ⟨f43,_,b43,F43⟩:=d43
 obtain ⟨f44,_,b44,F44⟩:=d44
 obtain ⟨f45,_,b45,F45⟩:=d45
 obtain ⟨f46,_,b46,F46⟩:=d46
 obtain ⟨f47,_,b47,F47⟩:=d47
 obtain ⟨f48,_,b48,F48⟩:=d48
 obtain ⟨f49,_,b49,F49⟩:=d49
 obtain ⟨f50,_,b50,F50⟩:=d50
 obtain ⟨f51,_,b51,F51⟩:=d51
 obtain ⟨f52,_,b52,F52⟩:=d52
 obtain ⟨f53,_,b53,F53⟩:=d53
 obtain ⟨f54,_,b54,F54⟩:=d54
 obtain ⟨f55,_,b55,F55⟩:=d55
 obtain ⟨f56,_,b56,F56⟩:=d56
 obtain ⟨f57,_,b57,F57⟩:=d57
 obtain ⟨f58,_,b58,F58⟩:=d58
 obtain ⟨f59,_,b59,F59⟩:=d59
 obtain ⟨f60,_,b60,F60⟩:=d60
 obtain ⟨f61,_,b61,F61⟩:=d61
 obtain ⟨f62,_,b62,F62⟩:=d62
 obtain ⟨f63,_,b63,F63⟩:=d63
 obtain ⟨f64,_,b64,F64⟩:=d64
 obtain ⟨f65,_,b65,F65⟩:=d65
 obtain ⟨f66,_,b66,F66⟩:=d66
 obtain ⟨f67,_,b67,F67⟩:=d67
 obtain ⟨f68,_,b68,F68⟩:=d68
 obtain ⟨f69,_,b69,F69⟩:=d69
 obtain ⟨f70,_,b70,F70⟩:=d70
 obtain ⟨f71,_,b71,F71⟩:=d71
 obtain ⟨f72,_,b72,F72⟩:=d72
 obtain ⟨f73,_,b73,F73⟩:=d73
 obtain ⟨f74,_,b74,F74⟩:=d74
 obtain ⟨f75,_,b75,F75⟩:=d75
 obtain ⟨f76,_,b76,F76⟩:=d76
 obtain ⟨f77,_,b77,F77⟩:=d77
 obtain ⟨f78,_,b78,F78⟩:=d78
 obtain ⟨f79,_,b79,F79⟩:=d79
 obtain ⟨f80,_,b80,F80⟩:=d80
 obtain ⟨f81,_,b81,F81⟩:=d81
 obtain ⟨f82,_,b82,F82⟩:=d82
 obtain ⟨f83,_,b83,F83⟩:=d83
 obtain ⟨f84,_,b84,F84⟩:=d84
 obtain ⟨f85,_,b85,F85⟩:=d85
 obtain ⟨f86,_,b86,F86⟩:=d86
 obtain ⟨f87,_,b87,F87⟩:=d87
 obtain ⟨f88,_,b88,F88⟩:=d88
 obtain ⟨f89,_,b89,F89⟩:=d89
 obtain ⟨f90,_,b90,F90⟩:=d90
 obtain ⟨f91,_,b91,F91⟩:=d91
 obtain ⟨f92,_,b92,F92⟩:=d92
 obtain ⟨f93,_,b93,F93⟩:=d93
 obtain ⟨f94,_,b94,F94⟩:=d94
 obtain ⟨f95,_,b95,F95⟩:=d95
 have e:=hfa.symm.trans (PySem.W.mg_of X G b95)
 cases e
 obtain ⟨oc,od,kV,dc,pm,an,cd,ct,sl,rfl,ll,cc⟩:=F95.ex
 let Z:Adr:=⟨C0,C1,C2,C3,C4,C5,C6,C7,C8,C9,C10,C11,C12,C13,C14,C15,C16,C17,C18,C19,C20,C21,C22,C23,C24,ta_KINDS,ta_CAGE_SPOTS⟩
 have T:Txt K mg Z:=⟨PySem.W.mg_none_of X G z_len,PySem.W.mg_none_of X G z_list,PySem.W.mg_none_of X G z_enumerate,PySem.W.mg_none_of X G z_zip,PySem.W.mg_none_of X G z_range,PySem.W.mg_none_of X G z_min,PySem.W.mg_none_of X G z_abs,PySem.W.mg_none_of X G z_isinstance,PySem.W.mg_none_of X G z_int,PySem.W.mg_none_of X G z_bool,PySem.W.mg_none_of X G z_tuple,PySem.W.mg_none_of X G z_str,PySem.W.mg_none_of X G z_sorted,PySem.W.mg_none_of X G z_sum,KI.txt X G n_MOST_LOADS,KI.txt X G n_FEWEST_STROKES,KI.txt X G n_MOST_STROKES,KI.txt X G n_FEWEST_LEVELS,KI.txt X G n_MOST_LEVELS,KI.txt X G n_GREATEST_DEPTH,KI.txt X G n_GREATEST_SPEED,KI.txt X G n_MOST_DEEDS,⟨_,PySem.W.mg_of X G n_KINDS,rfl⟩,fun H=>.inr ⟨_,_,_,lt_KINDS,rfl,rfl,(by show 2<=sizeLine;decide),.cons ⟨_,rfl⟩ (.cons ⟨_,rfl⟩ .nil)⟩,⟨_,lt_KINDS,rfl,rfl⟩,⟨_,PySem.W.mg_of X G n_CAGE_SPOTS,rfl⟩,fun H=>.inr ⟨_,_,_,lt_CAGE_SPOTS,rfl,rfl,(by show 2<=sizeLine;decide),.cons ⟨_,rfl⟩ (.cons ⟨_,rfl⟩ .nil)⟩,PySem.W.mg_of X G m0,PySem.W.mg_of X G m1,PySem.W.mg_of X G m2,PySem.W.mg_of X G m3,PySem.W.mg_of X G m4,PySem.W.mg_of X G m5,PySem.W.mg_of X G m6,PySem.W.mg_of X G m7,PySem.W.mg_of X G m8,PySem.W.mg_of X G m9,PySem.W.mg_of X G m10,PySem.W.mg_of X G m11,PySem.W.mg_of X G m12,PySem.W.mg_of X G m13,PySem.W.mg_of X G m14,PySem.W.mg_of X G m15,PySem.W.mg_of X G m16,PySem.W.mg_of X G m17,PySem.W.mg_of X G m18,PySem.W.mg_of X G m19,PySem.W.mg_of X G m20,PySem.W.mg_of X G m21,PySem.W.mg_of X G m22,PySem.W.mg_of X G m23,PySem.W.mg_of X G m24,cl20,na20_kinds,na20_where,na20_many,cl21,na21_codes,na21_failed,na21_state,cl22,na22_place,na22_opened,na22_bells,na22_yard,cl23,na23_first,na23_most,na23_rows,cl24,na24_depths,na24_slow,na24_fast,na24_goals,na24_log,(x0 l0).ex,x0 l0,e0_CageError,k0_NoTick,k0_UnknownLevel,(x1 l0).ex,x1 l0,e1_CageError,k1_NoTick,k1_UnknownLevel,(x2 l0).ex,x2 l0,e2_CageError,k2_NoTick,k2_UnknownLevel,(x3 l0).ex,x3 l0,e3_CageError,k3_NoTick,k3_UnknownLevel,(x4 l0).ex,x4 l0,e4_CageError,k4_NoTick,k4_UnknownLevel,(x5 l0).ex,x5 l0,e5_CageError,k5_NoTick,k5_UnknownLevel,(x6 l0).ex,x6 l0,e6_CageError,k6_NoTick,k6_UnknownLevel,(x7 l0).ex,x7 l0,e7_CageError,k7_NoTick,k7_UnknownLevel,(x8 l0).ex,x8 l0,e8_CageError,k8_NoTick,k8_UnknownLevel,(x9 l0).ex,x9 l0,e9_CageError,k9_NoTick,k9_UnknownLevel,(x10 l0).ex,x10 l0,e10_CageError,k10_NoTick,k10_UnknownLevel,(x11 l0).ex,x11 l0,e11_CageError,k11_NoTick,k11_UnknownLevel,(x12 l0).ex,x12 l0,e12_CageError,k12_NoTick,k12_UnknownLevel,(x13 l0).ex,x13 l0,e13_CageError,k13_NoTick,k13_UnknownLevel,(x14 l0).ex,x14 l0,e14_CageError,k14_NoTick,k14_UnknownLevel,(x15 l0).ex,x15 l0,e15_CageError,k15_NoTick,k15_UnknownLevel,(x16 l0).ex,x16 l0,e16_CageError,k16_NoTick,k16_UnknownLevel,(x17 l0).ex,x17 l0,e17_CageError,k17_NoTick,k17_UnknownLevel,(x18 l0).ex,x18 l0,e18_CageError,k18_NoTick,k18_UnknownLevel⟩
 have D0:Def K mg "is_known" ml md f0 _:=⟨PySem.W.mg_of X G b0,F0,F0.b2⟩
 have D1:Def K mg "check_level" iz hJ f1 _:=⟨PySem.W.mg_of X G b1,F1,F1.b2⟩
 have D2:Def K mg "check_load" jL ju f2 _:=⟨PySem.W.mg_of X G b2,F2,F2.b2⟩
 have D3:Def K mg "check_loads" iA hV f3 _:=⟨PySem.W.mg_of X G b3,F3,F3.b2⟩
 have D4:BG K C20 "Yard.__init__" kT kL f4 _:=⟨b4,F4,F4.b3⟩
 have D5:bu K C20 "into" "Yard.into" kU kM f5 _:=⟨b5,F5,F5.b3⟩
 have D6:bu K C20 "out" "Yard.out" mm me f6 _:=⟨b6,F6,F6.b3⟩
 have D7:bu K C20 "spots" "Yard.spots" jN jv f7 _:=⟨b7,F7,F7.b1⟩
 have D8:bu K C20 "in_cage" "Yard.in_cage" gG gy f8 _:=⟨b8,F8,F8.b2⟩
 have D9:bu K C20 "at_level" "Yard.at_level" fP fJ f9 _:=⟨b9,F9,F9.b2⟩
 have D10:bu K C20 "men_aboard" "Yard.men_aboard" eC en f10 _:=⟨b10,F10,F10.b1⟩
 have D11:bu K C20 "twin" "Yard.twin" kW kO f11 _:=⟨b11,F11,F11.b1⟩
 have D12:Def K mg "are_strokes" iB hZ f12 _:=⟨PySem.W.mg_of X G b12,F12,F12.b1⟩
 have D13:Def K mg "check_codes" iC ie f13 _:=⟨PySem.W.mg_of X G b13,F13,F13.b2⟩
 have D14:BG K C21 "Bells.__init__" jO jw f14 _:=⟨b14,F14,F14.b2⟩
 have D15:bu K C21 "ring" "Bells.ring" jP jx f15 _:=⟨b15,F15,F15.b3⟩
 have D16:bu K C21 "repeat" "Bells.repeat" gH gz f16 _:=⟨b16,F16,F16.b2⟩
 have D17:bu K C21 "engine" "Bells.engine" gI gA f17 _:=⟨b17,F17,F17.b1⟩
 have D18:bu K C21 "fail" "Bells.fail" jQ jy f18 _:=⟨b18,F18,F18.b2⟩
 have D19:bu K C21 "dead" "Bells.dead" jR jz f19 _:=⟨b19,F19,F19.b1⟩
 have D20:bu K C21 "use" "Bells.use" kX kP f20 _:=⟨b20,F20,F20.b3⟩
 have D21:bu K C21 "twin" "Bells.twin" jS jA f21 _:=⟨b21,F21,F21.b1⟩
 have D22:Def K mg "check_depths" gJ gB f22 _:=⟨PySem.W.mg_of X G b22,F22,F22.b1⟩
 have D23:Def K mg "drum_whole" jT jB f23 _:=⟨PySem.W.mg_of X G b23,F23,F23.b1⟩
 have D24:Def K mg "other_place" iD ig f24 _:=⟨PySem.W.mg_of X G b24,F24,F24.b2⟩
 have D25:Def K mg "level_at" mq mf f25 _:=⟨PySem.W.mg_of X G b25,F25,F25.b2⟩
 have D26:Def K mg "wound_place" iE ij f26 _:=⟨PySem.W.mg_of X G b26,F26,F26.b3⟩
 have D27:Def K mg "gates_by" mr mh f27 _:=⟨PySem.W.mg_of X G b27,F27,F27.b2⟩
 have D28:Def K mg "check_speeds" gK gC f28 _:=⟨PySem.W.mg_of X G b28,F28,F28.b2⟩
 have D29:Def K mg "wind_ticks" jU jC f29 _:=⟨PySem.W.mg_of X G b29,F29,F29.b2⟩
 have D30:Def K mg "place_after" iF ik f30 _:=⟨PySem.W.mg_of X G b30,F30,F30.b4⟩
 have D31:BG K C22 "Standing.__init__" fQ fK f31 _:=⟨b31,F31,F31.b5⟩
 have D32:bu K C22 "twin" "Standing.twin" fR fL f32 _:=⟨b32,F32,F32.b1⟩
 have D33:BG K C23 "Book.__init__" kY kQ f33 _:=⟨b33,F33,F33.b3⟩
 have D34:bu K C23 "write" "Book.write" jV jD f34 _:=⟨b34,F34,F34.b5⟩
 have D35:bu K C23 "strike" "Book.strike" iG il f35 _:=⟨b35,F35,F35.b1⟩
 have D36:bu K C23 "now" "Book.now" mv mi f36 _:=⟨b36,F36,F36.b1⟩
 have D37:bu K C23 "latest" "Book.latest" iH ip f37 _:=⟨b37,F37,F37.b1⟩
 have D38:bu K C23 "told" "Book.told" kZ kR f38 _:=⟨b38,F38,F38.b1⟩
 have D39:bu K C23 "place_at" "Book.place_at" fS fM f39 _:=⟨b39,F39,F39.b2⟩
 have D40:bu K C23 "spots_at" "Book.spots_at" fT fN f40 _:=⟨b40,F40,F40.b2⟩
 have D41:bu K C23 "refuse_tick" "Book.refuse_tick" dO dM f41 _:=⟨b41,F41,F41.b2⟩
 have D42:BG K C24 "Works.__init__" jW jE f42 _:=⟨b42,F42,F42.b6⟩
 have D43:bu K C24 "ring" "Works.ring" jX jF f43 _:=⟨b43,F43,F43.b3⟩
 have D44:bu K C24 "repeat" "Works.repeat" gL gD f44 _:=⟨b44,F44,F44.b2⟩
 have D45:bu K C24 "fail" "Works.fail" jY jG f45 _:=⟨b45,F45,F45.b2⟩
 have D46:bu K C24 "open_gate" "Works.open_gate" eD eo f46 _:=⟨b46,F46,F46.b2⟩
 have D47:bu K C24 "shut_gate" "Works.shut_gate" eI ez f47 _:=⟨b47,F47,F47.b2⟩
 have D48:bu K C24 "turn_gate" "Works.turn_gate" eJ eA f48 _:=⟨b48,F48,F48.b4⟩
 have D49:bu K C24 "load" "Works.load" jZ jH f49 _:=⟨b49,F49,F49.b3⟩
 have D50:bu K C24 "unload" "Works.unload" gM gE f50 _:=⟨b50,F50,F50.b2⟩
 have D51:bu K C24 "wind" "Works.wind" j0 jI f51 _:=⟨b51,F51,F51.b4⟩
 have D52:bu K C24 "take_back" "Works.take_back" eK eB f52 _:=⟨b52,F52,F52.b1⟩
 have D53:bu K C24 "write" "Works.write" iJ iq f53 _:=⟨b53,F53,F53.b4⟩
 have D54:bu K C24 "speed_with" "Works.speed_with" dP dN f54 _:=⟨b54,F54,F54.b2⟩
 have D55:bu K C24 "level_of" "Works.level_of" ff eV f55 _:=⟨b55,F55,F55.b2⟩
 have D56:bu K C24 "refuse_shut_gate" "Works.refuse_shut_gate" cF cE f56 _:=⟨b56,F56,F56.b2⟩
 have D57:bu K C24 "now" "Works.now" k7 kS f57 _:=⟨b57,F57,F57.b1⟩
 have D58:bu K C24 "book" "Works.book" j1 jJ f58 _:=⟨b58,F58,F58.b1⟩
 have D59:bu K C24 "engine" "Works.engine" gN gF f59 _:=⟨b59,F59,F59.b1⟩
 have D60:bu K C24 "dead" "Works.dead" j4 jK f60 _:=⟨b60,F60,F60.b1⟩
 have D61:bu K C24 "gates" "Works.gates" iK ir f61 _:=⟨b61,F61,F61.b1⟩
 have D62:bu K C24 "cages" "Works.cages" iL iu f62 _:=⟨b62,F62,F62.b1⟩
 have D63:bu K C24 "cages_at" "Works.cages_at" fg eW f63 _:=⟨b63,F63,F63.b2⟩
 have D64:bu K C24 "both_places" "Works.both_places" dw dq f64 _:=⟨b64,F64,F64.b2⟩
 have D65:bu K C24 "spots" "Works.spots" iM iw f65 _:=⟨b65,F65,F65.b1⟩
 have D66:bu K C24 "spots_at" "Works.spots_at" fh eX f66 _:=⟨b66,F66,F66.b2⟩
 have D67:bu K C24 "in_cage" "Works.in_cage" fU fO f67 _:=⟨b67,F67,F67.b2⟩
 have D68:bu K C24 "at_level" "Works.at_level" fi eY f68 _:=⟨b68,F68,F68.b2⟩
 have D69:Def K mg "_law_whole" oJ oy f69 _:=⟨PySem.W.mg_of X G b69,F69,F69.b1⟩
 have D70:Def K mg "_law_at" Ax Ak f70 _:=⟨PySem.W.mg_of X G b70,F70,F70.b2⟩
 have D71:Def K mg "_law_draw" rz rf f71 _:=⟨PySem.W.mg_of X G b71,F71,F71.b3⟩
 have D72:Def K mg "_law_mixed" oM oz f72 _:=⟨PySem.W.mg_of X G b72,F72,F72.b2⟩
 have D73:Def K mg "_law_same" lg wu f73 _:=⟨PySem.W.mg_of X G b73,F73,F73.b2⟩
 have D74:Def K mg "_law_depths" my mj f74 _:=⟨PySem.W.mg_of X G b74,F74,F74.b1⟩
 have D75:Def K mg "_law_codes" oN oA f75 _:=⟨PySem.W.mg_of X G b75,F75,F75.b2⟩
 have D76:Def K mg "_law_loads" oO oB f76 _:=⟨PySem.W.mg_of X G b76,F76,F76.b3⟩
 have D77:Def K mg "_law_shaft" km oC f77 _:=⟨PySem.W.mg_of X G b77,F77,F77.b1⟩
 have D78:Def K mg "_law_setup" oP oE f78 _:=⟨PySem.W.mg_of X G b78,F78,F78.b2⟩
 have D79:Def K mg "_law_made" rA rg f79 _:=⟨PySem.W.mg_of X G b79,F79,F79.b1⟩
 have D80:Def K mg "_law_by" Ay Al f80 _:=⟨PySem.W.mg_of X G b80,F80,F80.b3⟩
 have D81:Def K mg "_law_swap" rB rh f81 _:=⟨PySem.W.mg_of X G b81,F81,F81.b3⟩
 have D82:Def K mg "_law_lasts" oQ oF f82 _:=⟨PySem.W.mg_of X G b82,F82,F82.b2⟩
 have D83:Def K mg "_law_speed" oR oG f83 _:=⟨PySem.W.mg_of X G b83,F83,F83.b2⟩
 have D84:Def K mg "_law_first" oS oH f84 _:=⟨PySem.W.mg_of X G b84,F84,F84.b1⟩
 have D85:Def K mg "_law_heard" oU oI f85 _:=⟨PySem.W.mg_of X G b85,F85,F85.b2⟩
 have D86:Def K mg "_law_next" rC rj f86 _:=⟨PySem.W.mg_of X G b86,F86,F86.b3⟩
 have D87:Def K mg "_law_call" rD rk f87 _:=⟨PySem.W.mg_of X G b87,F87,F87.b2⟩
 have D88:Def K mg "_law_view" j5 rm f88 _:=⟨PySem.W.mg_of X G b88,F88,F88.b4⟩
 have D89:Def K mg "_law_towards_wind" fj eZ f89 _:=⟨PySem.W.mg_of X G b89,F89,F89.b3⟩
 have D90:Def K mg "_law_towards_load" cX fe f90 _:=⟨PySem.W.mg_of X G b90,F90,F90.b3⟩
 have D91:Def K mg "_law_good_deed" bX ix f91 _:=⟨PySem.W.mg_of X G b91,F91,F91.b3⟩
 have D92:Def K mg "_law_done" rE rn f92 _:=⟨PySem.W.mg_of X G b92,F92,F92.b5⟩
 have D93:Def K mg "_law_day" wH wx f93 _:=⟨PySem.W.mg_of X G b93,F93,F93.b5⟩
 have D94:Def K mg "_law_ask" wI wz f94 _:=⟨PySem.W.mg_of X G b94,F94,F94.b3⟩
 refine ⟨Z,PySem.W.fnOf "law" "law" (fB AB) (cJ AB) (ao AB) .none kV dc pm an cd ct,fun s v=>.of_eq rfl,fun base _ _=>?_⟩
 have G0:=Gq (P:=l.prog) (w:=w) (base:=base) F0 T
 have G4:=EK (P:=l.prog) (w:=w) (base:=base) F4 T
 have G7:=Cb (P:=l.prog) (w:=w) (base:=base) F7 T
 have G8:=zB (P:=l.prog) (w:=w) (base:=base) F8 T
 have G10:=vH (P:=l.prog) (w:=w) (base:=base) F10 T
 have G12:=A6 (P:=l.prog) (w:=w) (base:=base) F12 T
 have G14:=Cc (P:=l.prog) (w:=w) (base:=base) F14 T
 have G17:=zC (P:=l.prog) (w:=w) (base:=base) F17 T
 have G19:=Ce (P:=l.prog) (w:=w) (base:=base) F19 T
 have G22:=zD (P:=l.prog) (w:=w) (base:=base) F22 T
 have G23:=Cf (P:=l.prog) (w:=w) (base:=base) F23 T
 have G25:=Gr (P:=l.prog) (w:=w) (base:=base) F25 T
 have G28:=zE (P:=l.prog) (w:=w) (base:=base) F28 T
 have G29:=Cg (P:=l.prog) (w:=w) (base:=base) F29 T
 have G30:=A8 (P:=l.prog) (w:=w) (base:=base) F30 T
 have G31:=yC (P:=l.prog) (w:=w) (base:=base) F31 T
 have G33:=EL (P:=l.prog) (w:=w) (base:=base) F33 T
 have G35:=A9 (P:=l.prog) (w:=w) (base:=base) F35 T
 have G36:=Gs (P:=l.prog) (w:=w) (base:=base) F36 T
 have G37:=Ba (P:=l.prog) (w:=w) (base:=base) F37 T
 have G38:=EM (P:=l.prog) (w:=w) (base:=base) F38 T
 have G69:=HU (P:=l.prog) (w:=w) (base:=base) F69 T
 have G70:=NC (P:=l.prog) (w:=w) (base:=base) F70 T
 have G71:=JU (P:=l.prog) (w:=w) (base:=base) F71 T
 have G72:=HW (P:=l.prog) (w:=w) (base:=base) F72 T
 have G80:=NF (P:=l.prog) (w:=w) (base:=base) F80 T
 have G81:=JV (P:=l.prog) (w:=w) (base:=base) F81 T
 have G82:=HX (P:=l.prog) (w:=w) (base:=base) F82 T
 have G83:=HY (P:=l.prog) (w:=w) (base:=base) F83 T
 have G84:=HZ (P:=l.prog) (w:=w) (base:=base) F84 T
 have G85:=Ia (P:=l.prog) (w:=w) (base:=base) F85 T
 have G1:=Bi (P:=l.prog) (w:=w) (base:=base) D0 G0 F1 T
 have G2:=Ci (P:=l.prog) (w:=w) (base:=base) D0 G0 F2 T
 have G3:=Bj (P:=l.prog) (w:=w) (base:=base) D0 G0 F3 T
 have G13:=Bk (P:=l.prog) (w:=w) (base:=base) D12 G12 F13 T
 have G16:=zF (P:=l.prog) (w:=w) (base:=base) D12 G12 F16 T
 have G24:=Bl (P:=l.prog) (w:=w) (base:=base) D23 G23 F24 T
 have G34:=Cj (P:=l.prog) (w:=w) (base:=base) D36 G36 F34 T
 have G41:=t6 (P:=l.prog) (w:=w) (base:=base) D36 G36 F41 T
 have G52:=vJ (P:=l.prog) (w:=w) (base:=base) D35 G35 F52 T
 have G54:=t8 (P:=l.prog) (w:=w) (base:=base) D10 G10 F54 T
 have G56:=nh (P:=l.prog) (w:=w) (base:=base) D37 G37 F56 T
 have G57:=EN (P:=l.prog) (w:=w) (base:=base) D36 G36 F57 T
 have G58:=Ck (P:=l.prog) (w:=w) (base:=base) D38 G38 F58 T
 have G59:=zG (P:=l.prog) (w:=w) (base:=base) D17 G17 D37 G37 F59 T
 have G60:=Cm (P:=l.prog) (w:=w) (base:=base) D19 G19 D37 G37 F60 T
 have G61:=Bm (P:=l.prog) (w:=w) (base:=base) D37 G37 F61 T
 have G65:=Bn (P:=l.prog) (w:=w) (base:=base) D7 G7 D37 G37 F65 T
 have G67:=yD (P:=l.prog) (w:=w) (base:=base) D8 G8 D37 G37 F67 T
 have G74:=Gv (P:=l.prog) (w:=w) (base:=base) D71 G71 F74 T
 have G75:=Ib (P:=l.prog) (w:=w) (base:=base) D71 G71 F75 T
 have G76:=Ic (P:=l.prog) (w:=w) (base:=base) D71 G71 F76 T
 have G86:=JZ (P:=l.prog) (w:=w) (base:=base) D80 G80 D81 G81 D82 G82 D83 G83 D85 G85 F86 T
 have G89:=xB (P:=l.prog) (w:=w) (base:=base) D80 G80 F89 T
 have G90:=xC (P:=l.prog) (w:=w) (base:=base) D80 G80 F90 T
 have G5:=EO (P:=l.prog) (w:=w) (base:=base) D8 G8 D2 G2 F5 T
 have G6:=Gx (P:=l.prog) (w:=w) (base:=base) D8 G8 D1 G1 F6 T
 have G9:=yE (P:=l.prog) (w:=w) (base:=base) D1 G1 F9 T
 have G11:=ER (P:=l.prog) (w:=w) (base:=base) D4 G4 F11 T
 have G15:=Cn (P:=l.prog) (w:=w) (base:=base) D1 G1 F15 T
 have G18:=Co (P:=l.prog) (w:=w) (base:=base) D1 G1 F18 T
 have G20:=ES (P:=l.prog) (w:=w) (base:=base) D1 G1 F20 T
 have G21:=Cp (P:=l.prog) (w:=w) (base:=base) D14 G14 F21 T
 have G26:=Bs (P:=l.prog) (w:=w) (base:=base) D24 G24 F26 T
 have G27:=Gy (P:=l.prog) (w:=w) (base:=base) D24 G24 F27 T
 have G39:=yF (P:=l.prog) (w:=w) (base:=base) D30 G30 D41 G41 F39 T
 have G40:=yG (P:=l.prog) (w:=w) (base:=base) D7 G7 D41 G41 F40 T
 have G42:=Cq (P:=l.prog) (w:=w) (base:=base) D4 G4 D14 G14 D22 G22 D28 G28 D31 G31 D33 G33 D3 G3 D13 G13 F42 T
 have G53:=Bu (P:=l.prog) (w:=w) (base:=base) D34 G34 D54 G54 D57 G57 F53 T
 have G64:=td (P:=l.prog) (w:=w) (base:=base) D24 G24 F64 T
 have G77:=Ie (P:=l.prog) (w:=w) (base:=base) D70 G70 D71 G71 D74 G74 D75 G75 F77 T
 have G91:=Bw (P:=l.prog) (w:=w) (base:=base) D89 G89 D90 G90 F91 T
 have G32:=yH (P:=l.prog) (w:=w) (base:=base) D31 G31 D11 G11 D21 G21 F32 T
 have G62:=Bx (P:=l.prog) (w:=w) (base:=base) D37 G37 D64 G64 F62 T
 have G63:=xK (P:=l.prog) (w:=w) (base:=base) D39 G39 D64 G64 F63 T
 have G66:=xM (P:=l.prog) (w:=w) (base:=base) D40 G40 F66 T
 have G68:=xN (P:=l.prog) (w:=w) (base:=base) D37 G37 D9 G9 F68 T
 have G78:=Ig (P:=l.prog) (w:=w) (base:=base) D70 G70 D76 G76 D77 G77 F78 T
 have G43:=Cr (P:=l.prog) (w:=w) (base:=base) D37 G37 D15 G15 D53 G53 D32 G32 F43 T
 have G44:=zH (P:=l.prog) (w:=w) (base:=base) D37 G37 D16 G16 D53 G53 D32 G32 F44 T
 have G45:=Cs (P:=l.prog) (w:=w) (base:=base) D37 G37 D18 G18 D53 G53 D32 G32 F45 T
 have G48:=vL (P:=l.prog) (w:=w) (base:=base) D37 G37 D1 G1 D53 G53 D32 G32 F48 T
 have G51:=Ct (P:=l.prog) (w:=w) (base:=base) D29 G29 D37 G37 D1 G1 D54 G54 D20 G20 D26 G26 D27 G27 D53 G53 D32 G32 F51 T
 have G55:=xR (P:=l.prog) (w:=w) (base:=base) D25 G25 D62 G62 F55 T
 have G73:=J3 (P:=l.prog) (w:=w) (base:=base) (Z:=Z) F73 T D73
 have G79:=J4 (P:=l.prog) (w:=w) (base:=base) D42 G42 F79 T
 have G94:=Ma (P:=l.prog) (w:=w) (base:=base) D63 G63 D66 G66 F94 T
 have G46:=vM (P:=l.prog) (w:=w) (base:=base) D48 G48 F46 T
 have G47:=vN (P:=l.prog) (w:=w) (base:=base) D48 G48 F47 T
 have G49:=Cu (P:=l.prog) (w:=w) (base:=base) D7 G7 D37 G37 D2 G2 D56 G56 D5 G5 D53 G53 D32 G32 D55 G55 F49 T
 have G50:=zI (P:=l.prog) (w:=w) (base:=base) D8 G8 D37 G37 D56 G56 D6 G6 D53 G53 D32 G32 D55 G55 F50 T
 have G88:=Ka (P:=l.prog) (w:=w) (base:=base) D57 G57 D58 G58 D59 G59 D60 G60 D61 G61 D65 G65 D67 G67 D62 G62 D68 G68 D73 G73 F88 T
 have G87:=Kb (P:=l.prog) (w:=w) (base:=base) D52 G52 D43 G43 D44 G44 D45 G45 D51 G51 D46 G46 D47 G47 D49 G49 D50 G50 F87 T
 have G92:=Kc (P:=l.prog) (w:=w) (base:=base) D86 G86 D73 G73 D87 G87 F92 T
 have G93:=Mc (P:=l.prog) (w:=w) (base:=base) D72 G72 D84 G84 D91 G91 D92 G92 F93 T
 exact Qj D69 G69 D70 G70 D78 G78 D73 G73 D79 G79 D94 G94 D88 G88 D93 G93 F95 T
theorem Kd {K:PySem.W.Frag}{Z:Adr}{H:Hp}{a:Addr}{ns:List Int}(hl:ns.length<=63)(hS:SqL K H a (ns.map V.int)){Q:VK}{E:XK}(q:∀H',Q (.bl true) H'):Bz K Z [.ref a] H Q E:=⟨a,ns,rfl,hS,hl,q⟩
def SPl (K:PySem.W.Frag):Sp:=fun vs H Q _=>∃(a:Addr) (ns:List Int),vs=[.ref a]/\SqL K H a (ns.map V.int)/\ns.length<=63/\∀H',Q (.bl true) H'
theorem RP {l:PySem.W.OpenLaw}{q:Program}{loose:List Str}{XP:(Str->Option Value)->Heap->Prop}{YP:World->Heap->Prop}{d:DefRec}{K:Params->PySem.W.Frag}(hn:l.most=some 63)(hdf:d.params.defaults=[])
  (hY:∀(w:World) (h:Heap),YP w h->(K w.params).In h)
  (F:∀(w:World) (mg:Str->Option Value) (fa:Addr) (h:Heap),(K w.params).In h->h.Ns mainGlobals mg->mg d.name=some (.ref fa)->
   ∃Z:Adr,∃fd:FuncData,(∀(s:Shared) (u:Value),BindsTo s fd ⟨[u],[]⟩ [("_law_script",u)])/\∀base:Heap,(K w.params).In base->base.Ns mainGlobals mg->aI l.prog w (K w.params) mg base CX0 10 fa fd ["_law_script"] (Bz (K w.params) Z)) :
  PySem.W.WalkO q loose XP YP l.row.toRowW d [] (fun f vs=>PySem.call f vs):=
 L2.Ms (n:=63) (k:=10) (x:="_law_script") (CX:=fun _=>CX0) (sp:=fun w=>SPl (K w.params)) hn (by decide) hdf ⟨rfl,by decide,by decide⟩ hY
  (fun w mg fa h a b c=>let ⟨Z,fd,b1,b2⟩:=F w mg fa h a b c;⟨fd,b1,fun base x y=>(b2 base x y).imp fun vs H Q E ⟨a,ns,e,hS,hl,q⟩=>by subst e;exact Kd hl hS q⟩) (fun _ _ a ns hl _ hS=>⟨a,ns,rfl,hS,hl,fun _=>rfl⟩) fun _ _ _ _ _ z=>z
end K30
local macro_rules | `(tactic| walk_at "n_is") => `(tactic| (delta L2.NI; k_is))
local macro_rules | `(tactic| walk_at "a_is") => `(tactic| (delta L2.bz; k_is))
local macro_rules | `(tactic| walk_at "i_is") => `(tactic| (apply L2.KI.mk; k_is))
local macro_rules | `(tactic| walk_at "c_is") => `(tactic| (apply L2.Cls.mk; iterate 4 k_is))
local macro_rules | `(tactic| walk_at "o_is") => `(tactic| (apply L2.C0I.mk; k_is; exact rfl; k_is; exact rfl; exact rfl))
local macro_rules | `(tactic| walk_at "x_is") => `(tactic| (apply L2.XI.mk; k_is; k_is; exact rfl; exact rfl; k_is; k_is))
local macro_rules | `(tactic| walk_at "d_is") => `(tactic| (apply L2.DI.mk; iterate 4 k_is))
local macro_rules | `(tactic| walk_at "e_is") => `(tactic| (apply L2.MI.mk; iterate 5 k_is))
local macro_rules | `(tactic| walk_at "t_is") => `(tactic| (apply L2.II.mk; iterate 7 k_is))
open PySem PySem.W PyProof.Rows
set_option maxRecDepth 100000 in
set_option maxHeartbeats 0 in
theorem PySem.Challenge.cw_cagebells_k30_no_such_tick_holds : PySem.Challenge.rw_cagebells_k30_no_such_tick.Holds := by
 refine hd ?_
 k_fill
 refine K30.RP (l:=PySem.Challenge.rw_cagebells_k30_no_such_tick) rfl rfl (fun w h Y=>PySem.W.kIn_of Y) ?F
 case F=>
  intro w mg fa h KX G hmg
  apply K30.Qk KX G hmg
  apply K30.OH.mk
  iterate 14 k_is
  iterate 25 walk_at "n_is"
  iterate 8 walk_at "i_is"
  iterate 4 k_is
  walk_at "c_is"
  iterate 3 walk_at "a_is"
  walk_at "c_is"
  iterate 3 walk_at "a_is"
  walk_at "c_is"
  iterate 4 walk_at "a_is"
  walk_at "c_is"
  iterate 3 walk_at "a_is"
  walk_at "c_is"
  iterate 5 walk_at "a_is"
  walk_at "o_is"
  iterate 19 walk_at "x_is"
  kts_exm
  iterate 2 kit_is
  kts_exm
  iterate 2 kit_is
  kts_exm
  iterate 2 kit_is
  kts_exm
  iterate 2 kit_is
  kts_exm
  iterate 2 kit_is
  kts_exm
  iterate 2 kit_is
  kts_exm
  iterate 2 kit_is
  kts_exm
  iterate 2 kit_is
  kts_exm
  iterate 2 kit_is
  kts_exm
  iterate 2 kit_is
  kts_exm
  iterate 2 kit_is
  kts_exm
  iterate 2 kit_is
  kts_exm
  iterate 2 kit_is
  kts_exm
  iterate 2 kit_is
  kts_exm
  iterate 2 kit_is
  kts_exm
  iterate 2 kit_is
  kts_exm
  iterate 2 kit_is
  kts_exm
  iterate 2 kit_is
  kts_exm
  iterate 2 kit_is
  iterate 4 walk_at "d_is"
  walk_at "t_is"
  iterate 7 walk_at "e_is"
  iterate 2 walk_at "d_is"
  walk_at "t_is"
  iterate 7 walk_at "e_is"
  iterate 9 walk_at "d_is"
  walk_at "t_is"
  walk_at "e_is"
  walk_at "t_is"
  iterate 8 walk_at "e_is"
  walk_at "t_is"
  iterate 26 walk_at "e_is"
  iterate 27 walk_at "d_is"
