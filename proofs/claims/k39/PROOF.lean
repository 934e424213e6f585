import PyProof.Rows.All
import OpenK.KLine
import KE.RegKIsAll
import KE.RegKTryMore
import Lean
import PyProof.EqAt
import PyProof.EqKinds
import PyProof.TupleCall
import KE.KTupSum
import KE.KItem
import PySem.Challenge.RW_cagebells_k39_whole_refused_changes_noth
set_option Elab.async false
set_option linter.all false
set_option maxRecDepth 100000
set_option compiler.extract_closed false
abbrev WA:=PySem.W.Frag
theorem WB{α β}{l:List α}(f:α→β):(l.map f).length=l.length:=List.length_map f
namespace PySem.W.Fast
abbrev T:=True
theorem t:T:=⟨⟩
def tw15341117721837715011:=t
def tw17436376015541107441:=t
def tw9797460103440749248:=t
def tw7074039494965925519:=t
def tw861502493610598483:=t
def tw4665470973931693953:=t
def tw16568970308637319883:=t
def tw13097319391926549752:=t
def tw2224764951876650412:=t
def tw13625530754347173179:=t
def tw1886142198274157871:=t
def tw7774113678449685934:=t
def tw17904286933304434854:=t
def tw15868113528992853466:=t
def tw3870338753099455017:=t
def tw1035953614122953912:=t
def tw8052244275606854038:=t
def tw9289785034321846288:=t
def tw4666538515292985638:=t
def tw115167043885905223:=t
def tw10971829966401845888:=t
def tw4417369394947737604:=t
def tw9721000390032803332:=t
def tw18017129668781235815:=t
def tw17723881924890802966:=t
def tw16257106750822646045:=t
def tw9023412946914863120:=t
def tw6605169337270321112:=t
def tw12307553483252862823:=t
def tw15018716904364860632:=t
def tw7188602182371822397:=t
def tw14565471765716263578:=t
def tw2216542800690825051:=t
def tw12145756527313086355:=t
def tw16006964320088977360:=t
def tw15279809834360698895:=t
def tw10608264512776050515:=t
def tw206757683497733573:=t
def tw5610444585433571239:=t
def tw3507769193172341495:=t
def tw12681666616541194006:=t
def tw11589282660436910429:=t
def tw3033288990309769589:=t
def tw9385439782273163706:=t
def tw2568134279811012961:=t
def tw6124413428159637790:=t
def tw17658959251048325594:=t
def tw10510019762269167821:=t
def tw15413886005781298947:=t
def tw10277146466612453661:=t
def tw525804813940649037:=t
def tw6594970650091316094:=t
def tw4688777705208705752:=t
def tw15572387867429868682:=t
def tw5458571740234265576:=t
def tw10368827614151553891:=t
def tw5269183497594736927:=t
def tw5370981198051040953:=t
def tw17731313482808627303:=t
def tw3238445694619138142:=t
def tw7943549864190904611:=t
def tw5661595848482461739:=t
def tw11362737164128661484:=t
def tw14611616552423853409:=t
def tw2867421004237479119:=t
def tw16506471722634982818:=t
def tw8833860146974802555:=t
def tw4015202173357781934:=t
def tw7766106395892283477:=t
def tw2705429854395057126:=t
def tw256182404569192445:=t
def tw8746904540745865596:=t
def tw9358312197846296583:=t
def tw9847850075989111346:=t
def tw13142635158332540280:=t
def tw5665240888008139550:=t
def tw17951090304560329564:=t
def tw2392593158011319353:=t
def tw1932759071263863916:=t
def tw15287547289013875721:=t
def tw15978794797337165890:=t
def tw2875624504187281209:=t
def tw9045458381397004210:=t
def tw8431482922422412695:=t
def tw10843851513400154316:=t
def tw726351398001015727:=t
def tw16080672043311297529:=t
def tw13716781843517864737:=t
def tw7350462372000428638:=t
def tw18361725300881549022:=t
def tw10373885705245885314:=t
def tw11373181179767321252:=t
def tw1198783387198779033:=t
def tw9786136246686688387:=t
def tw2925816871977632210:=t
def tw16151628708876355199:=t
def tw2424988045566436242:=t
def tw10624116801336726872:=t
def tw7942791058656714990:=t
def tw5277677811754103808:=t
def tw8285600894249078527:=t
def tw9739999909748841315:=t
def tw2546767868308347339:=t
def tw5459702643516471331:=t
def tw134869140600922118:=t
def tw13384656265869573321:=t
def tw15138174406397646402:=t
def tw14958820412457663293:=t
def tw15733337929971156237:=t
def tw5748170370737335489:=t
def tw13937768818610491111:=t
def tw2333531293284704758:=t
def tw15150329256914348856:=t
def tw6651725471809605288:=t
def tw2041926188850086339:=t
def tw15685335758407661847:=t
def tw5086489192560080304:=t
def tw2754379104384642236:=t
def tw3676754643040562684:=t
def tw15227483606004533461:=t
def tw6128106870883400570:=t
def tw14904287247971174143:=t
def tw2754868194923854518:=t
def tw1010972086116683374:=t
def tw16822532161544500889:=t
def tw7181997581385953548:=t
def tw2870957612703475602:=t
def tw6921103065077540406:=t
def tw628631919661052299:=t
def tw3945831679567021610:=t
def tw6942634455013318504:=t
def tw17577329170770402720:=t
def tw3365755272349913518:=t
def tw8319933024895762948:=t
def tw15895094517606616290:=t
def tw8546256303203405941:=t
def tw11151835277377553703:=t
def tw15125770126966510544:=t
def tw11180800956215176064:=t
def tw15401437161963490237:=t
def tw4046790133079468173:=t
def tw4051853165826885262:=t
def tw14196522196718054806:=t
def tw855453113358079251:=t
def tw6248682570935725439:=t
def tw2238811745713579835:=t
def tw6828597562223498359:=t
def tw15495752065017430504:=t
def tw17518593693041627797:=t
def tw7151132215420815488:=t
def tw13710940844802916613:=t
def tw3592811809046731828:=t
def tw12747814925858328940:=t
def tw14963028359598502718:=t
def tw2358075552688931204:=t
def tw12373591211622371556:=t
def tw819570635367399668:=t
def tw1630143524128594353:=t
def tw3581434408401558974:=t
def tw9331231397406362311:=t
def tw1205604411410820431:=t
def tw5522115075389312692:=t
def tw15675013803050531044:=t
def tw3981977580325598530:=t
def tw12188032599808994241:=t
def tw7164969610272591079:=t
def tw2629151800749243262:=t
def tw5233118043267047457:=t
def tw7397212543588705075:=t
def tw9878177214627512989:=t
def tw2694234056635809718:=t
def tw14727194681476072466:=t
def tw6572727418291896362:=t
def tw12330612334027959195:=t
def tw6702445572142316249:=t
def tw14617222483516278133:=t
def tw14607143338591219252:=t
def tw9969077435446430640:=t
def tw937210970483165301:=t
def tw7933485763601977624:=t
def tw13160504802963445071:=t
def tw16203965252921439515:=t
def tw16140922888777852060:=t
def tw3099597729799864441:=t
def tw8521684928402303493:=t
def tw9201617497623189827:=t
def tw18400553757987027518:=t
def tw8171798328758944481:=t
def tw14173793092197918974:=t
def tw14995258362815363992:=t
def tw6084841979344569690:=t
def tw2708214617527550399:=t
def tw9320515035125037321:=t
def tw8297923619242306668:=t
def tw10741264400317747893:=t
def tw11662115353561507501:=t
def tw16859961878692490766:=t
def tw11434409910335936926:=t
def tw2576523973992343609:=t
def tw5662061979359257339:=t
def tw12858089460409395330:=t
def tw10539347186207431242:=t
def tw7478123994339007903:=t
def tw12732229965196715158:=t
def tw4490611911172417597:=t
def tw15888466755372326495:=t
def tw514280064592716601:=t
def tw1149798457248472902:=t
def tw2345282404023599388:=t
def tw987426779421491659:=t
def tw12435058653956393420:=t
def tw17963105932079019327:=t
def tw17980500129456985241:=t
def tw11526606772788702011:=t
def tw13601115934706021691:=t
def tw14849461344987154502:=t
def tw16721508838639397229:=t
def tw1207101557538958131:=t
def tw727924238349540522:=t
def tw18060508904421208200:=t
def tw16873086082458093902:=t
def tw1342123614928995077:=t
def tw16493865465440409018:=t
def tw4884199854448574:=t
def tw9317495090193701157:=t
def tw3456351732281881909:=t
def tw4102176305081739490:=t
def tw7538781388859322016:=t
def tw4413860948169739490:=t
def tw1293241653719404408:=t
def tw375148617187948888:=t
def tw3049343062529576306:=t
def tw7557421358154311045:=t
def tw5364010647548929812:=t
def tw8392358500681263680:=t
def tw15870398105094248349:=t
def tw10295913840692754127:=t
def tw7764699552788554220:=t
def tw8865387616306378214:=t
def tw2259672571474061568:=t
def tw4189273013823423559:=t
def tw16753820520455620202:=t
def tw17267597263503486738:=t
def tw8150244357695641675:=t
def tw15621116118777243554:=t
def tw6597789921013551971:=t
def tw10550934584343373414:=t
def tw7220529860990300233:=t
def tw4327107012436481372:=t
def tw12669407529647801677:=t
def tw8535803893964050539:=t
def tw13053394406489344094:=t
def tw2983494736656345032:=t
def tw17986951261819808105:=t
def tw8432719020341155521:=t
def tw2046362190076281809:=t
def tw15235614512728720:=t
def tw16864618592142003386:=t
def tw1378205811072252300:=t
def tw4538635040379822027:=t
def tw14647417624928369756:=t
def tw5322009542560784348:=t
def tw4903002758410956813:=t
def tw14260533273033392520:=t
def tw18127189064453720709:=t
def tw10149570385669482864:=t
def tw17558320327384617127:=t
def tw2638924239945547994:=t
def tw9818998656811842119:=t
def tw15699961213505342161:=t
def tw4757880891971583632:=t
def tw4470585836733325578:=t
def tw17499849576073844966:=t
def tw5010956058597451964:=t
def tw172746767574481773:=t
def tw2333105410213810865:=t
def tw16005714805435085966:=t
def tw14710976976299594304:=t
def tw2275282789119773048:=t
def tw9553971096990549364:=t
def tw10052031235695348791:=t
def tw1599053048872161195:=t
def tw6631347999910079877:=t
def tw12550775161083096063:=t
def tw3665444673518743966:=t
def tw3233987462203235646:=t
def tw5388589039460942527:=t
def tw12549542988036985293:=t
def tw16773468814595293053:=t
def tw12542895121996172375:=t
def tw16103829930404553856:=t
def tw5171440476677080432:=t
def tw17883462748017686043:=t
def tw10861573186032746274:=t
def tw13996866031312336078:=t
def tw16797375974695604193:=t
def tw13557862171009465336:=t
def tw5306753302271460952:=t
def tw13539809779269347639:=t
def tw3671519592330383864:=t
def tw1484650774730072618:=t
def tw8044325682031459534:=t
def tw12147665669636231765:=t
def tw13631397514672939371:=t
def tw6973427100653255629:=t
def tw1804834754348979943:=t
def tw16522183678017940807:=t
def tw5239429619861171699:=t
def tw2956708394376553000:=t
def tw12125097214300078407:=t
def tw463774138113389760:=t
def tw13215348057498601715:=t
def tw4341293187932698999:=t
def tw18003772858949239459:=t
def tw10282777137419654623:=t
def tw1986786360949550309:=t
def tw14689541978594310382:=t
def tw11657350159256941575:=t
def tw5338801713223979382:=t
def tw13705283562680751584:=t
def tw17614877247268290040:=t
def tw1937721966566455358:=t
def tw14061609134260724683:=t
def tw13508144021097492314:=t
def tw12325864989022198202:=t
def tw4449799235075362730:=t
def tw11205608169257636508:=t
def tw10953238642706405951:=t
def tw8833496514701923757:=t
def tw3817596123196066256:=t
def tw4704452742865826424:=t
def tw4971374062829452455:=t
def tw2167315655227761912:=t
def tw11401859456886640639:=t
def tw11692469974320434101:=t
def tw8047209995159408440:=t
def tw757356599333046425:=t
def tw3778530596728393105:=t
def tw1329382545583022102:=t
def tw17271881437230615512:=t
def tw18101783494082082527:=t
def tw17339309145561079191:=t
def tw8397711864191134371:=t
def tw3208522521903949160:=t
def tw3992765435912101610:=t
def tw10713865542653931438:=t
def tw12954591660760965231:=t
def tw4683681711962371626:=t
def tw2399617604181995578:=t
def tw11564986514327137767:=t
def tw3075201292733833056:=t
def tw6331431999304432861:=t
def tw5226586810942512283:=t
def tw18441984877410159329:=t
def tw6420159726195949164:=t
def tw16607193741793207195:=t
def tw3308634892276815127:=t
def tw13462424878891718212:=t
def tw9536688357841153863:=t
def tw8219003486749837733:=t
def tw7424060955962978353:=t
def tw4548300405975405348:=t
def tw4436474186459923750:=t
def tw3641951560692057861:=t
def tw3042748168174471775:=t
def tw1864683662541468164:=t
def tw17760279517084355780:=t
def tw17590705303994421779:=t
def tw17318462890700432884:=t
def tw14827714588952709054:=t
def tw14760874974797668852:=t
def tw1205274952441263945:=t
def tw13484562703626004877:=t
def tw9461873434466728008:=t
def tw4561898282857576226:=t
def tw10470340158578859262:=t
def tw17338325484393633139:=t
def tw8733291241859026926:=t
def tw14935467056822913822:=t
def tw3985964047577975286:=t
def tw3300257896294614128:=t
def tw7322748291113730364:=t
def tw9860861378791804195:=t
def tw87601786513091389:=t
def tw15702583709834301711:=t
def tw12382822922155266910:=t
def tw785946285636773999:=t
def tw761803264340522177:=t
def tw6208910965292489261:=t
def tw4514232752302053791:=t
def tw4313010194945074917:=t
def tw17721149768220346479:=t
def tw5537553045615171315:=t
def tw3543459598558145280:=t
def tw2941924889016668590:=t
def tw16248296213531012650:=t
def tw15402603294489630176:=t
def tw10826640976665885199:=t
def tw18383651708701053236:=t
def tw3239113980409921550:=t
def tw15254633091992210921:=t
def tw9689729476882780088:=t
def tw8002303944043701648:=t
def tw15590096980072825465:=t
def tw8157277791214410489:=t
def tw9972681490609642005:=t
def tw6607644564249050058:=t
def tw17137270108147033825:=t
def tw14334995849660946996:=t
def tw896239598344801917:=t
def tw431221854992830470:=t
def tw13861969467909019144:=t
def tw16409965706819354750:=t
def tw4635989785427082552:=t
def tw13669536469129627823:=t
def tw8997383693586321770:=t
def tw11962351593759143498:=t
def tw3235425350174046738:=t
def tw11907897558876765624:=t
def tw5890639436620234070:=t
def tw9402243437249704421:=t
def tw8912161614967838395:=t
def tw18418582437962087742:=t
def tw16453263628727151865:=t
def tw17188069144378779261:=t
def tw5055593616971399804:=t
def tw2527701527901579348:=t
def tw3721919958574915784:=t
def tw7509565986652818475:=t
def tw1000662321505670351:=t
def tw9456574344343218679:=t
def tw7480016910919988345:=t
def tw5438652380644606353:=t
def tw15779231459743154856:=t
def tw13757698761724263525:=t
def tw13547939009206843870:=t
def tw12772213712371865176:=t
def tw12020253756985099128:=t
def tw7053471978191194526:=t
def tw9977182230042388008:=t
def tw9879335643197240621:=t
def tw6968137755033780318:=t
def tw6472337539984862722:=t
def tw5702276774652866934:=t
def tw2455152089536381482:=t
def tw2353497105660221152:=t
def tw1979317910248211280:=t
def tw17351735930882485243:=t
def tw16670775579421159206:=t
def tw16120054744476736488:=t
def tw13855379610559885079:=t
def tw12843764043397292189:=t
def tw12269216009862288129:=t
def tw12099505692703838030:=t
def tw11429584451438056573:=t
def tw8950108695139179302:=t
def tw5909976876416983842:=t
def tw14454166528178196959:=t
def tw12524954882073270795:=t
def tw11489344026974618541:=t
def tw10312438410070409164:=t
def tw13813618637161013713:=t
def tw13861322856664149509:=t
def tw599730875272715187:=t
def tw9992116715903482975:=t
def tw8274446707539698164:=t
def tw7374399212775623666:=t
def tw7033223617477252788:=t
def tw7001957589650049515:=t
def tw609457278022895560:=t
def tw261171577418715137:=t
def tw2386784164831690217:=t
def tw17592209452093105858:=t
def tw16654469307462801742:=t
def tw16247262843940693239:=t
def tw13127508451798649013:=t
def tw12488014758255163090:=t
def tw11063759124802658401:=t
def tw727553628536289456:=t
def tw6690350156832105676:=t
def tw6191700953566675008:=t
def tw10026605065719503897:=t
def tw7592715696027808041:=t
def tw699815216081779126:=t
def tw2846267367221353805:=t
def tw1142673529048489019:=t
def tw14746253646979254834:=t
def tw8908233856664302321:=t
def tw938635154573522699:=t
def tw3344036261162260069:=t
def tw6984818610989830729:=t
def tw5449563278759341024:=t
def tw1303901927050219478:=t
def tw8919978131948313185:=t
def tw6900931685637148767:=t
def tw5467331546851215429:=t
def tw3713540243193553862:=t
def tw15554417296805563061:=t
def tw16053306600634468012:=t
def tw16802631365582062104:=t
def tw14940998509354871970:=t
def tw9113380124883318265:=t
def tw4524658085876675188:=t
def tw17877845533520812795:=t
def tw15621415185263527259:=t
def tw14170518179582410385:=t
def tw866717566613908145:=t
def tw2135409205425526673:=t
def tw9433028549170029634:=t
def tw9215358943560890414:=t
def tw9162645422354645296:=t
def tw9003107776662980439:=t
def tw890339118813698166:=t
def tw8222940686941784037:=t
def tw8212203176049278890:=t
def tw7921390202802761869:=t
def tw7485256538410118956:=t
def tw7372170664606466022:=t
def tw7212858340449540239:=t
def tw6508132753307246276:=t
def tw6259241058660970061:=t
def tw6046103115902281144:=t
def tw5711038861398032994:=t
def tw547895379624588593:=t
def tw4483904966330829159:=t
def tw4267111383703672358:=t
def tw2483321941437592071:=t
def tw18402647697222807634:=t
def tw1835071406663858368:=t
def tw18073898193381586223:=t
def tw17694573340227235524:=t
def tw1719895430356276633:=t
def tw16728255500844073214:=t
def tw15481805183316651443:=t
def tw15060872555676474952:=t
def tw14845619989558847073:=t
def tw14441679199631801671:=t
def tw14329579894275425762:=t
def tw13465540834166320765:=t
def tw12627051441459223148:=t
def tw12315944733273679750:=t
def tw11859619671507778021:=t
def tw11525993766095887173:=t
def tw11449968299874610285:=t
def tw11120740854625124088:=t
def tw6105849179199505303:=t
def tw14261769069557060686:=t
def tw9294201344175945319:=t
def tw8159993647027272844:=t
def tw28018229315631829:=t
def tw2400638427578300857:=t
def tw2314633323536394700:=t
def tw14226173905949225808:=t
def tw11456571919066310616:=t
def tw11384182702204212275:=t
def tw1956260828630720203:=t
def tw2692750590507578028:=t
def tw14961746396406840608:=t
def tw9784134513789038367:=t
def tw7501186508268903616:=t
def tw7046044490832178742:=t
def tw7007286002206832825:=t
def tw622995879521568732:=t
def tw4334401890000744311:=t
def tw247591363613054380:=t
def tw1998347030407657756:=t
def tw180266875558373844:=t
def tw17680797132471856694:=t
def tw16925712312323332580:=t
def tw16681507383918705554:=t
def tw15415318616479256277:=t
def tw1474264761786122189:=t
def tw12528533614272120300:=t
def tw10161179621583223854:=t
def tw7631320640757110747:=t
def tw523537741815420091:=t
def tw14904681115217272601:=t
def tw12236101354414956334:=t
def tw9006961074152924250:=t
def tw8565224436197482051:=t
def tw8285278889055680438:=t
def tw8278001386518606062:=t
def tw5221592684559293012:=t
def tw4545961482378311905:=t
def tw211337195705725219:=t
def tw18095796173783872564:=t
def tw15861351967447197489:=t
def tw15565715512253457277:=t
def tw13936439389310444312:=t
def tw13571862603940711859:=t
def tw13073492499399858440:=t
def tw12652081859355081885:=t
def tw12091130801917272685:=t
def tw11066385474520676512:=t
def tw10341888390210383824:=t
def tw10159399881129095643:=t
def tw6953138203311097117:=t
def tw5404398260228975080:=t
def tw5289818103960998278:=t
def tw2768188642542392010:=t
def tw2474200967059427378:=t
def tw9399754086935153974:=t
def tw9304451534382375720:=t
def tw8737599933303070863:=t
def tw8332346137001284160:=t
def tw7926090574327391632:=t
def tw7873786274422454737:=t
def tw7407744344239389898:=t
def tw7387728532749555685:=t
def tw685176793378778422:=t
def tw5672623616920478581:=t
def tw555815775780349263:=t
def tw4309217394794523951:=t
def tw354308444213283272:=t
def tw3500664145855060485:=t
def tw3433779192033484610:=t
def tw2528511596961503537:=t
def tw2228412568605170491:=t
def tw209982475168477708:=t
def tw18352723725473834589:=t
def tw18248855084332350957:=t
def tw17946048357616127039:=t
def tw17525541185626968058:=t
def tw1725486776273817318:=t
def tw16626521671886133394:=t
def tw16086907953836968628:=t
def tw1607123104830579860:=t
def tw15925456577456769635:=t
def tw15771247859494662083:=t
def tw15764947353670896545:=t
def tw15540911362017771936:=t
def tw14903569129155370506:=t
def tw14859695947638507448:=t
def tw14537775516033599862:=t
def tw14522782377427387804:=t
def tw14479964200598819128:=t
def tw14332157829676619468:=t
def tw14172470266813156586:=t
def tw14154597600763967237:=t
def tw14144024108822670751:=t
def tw14143020097148135716:=t
def tw13629772047308552242:=t
def tw13345342141187717317:=t
def tw13307065042914920193:=t
def tw13303234937177203706:=t
def tw13032259773685033708:=t
def tw12773500944031208451:=t
def tw12182174808115992843:=t
def tw11481637867367846703:=t
def tw1129948795310169627:=t
def tw11112856592854345388:=t
def tw10911716485165742097:=t
def tw10206286209542907786:=t
def tw2731476521559533851:=t
def tw9363214764283991203:=t
def tw4580019852769339753:=t
def tw6329614223026926184:=t
def tw7353485770183898095:=t
def tw8232614014015475128:=t
def tw13265978090383273239:=t
def tw12405761042648551022:=t
def tw8006371003960147343:=t
def tw13885670934486923800:=t
def tw243476719192100926:=t
def tw15932183184989994656:=t
def tw9387514328989991554:=t
def tw8646635810480103244:=t
def tw8414355815457870901:=t
def tw6172094611929405055:=t
def tw5953359166732830163:=t
def tw542563422162235373:=t
def tw5395340147747708899:=t
def tw5263133172445716209:=t
def tw3350206127114907401:=t
def tw2983127059725616120:=t
def tw2084650752826471497:=t
def tw17334828202450815106:=t
def tw16670193898709178398:=t
def tw16378183091871739711:=t
def tw16226643914720891334:=t
def tw15036080040530398195:=t
def tw12567650564001988402:=t
def tw12369848792361866835:=t
def tw12314708539913122752:=t
def tw11076892268299887525:=t
def tw11009225556382593827:=t
def tw10988312798546598065:=t
def tw2034817482908223496:=t
def tw9910136688757260964:=t
def tw8854275682344465072:=t
def tw8282588126930224528:=t
def tw6621635546502472408:=t
def tw4843829748527759242:=t
def tw17689344090056996911:=t
def tw14800370929953404514:=t
def tw1420270799746587975:=t
def tw12731152576971404446:=t
def tw10627929193734500438:=t
def tw10118262284458037933:=t
def tw4290864757253303354:=t
def tw6575520176995025181:=t
def tw5449601097390414333:=t
def tw1891733041441978011:=t
def tw17916429707943930468:=t
def tw14577027041581768965:=t
def tw10374632558016547081:=t
def tw4323258101793500111:=t
def tw17410218998227585676:=t
def tw8834805137890396735:=t
def tw6782663255696616371:=t
def tw11215392098479208961:=t
def tw9646623106273453227:=t
def tw8374155422468719031:=t
def tw8356303796347215682:=t
def tw8122695690928665766:=t
def tw7217548393331319763:=t
def tw6798380500665416597:=t
def tw651700358538967526:=t
def tw6338894885288841830:=t
def tw5483103596317574428:=t
def tw5217270863462422736:=t
def tw4693966885379303072:=t
def tw429539710256275620:=t
def tw3419001889969749887:=t
def tw2894314189432023629:=t
def tw1956775160557780875:=t
def tw17348111734160510231:=t
def tw16132249320637822498:=t
def tw14022695629967993375:=t
def tw13141587033338554882:=t
def tw12901003280762261817:=t
def tw11161164713144168021:=t
def tw10406584006884427733:=t
def tw10297410513487048360:=t
def tw643336161829623379:=t
def tw6125853113672642322:=t
def tw296083027919845158:=t
def tw15752536640612570366:=t
def tw6522051377940421278:=t
def tw5285915839522022235:=t
def tw9919008367099125623:=t
def tw772564365185477556:=t
def tw6858818405166986180:=t
def tw6548459193220583526:=t
def tw5994696166404524948:=t
def tw5002640475654186023:=t
def tw447263597446747957:=t
def tw443766864951011646:=t
def tw3475869608268796686:=t
def tw3303267245142563540:=t
def tw2950685276103557050:=t
def tw18105302477358141223:=t
def tw1717767836212652739:=t
def tw16682895059504647277:=t
def tw16615150188913437886:=t
def tw16108870410212019532:=t
def tw16101134707931498060:=t
def tw1495895850433845275:=t
def tw14520296925931582552:=t
def tw13812277999558781770:=t
def tw13421457143807847188:=t
def tw12459912946257978736:=t
def tw10258873121960336067:=t
def tw9848817304349107530:=t
def tw8760152093665844161:=t
def tw8080008513338510535:=t
def tw615563214671542189:=t
def tw5832305185047221409:=t
def tw5444512763150141072:=t
def tw5362036446546632119:=t
def tw4039707410889071942:=t
def tw2595618661548880785:=t
def tw2403389108928632939:=t
def tw18328257000508772394:=t
def tw15539815450414544023:=t
def tw15173544498738437827:=t
def tw14703100239697439463:=t
def tw13444670453868202053:=t
def tw10910644110388302437:=t
def tw2483420100392427323:=t
def tw1825952489489211193:=t
def tw16756451883985382160:=t
def tw10510056951384868246:=t
def tw9404705873571188630:=t
def tw6822071536725586909:=t
def tw446995266069924076:=t
def tw2244103112122482387:=t
def tw1915925776726481438:=t
def tw1708089923452030704:=t
def tw14391293386007564604:=t
def tw3919386906821981792:=t
def tw9510108024173832781:=t
def tw6356304189028158447:=t
def tw6327569006664949090:=t
def tw6162269159774324313:=t
def tw4096438862311573950:=t
def tw3717076922277056940:=t
def tw3300454383303005205:=t
def tw2570914705882880060:=t
def tw2078950565319712143:=t
def tw16860917588515726111:=t
def tw16723463757517087524:=t
def tw16279288168775177219:=t
def tw14847308668706973960:=t
def tw14842496431369740429:=t
def tw13953587524928339648:=t
def tw13034982811429478159:=t
def tw10698057553749749337:=t
def tw9869809959619462935:=t
def tw14785633479632635281:=t
def tw12528221419883600679:=t
def tw11512705759438076691:=t
def tw11207431853666184334:=t
def tw9381626543082597023:=t
def tw8840235324560252208:=t
def tw8413399678365625193:=t
def tw8179860101808600119:=t
def tw786537726763496527:=t
def tw7484994123860896570:=t
def tw7050804516273991350:=t
def tw5240077947681225987:=t
def tw3538781236444307513:=t
def tw2285686636504529566:=t
def tw18384110700954362821:=t
def tw18335596039185421423:=t
def tw17160835175205238506:=t
def tw16746677531222629524:=t
def tw14556482736207283325:=t
def tw14474530201714352570:=t
def tw13851515409511356469:=t
def tw13298828918039433023:=t
def tw13255938527306859382:=t
def tw12884060626414724322:=t
def tw12053924596057091436:=t
def tw11824586356888161845:=t
def tw11793702604926673555:=t
def tw11566098044289413073:=t
def tw10988764466652934233:=t
def tw9950792792127014553:=t
def tw9931937742245647033:=t
def tw9806118890596472461:=t
def tw9796564346219866840:=t
def tw977512076041815475:=t
def tw9768418358887946270:=t
def tw9757595895972200118:=t
def tw9719393640593047967:=t
def tw9679390387850249182:=t
def tw9678289623588505577:=t
def tw9676783613728631035:=t
def tw9630203353718772412:=t
def tw9619071485814978506:=t
def tw9592521066531166775:=t
def tw9592300441314626372:=t
def tw9584292182412213727:=t
def tw9530734954097333506:=t
def tw9496581404884138560:=t
def tw9495317472360511255:=t
def tw9461912720999461741:=t
def tw9316815775250114193:=t
def tw9223045988441327695:=t
def tw908480701973217441:=t
def tw8996207646774452837:=t
def tw8995945545434573385:=t
def tw8981176238543900561:=t
def tw896878414759379649:=t
def tw8924819469995637033:=t
def tw8915285831880473931:=t
def tw885948055608056263:=t
def tw8757255369765604158:=t
def tw8752102160057688731:=t
def tw8739830900816887780:=t
def tw866652123128751154:=t
def tw8622715204490130888:=t
def tw86012387029904805:=t
def tw8480184845173159842:=t
def tw8428246938381088814:=t
def tw8412748745612879247:=t
def tw8349214307167005616:=t
def tw8331849164307833061:=t
def tw8318101203651539667:=t
def tw8293125293789966914:=t
def tw8272569733616993153:=t
def tw8210202977690762169:=t
def tw8191318114535113306:=t
def tw8185545411690514434:=t
def tw8166255043249204926:=t
def tw8060666987683057360:=t
def tw7998583776865276027:=t
def tw7985883749528016586:=t
def tw7873748247521183178:=t
def tw7867829370405329436:=t
def tw7828442866392281868:=t
def tw7792700002687035005:=t
def tw7787813539459594420:=t
def tw7777189000029798807:=t
def tw7770478706760583155:=t
def tw7611196895359807804:=t
def tw7607420049574824106:=t
def tw7520747337044880989:=t
def tw7422445781565681216:=t
end PySem.W.Fast
section
open PySem PySem.W PyProof.Rows
set_option maxHeartbeats 0 in
open_top hd for PySem.Challenge.rw_cagebells_k39_whole_refused_changes_noth
end
set_option Elab.async false
set_option linter.all false
set_option maxRecDepth 100000
namespace L2
open PySem PySem.Spec PyProof.Rows
abbrev Key:=Sum Int Str
def O1:Key->Value->Bool
 | .inl k,v=>Value.isInt k v
 | .inr x,v=>Value.isStrOf x v
def Su (w:World):Key->Int
 | .inl k=>hashInt k
 | .inr x=>hashStr w x
theorem dO:∀{k:Key} {v:Value},O1 k v=true->(∃i t,k=Sum.inl i/\v=Value.int i t)\/(∃x t,k=Sum.inr x/\v=Value.str x t)
 | .inl i,v,h=>by
  obtain ⟨t,e⟩:=Value.isInt_shape (k:=i) (v:=v) h
  exact .inl ⟨i,t,rfl,e⟩
 | .inr x,v,h=>by
  obtain ⟨t,e⟩:=Value.isStrOf_shape (x:=x) (v:=v) h
  exact .inr ⟨x,t,rfl,e⟩
theorem PL (a b:Int):decide ((Sum.inl a:Key)=Sum.inl b)=(a == b):=by
 by_cases e:a=b
 ·subst e;simp
 ·have h:¬(Sum.inl a:Key)=Sum.inl b:=fun q=>e (Sum.inl.inj q)
  rw [decide_eq_false h]
  exact (beq_eq_false_iff_ne.mpr e).symm
theorem PM (a b:Str):decide ((Sum.inr a:Key)=Sum.inr b)=decide (a=b):=by
 by_cases e:a=b
 ·subst e;simp
 ·have h:¬(Sum.inr a:Key)=Sum.inr b:=fun q=>e (Sum.inr.inj q)
  rw [decide_eq_false h,decide_eq_false e]
theorem PN (a:Int)(b:Str):decide ((Sum.inl a:Key)=Sum.inr b)=false:=decide_eq_false (fun q=>nomatch q)
theorem PQ (a:Str)(b:Int):decide ((Sum.inr a:Key)=Sum.inl b)=false:=decide_eq_false (fun q=>nomatch q)
def Dg (prog:Program)(w:World):PySem.KeyKind prog w Key where
 is:=O1
 hash:=Su w
 inj:=fun v a b ha hb=>by
  rcases dO ha with ⟨i,t,rfl,rfl⟩ | ⟨x,t,rfl,rfl⟩
  ·rcases dO hb with ⟨j,u,rfl,e⟩ | ⟨y,u,rfl,e⟩
   ·injection e with e1 _;rw [e1]
   ·exact nomatch e
  ·rcases dO hb with ⟨j,u,rfl,e⟩ | ⟨y,u,rfl,e⟩
   ·exact nomatch e
   ·injection e with e1 _;rw [e1]
 byValue:=fun k v h=>by
  rcases dO h with ⟨i,t,rfl,rfl⟩ | ⟨x,t,rfl,rfl⟩<;>rfl
 pyHash:=fun hv h=>by
  rcases dO hv with ⟨i,t,rfl,rfl⟩ | ⟨x,t,rfl,rfl⟩
  ·exact wpAny_pyHash_int h
  ·exact wpAny_pyHash_str h
 eqBool:=fun hu hv h=>by
  rcases dO hu with ⟨i,t,rfl,rfl⟩ | ⟨x,t,rfl,rfl⟩
  ·rcases dO hv with ⟨j,u,rfl,rfl⟩ | ⟨y,u,rfl,rfl⟩
   ·rw [PL] at h;exact wpAny_eqBool_int h
   ·rw [PN] at h;exact SeqAt.EqAt.int_str i t y u _ _ _ _ h
  ·rcases dO hv with ⟨j,u,rfl,rfl⟩ | ⟨y,u,rfl,rfl⟩
   ·rw [PQ] at h;exact SeqAt.EqAt.str_int x t j u _ _ _ _ h
   ·rw [PM] at h;exact wpAny_eqBool_str h
 «strs»:=fun k x t v h=>by
  rcases dO h with ⟨i,u,rfl,e⟩ | ⟨y,u,rfl,e⟩
  ·exact nomatch e
  ·injection e with e1 _
   subst e1
   cases v<;>rfl
inductive V where
 | non | bl (b:Bool) | int (i:Int) | str (x:Str) | byt (b:Array UInt8) | flt (b:UInt64) | ref (a:Addr) | ty (n:String)
 deriving DecidableEq
def bT:V->Value->Prop
 | .non,u=>u=Value.none
 | .bl b,u=>u=Value.bool b
 | .int i,u=>∃t,u=Value.int i t
 | .str x,u=>∃t,u=Value.str x t
 | .byt b,u=>∃t,u=Value.bytes b t
 | .flt b,u=>∃t,u=Value.float b t
 | .ref a,u=>u=Value.ref a
 | .ty n,u=>u=Value.type n
abbrev bF:List V->List Value->Prop:=Paired bT
theorem bF.length {xs:List V}{us:List Value}(r:bF xs us):xs.length=us.length:=Paired.length r
theorem bF.get:∀{xs:List V} {us:List Value} {i:Nat} {x:V},bF xs us->xs[i]?=some x->∃u,us[i]?=some u/\bT x u
 | _,_,_,_,.nil,e=>by simp at e
 | _,_,0,_,.cons r _,e=>by simp at e;subst e;exact ⟨_,rfl,r⟩
 | _,_,i+1,x,.cons _ t,e=>by
  obtain ⟨u,h1,h2⟩:=bF.get (i:=i) (x:=x) t (by simpa using e)
  exact ⟨u,by simpa using h1,h2⟩
theorem bF.set {x:V}{u:Value}(r:bT x u):∀{xs:List V} {us:List Value} (i:Nat),bF xs us->bF (xs.set i x) (us.set i u)
 | _,_,_,.nil=>.nil
 | _,_,0,.cons _ t=>.cons r t
 | _,_,i+1,.cons q t=>.cons q (bF.set r i t)
theorem bF.append:∀{xs ys:List V} {us ws:List Value},bF xs us->bF ys ws->bF (xs++ys) (us++ws)
 | _,_,_,_,.nil,s=>s
 | _,_,_,_,.cons r t,s=>.cons r (bF.append t s)
theorem bF.take:∀{xs:List V} {us:List Value} (n:Nat),bF xs us->bF (xs.take n) (us.take n)
 | _,_,0,_=>.nil
 | _,_,_+1,.nil=>.nil
 | _,_,n+1,.cons r t=>.cons r (bF.take n t)
theorem bF.drop:∀{xs:List V} {us:List Value} (n:Nat),bF xs us->bF (xs.drop n) (us.drop n)
 | _,_,0,r=>r
 | _,_,_+1,.nil=>.nil
 | _,_,n+1,.cons _ t=>bF.drop n t
def AU:Option V->Option Value->Prop
 | some v,some u=>bT v u
 | none,none=>True
 | _,_=>False
def KV {κ:Type}:List (κ×V)->List (κ×Value)->Prop:=Paired fun (p:κ×V) (q:κ×Value)=>p.1=q.1/\bT p.2 q.2
def kV:Key->V
 | .inl i=>.int i
 | .inr x=>.str x
inductive HO where
 | lst (xs:List V)
 | tup (xs:List V)
 | dK (kvs:List (Key×V)) | dT (kvs:List (List Key×V))
 | set (S:Int->Bool) (n:Nat)
 | ins (C dx:Addr) (fs:List (Str×V))
 | own (x:Addr)
 | xd (fs:List (Str×V))
 | met (f x:Addr)
 | rng (lo hi:Int)
 | frz (o:Obj) (u:HO)
 | tbl (ps:Array Value)
 | ext (φ:Heap->Prop)
abbrev Hp:=Addr->Option HO
def upd (H:Hp)(a:Addr)(o:HO):Hp:=fun b=>if b=a then some o else H b
theorem ag {H:Hp}{a:Addr}{o:HO}:upd H a o a=some o:=by unfold upd;rw [if_pos rfl]
theorem aN {H:Hp}{a b:Addr}{o:HO}(h:b≠a):upd H a o b=H b:=by unfold upd;rw [if_neg h]
theorem Nn {H:Hp}{a:Addr}{o u:HO}:upd (upd H a o) a u=upd H a u:=by
 funext b;unfold upd;split<;>rfl
theorem ak {H:Hp}{a b:Addr}{o:HO}(h:H a=some o)(h':H b=none):a≠b:=by
 intro e;subst e;rw [h] at h';cases h'
def jb (h:Heap)(a:Addr)(items:Array Value):Prop:=∃o,h.get? a=some o/\(o.cls=.type "tuple"/\∃n,o.data=.seq items n)/\o.dict=none
theorem jb.tup {h:Heap}{a:Addr}{items:Array Value}(x:jb h a items):IsTup h a items:=let ⟨o,e,c,_⟩:=x;⟨o,e,c⟩
theorem jb.lt {h:Heap}{a:Addr}{items:Array Value}(x:jb h a items):a < h.objs.size:=let ⟨_,e,_⟩:=x;Heap.lt_size e
theorem jb.new (h:Heap)(items:Array Value):jb (h.push {cls:=.type "tuple",data:=.seq items}) h.objs.size items:=⟨_,Heap.get?_push_size _ rfl,⟨rfl,_,rfl⟩,rfl⟩
section
variable (P:Program)(w:World)
def fY (H:Hp)(h:Heap)(a:Addr):HO->Prop
 | .lst xs=>xs.length<=sizeLine/\∃(its:List Value) (n:Nat),bF xs its/\h.get? a=some {cls:=.type "list",data:=.seq its.toArray n}
 | .tup xs=>xs.length<=sizeLine/\∃its:List Value,bF xs its/\jb h a its.toArray
 | .dK kvs=>kvs.length<=sizeLine/\(a == sysModules)=false/\∃vs,KV kvs vs/\h.DictOf (Dg P w) a vs
 | .dT kvs=>kvs.length<=sizeLine/\(a == sysModules)=false/\∃xs:List (List Key×Addr×Value),
   Paired (fun (p:List Key×V) (q:List Key×Addr×Value)=>p.1=q.1/\H q.2.1=some (.tup (p.1.map kV))/\bT p.2 q.2.2) kvs xs/\
   ∃o es ep,h.get? a=some o/\o.ExactDict/\o.data=.dict es ep/\es.toList=xs.map (entryOfKey (tupleKind (Dg P w)))/\(xs.map (·.1)).Nodup
 | .set S n=>h.SetOf (intKind P w) a S n
 | .ins C dx fs=>H dx=some (.own a)/\fs.length<=1000/\dx≠a/\h.get? a=some (W.instObj C dx)/\
   ∃mA,h.Ns1 dx mA/\(∀f,AU (fs.lookup f) (mA f))/\PySem.Within mA (fs.map (·.1))
 | .own _=>∃o,h.get? a=some o
 | .xd fs=>∃mA,h.Ns1 a mA/\∀f,AU (fs.lookup f) (mA f)
 | .rng lo hi=>∃t u v,h.get? a=some {cls:=.type "range",data:=.fields #[.int lo t,.int hi u,.int 1 v]}
 | .frz o u=>h.get? a=some o/\fY H h a u
 | .tbl ps=>h.get? a=some {cls:=.none,data:=.fields ps}
 | .met f x=>h.get? a=some (W.methodObj (.ref f) (.ref x))
 | .ext φ=>φ h/\(∃o,h.get? a=some o)/\∀h1 h2:Heap,φ h1->(∀o,h1.get? a=some o->h2.get? a=some o)->φ h2
def HOk (H:Hp)(h:Heap):Prop:=∀a o,H a=some o->fY P w H h a o
end
section
variable {P:Program}{w:World}{H H':Hp}{h h':Heap}{a:Addr}{o:HO}
theorem fY.lt (x:fY P w H h a o):a < h.objs.size:=by
 cases o with
 | lst xs=>obtain ⟨_,_,_,_,e⟩:=x;exact Heap.lt_size e
 | tup xs=>obtain ⟨_,_,_,p⟩:=x;exact p.lt
 | dK kvs=>obtain ⟨_,_,_,_,o,_,_,e,_⟩:=x;exact Heap.lt_size e
 | dT kvs=>obtain ⟨_,_,_,_,o,_,_,e,_⟩:=x;exact Heap.lt_size e
 | set S n=>obtain ⟨o,_,_,_,e,_⟩:=x;exact Heap.lt_size e
 | ins C dx fs=>obtain ⟨_,_,_,e,_⟩:=x;exact Heap.lt_size e
 | own y=>obtain ⟨_,e⟩:=x;exact Heap.lt_size e
 | xd fs=>obtain ⟨_,⟨_,_,_,e,_⟩,_⟩:=x;exact Heap.lt_size e
 | rng lo hi=>obtain ⟨_,_,_,e⟩:=x;exact Heap.lt_size e
 | frz ob u=>obtain ⟨e,_⟩:=x;exact Heap.lt_size e
 | tbl ps=>exact Heap.lt_size (show h.get? a=some _ from x)
 | met f y=>exact Heap.lt_size (show h.get? a=some _ from x)
 | ext φ=>obtain ⟨_,⟨_,e⟩,_⟩:=x;exact Heap.lt_size e
theorem Paired.mapP {α β:Type}{F G:α->β->Prop}:∀{l₁:List α} {l₂:List β},Paired F l₁ l₂->(∀a b,F a b->G a b)->Paired G l₁ l₂
 | _,_,.nil,_=>.nil
 | _,_,.cons r t,f=>.cons (f _ _ r) (Paired.mapP t f)
theorem fY.stay (x:fY P w H h a o)(k:∀b u,(b=a\/H b=some (.own a))->h.get? b=some u->h'.get? b=some u)
  (ho:∀b,H b=some (.own a)->H' b=some (.own a)) (ht:∀b xs,H b=some (.tup xs)->H' b=some (.tup xs)):fY P w H' h' a o:=by
 induction o with
 | lst xs=>obtain ⟨z,its,n,r,e⟩:=x;exact ⟨z,its,n,r,k _ _ (.inl rfl) e⟩
 | tup xs=>obtain ⟨z,its,r,ob,e,c⟩:=x;exact ⟨z,its,r,ob,k _ _ (.inl rfl) e,c⟩
 | dK kvs=>obtain ⟨z,y,vs,r,ob,es,ep,e,c⟩:=x;exact ⟨z,y,vs,r,ob,es,ep,k _ _ (.inl rfl) e,c⟩
 | dT kvs=>
  obtain ⟨z,y,xs,r,ob,es,ep,e,c⟩:=x
  exact ⟨z,y,xs,Paired.mapP r fun p q z=>⟨z.1,ht _ _ z.2.1,z.2.2⟩,ob,es,ep,k _ _ (.inl rfl) e,c⟩
 | set S n=>obtain ⟨ob,es,ep,t,e,c⟩:=x;exact ⟨ob,es,ep,t,k _ _ (.inl rfl) e,c⟩
 | ins C dx fs=>
  obtain ⟨d,z,ne,e,mA,⟨od,es,ep,e2,c⟩,r⟩:=x
  exact ⟨ho _ d,z,ne,k _ _ (.inl rfl) e,mA,⟨od,es,ep,k _ _ (.inr d) e2,c⟩,r⟩
 | own y=>obtain ⟨ob,e⟩:=x;exact ⟨ob,k _ _ (.inl rfl) e⟩
 | xd fs=>obtain ⟨mA,⟨od,es,ep,e,c⟩,r⟩:=x;exact ⟨mA,⟨od,es,ep,k _ _ (.inl rfl) e,c⟩,r⟩
 | rng lo hi=>obtain ⟨t,u,v,e⟩:=x;exact ⟨t,u,v,k _ _ (.inl rfl) e⟩
 | frz ob u ih=>obtain ⟨e,q⟩:=x;exact ⟨k _ _ (.inl rfl) e,ih q⟩
 | tbl ps=>
  have e:h.get? a=some {cls:=.none,data:=.fields ps}:=x
  show h'.get? a=some {cls:=.none,data:=.fields ps}
  exact k a _ (.inl rfl) e
 | met f y=>
  have e:h.get? a=some (W.methodObj (.ref f) (.ref y)):=x
  show h'.get? a=some (W.methodObj (.ref f) (.ref y))
  exact k a _ (.inl rfl) e
 | ext φ=>obtain ⟨p,⟨o,e⟩,st⟩:=x;exact ⟨st _ _ p fun o q=>k _ _ (.inl rfl) q,⟨o,k _ _ (.inl rfl) e⟩,st⟩
theorem HOk.lt (x:HOk P w H h)(e:H a=some o):a < h.objs.size:=(x a o e).lt
theorem HOk.fresh (x:HOk P w H h)(e:h.objs.size<=a):H a=none:=by
 cases q:H a with
 | none=>rfl
 | some u=>exact absurd (Nat.lt_of_lt_of_le (x.lt q) e) (Nat.lt_irrefl _)
theorem HOk.kept (x:HOk P w H h)(k:∀b u,h.get? b=some u->h'.get? b=some u):HOk P w H h':=fun a o e=>
 (x a o e).stay (fun b u _ q=>k b u q) (fun _ q=>q) fun _ _ q=>q
theorem HOk.laid (x:HOk P w H h)(k:∀b u,h.get? b=some u->h'.get? b=some u)(hp:h.objs.size<=a)(new:fY P w (upd H a o) h' a o):HOk P w (upd H a o) h':=fun b u e=>by
 have hn:=x.fresh hp
 by_cases hb:b=a
 ·subst hb;rw [ag] at e;cases e;exact new
 ·rw [aN hb] at e
  exact (x b u e).stay (fun c v _ q=>k c v q) (fun c q=>by rw [aN (ak q hn)];exact q) fun c xs q=>by rw [aN (ak q hn)];exact q
end
def Rd (H:Hp)(a:Addr)(u:HO):Prop:=H a=some u\/∃o,H a=some (.frz o u)
theorem Rd.ok {P:Program}{w:World}{H:Hp}{h:Heap}{a:Addr}{u:HO}(r:Rd H a u)(x:HOk P w H h):fY P w H h a u:=by
 rcases r with r | ⟨o,r⟩
 ·exact x a u r
 ·obtain ⟨_,q⟩:=x a _ r
  exact q
def Mut:Option HO->Prop
 | some (.lst _)=>True
 | some (.dK _)=>True
 | some (.dT _)=>True
 | some (.set _ _)=>True
 | some (.ins _ _ _)=>True
 | some (.ext _)=>True
 | _=>False
section
variable {P:Program}{w:World}{H:Hp}{h h':Heap}{x e:Addr}{o':HO}
theorem HOk.write (ok:HOk P w H h)(mu:Mut (H x))(he:e=x\/H e=some (.own x))(k:∀b u,b≠e->h.get? b=some u->h'.get? b=some u)(heo:∃u,h'.get? e=some u)
  (new:fY P w (upd H x o') h' x o'):HOk P w (upd H x o') h':=fun b u q=>by
 have nown:∀c y,H c=some (.own y)->c≠x:=fun c y r z=>by subst z;rw [r] at mu;exact mu
 have ntup:∀c xs,H c=some (.tup xs)->c≠x:=fun c xs r z=>by subst z;rw [r] at mu;exact mu
 by_cases hb:b=x
 ·subst hb;rw [ag] at q;cases q;exact new
 ·rw [aN hb] at q
  by_cases hbe:b=e
  ·have q':H b=some (.own x):=by
    rcases he with z | z
    ·exact absurd (hbe.trans z) hb
    ·rw [hbe];exact z
   rw [q] at q';cases q'
   obtain ⟨v,hv⟩:=heo
   exact ⟨v,by rw [hbe];exact hv⟩
  ·refine (ok b u q).stay (fun c v hc r=>k c v ?_ r) (fun c r=>by rw [aN (nown c b r)];exact r) fun c xs r=>by rw [aN (ntup c xs r)];exact r
   rcases hc with rfl | hc
   ·exact hbe
   ·rintro rfl
    rcases he with z | z
    ·exact nown c b hc z
    ·rw [hc] at z;cases z;exact hb rfl
end
structure Un (fs ex:List Addr)(H H':Hp)(h h':Heap):Prop where
 keep:∀b o,h.get? b=some o->H b=none->b∉fs->b∉ex->h'.get? b=some o
 slot:∀b o,h.get? b=some o->H b=none->b∈fs->b∉ex->∃sl,h'.get? b=some {o with slots:=sl}
 free:∀b o,h.get? b=some o->H b=none->b∉ex->H' b=none
 there:∀b o,h.get? b=some o->b∉ex->∃o',h'.get? b=some o'
 tups:∀b xs,H b=some (.tup xs)->H' b=some (.tup xs)
 frzs:∀b o u,H b=some (.frz o u)->H' b=some (.frz o u)
 tbls:∀b ps,H b=some (.tbl ps)->∃more,H' b=some (.tbl (ps++more))
section
variable {fs fs' ex ex':List Addr}{H H1 H2:Hp}{h h1 h2 h':Heap}{a x e:Addr}{o:HO}
theorem Un.any (u:Un fs ex H H1 h h1){b:Addr}{ob:Obj}(q:h.get? b=some ob)(n:H b=none)(hx:b∉ex):∃sl,h1.get? b=some {ob with slots:=sl}:=by
 by_cases hb:b∈fs
 ·exact u.slot b ob q n hb hx
 ·exact ⟨ob.slots,u.keep b ob q n hb hx⟩
theorem Un.kept (k:∀b u,h.get? b=some u->h'.get? b=some u):Un fs ex H H h h':=
 ⟨fun b ob q _ _ _=>k b ob q,fun b ob q _ _ _=>⟨ob.slots,k b ob q⟩,fun _ _ _ n _=>n,fun b ob q _=>⟨ob,k b ob q⟩,fun _ _ q=>q,fun _ _ _ q=>q,fun _ ps q=>⟨#[],by rw [q];simp⟩⟩
theorem Un.refl:Un fs ex H H h h:=Un.kept fun _ _ q=>q
theorem Un.laid (k:∀b u,h.get? b=some u->h'.get? b=some u)(hp:h.objs.size<=a)(hn:H a=none):Un fs ex H (upd H a o) h h' where
 keep:=fun b u q _ _ _=>k b u q
 slot:=fun b u q _ _ _=>⟨u.slots,k b u q⟩
 free:=fun b u q n _=>by rw [aN (Nat.ne_of_lt (Nat.lt_of_lt_of_le (Heap.lt_size q) hp))];exact n
 there:=fun b u q _=>⟨u,k b u q⟩
 tups:=fun b xs q=>by rw [aN (ak q hn)];exact q
 frzs:=fun b u xs q=>by rw [aN (ak q hn)];exact q
 tbls:=fun b ps q=>⟨#[],by rw [aN (ak q hn),q];simp⟩
theorem Un.write (mu:Mut (H x))(he:e=x\/H e=some (.own x))(k:∀b u,b≠e->h.get? b=some u->h'.get? b=some u)(heo:∃u,h'.get? e=some u):Un fs ex H (upd H x o) h h':=by
 have hx:∀b,H b=none->b≠x:=fun b n z=>by subst z;rw [n] at mu;exact mu
 have hb:∀b,H b=none->b≠e:=fun b n z=>by
  subst z
  rcases he with r | r
  ·exact hx b n r
  ·rw [n] at r;cases r
 have hm:∀b u,H b=some u->¬Mut (some u)->b≠x:=fun b u q nm z=>by subst z;rw [q] at mu;exact nm mu
 refine ⟨fun b u q n _ _=>k b u (hb b n) q,fun b u q n _ _=>⟨u.slots,k b u (hb b n) q⟩,fun b u q n _=>by rw [aN (hx b n)];exact n,fun b u q _=>?_,
  fun b xs q=>by rw [aN (hm b _ q fun z=>z)];exact q,fun b u xs q=>by rw [aN (hm b _ q fun z=>z)];exact q,fun b ps q=>⟨#[],by rw [aN (hm b _ q fun z=>z),q];simp⟩⟩
 by_cases hbe:b=e
 ·subst hbe;exact heo
 ·exact ⟨u,k b u hbe q⟩
end
def trk (h:Heap)(H:Hp):List Addr:=(List.range h.objs.size).filter fun a=>(H a).isSome
def Dh (h:Heap)(H:Hp):Heap:=W.hideAll h (trk h H)
theorem J1 (h:Heap)(H:Hp):(Dh h H).objs.size=h.objs.size:=W.hideAll_size _ _
theorem Li {h:Heap}{H:Hp}{b:Addr}{o:Obj}(e:h.get? b=some o)(n:H b=none):(Dh h H).get? b=some o:=
 W.hideAll_get _ e fun hm=>by
  have q:(H b).isSome=true:=(List.mem_filter.mp hm).2
  rw [n] at q;simp at q
theorem Np {h:Heap}{H:Hp}{b:Addr}{o:Obj}(e:(Dh h H).get? b=some o):h.get? b=some o/\H b=none:=by
 have e':h.get? b=some o:=W.of_hideAll (trk h H) e
 refine ⟨e',?_⟩
 cases q:H b with
 | none=>rfl
 | some x=>
  have hm:b∈trk h H:=List.mem_filter.mpr ⟨List.mem_range.mpr (Heap.lt_size e'),by simp [q]⟩
  have z:(Dh h H).get? b=none:=W.hideAll_none (trk h H) hm
  rw [z] at e;cases e
def Nq (g h:Heap)(L:Addr):List (Addr×Obj):=(List.range h.objs.size).filterMap fun a=>if a=L\/(g.get? a).isSome=true then none else (h.get? a).map fun o=>(a,o)
def wj (g h:Heap)(L d:Addr):List (Addr×Obj):=(Nq g h L).filter fun p=>decide (p.1≠d)
structure Mod (K:WA)(mg:Str->Option Value)(base:Heap):Prop where
 kin:K.In base
 glob:base.Ns mainGlobals mg
 blt:∃mb,base.Ns builtinsNs mb/\∀x:Str,x≠"__name__"->mb x=bootBuiltins x
 nolimit:base.NoLimit
structure Cx where
 prog:Program
 w:World
 K:WA
 mg:Str->Option Value
 base:Heap
 A:Around
 N:List Str
 s₀:Shared
 H₀:Hp
 env:Env
 outer:List Env
 stack:List Env
 ex:List Addr
 fn:Str->Bool
 calm:Bool
 pn:List (Addr×Obj)
 xe:Value->Shared->Prop
def frs (l:List Env):List Addr:=l.filterMap (·.frame)
abbrev Cx.fs (X:Cx):List Addr:=frs X.outer
def Vis (sc:Scope)(x:Str):Prop:=sc.names.lookup x=some .local\/sc.names.lookup x=some .cell\/sc.names.lookup x=some .free
def Loc (sc:Scope)(x:Str):Prop:=sc.names.lookup x=some .local\/sc.names.lookup x=some .cell
def Sv (env:Env)(h:Heap)(m:Str->Option Value)(x:Str)(u:Value):Prop:=
 (env.kindOf x=some .local/\m x=some u)\/((env.kindOf x=some .cell\/env.kindOf x=some .free)/\∃c,env.cells.lookup x=some c/\h.IsCell c (some u))
structure Cx.Ok (X:Cx):Prop where
 mod:Mod X.K X.mg X.base
 kind:X.env.scope.kind=.function
 glob:X.env.globals=mainGlobals
 blt:X.env.builtins=builtinsNs
 above:X.s₀.heap.objs.size<=X.env.locals
 inj:∀x y c,X.env.cells.lookup x=some c->X.env.cells.lookup y=some c->x=y
 has:∀x,(X.env.kindOf x=some .cell\/X.env.kindOf x=some .free)->∃c,X.env.cells.lookup x=some c
 cab:∀x c,X.fn x=true->X.env.cells.lookup x=some c->X.s₀.heap.objs.size<=c
 hd:X.calm=true->X.A.handled=none
 frames:X.A.frames=some X.stack
 stk:X.stack=X.outer\/(X.stack=X.env::X.outer/\X.env.frame=some X.env.locals)
 exf:∀b∈X.ex,b≠X.env.locals/\∀x c,X.env.cells.lookup x=some c->c≠b
 bs:∀b o,X.base.get? b=some o->X.s₀.heap.get? b=some o/\X.H₀ b=none
 bsz:X.base.objs.size<=X.s₀.heap.objs.size
 noex:∀b o,X.base.get? b=some o->b∉X.ex
 exfs:∀b∈X.ex,b∉X.fs
 funs:X.s₀.heap.FunFrames X.base X.outer
 frf:∀b∈X.fs,X.H₀ b=none
structure Inv (X:Cx)(pins:List (Addr×Obj))(σ:List (Option V))(H:Hp)(s:Shared):Prop where
 ok:X.Ok
 os:s.os=X.s₀.os
 bare:AllBare s.gens
 base:Un X.fs X.ex X.H₀ H X.s₀.heap s.heap
 loc:∃m,s.heap.Ns X.env.locals m/\∀(i:Nat) (x:Str) (v:V),X.N[i]?=some x->σ[i]?=some (some v)->Vis X.env.scope x->∃u,bT v u/\Sv X.env s.heap m x u
 cell:∀x c,X.env.cells.lookup x=some c->∃v,s.heap.IsCell c v
 free:H X.env.locals=none
 freeC:∀x c,X.env.cells.lookup x=some c->H c=none
 pin:∀p∈X.pn++pins,s.heap.get? p.1=some p.2/\H p.1=none/\p.1≠X.env.locals/\p.1∉X.fs/\∀v,p.2.data≠.cell v
 hok:HOk X.prog X.w H s.heap
 len:σ.length=X.N.length
section
variable {X:Cx}{pins:List (Addr×Obj)}{σ:List (Option V)}{H H':Hp}{s:Shared}{h':Heap}
theorem Cx.Ok.nofr (ok:X.Ok){b:Addr}{o:Obj}(e:X.base.get? b=some o):b∉X.fs:=fun hb=>by
 have:=(ok.funs.mem hb).1
 rw [e] at this;cases this
theorem Inv.bs (I:Inv X pins σ H s):∀b o,X.base.get? b=some o->s.heap.get? b=some o/\H b=none:=fun b o e=>
 ⟨I.base.keep b o (I.ok.bs b o e).1 (I.ok.bs b o e).2 (I.ok.nofr e) (I.ok.noex b o e),I.base.free b o (I.ok.bs b o e).1 (I.ok.bs b o e).2 (I.ok.noex b o e)⟩
theorem Inv.bk (I:Inv X pins σ H s):∀b o,X.base.get? b=some o->s.heap.get? b=some o:=fun b o e=>(I.bs b o e).1
theorem Inv.mod (I:Inv X pins σ H s):Mod X.K X.mg X.base:=I.ok.mod
theorem Inv.kIn (I:Inv X pins σ H s):X.K.In s.heap:=I.ok.mod.kin.keeps I.bk
theorem Inv.fr (I:Inv X pins σ H s):∃m,Fr X.base X.env.locals s.heap m:=
 let ⟨m,hn,_⟩:=I.loc
 ⟨m,hn,I.bk,Nat.le_trans I.ok.bsz I.ok.above⟩
theorem Inv.lt (I:Inv X pins σ H s):X.env.locals < s.heap.objs.size:=let ⟨_,hn,_⟩:=I.loc;hn.lt
theorem Inv.sz (I:Inv X pins σ H s):X.s₀.heap.objs.size<=s.heap.objs.size:=Nat.le_trans I.ok.above (Nat.le_of_lt I.lt)
theorem Inv.nofs (I:Inv X pins σ H s){a:Addr}(h:s.heap.objs.size<=a):a∉X.fs:=fun hb=>by
 obtain ⟨_,o,ho,_⟩:=I.ok.funs.mem hb
 exact absurd (Nat.lt_of_lt_of_le (Heap.lt_size ho) (Nat.le_trans I.sz h)) (Nat.lt_irrefl _)
theorem Inv.cne (I:Inv X pins σ H s):∀x c,X.env.cells.lookup x=some c->c≠X.env.locals:=fun x c e z=>by
 obtain ⟨v,o,ho,hd⟩:=I.cell x c e
 obtain ⟨m,⟨o',es,ep,ho',hd',_⟩,_⟩:=I.loc
 rw [z,ho'] at ho;cases ho;rw [hd'] at hd;cases hd
theorem Inv.funs (I:Inv X pins σ H s):s.heap.FunFrames X.base X.outer:=by
 have all:∀(l:List Env),(∀b∈frs l,b∈X.fs)->X.s₀.heap.FunFrames X.base l->s.heap.FunFrames X.base l:=by
  intro l
  induction l with
  | nil=>intro _ _;trivial
  | cons env r ih=>
   intro hs hl
   obtain ⟨hk,⟨L,o,hf,hn,ho,hd⟩,hr⟩:=hl
   have hL:L∈X.fs:=hs L (by unfold frs;rw [List.filterMap_cons,hf];exact List.mem_cons_self)
   obtain ⟨sl,e⟩:=I.base.slot L o ho (I.ok.frf L hL) hL fun z=>I.ok.exfs L z hL
   exact ⟨hk,⟨L,_,hf,hn,e,hd⟩,ih (fun b hb=>hs b (by unfold frs;rw [List.filterMap_cons,hf];exact List.mem_cons_of_mem _ hb)) hr⟩
 exact all X.outer (fun _ hb=>hb) I.ok.funs
theorem Inv.stack (I:Inv X pins σ H s):s.heap.FunFrames X.base X.stack:=by
 rcases I.ok.stk with e | ⟨e,hf⟩
 ·rw [e];exact I.funs
 ·rw [e]
  obtain ⟨m,hn,_⟩:=I.loc
  refine .cons (by rw [I.ok.kind];decide) hf hn ?_ I.funs
  exact Heap.get?_none_of_le (Nat.le_trans I.ok.bsz I.ok.above)
theorem Inv.stkSub (I:Inv X pins σ H s):∀b∈frs X.stack,b∈X.env.locals::X.fs:=fun b hb=>by
 rcases I.ok.stk with e | ⟨e,hf⟩
 ·rw [e] at hb;exact List.mem_cons_of_mem _ hb
 ·rw [e] at hb
  unfold frs at hb
  rw [List.filterMap_cons,hf] at hb
  exact hb
theorem Inv.stkFree (I:Inv X pins σ H s):∀b∈frs X.stack,H b=none:=fun b hb=>by
 rcases List.mem_cons.mp (I.stkSub b hb) with e | hb
 ·rw [e];exact I.free
 ·obtain ⟨_,o,ho,_⟩:=I.ok.funs.mem hb
  exact I.base.free b o ho (I.ok.frf b hb) fun z=>I.ok.exfs b z hb
theorem Inv.step {g':Array GenState}{t':Nat}{d':Drawn}{ch:List Addr}(I:Inv X pins σ H s)
  (hch:∀b∈ch,(b∈X.ex\/X.s₀.heap.objs.size<=b)/\b≠X.env.locals/\(∀x c,X.env.cells.lookup x=some c->c≠b)/\∀p∈X.pn++pins,p.1≠b)
  (keep:∀b o,b≠X.env.locals->b∉X.fs->b∉ch->s.heap.get? b=some o->H b=none->h'.get? b=some o)
  (slot:∀b o,b≠X.env.locals->b∈X.fs->b∉ch->s.heap.get? b=some o->H b=none->∃sl,h'.get? b=some {o with slots:=sl}) (free:∀b o,b∉ch->s.heap.get? b=some o->H b=none->H' b=none)
  (there:∀b o,b∉ch->s.heap.get? b=some o->∃o',h'.get? b=some o')
  (tups:∀b xs,H b=some (.tup xs)->H' b=some (.tup xs)) (frzs:∀b o u,H b=some (.frz o u)->H' b=some (.frz o u)) (tbls:∀b ps,H b=some (.tbl ps)->∃more,H' b=some (.tbl (ps++more)))
  (ns:∀m,s.heap.Ns X.env.locals m->h'.Ns X.env.locals m) (hok:HOk X.prog X.w H' h') (hg:AllBare g') :
  Inv X pins σ H' {s with heap:=h',gens:=g',drawn:=d',toks:=t'}:=by
 have neL:∀b o,X.s₀.heap.get? b=some o->b≠X.env.locals:=fun b o e=>Nat.ne_of_lt (Nat.lt_of_lt_of_le (Heap.lt_size e) I.ok.above)
 have neC:∀b o,X.s₀.heap.get? b=some o->b∉X.ex->b∉ch:=fun b o e hx hb=>by
  rcases (hch b hb).1 with z | z
  ·exact hx z
  ·exact absurd (Nat.lt_of_lt_of_le (Heap.lt_size e) z) (Nat.lt_irrefl _)
 have cellK:∀x c,X.env.cells.lookup x=some c->∀v,s.heap.IsCell c v->h'.IsCell c v:=fun x c e v ⟨o,ho,hd⟩=>by
  have nch:c∉ch:=fun z=>(hch c z).2.2.1 x c e rfl
  by_cases hc:c∈X.fs
  ·obtain ⟨sl,q⟩:=slot c o (I.cne x c e) hc nch ho (I.freeC x c e)
   exact ⟨_,q,hd⟩
  ·exact ⟨o,keep c o (I.cne x c e) hc nch ho (I.freeC x c e),hd⟩
 refine ⟨I.ok,I.os,hg,⟨fun b o e n hb hx=>?_,fun b o e n hb hx=>?_,fun b o e n hx=>?_,fun b o e hx=>?_,fun b xs e=>tups b xs (I.base.tups b xs e),fun b o xs e=>frzs b o xs (I.base.frzs b o xs e),fun b ps e=>?_⟩,?_,fun x c e=>?_,?_,fun x c e=>?_,fun p hp=>?_,hok,I.len⟩
 ·exact keep b o (neL b o e) hb (neC b o e hx) (I.base.keep b o e n hb hx) (I.base.free b o e n hx)
 ·obtain ⟨sl,e1⟩:=I.base.slot b o e n hb hx
  obtain ⟨sl',e2⟩:=slot b _ (neL b o e) hb (neC b o e hx) e1 (I.base.free b o e n hx)
  exact ⟨sl',e2⟩
 ·obtain ⟨o',e1⟩:=I.base.there b o e hx
  exact free b o' (neC b o e hx) e1 (I.base.free b o e n hx)
 ·obtain ⟨o',e1⟩:=I.base.there b o e hx
  exact there b o' (neC b o e hx) e1
 ·obtain ⟨m1,e1⟩:=I.base.tbls b ps e
  obtain ⟨m2,e2⟩:=tbls b _ e1
  exact ⟨m1++m2,by rw [e2,Array.append_assoc]⟩
 ·obtain ⟨m,hn,hl⟩:=I.loc
  refine ⟨m,ns m hn,fun i x v e1 e2 e3=>?_⟩
  obtain ⟨u,r,l⟩:=hl i x v e1 e2 e3
  refine ⟨u,r,?_⟩
  rcases l with l | ⟨k,c,e,z⟩
  ·exact .inl l
  ·exact .inr ⟨k,c,e,cellK x c e _ z⟩
 ·obtain ⟨v,z⟩:=I.cell x c e
  exact ⟨v,cellK x c e v z⟩
 ·obtain ⟨m,⟨o,_,_,ho,_⟩,_⟩:=I.loc
  exact free _ o (fun z=>(hch _ z).2.1 rfl) ho I.free
 ·obtain ⟨v,o,ho,hd⟩:=I.cell x c e
  exact free c o (fun z=>(hch c z).2.2.1 x c e rfl) ho (I.freeC x c e)
 ·obtain ⟨e,n,ne,nf,d⟩:=I.pin p hp
  have nch:p.1∉ch:=fun z=>(hch p.1 z).2.2.2 p hp rfl
  exact ⟨keep p.1 p.2 ne nf nch e n,free p.1 p.2 nch e n,ne,nf,d⟩
theorem Inv.un {t':Nat}(I:Inv X pins σ H s)(u:Un X.fs [] H H' s.heap h')(hok:HOk X.prog X.w H' h'):Inv X pins σ H' {s with heap:=h',toks:=t'}:=by
 obtain ⟨m,⟨o,es,ep,ho,r⟩,_⟩:=id I.loc
 obtain ⟨sl,hL⟩:=u.any ho I.free (by simp)
 exact I.step (g':=s.gens) (d':=s.drawn) (ch:=[]) (fun _ z=>nomatch z) (fun b o _ hb _ e n=>u.keep b o e n hb (by simp)) (fun b o _ hb _ e n=>u.slot b o e n hb (by simp)) (fun b o _ e n=>u.free b o e n (by simp)) (fun b o _ e=>u.there b o e (by simp)) u.tups u.frzs u.tbls (fun m' hm=>by
  obtain ⟨o',es',ep',ho',r'⟩:=hm
  rw [ho] at ho';cases ho'
  exact ⟨_,es',ep',hL,r'⟩) hok I.bare
theorem Inv.call {g':Array GenState}{t':Nat}{d':Drawn}{ch:List Addr}(I:Inv X pins σ H s)(u:Un (frs X.stack) ch H H' s.heap h')(hok:HOk X.prog X.w H' h')(hg:AllBare g')
  (hch:∀b∈ch,(b∈X.ex\/X.s₀.heap.objs.size<=b)/\b≠X.env.locals/\(∀x c,X.env.cells.lookup x=some c->c≠b)/\∀p∈X.pn++pins,p.1≠b) :
  Inv X pins σ H' {s with heap:=h',gens:=g',drawn:=d',toks:=t'}:=by
 obtain ⟨m,⟨o,es,ep,ho,r⟩,_⟩:=id I.loc
 obtain ⟨sl,hL⟩:=u.any ho I.free fun z=>(hch _ z).2.1 rfl
 exact I.step (ch:=ch) hch (fun b o hL hb hc e n=>u.keep b o e n (fun z=>(List.mem_cons.mp (I.stkSub b z)).elim hL hb) hc) (fun b o _ _ hc e n=>u.any e n hc) (fun b o hc e n=>u.free b o e n hc) (fun b o hc e=>u.there b o e hc) u.tups u.frzs u.tbls (fun m' hm=>by
  obtain ⟨o',es',ep',ho',r'⟩:=hm
  rw [ho] at ho';cases ho'
  exact ⟨_,es',ep',hL,r'⟩) hok hg
theorem Inv.turned {t':Nat}{it:Addr}(I:Inv X pins σ H s)(k:∀b o,b≠it->s.heap.get? b=some o->h'.get? b=some o)(hn:H it=none)(hL:it≠X.env.locals)
  (h1:it∈X.ex\/X.s₀.heap.objs.size<=it) (h2:∀x c,X.env.cells.lookup x=some c->c≠it) (h3:∀p∈X.pn++pins,p.1≠it):Inv X pins σ H {s with heap:=h',toks:=t'}:=by
 have nit:∀b u,H b=some u->b≠it:=fun b u e z=>by rw [z,hn] at e;cases e
 refine I.step (g':=s.gens) (d':=s.drawn) (ch:=[it]) (fun b hb=>?_) (fun b o _ _ hc e _=>k b o (fun z=>hc (by simp [z])) e) (fun b o _ _ hc e _=>⟨o.slots,k b o (fun z=>hc (by simp [z])) e⟩) (fun _ _ _ _ n=>n)
  (fun b o hc e=>⟨o,k b o (fun z=>hc (by simp [z])) e⟩) (fun _ _ e=>e) (fun _ _ _ e=>e) (fun b ps e=>⟨#[],by rw [e];simp⟩) (fun m hm=>?_) (fun b u e=>?_) I.bare
 ·have e:b=it:=by simpa using hb
  subst e
  exact ⟨h1,hL,h2,h3⟩
 ·obtain ⟨o,es,ep,ho,r⟩:=hm
  exact ⟨o,es,ep,k _ o (Ne.symm hL) ho,r⟩
 ·refine (I.hok b u e).stay (fun c v hc q=>k c v ?_ q) (fun _ q=>q) fun _ _ q=>q
  rcases hc with z | z
  ·rw [z];exact nit b u e
  ·exact nit c _ z
theorem Inv.tok (I:Inv X pins σ H s)(t:Nat):Inv X pins σ H {s with toks:=t}:=I.un (h':=s.heap) (t':=t) Un.refl I.hok
theorem Inv.kept {t':Nat}(I:Inv X pins σ H s)(k:∀b u,s.heap.get? b=some u->h'.get? b=some u):Inv X pins σ H {s with heap:=h',toks:=t'}:=I.un (Un.kept k) (I.hok.kept k)
theorem Inv.laid {a:Addr}{o:HO}{t':Nat}(I:Inv X pins σ H s)(k:∀b u,s.heap.get? b=some u->h'.get? b=some u)(hp:s.heap.objs.size<=a)(new:fY X.prog X.w (upd H a o) h' a o) :
  Inv X pins σ (upd H a o) {s with heap:=h',toks:=t'}:=I.un (Un.laid k hp (I.hok.fresh hp)) (I.hok.laid k hp new)
theorem Inv.write {x e:Addr}{o:HO}{t':Nat}(I:Inv X pins σ H s)(mu:Mut (H x))(he:e=x\/H e=some (.own x))(k:∀b u,b≠e->s.heap.get? b=some u->h'.get? b=some u)(heo:∃u,h'.get? e=some u)
  (new:fY X.prog X.w (upd H x o) h' x o):Inv X pins σ (upd H x o) {s with heap:=h',toks:=t'}:=I.un (Un.write mu he k heo) (I.hok.write mu he k heo new)
theorem Inv.weak {σ':List (Option V)}(I:Inv X pins σ H s)(hl:σ'.length=σ.length)(w:∀(i:Nat) v,σ'[i]?=some (some v)->σ[i]?=some (some v)):Inv X pins σ' H s:=
 ⟨I.ok,I.os,I.bare,I.base,let ⟨m,hn,hl'⟩:=I.loc;⟨m,hn,fun i x v e1 e2 e3=>hl' i x v e1 (w i v e2) e3⟩,I.cell,I.free,I.freeC,I.pin,I.hok,hl.trans I.len⟩
theorem Inv.pins_of {pins':List (Addr×Obj)}(I:Inv X pins σ H s)(h:∀p∈pins',s.heap.get? p.1=some p.2/\H p.1=none/\p.1≠X.env.locals/\p.1∉X.fs/\∀v,p.2.data≠.cell v):Inv X pins' σ H s:=
 ⟨I.ok,I.os,I.bare,I.base,I.loc,I.cell,I.free,I.freeC,fun p hp=>(List.mem_append.mp hp).elim (fun z=>I.pin p (List.mem_append_left _ z)) (h p),I.hok,I.len⟩
theorem y4 {N:List Str}(hN:N.Nodup){i j:Nat}{x:Str}(a:N[i]?=some x)(b:N[j]?=some x):i=j:=by
 obtain ⟨h1,e1⟩:=List.getElem?_eq_some_iff.mp a
 obtain ⟨h2,e2⟩:=List.getElem?_eq_some_iff.mp b
 exact (List.getElem_inj hN).mp (e1.trans e2.symm)
theorem wm {M:Model}{A:Around}{E:Value->Shared->Prop}{i:Nat}{x:Str}{v:V}{u:Value}{Q:Unit->Shared->Prop}(I:Inv X pins σ H s)(hN:X.N.Nodup)(hi:X.N[i]?=some x)(hx:Loc X.env.scope x)(r:bT v u)
  (h:∀s',Inv X pins (σ.set i (some v)) H s'->(∃a,Heap.SameBut a s.heap s'.heap/\(a=X.env.locals\/X.env.cells.lookup x=some a))->Q () s') (hf:X.fn x=true\/X.env.scope.names.lookup x=some .local:=by first | exact .inl rfl | exact .inr rfl | assumption):wpAny M A (storeName X.env x u) Q E s:=by
 obtain ⟨m,hn,hl⟩:=id I.loc
 have hcls:(X.env.scope.kind == .class || (X.env.scope.kind == .module && X.env.locals != X.env.globals))=false:=by rw [I.ok.kind];rfl
 have hiσ:i < σ.length:=by rw [I.len];exact (List.getElem?_eq_some_iff.mp hi).1
 have cne:=I.cne
 have tracked:∀{a:Addr} {h':Heap},(∃o,s.heap.get? a=some o/\H a=none)->Heap.SameBut a s.heap h'->HOk X.prog X.w H h':=fun {a h'} ha hs b ob e=>by
  obtain ⟨_,_,hfree⟩:=ha
  refine (I.hok b ob e).stay (fun c w' hc q=>(hs.2 c ?_).trans q) (fun _ q=>q) fun _ _ q=>q
  rintro rfl
  rcases hc with rfl | hc
  ·rw [hfree] at e;cases e
  ·rw [hfree] at hc;cases hc
 rcases hx with hk | hk
 ·refine wpAny_storeName_local hk hn (fun h' hn' hs=>?_) hcls
  obtain ⟨oL,_,_,hoL,_⟩:=id hn
  refine h _ ⟨I.ok,I.os,I.bare,⟨fun b o e n hb hx=>?_,fun b o e n hb hx=>?_,I.base.free,fun b o e hx=>?_,I.base.tups,I.base.frzs,I.base.tbls⟩,⟨_,hn',fun j y v' e1 e2 e3=>?_⟩,fun y c e=>?_,I.free,I.freeC,fun p hp=>?_,tracked ⟨oL,hoL,I.free⟩ hs,by simpa using I.len⟩ ⟨_,hs,.inl rfl⟩
  ·exact (hs.2 b (Nat.ne_of_lt (Nat.lt_of_lt_of_le (Heap.lt_size e) I.ok.above))).trans (I.base.keep b o e n hb hx)
  ·obtain ⟨sl,e1⟩:=I.base.slot b o e n hb hx
   exact ⟨sl,(hs.2 b (Nat.ne_of_lt (Nat.lt_of_lt_of_le (Heap.lt_size e) I.ok.above))).trans e1⟩
  ·obtain ⟨o',e1⟩:=I.base.there b o e hx
   exact ⟨o',(hs.2 b (Nat.ne_of_lt (Nat.lt_of_lt_of_le (Heap.lt_size e) I.ok.above))).trans e1⟩
  ·by_cases hj:j=i
   ·subst hj
    rw [hi] at e1;cases e1
    rw [List.getElem?_set_self hiσ] at e2
    cases e2
    exact ⟨u,r,.inl ⟨hk,by simp⟩⟩
   ·rw [List.getElem?_set_ne (Ne.symm hj)] at e2
    obtain ⟨u',r',q⟩:=hl j y v' e1 e2 e3
    refine ⟨u',r',?_⟩
    rcases q with ⟨k,e⟩ | ⟨k,c,e,z⟩
    ·refine .inl ⟨k,?_⟩
     have:y≠x:=fun e=>hj (y4 hN e1 (e▸hi))
     simp [this,e]
    ·exact .inr ⟨k,c,e,z.sameBut hs (cne y c e)⟩
  ·obtain ⟨w',z⟩:=I.cell y c e
   exact ⟨w',z.sameBut hs (cne y c e)⟩
  ·obtain ⟨e,n,ne,nf,d⟩:=I.pin p hp
   exact ⟨(hs.2 p.1 ne).trans e,n,ne,nf,d⟩
 ·have hfn:X.fn x=true:=by
   rcases hf with z | z
   ·exact z
   ·rw [z] at hk;cases hk
  obtain ⟨c,hc⟩:=I.ok.has x (.inl hk)
  obtain ⟨w',z⟩:=I.cell x c hc
  refine wpAny_storeName_cell I.ok.kind hk hc z (fun h' hc' hs=>?_)
  obtain ⟨oc,hoc,hocd⟩:=id z
  refine h {s with heap:=h'} ⟨I.ok,I.os,I.bare,⟨fun b o e n hb hx=>?_,fun b o e n hb hx=>?_,I.base.free,fun b o e hx=>?_,I.base.tups,I.base.frzs,I.base.tbls⟩,⟨m,hn.sameBut hs (Ne.symm (cne x c hc)),fun j y v' e1 e2 e3=>?_⟩,fun y c' e=>?_,I.free,I.freeC,fun p hp=>?_,tracked ⟨oc,hoc,I.freeC x c hc⟩ hs,by simpa using I.len⟩ ⟨c,hs,.inr hc⟩
  ·exact (hs.2 b (Nat.ne_of_lt (Nat.lt_of_lt_of_le (Heap.lt_size e) (I.ok.cab x c hfn hc)))).trans (I.base.keep b o e n hb hx)
  ·obtain ⟨sl,e1⟩:=I.base.slot b o e n hb hx
   exact ⟨sl,(hs.2 b (Nat.ne_of_lt (Nat.lt_of_lt_of_le (Heap.lt_size e) (I.ok.cab x c hfn hc)))).trans e1⟩
  ·obtain ⟨o',e1⟩:=I.base.there b o e hx
   exact ⟨o',(hs.2 b (Nat.ne_of_lt (Nat.lt_of_lt_of_le (Heap.lt_size e) (I.ok.cab x c hfn hc)))).trans e1⟩
  ·by_cases hj:j=i
   ·subst hj
    rw [hi] at e1;cases e1
    rw [List.getElem?_set_self hiσ] at e2
    cases e2
    exact ⟨u,r,.inr ⟨.inl hk,c,hc,hc'⟩⟩
   ·rw [List.getElem?_set_ne (Ne.symm hj)] at e2
    obtain ⟨u',r',q⟩:=hl j y v' e1 e2 e3
    refine ⟨u',r',?_⟩
    rcases q with q | ⟨k,c',e,z'⟩
    ·exact .inl q
    ·refine .inr ⟨k,c',e,z'.sameBut hs ?_⟩
     rintro rfl
     exact hj (y4 hN e1 (I.ok.inj _ _ _ e hc▸hi))
  ·by_cases hcc:c'=c
   ·subst hcc;exact ⟨_,hc'⟩
   ·obtain ⟨w2,z2⟩:=I.cell y c' e
    exact ⟨w2,z2.sameBut hs hcc⟩
  ·obtain ⟨e,n,ne,nf,d⟩:=I.pin p hp
   refine ⟨(hs.2 p.1 ?_).trans e,n,ne,nf,d⟩
   intro q
   rw [q,hoc] at e
   have q':oc=p.2:=Option.some.inj e
   exact d w' (by rw [←q'];exact hocd)
theorem ma {M:Model}{A:Around}{E:Value->Shared->Prop}{i:Nat}{x:Str}{v:V}{u:Value}{Q:Unit->Shared->Prop}(I:Inv X pins σ H s)(hN:X.N.Nodup)(hi:X.N[i]?=some x)(hx:Loc X.env.scope x)(r:bT v u)
  (h:∀s',Inv X pins (σ.set i (some v)) H s'->Q () s') (hf:X.fn x=true\/X.env.scope.names.lookup x=some .local:=by first | exact .inl rfl | exact .inr rfl | assumption):wpAny M A (storeName X.env x u) Q E s:=
 wm I hN hi hx r (fun s' I' _=>h s' I') hf
theorem Inv.call' {s':Shared}{ch:List Addr}(I:Inv X pins σ H s)(ho:s'.os=s.os)(u:Un (frs X.stack) ch H H' s.heap s'.heap)(hok:HOk X.prog X.w H' s'.heap)(hg:AllBare s'.gens)
  (hch:∀b∈ch,(b∈X.ex\/X.s₀.heap.objs.size<=b)/\b≠X.env.locals/\(∀x c,X.env.cells.lookup x=some c->c≠b)/\∀p∈X.pn++pins,p.1≠b):Inv X pins σ H' s':=by
 obtain ⟨h',g',d',t',o'⟩:=s'
 have e:o'=s.os:=ho
 subst e
 exact I.call (g':=g') (t':=t') (d':=d') u hok hg hch
end
abbrev XK:=Value->Option Addr->Hp->Prop
abbrev St:=List (Option V)
abbrev VK:=V->Hp->Prop
abbrev TE:=St->Hp->VK->Prop
abbrev TT:=St->Hp->(Bool->Hp->Prop)->Prop
abbrev TA:=St->Hp->(List V->Hp->Prop)->Prop
structure j1 where
 nx:St->Hp->Prop
 rt:VK
 bk:St->Hp->Prop:=fun _ _=>False
 ct:St->Hp->Prop:=fun _ _=>False
abbrev TS:=j1->St->Hp->Prop
def EP (X:Cx)(pins:List (Addr×Obj))(σ:St)(Q:VK)(u:Value)(s':Shared):Prop:=∃v H',Inv X pins σ H' s'/\bT v u/\Q v H'
def TP (X:Cx)(pins:List (Addr×Obj))(σ:St)(Q:Bool->Hp->Prop)(b:Bool)(s':Shared):Prop:=∃H',Inv X pins σ H' s'/\Q b H'
def AP (X:Cx)(pins:List (Addr×Obj))(σ:St)(Q:List V->Hp->Prop)(us:List Value)(s':Shared):Prop:=∃vs H',Inv X pins σ H' s'/\bF vs us/\Q vs H'
def SP (X:Cx)(pins:List (Addr×Obj))(D:j1)(f:Flow)(s':Shared):Prop:=
 match f with
 | .next=>∃σ' H',Inv X pins σ' H' s'/\D.nx σ' H'
 | .brk=>∃σ' H',Inv X pins σ' H' s'/\D.bk σ' H'
 | .cont=>∃σ' H',Inv X pins σ' H' s'/\D.ct σ' H'
 | .ret u=>∃v σ' H',Inv X pins σ' H' s'/\bT v u/\D.rt v H'
def PE (X:Cx)(e:Expr)(t:TE):Prop:=
 ∀(pins:List (Addr×Obj)) (s:Shared) (σ:St) (H:Hp) (Q:VK),Inv X pins σ H s->t σ H Q->wpAny (model X.prog X.w) X.A (eval e X.env) (EP X pins σ Q) X.xe s
def PT (X:Cx)(e:Expr)(t:TT):Prop:=
 ∀(pins:List (Addr×Obj)) (s:Shared) (σ:St) (H:Hp) (Q:Bool->Hp->Prop),Inv X pins σ H s->t σ H Q->wpAny (model X.prog X.w) X.A (isTrue e X.env (eval e X.env)) (TP X pins σ Q) X.xe s
def PW (X:Cx)(e:Expr)(t:TT):Prop:=
 ∀(cw:Sem Value) (pins:List (Addr×Obj)) (s:Shared) (σ:St) (H:Hp) (Q:Bool->Hp->Prop),Inv X pins σ H s->t σ H Q->wpAny (model X.prog X.w) X.A (isTrue e X.env cw) (TP X pins σ Q) X.xe s
theorem PW.pt {X:Cx}{e:Expr}{t:TT}(h:PW X e t):PT X e t:=h _
def PA (X:Cx)(es:List Expr)(t:TA):Prop:=
 ∀(pos:Pos) (pins:List (Addr×Obj)) (s:Shared) (σ:St) (H:Hp) (Q:List V->Hp->Prop),Inv X pins σ H s->t σ H Q->wpAny (model X.prog X.w) X.A (spliced (backTo pos (starEach es X.env))) (AP X pins σ Q) X.xe s
def PS (X:Cx)(st:Stmt)(t:TS):Prop:=
 ∀(pins:List (Addr×Obj)) (s:Shared) (σ:St) (H:Hp) (D:j1),Inv X pins σ H s->t D σ H->wpAny (model X.prog X.w) X.A (exec st X.env) (SP X pins D) X.xe s
def PSs (X:Cx)(st:List Stmt)(t:TS):Prop:=
 ∀(pins:List (Addr×Obj)) (s:Shared) (σ:St) (H:Hp) (D:j1),Inv X pins σ H s->t D σ H->wpAny (model X.prog X.w) X.A (execs st X.env) (SP X pins D) X.xe s
theorem thn {α:Type}{t:Sem α}{Q Q':α->Shared->Prop}{M:Model}{A:Around}{E:Value->Shared->Prop}{s:Shared}(h:wpAny M A t Q E s)(hQ:∀a s,Q a s->Q' a s):wpAny M A t Q' E s:=wpAny_mono h hQ fun _ _ x=>x
section
variable {X:Cx}
theorem bin {a b:Expr}{ta tb:TE}(ha:PE X a ta)(hb:PE X b tb){pins:List (Addr×Obj)}{s:Shared}{σ:St}{H:Hp}{R:V->V->Hp->Prop}(I:Inv X pins σ H s)(h:ta σ H fun x H1=>tb σ H1 fun y H2=>R x y H2)
  {α:Type} {Q:α->Shared->Prop} {f:Value->Value->Sem α}
  (hf:∀v u s2 x y H2,Inv X pins σ H2 s2->bT x v->bT y u->R x y H2->wpAny (model X.prog X.w) X.A (f v u) Q X.xe s2) :
  wpAny (model X.prog X.w) X.A (eval a X.env) (fun v s₁=>wpAny (model X.prog X.w) X.A (eval b X.env) (fun u s₂=>wpAny (model X.prog X.w) X.A (f v u) Q X.xe s₂) X.xe s₁) X.xe s:=by
 refine thn (ha pins s σ H _ I h) fun v s1 ⟨x,H1,I1,r1,q1⟩=>?_
 refine thn (hb pins s1 σ H1 _ I1 q1) fun u s2 ⟨y,H2,I2,r2,q2⟩=>?_
 exact hf v u s2 x y H2 I2 r1 r2 q2
def PR (i:Nat):TE:=fun σ H Q=>∃v,σ[i]?=some (some v)/\Q v H
def tC (v:V):TE:=fun _ H Q=>Q v H
theorem PU {i:Nat}{x:Str}{pos:Pos}(hN:X.N[i]?=some x)(hv:Vis X.env.scope x)(hd:(x == ("__debug__":Str))=false:=by decide)(hcd:(x == ("__classdict__":Str))=false:=by decide):PE X (.Name x pos) (PR i):=by
 intro pins s σ H Q I h
 obtain ⟨v,e,h⟩:=h
 obtain ⟨m,hn,hl⟩:=I.loc
 obtain ⟨u,r,l⟩:=hl i x v hN e hv
 have fin:EP X pins σ Q u s:=⟨v,H,I,r,h⟩
 rcases l with ⟨hk,hm⟩ | ⟨hk,c,hc,hcell⟩
 ·exact wpAny_Name (wpAny_loadName_local I.ok.kind hk hn hm fin) hd
 ·rcases hk with hk | hk
  ·exact wpAny_Name (wpAny_loadName_cell I.ok.kind hk hc hcell fin) hd
  ·exact wpAny_Name (wpAny_loadName_free I.ok.kind hk hc hcell fin hcd) hd
theorem af {i j pos}:PE X (.Constant (.int i) j pos) (tC (.int i)):=fun _ _ _ H _ I h=>wpAny_Constant_int ⟨.int i,H,I.tok _,⟨_,rfl⟩,h⟩
theorem iS {b j pos}:PE X (.Constant (.bool b) j pos) (tC (.bl b)):=fun _ _ _ H _ I h=>Constant_bool ⟨.bl b,H,I,rfl,h⟩
theorem eV {j pos}:PE X (.Constant .none j pos) (tC .non):=fun _ _ _ H _ I h=>Constant_none ⟨.non,H,I,rfl,h⟩
theorem aB {x j pos}:PE X (.Constant (.str x) j pos) (tC (.str x)):=fun _ _ _ H _ I h=>Calls.Constant_str ⟨.str x,H,I.tok _,⟨_,rfl⟩,h⟩
def Gl (X:Cx)(x:Str):Prop:=X.env.kindOf x=some .globalImplicit
theorem qY {E:Value->Shared->Prop}{pins:List (Addr×Obj)}{s:Shared}{σ:St}{H:Hp}{x:Str}{u:Value}{pos:Pos}{Q:Value->Shared->Prop}(I:Inv X pins σ H s)(hg:Gl X x)(hm:X.mg x=some u)(h:Q u s)
  (hd:(x == ("__debug__":Str))=false:=by decide):wpAny (model X.prog X.w) X.A (eval (.Name x pos) X.env) Q E s:=
 Calls.Name_function_global I.ok.kind hg (Calls.loadGlobal_global (by rw [I.ok.glob];exact I.mod.glob.keeps I.bk) hm h) hd
theorem sX {E:Value->Shared->Prop}{pins:List (Addr×Obj)}{s:Shared}{σ:St}{H:Hp}{x:Str}{u:Value}{pos:Pos}{Q:Value->Shared->Prop}(I:Inv X pins σ H s)(hg:Gl X x)(hm:X.mg x=none)(hv:bootBuiltins x=some u)(h:Q u s)
  (hn:x≠"__name__":=by decide) (hd:(x == ("__debug__":Str))=false:=by decide):wpAny (model X.prog X.w) X.A (eval (.Name x pos) X.env) Q E s:=by
 obtain ⟨mb,h1,h2⟩:=I.mod.blt
 exact Calls.Name_function_global I.ok.kind hg (Calls.loadGlobal_builtin (by rw [I.ok.glob];exact I.mod.glob.keeps I.bk) hm (by rw [I.ok.blt];exact h1.keeps I.bk) ((h2 x hn).trans hv) h) hd
theorem gZ {x:Str}{v:V}{u:Value}{pos:Pos}(hg:Gl X x)(hm:X.mg x=some u)(r:bT v u)(hd:(x == ("__debug__":Str))=false:=by decide):PE X (.Name x pos) (tC v):=
 fun _ _ _ H _ I h=>qY I hg hm ⟨v,H,I,r,h⟩ hd
theorem fH {x:Str}{v:V}{u:Value}{pos:Pos}(hg:Gl X x)(hm:X.mg x=none)(hv:bootBuiltins x=some u)(r:bT v u)(hn:x≠"__name__":=by decide)(hd:(x == ("__debug__":Str))=false:=by decide):PE X (.Name x pos) (tC v):=
 fun _ _ _ H _ I h=>sX I hg hm hv ⟨v,H,I,r,h⟩ hn hd
variable {a b:Expr}{ta tb:TE}{pos:Pos}
def PC (X:Cx)(op:CmpOp)(a b:Expr)(t:TE):Prop:=
 ∀(pins:List (Addr×Obj)) (s:Shared) (σ:St) (H:Hp) (Q:VK),Inv X pins σ H s->t σ H Q->
  wpAny (model X.prog X.w) X.A (eval a X.env) (fun v s₁=>wpAny (model X.prog X.w) X.A (eval b X.env) (fun u s₂=>wpAny (model X.prog X.w) X.A (compareOp op v u) (EP X pins σ Q) X.xe s₂) X.xe s₁) X.xe s
theorem Lj (b:Expr){op:CmpOp}(h:op≠.In)(h2:op≠.NotIn):behindInMarks op b=false:=by
 have e1:(op == CmpOp.In)=false:=by cases op<;>first | rfl | exact absurd rfl h
 have e2:(op == CmpOp.NotIn)=false:=by cases op<;>first | rfl | exact absurd rfl h2
 cases b<;>simp [behindInMarks,e1,e2]
def tB (t:TE):TT:=fun σ H Q=>t σ H fun x H1=>∃c,x=.bl c/\Q c H1
theorem Sw {op:CmpOp}{t:TE}(h:PC X op a b t)(h1:behindInMarks op b=false:=by first | exact Lj _ (by decide) (by decide) | rfl):PT X (.Compare a [op] [b] pos) (tB t):=by
 intro pins s σ H Q I hw
 refine wpAny_isTrue_Compare1 (thn (h pins s σ H _ I hw) fun v s1 h1=>thn h1 fun u s2 h2=>thn h2 fun c s3 ⟨x,H1,I1,r1,q1⟩=>?_) h1
 obtain ⟨d,rfl,q⟩:=q1
 cases r1
 exact wpAny_truthy_bool ⟨H1,I1,q⟩
theorem PV {e:Expr}{t:TE}(h:PE X e t)(he:∀cw,isTrue e X.env cw=(do let v ←cw;standAt e.pos;holding [v] (truthy v)):=by intro _;rfl):PT X e (tB t):=by
 intro pins s σ H Q I hw
 refine isTrue_plain (thn (h pins s σ H _ I hw) fun v s1 ⟨x,H1,I1,r1,q1⟩=>?_) (he _)
 obtain ⟨d,rfl,q⟩:=q1
 cases r1
 exact wpAny_truthy_bool ⟨H1,I1,q⟩
variable {tA tB':TT}{wj:List Expr}
def Rt (t u:TT):TT:=fun σ H Q=>t σ H fun c H1=>if c=true then u σ H1 Q else Q false H1
def tOr (t u:TT):TT:=fun σ H Q=>t σ H fun c H1=>if c=true then Q true H1 else u σ H1 Q
def Ru (t:TT):TT:=fun σ H Q=>t σ H fun c H1=>Q (!c) H1
theorem kb (ha:PT X a tA):PW X (.BoolOp .And [a] pos) tA:=by
 intro wh pins s σ H Q I h
 refine isTrue_and (thn (ha pins s σ H Q I h) fun c s1 e=>?_)
 cases c with
 | true=>exact isTrue_and_nil e
 | false=>exact e
theorem kM (ha:PT X a tA):PW X (.BoolOp .Or [a] pos) tA:=by
 intro wh pins s σ H Q I h
 refine isTrue_or (thn (ha pins s σ H Q I h) fun c s1 e=>?_)
 cases c with
 | false=>exact isTrue_or_nil e
 | true=>exact e
theorem mV (ha:PT X a tA)(hb:PW X (.BoolOp .And (b::wj) pos) tB'):PW X (.BoolOp .And (a::b::wj) pos) (Rt tA tB'):=by
 intro wh pins s σ H Q I h
 refine isTrue_and (thn (ha pins s σ H _ I h) fun c s1 ⟨H1,I1,q1⟩=>?_)
 cases c with
 | true=>exact hb wh pins s1 σ H1 Q I1 q1
 | false=>exact ⟨H1,I1,q1⟩
theorem pe (ha:PT X a tA)(hb:PW X (.BoolOp .Or (b::wj) pos) tB'):PW X (.BoolOp .Or (a::b::wj) pos) (tOr tA tB'):=by
 intro wh pins s σ H Q I h
 refine isTrue_or (thn (ha pins s σ H _ I h) fun c s1 ⟨H1,I1,q1⟩=>?_)
 cases c with
 | true=>exact ⟨H1,I1,q1⟩
 | false=>exact hb wh pins s1 σ H1 Q I1 q1
theorem ft (ha:PT X a tA):PT X (.UnaryOp .Not a pos) (Ru tA):=by
 intro pins s σ H Q I h
 exact isTrue_not (ha pins s σ H (fun c H1=>Q (!c) H1) I h)
def O2 (ta tb:TE):TE:=fun σ H Q=>ta σ H fun x H1=>∃c,x=.bl c/\if c=true then tb σ H1 Q else Q (.bl false) H1
theorem G3 {op}{t:TE}(h:PE X a t):PE X (.BoolOp op [a] pos) t:=fun pins s σ H Q I hw=>BoolOp_one (h pins s σ H Q I hw)
theorem PX (ha:PE X a ta)(hb:PE X (.BoolOp .And (b::wj) pos) tb):PE X (.BoolOp .And (a::b::wj) pos) (O2 ta tb):=by
 intro pins s σ H Q I h
 refine BoolOp_and (thn (ha pins s σ H _ I h) fun v s1 ⟨x,H1,I1,r1,q1⟩=>?_)
 obtain ⟨c,rfl,q1⟩:=q1
 cases r1
 refine wpAny_truthy_bool ?_
 cases c with
 | true=>exact hb pins s1 σ H1 Q I1 q1
 | false=>exact ⟨.bl false,H1,I1,rfl,q1⟩
def tIf (t:TT)(ta tb:TE):TE:=fun σ H Q=>t σ H fun c H1=>if c=true then ta σ H1 Q else tb σ H1 Q
theorem EO {c:Expr}(hc:PT X c tA)(ha:PE X a ta)(hb:PE X b tb):PE X (.IfExp c a b pos) (tIf tA ta tb):=by
 intro pins s σ H Q I h
 refine wpAny_IfExp (thn (hc pins s σ H _ I h) fun d s1 ⟨H1,I1,q1⟩=>?_)
 cases d with
 | true=>exact ha pins s1 σ H1 Q I1 q1
 | false=>exact hb pins s1 σ H1 Q I1 q1
end
def SqL (K:WA)(H:Hp)(a:Addr)(xs:List V):Prop:=
 Rd H a (.lst xs)\/
  ∃(o:Obj) (its:Array Value) (n:Nat),K.lookup a=some o/\o.cls=.type "list"/\o.dict=none/\o.data=.seq its n/\its.size<=sizeLine/\bF xs its.toList
def SqT (K:WA)(H:Hp)(a:Addr)(xs:List V):Prop:=
 Rd H a (.tup xs)\/
  ∃(o:Obj) (its:Array Value) (n:Nat),K.lookup a=some o/\o.cls=.type "tuple"/\o.data=.seq its n/\its.size<=sizeLine/\bF xs its.toList
def Sx:Value->Option V
 | .none=>some .non
 | .bool b=>some (.bl b)
 | .int i _=>some (.int i)
 | .str x _=>some (.str x)
 | .bytes b _=>some (.byt b)
 | .float b _=>some (.flt b)
 | .ref a=>some (.ref a)
 | .type n=>some (.ty n)
 | _=>none
theorem bT.abs {x:V}{u:Value}(r:bT x u):Sx u=some x:=by
 cases x with
 | non=>cases r;rfl
 | bl _=>cases r;rfl
 | int _=>obtain ⟨t,rfl⟩:=r;rfl
 | str _=>obtain ⟨t,rfl⟩:=r;rfl
 | byt _=>obtain ⟨t,rfl⟩:=r;rfl
 | flt _=>obtain ⟨t,rfl⟩:=r;rfl
 | ref _=>cases r;rfl
 | ty _=>cases r;rfl
theorem bT.inj {x y:V}{u:Value}(r:bT x u)(q:bT y u):x=y:=Option.some.inj (r.abs.symm.trans q.abs)
theorem bF.inj:∀{xs ys:List V} {us:List Value},bF xs us->bF ys us->xs=ys
 | _,_,_,.nil,.nil=>rfl
 | _,_,_,.cons r t,.cons r' t'=>by rw [r.inj r',bF.inj t t']
section
variable {X:Cx}{pins:List (Addr×Obj)}{σ:St}{H:Hp}{s:Shared}{a:Addr}{xs ys:List V}
theorem SqL.of {K:WA}(h:H a=some (.lst xs)):SqL K H a xs:=.inl (.inl h)
theorem SqT.of {K:WA}(h:H a=some (.tup xs)):SqT K H a xs:=.inl (.inl h)
theorem Inv.list (I:Inv X pins σ H s)(h:SqL X.K H a xs):∃its:List Value,bF xs its/\PlainL s.heap a its.toArray/\xs.length<=sizeLine:=by
 rcases h with h | ⟨o,its,n,hk,hc,hd,hs,hz,r⟩
 ·obtain ⟨z,its,n,r,e⟩:=h.ok I.hok
  exact ⟨its,r,⟨_,n,e,rfl,rfl,rfl⟩,z⟩
 ·refine ⟨its.toList,r,⟨o,n,I.kIn a o hk,hc,hd,by simpa using hs⟩,?_⟩
  have e:=r.length
  simp only [Array.length_toList] at e
  omega
theorem Inv.tuple (I:Inv X pins σ H s)(h:SqT X.K H a xs):∃its:List Value,bF xs its/\IsTup s.heap a its.toArray/\xs.length<=sizeLine:=by
 rcases h with h | ⟨o,its,n,hk,hc,hs,hz,r⟩
 ·obtain ⟨z,its,r,p⟩:=h.ok I.hok
  exact ⟨its,r,p.tup,z⟩
 ·refine ⟨its.toList,r,⟨o,I.kIn a o hk,hc,n,by simpa using hs⟩,?_⟩
  have e:=r.length
  simp only [Array.length_toList] at e
  omega
theorem Inv.list_inj (I:Inv X pins σ H s)(h:SqL X.K H a xs)(h':SqL X.K H a ys):xs=ys:=by
 obtain ⟨its,r,⟨o,n,e,_,_,d⟩,_⟩:=I.list h
 obtain ⟨its',r',⟨o',n',e',_,_,d'⟩,_⟩:=I.list h'
 rw [e] at e';cases e'
 rw [d] at d'
 injection d' with d1 _
 have:its=its':=by simpa using congrArg Array.toList d1
 subst this
 exact r.inj r'
end
abbrev Cx.wish (X:Cx)(E:Value->Shared->Prop):Cx:={X with xe:=E}
abbrev Cx.nox (X:Cx):Cx:=X.wish fun _ _=>False
theorem Cx.Ok.wish {X:Cx}(ok:X.Ok)(E:Value->Shared->Prop):(X.wish E).Ok:=
 ⟨ok.mod,ok.kind,ok.glob,ok.blt,ok.above,ok.inj,ok.has,ok.cab,ok.hd,ok.frames,ok.stk,ok.exf,ok.bs,ok.bsz,ok.noex,ok.exfs,ok.funs,ok.frf⟩
theorem Cx.Ok.unwish {X:Cx}{E:Value->Shared->Prop}(ok:(X.wish E).Ok):X.Ok:=
 ⟨ok.mod,ok.kind,ok.glob,ok.blt,ok.above,ok.inj,ok.has,ok.cab,ok.hd,ok.frames,ok.stk,ok.exf,ok.bs,ok.bsz,ok.noex,ok.exfs,ok.funs,ok.frf⟩
section
variable {X:Cx}{pins:List (Addr×Obj)}{σ:St}{H:Hp}{s:Shared}{E:Value->Shared->Prop}
theorem Inv.wish (I:Inv X pins σ H s)(E:Value->Shared->Prop):Inv (X.wish E) pins σ H s:=⟨I.ok.wish E,I.os,I.bare,I.base,I.loc,I.cell,I.free,I.freeC,I.pin,I.hok,I.len⟩
theorem Inv.unwish (I:Inv (X.wish E) pins σ H s):Inv X pins σ H s:=⟨I.ok.unwish,I.os,I.bare,I.base,I.loc,I.cell,I.free,I.freeC,I.pin,I.hok,I.len⟩
theorem SP.unwish {D:j1}{f:Flow}{s':Shared}(h:SP (X.wish E) pins D f s'):SP X pins D f s':=by
 cases f with
 | next=>obtain ⟨σ',H',I,q⟩:=h;exact ⟨σ',H',I.unwish,q⟩
 | brk=>obtain ⟨σ',H',I,q⟩:=h;exact ⟨σ',H',I.unwish,q⟩
 | cont=>obtain ⟨σ',H',I,q⟩:=h;exact ⟨σ',H',I.unwish,q⟩
 | ret u=>obtain ⟨v,σ',H',I,r,q⟩:=h;exact ⟨v,σ',H',I.unwish,r,q⟩
theorem PSs.nox {st:List Stmt}{t:TS}(h:PSs X.nox st t):PSs X st t:=fun pins s σ H D I hw=>
 wpAny_mono (h pins s σ H D (I.wish _) hw) (fun _ _ q=>q.unwish) fun _ _ z=>False.elim z
end
section
variable {X:Cx}{st:Stmt}{wj:List Stmt}{t u:TS}{e:Expr}{te:TE}{pos:Pos}
def O3:TS:=fun D σ H=>D.nx σ H
def Rv (t u:TS):TS:=fun D σ H=>t {D with nx:=u D} σ H
theorem aC:PSs X [] O3:=fun _ _ σ H _ I h=>wpAny_execs_nil ⟨σ,H,I,h⟩
theorem ae (h1:PS X st t)(h2:PSs X wj u):PSs X (st::wj) (Rv t u):=by
 intro pins s σ H D I h
 refine wpAny_execs_cons (thn (h1 pins s σ H {D with nx:=u D} I h) fun f s1 q=>?_)
 cases f with
 | next=>
  obtain ⟨σ',H',I',q⟩:=q
  exact h2 pins s1 σ' H' D I' q
 | ret v=>exact q
 | brk=>exact q
 | cont=>exact q
theorem ah (h1:PS X st t):PSs X [st] t:=by
 intro pins s σ H D I h
 refine wpAny_execs_cons (thn (h1 pins s σ H D I h) fun f s1 q=>?_)
 cases f with
 | next=>exact wpAny_execs_nil q
 | ret v=>exact q
 | brk=>exact q
 | cont=>exact q
theorem Inv.quiet {pins:List (Addr×Obj)}{σ:St}{H:Hp}{s:Shared}(I:Inv X pins σ H s):interactive X.env=false:=by simp [interactive,I.ok.kind]
def O4 (te:TE):TS:=fun D σ H=>te σ H fun _ H1=>D.nx σ H1
theorem bb (he:PE X e te)(hs:swapsWith e none pos.line X.env=pure false:=by rfl):PS X (.Expr e pos) (O4 te):=by
 intro pins s σ H D I h
 exact wpAny_Expr_any (thn (he pins s σ H _ I h) fun v s1 ⟨x,H1,I1,r1,q1⟩=>⟨σ,H1,I1,q1⟩) I.quiet hs
def Rx (te:TE):TS:=fun D σ H=>te σ H D.rt
theorem aA (he:PE X e te):PS X (.Return (some e) pos) (Rx te):=by
 intro pins s σ H D I h
 exact wpAny_Return_some (thn (he pins s σ H _ I h) fun v s1 ⟨x,H1,I1,r1,q1⟩=>⟨x,σ,H1,I1,r1,q1⟩)
def Ry (c:TT)(t u:TS):TS:=fun D σ H=>c σ H fun b H1=>if b=true then t D σ H1 else u D σ H1
theorem aQ {c:Expr}{a b:List Stmt}{tc:TT}(hc:PT X c tc)(ha:PSs X a t)(hb:PSs X b u):PS X (.If c a b pos) (Ry tc t u):=by
 intro pins s σ H D I h
 refine wpAny_If (thn (hc pins s σ H _ I h) fun d s1 ⟨H1,I1,q1⟩=>?_)
 cases d with
 | true=>exact ha pins s1 σ H1 D I1 q1
 | false=>exact hb pins s1 σ H1 D I1 q1
def PY:TS:=fun _ _ _=>False
theorem BZ {sts:List Stmt}:PSs X sts PY:=fun _ _ _ _ _ _ h=>h.elim
end
abbrev TG:=V->St->Hp->(St->Hp->Prop)->Prop
abbrev TGs:=List V->St->Hp->(St->Hp->Prop)->Prop
def PG (X:Cx)(target:Expr)(t:TG):Prop:=
 ∀(pins:List (Addr×Obj)) (s:Shared) (σ:St) (H:Hp) (v:V) (u:Value) (Q:St->Hp->Prop),Inv X pins σ H s->bT v u->t v σ H Q->
  wpAny (model X.prog X.w) X.A (assign target X.env u) (fun _ s'=>∃σ' H',Inv X pins σ' H' s'/\Q σ' H') X.xe s
def PGs (X:Cx)(ts:List Expr)(t:TGs):Prop:=
 ∀(pins:List (Addr×Obj)) (s:Shared) (σ:St) (H:Hp) (vs:List V) (us:List Value) (Q:St->Hp->Prop),Inv X pins σ H s->bF vs us->t vs σ H Q->
  wpAny (model X.prog X.w) X.A (assignInOrder ((assignEach ts X.env).map (·.2)) us) (fun _ s'=>∃σ' H',Inv X pins σ' H' s'/\Q σ' H') X.xe s
abbrev PZ:=V->V->V->Hp->(Hp->Prop)->Prop
def P0 (X:Cx)(t:PZ):Prop:=
 ∀(pins:List (Addr×Obj)) (s:Shared) (σ:St) (H:Hp) (o i v:V) (ov iv u:Value) (Q:Hp->Prop),Inv X pins σ H s->bT o ov->bT i iv->bT v u->t o i v H Q->
  wpAny (model X.prog X.w) X.A (setItem ov iv u) (fun _ s'=>∃H',Inv X pins σ H' s'/\Q H') X.xe s
section
variable {X:Cx}{pos:Pos}
def eW (i:Nat):TG:=fun v σ H Q=>Q (σ.set i (some v)) H
theorem aE {i:Nat}{x:Str}(hN:X.N.Nodup)(hi:X.N[i]?=some x)(hx:Loc X.env.scope x)(hf:X.fn x=true\/X.env.scope.names.lookup x=some .local:=by first | exact .inl rfl | exact .inr rfl | assumption):PG X (.Name x pos) (eW i):=by
 intro pins s σ H v u Q I r h
 exact wpAny_assign_Name (ma I hN hi hx r (fun s' I'=>⟨_,H,I',h⟩) hf)
def P1:TGs:=fun vs σ H Q=>vs=[]/\Q σ H
def ER (t:TG)(u:TGs):TGs:=fun vs σ H Q=>∃v r,vs=v::r/\t v σ H fun σ' H'=>u r σ' H' Q
theorem Nr:PGs X [] P1:=by
 intro pins s σ H vs us Q I r h
 obtain ⟨e,h⟩:=h
 subst e
 cases r
 exact assignInOrder_nil ⟨σ,H,I,h⟩
theorem Lk {e:Expr}{es:List Expr}{t:TG}{u:TGs}(h1:PG X e t)(h2:PGs X es u)
  (hs:(assignEach (e::es) X.env).map (·.2)=assign e X.env::(assignEach es X.env).map (·.2):=by rfl):PGs X (e::es) (ER t u):=by
 intro pins s σ H vs us Q I r h
 obtain ⟨v,vr,e1,h⟩:=h
 subst e1
 cases r with
 | cons r rr=>
  rw [hs]
  refine assignInOrder_cons (thn (h1 pins s σ H _ _ _ I r h) fun _ s1 ⟨σ1,H1,I1,q1⟩=>?_)
  exact h2 pins s1 σ1 H1 _ _ Q I1 rr q1
def P2 (K:WA)(n:Nat)(t:TGs):TG:=fun v σ H Q=>∃a xs,v=.ref a/\SqT K H a xs/\xs.length=n/\t xs σ H Q
theorem P4 {es:List Expr}{k:Nat}{t:TGs}{n:Nat}(hc:X.calm=true)(h:PGs X es t)
  (hn:(assignEach es X.env).length=n:=by rfl) (hst:(assignEach es X.env).findIdx? (·.1)=none:=by rfl):PG X (.Tuple es k pos) (P2 X.K n t):=by
 intro pins s σ H v u Q I r hw
 obtain ⟨a,xs,e1,hq,hl,hw⟩:=hw
 subst e1
 cases r
 obtain ⟨its,rv,ht,hz⟩:=I.tuple hq
 refine assign_Tuple_tuple (I.ok.hd hc) ht (by simp [hn,←hl,rv.length]) hst fun h' hx=>?_
 have I1:Inv X pins σ H {s with heap:=h'}:=I.kept (t':=s.toks) fun b o e=>hx b o (Nat.ne_of_lt (Heap.lt_size e)) e
 exact h pins _ σ H xs _ Q I1 (by simpa using rv) hw
def Rz (to ti:TE)(t:PZ):TG:=fun v σ H Q=>to σ H fun o H1=>ti σ H1 fun i H2=>t o i v H2 fun H3=>Q σ H3
theorem wo {o i:Expr}{to ti:TE}{t:PZ}(ho:PE X o to)(hi:PE X i ti)(hs:P0 X t)
  (ha:∀v,assign (.Subscript o i pos) X.env v=(do
   let ov ←holding [v] (eval o X.env)
   let iv ←holding [v,ov] (eval i X.env)
   standAt pos
   holding [v,ov,iv] (setItem ov iv v)
   release [v,ov,iv] []):=by intro _;rfl):PG X (.Subscript o i pos) (Rz to ti t):=by
 intro pins s σ H v u Q I r h
 rw [ha]
 refine wpAny_bind (wpAny_holding (thn (ho pins s σ H _ I h) fun ov s1 ⟨x,H1,I1,r1,q1⟩=>?_))
 refine wpAny_bind (wpAny_holding (thn (hi pins s1 σ H1 _ I1 q1) fun iv s2 ⟨y,H2,I2,r2,q2⟩=>?_))
 refine wpAny_bind (wpAny_standAt (wpAny_bind (wpAny_holding (thn (hs pins s2 σ H2 x y v ov iv u _ I2 r1 r2 r q2) fun _ s3 ⟨H3,I3,q3⟩=>?_))))
 exact wpAny_release ⟨σ,H3,I3,q3⟩
def G4 (te:TE)(g:TG):TS:=fun D σ H=>te σ H fun x H1=>g x σ H1 D.nx
theorem kO {tg e:Expr}{te:TE}{g:TG}(he:PE X e te)(hg:PG X tg g)(hs:swapsWithSole [tg] e pos.line X.env=pure false:=by rfl)(hw:swappedStores [tg] e X.env=pure none:=by rfl)
  (h1:(assignEach [tg] X.env).map (·.2)=[assign tg X.env]:=by rfl):PS X (.Assign [tg] e pos) (G4 te g):=by
 intro pins s σ H D I h
 refine wpAny_Assign_stores (thn (he pins s σ H _ I h) fun v s1 ⟨x,H1,I1,r1,q1⟩=>?_) hs hw
 rw [h1]
 exact thn (hg pins s1 σ H1 x v _ I1 r1 q1) fun _ s2 q=>q
theorem aG {i:Nat}{x:Str}{e:Expr}{te:TE}{pos':Pos}(hN:X.N.Nodup)(hi:X.N[i]?=some x)(hx:Loc X.env.scope x)(he:PE X e te)(hs:swapsWith e (some (.Name x pos')) pos.line X.env=pure false:=by rfl)(hf:X.fn x=true\/X.env.scope.names.lookup x=some .local:=by first | exact .inl rfl | exact .inr rfl | assumption) :
  PS X (.Assign [.Name x pos'] e pos) (G4 te (eW i)):=by
 intro pins s σ H D I h
 refine wpAny_Assign_Name (thn (he pins s σ H _ I h) fun v s1 ⟨y,H1,I1,r1,q1⟩=>?_) hs
 exact ma I1 hN hi hx r1 (fun s2 I2=>⟨_,H1,I2,q1⟩) hf
def RA (i j:Nat)(ta:TA):TS:=fun D σ H=>ta σ H fun vs H1=>∃v w,vs=[v,w]/\D.nx ((σ.set i (some v)).set j (some w)) H1
theorem P6 {i j:Nat}{x y:Str}{a b:Expr}{ta:TA}{px py pt:Pos}{kt k2 pt2}(hc:X.calm=true)(hN:X.N.Nodup)(hi:X.N[i]?=some x)(hj:X.N[j]?=some y)(hij:i≠j)
  (hx:X.env.scope.names.lookup x=some .local) (hy:X.env.scope.names.lookup y=some .local) (ha:PA X [a,b] ta)
  (hw:swappedStores [.Tuple [.Name x px,.Name y py] kt pt] (.Tuple [a,b] k2 pt2) X.env=pure (some [x,y]))
  (hs:swapsWithSole [.Tuple [.Name x px,.Name y py] kt pt] (.Tuple [a,b] k2 pt2) pos.line X.env=pure false:=by rfl) :
  PS X (.Assign [.Tuple [.Name x px,.Name y py] kt pt] (.Tuple [a,b] k2 pt2) pos) (RA i j ta):=by
 intro pins s σ H D I h
 rw [exec_Assign_arm]
 refine wpAny_bind (wpAny_standAt ?_)
 rw [hs]
 refine wpAny_bind (wpAny_pure ?_)
 rw [if_neg (by decide)]
 refine wpAny_bind (Tuple_ (thn (ha _ pins s σ H _ I h) fun us s1 ⟨vs,H1,I1,r1,q1⟩=>?_))
 obtain ⟨v,w,e1,q1⟩:=q1
 subst e1
 obtain ⟨u1,u2,rfl,rv,rw'⟩:∃u1 u2,us=[u1,u2]/\bT v u1/\bT w u2:=by
  cases r1 with
  | cons p q=>
   cases q with
   | cons p' q'=>
    cases q'
    exact ⟨_,_,rfl,p,p'⟩
 refine wpAny_newObj_type ?_ (by show 2<=sizeLine;decide)
 have I2:Inv X pins σ H1 {s1 with heap:=s1.heap.push {cls:=.type "tuple",data:=.seq [u1,u2].toArray}}:=I1.kept (t':=s1.toks) fun b o e=>Heap.get?_push_of_some _ e
 rw [hw]
 refine wpAny_bind (wpAny_pure ?_)
 show wpAny (model X.prog X.w) X.A (do rule "assign.swapped-stores";let items ←unpackItems (.ref s1.heap.objs.size) 2 none;assignInOrder [fun v=>bindName X.env y v,fun v=>bindName X.env x v] items.reverse;pure Flow.next) _ _ _
 refine wpAny_bind (wpAny_rule (wpAny_bind (unpackItems_tuple (items:=#[u1,u2]) (I.ok.hd hc) (IsTup.new s1.heap _) fun h' hx'=>?_)))
 have I3:=I2.kept (h':=h') (t':=s1.toks) fun b o e=>hx' b o (Nat.ne_of_lt (Heap.lt_size e)) e
 show wpAny _ _ (assignInOrder [fun v=>bindName X.env y v,fun v=>bindName X.env x v] [u2,u1] >>= fun _=>pure Flow.next) _ _ _
 refine wpAny_bind (assignInOrder_cons (wpAny_bindName (ma I3 hN hj (.inl hy) rw' (fun s2 I4=>?_) (.inr hy))))
 refine assignInOrder_cons (wpAny_bindName (ma I4 hN hi (.inl hx) rv (fun s3 I5=>assignInOrder_nil (wpAny_pure ?_)) (.inr hx)))
 rw [List.set_comm _ _ (Ne.symm hij)] at I5
 exact ⟨_,H1,I5,q1⟩
end
section
variable {X:Cx}{pos:Pos}
def Ll (c:TT)(tb:TS):TS:=fun D σ H=>∃W:Nat->St->Hp->Prop,(∃m,W m σ H)/\∀m σ H,W m σ H->
 c σ H fun b H1=>if b=true then ∃N:St->Hp->Prop,(∀σ' H',N σ' H'->∃m',m' < m/\W m' σ' H')/\tb {D with nx:=N,ct:=N,bk:=D.nx} σ H1 else D.nx σ H1
theorem Lm {c:Expr}{body:List Stmt}{tc:TT}{tb:TS}(hp:PassesOwn (model X.prog X.w) X.A X.env X.xe)(hc:PT X c tc)(hb:PSs X body tb):PS X (.While c body [] pos) (Ll tc tb):=by
 intro pins s σ H D I h
 obtain ⟨W,⟨m0,w0⟩,turn⟩:=h
 refine wpAny_While (codeAny_whileLoop (fun n s'=>∃σ' H',Inv X pins σ' H' s'/\W n σ' H') ?_ m0 ⟨σ,H,I,w0⟩)
 rintro n s1 ⟨σ1,H1,I1,w1⟩
 refine wpAny_passesOwn hp (thn (hc pins s1 σ1 H1 _ I1 (turn n σ1 H1 w1)) fun b s2 ⟨H2,I2,q2⟩=>?_)
 cases b with
 | true=>
  obtain ⟨N,hN,q2⟩:=q2
  rw [if_pos rfl]
  refine wpAny_passesOwn hp (thn (hb pins s2 σ1 H2 _ I2 q2) fun f s3 q3=>?_)
  cases f with
  | next=>
   obtain ⟨σ3,H3,I3,n3⟩:=q3
   obtain ⟨m',hm,w3⟩:=hN σ3 H3 n3
   exact ⟨m',hm,σ3,H3,I3,w3⟩
  | cont=>
   obtain ⟨σ3,H3,I3,n3⟩:=q3
   obtain ⟨m',hm,w3⟩:=hN σ3 H3 n3
   exact ⟨m',hm,σ3,H3,I3,w3⟩
  | brk=>exact q3
  | ret v=>exact q3
 | false=>
  rw [if_neg Bool.false_ne_true]
  exact wpAny_execs_nil ⟨σ1,H2,I2,q2⟩
end
structure It where
 go:Nat->Hp->Prop
 yld:Nat->Hp->V->Hp->Prop
 stop:Nat->Hp->Prop
def wq (X:Cx)(pins:List (Addr×Obj))(H:Hp)(b:Addr):Prop:=
 H b=none/\b≠X.env.locals/\b∉X.fs/\(b∈X.ex\/X.s₀.heap.objs.size<=b)/\(∀x c,X.env.cells.lookup x=some c->c≠b)/\∀p∈X.pn++pins,p.1≠b
theorem Inv.fpOk {X:Cx}{pins:List (Addr×Obj)}{σ:St}{H H':Hp}{s:Shared}{b:Addr}(I:Inv X pins σ H s)(hb:s.heap.objs.size<=b)(hn:H' b=none):wq X pins H' b:=by
 refine ⟨hn,Nat.ne_of_gt (Nat.lt_of_lt_of_le I.lt hb),I.nofs hb,.inr (Nat.le_trans I.sz hb),fun x c e z=>?_,fun p hp z=>?_⟩
 ·obtain ⟨v,q⟩:=I.cell x c e
  exact absurd (Nat.lt_of_lt_of_le q.lt (by rw [z];exact hb)) (Nat.lt_irrefl _)
 ·exact absurd (Nat.lt_of_lt_of_le (Heap.lt_size (I.pin p hp).1) (by rw [z];exact hb)) (Nat.lt_irrefl _)
structure J2 (P:Program)(w:World)(K:WA)(tg:Expr)(J:It)(fp:List Addr)(it:Addr)(tn:Nat->Heap->Prop):Prop where
 mem:it∈fp
 obj:∀i h,tn i h->∀b∈fp,∃o,h.get? b=some o/\∀v,o.data≠.cell v
 keep:∀i h h',tn i h->(∀b∈fp,∀o,h.get? b=some o->h'.get? b=some o)->tn i h'
 item:∀(X:Cx),X.prog=P->X.w=w->X.K=K->X.calm=true->∀(i:Nat) (pins:List (Addr×Obj)) (s:Shared) (σ:St) (H:Hp) (E:Value->Shared->Prop),Inv X pins σ H s->(∀b∈fp,wq X pins H b)->tn i s.heap->J.go i H->
  wpAny (model P w) X.A (pyNext (.ref it)) (fun r s1=>∃u,r=some u/\
   wpAny (model P w) X.A (letOwnedTupleGo tg (.ref it) u) (fun _ s2=>∃x H',Inv X pins σ H' s2/\bT x u/\J.yld i H x H'/\tn (i+1) s2.heap/\∀b∈fp,H' b=none) E s1) E s
 done:∀(X:Cx),X.prog=P->X.w=w->X.K=K->X.calm=true->∀(i:Nat) (pins:List (Addr×Obj)) (s:Shared) (σ:St) (H:Hp) (E:Value->Shared->Prop),Inv X pins σ H s->(∀b∈fp,wq X pins H b)->tn i s.heap->J.stop i H->
  wpAny (model P w) X.A (pyNext (.ref it)) (fun r s1=>r=none/\Inv X pins σ H s1) E s
 self:∀(A:Around) (i:Nat) (s:Shared) (Q:Value->Shared->Prop) (E:Value->Shared->Prop),tn i s.heap->Q (.ref it) s->wpAny (model P w) A (pyIter (.ref it)) Q E s
abbrev TI:=St->Hp->(It->Hp->Prop)->Prop
def PIE (X:Cx)(pins:List (Addr×Obj))(σ:St)(tg:Expr)(R:It->Hp->Prop)(itv:Value)(s2:Shared):Prop:=
 ∃(it:Addr) (fp:List Addr) (tn:Nat->Heap->Prop) (J:It) (H':Hp),itv=.ref it/\Inv X pins σ H' s2/\J2 X.prog X.w X.K tg J fp it tn/\tn 0 s2.heap/\(∀b∈fp,wq X pins H' b)/\R J H'
def PI (X:Cx)(tg iter:Expr)(wi:TI):Prop:=
 ∀(pins:List (Addr×Obj)) (s:Shared) (σ:St) (H:Hp) (R:It->Hp->Prop),Inv X pins σ H s->wi σ H R->
  wpAny (model X.prog X.w) X.A (eval iter X.env) (fun v s1=>wpAny (model X.prog X.w) X.A (pyIter v) (PIE X pins σ tg R) X.xe s1) X.xe s
theorem O5 {M:Model}{A:Around}{E:Value->Shared->Prop}{s:Shared}{tg:Expr}{it:Addr}{u:Value}{o:Obj}{n:String}{vs:Array Value}{Q:Unit->Shared->Prop}(ho:s.heap.get? it=some o)(hc:o.cls=.type n)(hd:o.data=.fields vs)
  (hn:["enumerate","zip","dict_itemiterator","dict_reverseitemiterator","odict_iterator","itertools.zip_longest","itertools.pairwise"].contains n=false) (hQ:Q () s):wpAny M A (letOwnedTupleGo tg (.ref it) u) Q E s:=by
 unfold letOwnedTupleGo
 cases tg<;>first
  | exact wpAny_pure hQ
  | (cases u<;>first
    | exact wpAny_pure hQ
    | (refine wpAny_bind (wpAny_load ho ?_)
       rw [hc,hd]
       show wpAny M A (if (["enumerate","zip","dict_itemiterator","dict_reverseitemiterator","odict_iterator","itertools.zip_longest","itertools.pairwise"].contains n && vs[0]? == some (rawInt _))=true then _ else _) Q E s
       rw [if_neg (by intro h;rw [hn,Bool.false_and] at h;cases h)]
       exact wpAny_pure hQ))
def Itl (K:WA)(a:Addr):It:=
 ⟨fun i H=>∃xs x,SqL K H a xs/\xs[i]?=some x,fun i H x H'=>H'=H/\∀xs,SqL K H a xs->xs[i]?=some x,fun i H=>∃xs,SqL K H a xs/\xs.length<=i⟩
def Itr (lo:Int)(n:Nat):It:=⟨fun i _=>i < n,fun i H x H'=>H'=H/\x=.int (lo+i),fun i _=>n<=i⟩
theorem J3 {P:Program}{w:World}{K:WA}{tg:Expr}(a it:Addr):J2 P w K tg (Itl K a) [it] it (fun i h=>h.IsListIter it a i) where
 mem:=by simp
 obj:=fun i h st b hb=>by
  have e:b=it:=by simpa using hb
  subst e
  obtain ⟨o,e,c,d⟩:=st
  exact ⟨o,e,fun v z=>by rw [d] at z;cases z⟩
 keep:=fun i h h' st k=>st.at fun o e=>k it (by simp) o e
 item:=by
  intro X hP hw hK hc i pins s σ H E I hf st hg
  subst hP hw hK
  obtain ⟨xs,x,hq,hx⟩:=hg
  obtain ⟨its,rv,p,hz⟩:=I.list hq
  obtain ⟨u,hu,ru⟩:=rv.get hx
  obtain ⟨f0,f1,f2,f3,f4,f5⟩:=hf it (by simp)
  refine wpAny_pyNext_list_item st p.isList (x:=u) (by simpa using hu) fun h' st' sb=>?_
  have I1:Inv X pins σ H {s with heap:=h'}:=I.turned (t':=s.toks) (fun b o hb e=>(sb.2 b hb).trans e) f0 f1 f3 f4 f5
  obtain ⟨o,e,c,d⟩:=id st'
  exact ⟨u,rfl,O5 (s:={s with heap:=h'}) e c d (by decide) ⟨x,H,I1,ru,⟨rfl,fun ys hy=>by rw [I.list_inj hy hq];exact hx⟩,st',fun b hb=>(hf b hb).1⟩⟩
 done:=by
  intro X hP hw hK hc i pins s σ H E I hf st hg
  subst hP hw hK
  obtain ⟨xs,hq,hx⟩:=hg
  obtain ⟨its,rv,p,hz⟩:=I.list hq
  obtain ⟨f0,f1,f2,f3,f4,f5⟩:=hf it (by simp)
  have hl:=rv.length
  exact wpAny_pyNext_list_end (I.ok.hd hc) st p.isList (by simp;omega) fun h' eb=>⟨rfl,I.turned (t':=s.toks) (fun b o hb e=>eb b o hb e) f0 f1 f3 f4 f5⟩
 self:=fun _ _ _ _ _ st h=>wpAny_pyIter_listiter st h
theorem G5 {P:Program}{w:World}{K:WA}{tg:Expr}(it:Addr)(lo:Int)(n:Nat):J2 P w K tg (Itr lo n) [it] it (fun i h=>IsRangeIter h it (lo+(i:Nat) * 1) ((n:Int) - (i:Nat)) 1) where
 mem:=by simp
 obj:=fun i h st b hb=>by
  have e:b=it:=by simpa using hb
  subst e
  exact ⟨_,st,fun v z=>by
   have z':Data.fields _=Data.cell v:=z
   cases z'⟩
 keep:=fun i h h' st k=>k it (by simp) _ st
 item:=by
  intro X hP hw hK hc i pins s σ H E I hf st hg
  subst hP hw hK
  obtain ⟨f0,f1,f2,f3,f4,f5⟩:=hf it (by simp)
  have W:=Walks.range (prog:=X.prog) (w:=X.w) (I.ok.hd hc) it lo 1 n
  refine W.item i s _ _ hg st fun v h' tk hv st' kk=>?_
  obtain ⟨t,rfl⟩:=hv
  have I1:Inv X pins σ H {s with heap:=h',toks:=tk}:=I.turned (fun b o hb e=>kk b o (by simpa using hb) e) f0 f1 f3 f4 f5
  refine ⟨_,rfl,O5 (s:={s with heap:=h',toks:=tk}) (n:="range_iterator") st' rfl rfl (by decide) ⟨.int (lo+i),H,I1,⟨t,?_⟩,⟨rfl,rfl⟩,st',fun b hb=>(hf b hb).1⟩⟩
  rw [Int.mul_one]
 done:=by
  intro X hP hw hK hc i pins s σ H E I hf st hg
  subst hP hw hK
  obtain ⟨f0,f1,f2,f3,f4,f5⟩:=hf it (by simp)
  exact wpAny_pyNext_range_end (I.ok.hd hc) st (by have:n<=i:=hg;omega) fun h' eb=>⟨rfl,I.turned (t':=s.toks) (fun b o hb e=>eb b o hb e) f0 f1 f3 f4 f5⟩
 self:=fun _ _ _ _ _ st h=>wpAny_pyIter_rangeiter st h
section
variable {X:Cx}{tg:Expr}
def O6 (K:WA)(tl:TE):TI:=fun σ H R=>tl σ H fun x H1=>∃a,x=.ref a/\(∃xs,SqL K H1 a xs)/\R (Itl K a) H1
theorem Nt {l:Expr}{tl:TE}(hl:PE X l tl):PI X tg l (O6 X.K tl):=by
 intro pins s σ H R I h
 refine thn (hl pins s σ H _ I h) fun v s1 ⟨x,H1,I1,r1,q1⟩=>?_
 obtain ⟨a,e,⟨xs,hq⟩,q⟩:=q1
 subst e
 cases r1
 obtain ⟨its,rv,p,hz⟩:=I1.list hq
 refine wpAny_pyIter_list p.isList ?_
 refine ⟨s1.heap.objs.size,[s1.heap.objs.size],_,_,H1,rfl,I1.kept (t':=s1.toks) fun b o e=>Heap.get?_push_of_some _ e,J3 a _,⟨_,Heap.get?_push_size _ rfl,rfl,rfl⟩,fun b hb=>?_,q⟩
 have e:b=s1.heap.objs.size:=by simpa using hb
 subst e
 exact I1.fpOk (Nat.le_refl _) (I1.hok.fresh (Nat.le_refl _))
theorem ES {pins:List (Addr×Obj)}{σ:St}{H:Hp}{s:Shared}{R:It->Hp->Prop}{E:Value->Shared->Prop}{lo hi:Int}{t u v:Tok}{tk:Nat}(I:Inv X pins σ H s)(h1:-(2 ^ 62)<=lo)(h2:lo < 2 ^ 62)(h3:-(2 ^ 62)<=hi)(h4:hi < 2 ^ 62)
  (q:R (Itr lo (hi - lo).toNat) H):wpAny (model X.prog X.w) X.A (pyIter (.ref s.heap.objs.size)) (PIE X pins σ tg R) E {s with heap:=s.heap.push {cls:=.type "range",data:=.fields #[.int lo t,.int hi u,.int 1 v]},toks:=tk}:=by
 refine wpAny_pyIter_range (IsRange.new ..) (small_one h1 h2 h3 h4) ?_
 have I1:Inv X pins σ H {s with heap:=s.heap.push {cls:=.type "range",data:=.fields #[.int lo t,.int hi u,.int 1 v]},toks:=tk}:=I.kept fun b o e=>Heap.get?_push_of_some _ e
 refine ⟨(s.heap.push {cls:=.type "range",data:=.fields #[.int lo t,.int hi u,.int 1 v]}).objs.size,[(s.heap.push {cls:=.type "range",data:=.fields #[.int lo t,.int hi u,.int 1 v]}).objs.size],_,_,H,rfl,
  I1.kept (t':=tk) fun b o e=>Heap.get?_push_of_some _ e,G5 _ lo (hi - lo).toNat,?_,fun b hb=>?_,q⟩
 ·have e1:lo+((0:Nat):Int) * 1=lo:=by simp
  have e2:(((hi - lo).toNat:Nat):Int) - ((0:Nat):Int)=Builtin.Range.rangeSize lo hi 1:=by rw [rangeSize_one];split<;>omega
  show IsRangeIter _ _ (lo+((0:Nat):Int) * 1) ((((hi - lo).toNat:Nat):Int) - ((0:Nat):Int)) 1
  rw [e1,e2]
  exact Heap.get?_push_size _ rfl
 ·have e:b=(s.heap.push {cls:=.type "range",data:=.fields #[.int lo t,.int hi u,.int 1 v]}).objs.size:=by simpa using hb
  subst e
  exact I1.fpOk (Nat.le_refl _) (I1.hok.fresh (Nat.le_refl _))
def O7 (ta:TA):TI:=fun σ H R=>ta σ H fun vs H1=>∃j:Int,vs=[.int j]/\-(2 ^ 62)<=j/\j < 2 ^ 62/\R (Itr 0 j.toNat) H1
def O8 (ta:TA):TI:=fun σ H R=>ta σ H fun vs H1=>∃i j:Int,vs=[.int i,.int j]/\(-(2 ^ 62)<=i/\i < 2 ^ 62/\-(2 ^ 62)<=j/\j < 2 ^ 62)/\R (Itr i (j - i).toNat) H1
theorem J4 {a:Expr}{ta:TA}{p pos:Pos}(hg:Gl X "range")(hm:X.mg "range"=none)(ha:PA X [a] ta)(hs:starEach [a] X.env=[(false,eval a X.env)]:=by rfl):PI X tg (.Call (.Name "range" p) [a] [] pos) (O7 ta):=by
 intro pins s σ H R I h
 refine Call_ (sX I hg hm boot_range (PyProof.Rows.callWith_type1 (thn (ha pos pins s σ H _ I h) fun us s1 ⟨vs,H1,I1,r1,q1⟩=>?_) hs rfl))
 obtain ⟨j,e,q1,q2,q⟩:=q1
 subst e
 cases r1 with
 | cons r rr=>
  cases rr
  obtain ⟨t,rfl⟩:=r
  exact call_range_1 (ES I1 (by omega) (by omega) q1 q2 (by simpa using q))
theorem Ka {a b:Expr}{ta:TA}{p pos:Pos}(hg:Gl X "range")(hm:X.mg "range"=none)(ha:PA X [a,b] ta)(hs:starEach [a,b] X.env=[(false,eval a X.env),(false,eval b X.env)]:=by rfl)(hs2:starEach [b] X.env=[(false,eval b X.env)]:=by rfl) :
  PI X tg (.Call (.Name "range" p) [a,b] [] pos) (O8 ta):=by
 intro pins s σ H R I h
 refine Call_ (sX I hg hm boot_range (PyProof.Rows.callWith_type1 (thn (ha pos pins s σ H _ I h) fun us s1 ⟨vs,H1,I1,r1,q1⟩=>?_) (by rw [hs,hs2]) (by rw [hs2];rfl)))
 obtain ⟨i,j,e,⟨q1,q2,q3,q4⟩,q⟩:=q1
 subst e
 cases r1 with
 | cons r rr=>
  cases rr with
  | cons r' rr=>
   cases rr
   obtain ⟨t,rfl⟩:=r
   obtain ⟨t',rfl⟩:=r'
   exact call_range_2 (ES I1 q1 q2 q3 q4 q)
def RB (wi:TI)(g:TG)(tb:TS):TS:=fun D σ H=>wi σ H fun J H1=>∃W:Nat->Nat->St->Hp->Prop,(∃m,W 0 m σ H1)/\∀i m σ H,W i m σ H->
 (J.stop i H/\D.nx σ H)\/(J.go i H/\∃N:St->Hp->Prop,(∀σ' H',N σ' H'->∃m',m' < m/\W (i+1) m' σ' H')/\∀x H',J.yld i H x H'->g x σ H' fun σ2 H2=>tb {D with nx:=N,ct:=N,bk:=D.nx} σ2 H2)
def y6 (fp:List Addr)(h:Heap):List (Addr×Obj):=fp.filterMap fun b=>(h.get? b).map fun o=>(b,o)
theorem mW {fp:List Addr}{h:Heap}{b:Addr}{o:Obj}(hb:b∈fp)(e:h.get? b=some o):(b,o)∈y6 fp h:=List.mem_filterMap.mpr ⟨b,hb,by rw [e];rfl⟩
theorem Kb {fp:List Addr}{h:Heap}{p:Addr×Obj}(hp:p∈y6 fp h):p.1∈fp/\h.get? p.1=some p.2:=by
 obtain ⟨b,hb,e⟩:=List.mem_filterMap.mp hp
 cases q:h.get? b with
 | none=>rw [q] at e;cases e
 | some o=>
  rw [q] at e
  have e':(b,o)=p:=Option.some.inj e
  subst e'
  exact ⟨hb,q⟩
theorem Inv.pinned {pins:List (Addr×Obj)}{σ:St}{H:Hp}{s:Shared}{fp:List Addr}(I:Inv X pins σ H s)(hf:∀b∈fp,wq X pins H b)(ho:∀b∈fp,∃o,s.heap.get? b=some o/\∀v,o.data≠.cell v):Inv X (pins++y6 fp s.heap) σ H s:=
 I.pins_of fun p hp=>(List.mem_append.mp hp).elim (fun z=>I.pin p (List.mem_append_right _ z)) fun z=>by
  obtain ⟨hb,e⟩:=Kb z
  obtain ⟨f0,f1,f2,_⟩:=hf p.1 hb
  obtain ⟨o,e',d⟩:=ho p.1 hb
  rw [e] at e';cases e'
  exact ⟨e,f0,f1,f2,d⟩
theorem Inv.unpinned {pins pl:List (Addr×Obj)}{σ:St}{H:Hp}{s:Shared}(I:Inv X (pins++pl) σ H s):Inv X pins σ H s:=I.pins_of fun p hp=>I.pin p (List.mem_append_right _ (List.mem_append_left _ hp))
theorem cH {iter:Expr}{body:List Stmt}{wi:TI}{g:TG}{tb:TS}{pos:Pos}(hp:PassesOwn (model X.prog X.w) X.A X.env X.xe)(hc:X.calm=true)(hi:PI X tg iter wi)(hg:PG X tg g)(hb:PSs X body tb)
  (hs:∀x,foldedSetIterable iter X.env x=pure x:=by intro _;rfl):PS X (.For tg iter body [] pos) (RB wi g tb):=by
 intro pins s σ H D I h
 refine wpAny_For (thn (hi pins s σ H _ I h) fun v s1 h1=>thn h1 fun itv s2 h2=>?_) hs
 obtain ⟨it,fp,tn,J,H2,e,I2,T,st2,f2,W,⟨m0,w0⟩,turn⟩:=h2
 subst e
 have stat:∀{H':Hp},(∀b∈fp,H' b=none)->∀b∈fp,wq X pins H' b:=fun hn b hb=>⟨hn b hb,(f2 b hb).2⟩
 refine codeAny_forLoop_any (fun n s'=>∃i σ' H',Inv X pins σ' H' s'/\tn i s'.heap/\(∀b∈fp,H' b=none)/\W i n σ' H') ?_ m0 ⟨0,σ,H2,I2,st2,fun b hb=>(f2 b hb).1,w0⟩
 rintro n s3 ⟨i,σ3,H3,I3,st3,fr3,w3⟩
 rcases turn i n σ3 H3 w3 with ⟨stop,qn⟩ | ⟨go,N,hN,step⟩
 ·refine wpAny_passesOwn hp (thn (T.done X rfl rfl rfl hc i pins s3 σ3 H3 X.xe I3 (stat fr3) st3 stop) fun r s4 ⟨hr,I4⟩=>?_)
  subst hr
  exact wpAny_execs_nil ⟨σ3,H3,I4,qn⟩
 ·refine wpAny_passesOwn hp (thn (T.item X rfl rfl rfl hc i pins s3 σ3 H3 X.xe I3 (stat fr3) st3 go) fun r s4 ⟨u,hr,h4⟩=>?_)
  subst hr
  refine wpAny_passesOwn hp (thn h4 fun _ s5 ⟨x,H5,I5,r5,y5,st5,fr5⟩=>?_)
  have I5':=I5.pinned (stat fr5) (T.obj _ _ st5)
  refine wpAny_passesOwn hp (thn (hg _ s5 σ3 H5 x u _ I5' r5 (step x H5 y5)) fun _ s6 ⟨σ6,H6,I6,q6⟩=>?_)
  refine wpAny_passesOwn hp (thn (hb _ s6 σ6 H6 _ I6 q6) fun f s7 q7=>?_)
  have again:∀{σ7:St} {H7:Hp},Inv X (pins++y6 fp s5.heap) σ7 H7 s7->N σ7 H7->∃m,m < n/\∃i σ' H',Inv X pins σ' H' s7/\tn i s7.heap/\(∀b∈fp,H' b=none)/\W i m σ' H':=fun {σ7 H7} I7 n7=>by
   obtain ⟨m',hm,w7⟩:=hN σ7 H7 n7
   refine ⟨m',hm,i+1,σ7,H7,I7.unpinned,T.keep _ _ _ st5 fun b hb o e=>(I7.pin (b,o) (List.mem_append_right _ (List.mem_append_right _ (mW hb e)))).1,fun b hb=>?_,w7⟩
   obtain ⟨o,e,d⟩:=T.obj _ _ st5 b hb
   exact (I7.pin (b,o) (List.mem_append_right _ (List.mem_append_right _ (mW hb e)))).2.1
  cases f with
  | next=>obtain ⟨σ7,H7,I7,n7⟩:=q7;exact again I7 n7
  | cont=>obtain ⟨σ7,H7,I7,n7⟩:=q7;exact again I7 n7
  | brk=>obtain ⟨σ7,H7,I7,q7⟩:=q7;exact ⟨σ7,H7,I7.unpinned,q7⟩
  | ret v=>obtain ⟨x7,σ7,H7,I7,r7,q7⟩:=q7;exact ⟨x7,σ7,H7,I7.unpinned,r7,q7⟩
end
theorem Ln {K:WA}{a:Addr}{xs:List V}{g:TG}{tb:TS}{D:j1}{σ:St}{H:Hp}(Pv:Nat->St->Hp->Prop)(h0:Pv 0 σ H)(hl:∀i σ H,i<=xs.length->Pv i σ H->SqL K H a xs)
  (hs:∀i x σ H,xs[i]?=some x->Pv i σ H->g x σ H fun σ2 H2=>tb {D with nx:=Pv (i+1),ct:=Pv (i+1),bk:=D.nx} σ2 H2) (hd:∀σ H,Pv xs.length σ H->D.nx σ H) :
  ∃W:Nat->Nat->St->Hp->Prop,(∃m,W 0 m σ H)/\∀i m σ H,W i m σ H->
   ((Itl K a).stop i H/\D.nx σ H)\/((Itl K a).go i H/\∃N:St->Hp->Prop,(∀σ' H',N σ' H'->∃m',m' < m/\W (i+1) m' σ' H')/\∀x H',(Itl K a).yld i H x H'->g x σ H' fun σ2 H2=>tb {D with nx:=N,ct:=N,bk:=D.nx} σ2 H2):=by
 refine ⟨fun i m σ H=>m=xs.length - i/\i<=xs.length/\Pv i σ H,⟨xs.length,by simp,Nat.zero_le _,h0⟩,?_⟩
 rintro i m σ H ⟨rfl,hi,p⟩
 have q:=hl i σ H hi p
 by_cases hlt:i < xs.length
 ·refine .inr ⟨⟨xs,xs[i],q,by simp [hlt]⟩,Pv (i+1),fun σ' H' p'=>⟨xs.length - (i+1),by omega,rfl,hlt,p'⟩,fun x H' y=>?_⟩
  obtain ⟨e,y⟩:=y
  subst e
  exact hs i x σ _ (y xs q) p
 ·have e:i=xs.length:=by omega
  subst e
  exact .inl ⟨⟨xs,q,Nat.le_refl _⟩,hd σ H p⟩
theorem Kc {lo:Int}{n:Nat}{g:TG}{tb:TS}{D:j1}{σ:St}{H:Hp}(Pv:Nat->St->Hp->Prop)(h0:Pv 0 σ H)
  (hs:∀i σ H,i < n->Pv i σ H->g (.int (lo+i)) σ H fun σ2 H2=>tb {D with nx:=Pv (i+1),ct:=Pv (i+1),bk:=D.nx} σ2 H2) (hd:∀σ H,Pv n σ H->D.nx σ H) :
  ∃W:Nat->Nat->St->Hp->Prop,(∃m,W 0 m σ H)/\∀i m σ H,W i m σ H->
   ((Itr lo n).stop i H/\D.nx σ H)\/((Itr lo n).go i H/\∃N:St->Hp->Prop,(∀σ' H',N σ' H'->∃m',m' < m/\W (i+1) m' σ' H')/\∀x H',(Itr lo n).yld i H x H'->g x σ H' fun σ2 H2=>tb {D with nx:=N,ct:=N,bk:=D.nx} σ2 H2):=by
 refine ⟨fun i m σ H=>m=n - i/\i<=n/\Pv i σ H,⟨n,by simp,Nat.zero_le _,h0⟩,?_⟩
 rintro i m σ H ⟨rfl,hi,p⟩
 by_cases hlt:i < n
 ·refine .inr ⟨hlt,Pv (i+1),fun σ' H' p'=>⟨n - (i+1),by omega,rfl,hlt,p'⟩,fun x H' y=>?_⟩
  obtain ⟨e,y⟩:=y
  subst e y
  exact hs i σ _ hlt p
 ·have e:i=n:=by omega
  subst e
  exact .inl ⟨Nat.le_refl _,hd σ H p⟩
theorem Lo {c:TT}{tb:TS}{D:j1}{σ:St}{H:Hp}(Pv:St->Hp->Prop)(μ:St->Hp->Nat)(h0:Pv σ H)
  (hs:∀σ H,Pv σ H->c σ H fun b H1=>if b=true then tb {D with nx:=fun σ' H'=>Pv σ' H'/\μ σ' H' < μ σ H,ct:=fun σ' H'=>Pv σ' H'/\μ σ' H' < μ σ H,bk:=D.nx} σ H1 else D.nx σ H1)
  (mono:∀σ H Q Q',(∀b H1,Q b H1->Q' b H1)->c σ H Q->c σ H Q'):Ll c tb D σ H:=by
 refine ⟨fun m σ H=>m=μ σ H/\Pv σ H,⟨_,rfl,h0⟩,?_⟩
 rintro m σ H ⟨rfl,p⟩
 refine mono σ H _ _ (fun b H1 q=>?_) (hs σ H p)
 cases b with
 | true=>exact ⟨_,fun σ' H' ⟨p',l⟩=>⟨_,l,rfl,p'⟩,q⟩
 | false=>exact q
abbrev R2:=V->V->Hp->VK->Prop
def OpR (X:Cx)(f:Value->Value->Sem Value)(r:R2):Prop:=
 ∀(pins:List (Addr×Obj)) (s:Shared) (σ:St) (H:Hp) (x y:V) (v u:Value) (Q:VK),Inv X pins σ H s->bT x v->bT y u->r x y H Q->
  wpAny (model X.prog X.w) X.A (f v u) (EP X pins σ Q) X.xe s
def UnR (X:Cx)(f:Value->Sem Value)(r:V->Hp->VK->Prop):Prop:=
 ∀(pins:List (Addr×Obj)) (s:Shared) (σ:St) (H:Hp) (x:V) (v:Value) (Q:VK),Inv X pins σ H s->bT x v->r x H Q->
  wpAny (model X.prog X.w) X.A (f v) (EP X pins σ Q) X.xe s
def dw (X:Cx)(f:Value)(r:List V->Hp->VK->Prop):Prop:=
 ∀(pins:List (Addr×Obj)) (s:Shared) (σ:St) (H:Hp) (xs:List V) (us:List Value) (Q:VK),Inv X pins σ H s->bF xs us->r xs H Q->
  wpAny (model X.prog X.w) X.A (call f us) (EP X pins σ Q) X.xe s
def Sy (X:Cx)(r:V->Hp->(Bool->Hp->Prop)->Prop):Prop:=
 ∀(pins:List (Addr×Obj)) (s:Shared) (σ:St) (H:Hp) (x:V) (v:Value) (Q:Bool->Hp->Prop),Inv X pins σ H s->bT x v->r x H Q->
  wpAny (model X.prog X.w) X.A (truthy v) (TP X pins σ Q) X.xe s
def tOp (r:R2)(ta tb:TE):TE:=fun σ H Q=>ta σ H fun x H1=>tb σ H1 fun y H2=>r x y H2 Q
def tUn (r:V->Hp->VK->Prop)(ta:TE):TE:=fun σ H Q=>ta σ H fun x H1=>r x H1 Q
def rI (C:Int->Int->Prop)(g:Int->Int->V):R2:=fun x y H Q=>∃i j,x=.int i/\y=.int j/\C i j/\Q (g i j) H
def rI0 (g:Int->Int->V):R2:=fun x y H Q=>∃i j,x=.int i/\y=.int j/\Q (g i j) H
def rU (g:Int->V):V->Hp->VK->Prop:=fun x H Q=>∃i,x=.int i/\Q (g i) H
section
variable {X:Cx}{a b c:Expr}{ta tb tc:TE}{pos:Pos}
theorem P8 (ha:PE X a ta)(hb:PE X b tb){pins:List (Addr×Obj)}{s:Shared}{σ:St}{H:Hp}{R:V->V->Hp->Prop}(I:Inv X pins σ H s)
  (h:ta σ H fun x H1=>tb σ H1 fun y H2=>R x y H2) {Q:Value->Shared->Prop} {f:Value->Value->Sem Value}
  (hf:∀v u s2 x y H2,Inv X pins σ H2 s2->bT x v->bT y u->R x y H2->wpAny (model X.prog X.w) X.A (f v u) Q X.xe s2) :
  wpAny (model X.prog X.w) X.A (eval a X.env) (fun v s₁=>wpAny (model X.prog X.w) X.A (eval b X.env) (fun u s₂=>wpAny (model X.prog X.w) X.A (f v u) Q X.xe s₂) X.xe s₁) X.xe s:=by
 refine thn (ha pins s σ H _ I h) fun v s1 ⟨x,H1,I1,r1,q1⟩=>?_
 refine thn (hb pins s1 σ H1 _ I1 q1) fun u s2 ⟨y,H2,I2,r2,q2⟩=>?_
 exact hf v u s2 x y H2 I2 r1 r2 q2
theorem aT {op:Operator}{r:R2}(ho:OpR X (binaryOp op) r)(ha:PE X a ta)(hb:PE X b tb):PE X (.BinOp a op b pos) (tOp r ta tb):=by
 intro pins s σ H Q I h
 exact wpAny_BinOp (P8 ha hb I h fun v u s2 x y H2 I2 rx ry q=>ho pins s2 σ H2 x y v u Q I2 rx ry q)
theorem fB {op:UnaryOp}{r:V->Hp->VK->Prop}(ho:UnR X (unaryOp op) r)(ha:PE X a ta):PE X (.UnaryOp op a pos) (tUn r ta):=by
 intro pins s σ H Q I h
 exact UnaryOp_ (thn (ha pins s σ H _ I h) fun v s1 ⟨x,H1,I1,r1,q1⟩=>ho pins s1 σ H1 x v Q I1 r1 q1)
theorem opI {f:Value->Value->Sem Value}{C:Int->Int->Prop}{g:Int->Int->Int}
  (rule:∀(i j:Int) (t u:Tok) (s:Shared) (Q:Value->Shared->Prop) (E:Value->Shared->Prop),C i j->Q (.int (g i j) s.toks) {s with toks:=s.toks+1}->wpAny (model X.prog X.w) X.A (f (.int i t) (.int j u)) Q E s) :
  OpR X f (rI C fun i j=>.int (g i j)):=by
 intro pins s σ H x y v u Q I rx ry h
 obtain ⟨i,j,rfl,rfl,hc,q⟩:=h
 obtain ⟨t,rfl⟩:=rx
 obtain ⟨t',rfl⟩:=ry
 exact rule i j t t' s _ _ hc ⟨.int (g i j),H,I.tok _,⟨_,rfl⟩,q⟩
theorem RC {f:Value->Value->Sem Value}{g:Int->Int->Int}
  (rule:∀(i j:Int) (t u:Tok) (s:Shared) (Q:Value->Shared->Prop) (E:Value->Shared->Prop),Q (.int (g i j) s.toks) {s with toks:=s.toks+1}->wpAny (model X.prog X.w) X.A (f (.int i t) (.int j u)) Q E s) :
  OpR X f (rI0 fun i j=>.int (g i j)):=by
 intro pins s σ H x y v u Q I rx ry h
 obtain ⟨i,j,rfl,rfl,q⟩:=h
 obtain ⟨t,rfl⟩:=rx
 obtain ⟨t',rfl⟩:=ry
 exact rule i j t t' s _ _ ⟨.int (g i j),H,I.tok _,⟨_,rfl⟩,q⟩
theorem Nu {f:Value->Value->Sem Value}{g:Int->Int->Bool}
  (rule:∀(i j:Int) (t u:Tok) (s:Shared) (Q:Value->Shared->Prop) (E:Value->Shared->Prop),Q (.bool (g i j)) s->wpAny (model X.prog X.w) X.A (f (.int i t) (.int j u)) Q E s) :
  OpR X f (rI0 fun i j=>.bl (g i j)):=by
 intro pins s σ H x y v u Q I rx ry h
 obtain ⟨i,j,rfl,rfl,q⟩:=h
 obtain ⟨t,rfl⟩:=rx
 obtain ⟨t',rfl⟩:=ry
 exact rule i j t t' s _ _ ⟨.bl (g i j),H,I,rfl,q⟩
def Lp (i j:Int):Prop:=0 < j/\j < 1073741824
def P9 (i j:Int):Prop:=0<=j/\j<=1000000/\i.natAbs < 2 ^ 64
def y8 (i j:Int):Prop:=(-(2 ^ 64) < i/\i < 2 ^ 64)\/(-(2 ^ 64) < j/\j < 2 ^ 64)
theorem y8.ok {i j:Int}(h:y8 i j):IntMulOk i j:=by
 rcases h with ⟨h1,h2⟩ | ⟨h1,h2⟩
 ·exact .of_left (intBits_le_64 h1 h2)
 ·exact .of_right (intBits_le_64 h1 h2)
theorem Qa:OpR X (binaryOp .Add) (rI0 fun i j=>.int (i+j)):=RC fun _ _ _ _ _ _ _ q=>add_int q
theorem Qb:OpR X (binaryOp .Sub) (rI0 fun i j=>.int (i - j)):=RC fun _ _ _ _ _ _ _ q=>sub_int q
theorem G6:OpR X (binaryOp .Mult) (rI y8 fun i j=>.int (i * j)):=opI fun _ _ _ _ _ _ _ hc q=>mul_int q hc.ok
theorem Nv:OpR X (binaryOp .FloorDiv) (rI Lp fun i j=>.int (i / j)):=opI fun i j _ _ _ _ _ hc q=>by
 have h1:(0:Int) < j:=hc.1
 have h2:j < 1073741824:=hc.2
 exact floordiv_int (by omega) (by rw [Int.fdiv_eq_ediv_of_nonneg i (by omega)];exact q) (.inl (PyProof.noPylong_small (by omega)))
theorem Lq:OpR X (binaryOp .Mod) (rI (fun _ j=>0 < j) fun i j=>.int (i % j)):=opI fun i j _ _ _ _ _ hc q=>by
 have h1:(0:Int) < j:=hc
 exact mod_int' (by omega) (by rw [Int.fmod_eq_emod_of_nonneg i (by omega)];exact q)
theorem Qc:OpR X (binaryOp .Pow) (rI P9 fun i j=>.int (i ^ j.toNat)):=opI fun _ _ _ _ _ _ _ hc q=>pow_int_small hc.1 hc.2.1 hc.2.2 q
theorem unI {f:Value->Sem Value}{g:Int->Int}
  (rule:∀(i:Int) (t:Tok) (s:Shared) (Q:Value->Shared->Prop) (E:Value->Shared->Prop),Q (.int (g i) s.toks) {s with toks:=s.toks+1}->wpAny (model X.prog X.w) X.A (f (.int i t)) Q E s) :
  UnR X f (rU fun i=>.int (g i)):=by
 intro pins s σ H x v Q I rx h
 obtain ⟨i,rfl,q⟩:=h
 obtain ⟨t,rfl⟩:=rx
 exact rule i t s _ _ ⟨.int (g i),H,I.tok _,⟨_,rfl⟩,q⟩
theorem Qe:UnR X (unaryOp .USub) (rU fun i=>.int (-i)):=unI fun _ _ _ _ _ q=>neg_int q
end
def AV:V->V->Bool
 | .non,.non=>true | .non,.int _=>true | .int _,.non=>true | .non,.bl _=>true | .bl _,.non=>true | .non,.str _=>true | .str _,.non=>true
 | .int _,.int _=>true | .bl _,.bl _=>true | .str _,.str _=>true | .byt _,.byt _=>true
 | .int _,.str _=>true | .str _,.int _=>true | .bl _,.str _=>true | .str _,.bl _=>true
 | _,_=>false
def rEq:R2:=fun x y H Q=>AV x y=true/\Q (.bl (decide (x=y))) H
def rNe:R2:=fun x y H Q=>AV x y=true/\Q (.bl (!decide (x=y))) H
theorem IW {i j:Int}:decide (V.int i=V.int j)=(i == j):=by
 rw [Bool.eq_iff_iff]
 simp
theorem Lr {i j:Bool}:decide (V.bl i=V.bl j)=(i == j):=by
 rw [Bool.eq_iff_iff]
 simp
theorem IX {i j:Str}:decide (V.str i=V.str j)=(i == j):=by
 rw [Bool.eq_iff_iff]
 simp
theorem IY {i j:Array UInt8}:decide (V.byt i=V.byt j)=(i.toList == j.toList):=by
 rw [Bool.eq_iff_iff]
 cases i
 cases j
 simp
section
variable {X:Cx}{a b c:Expr}{ta tb tc:TE}{pos:Pos}
theorem cx {pins:List (Addr×Obj)}{σ:St}{H:Hp}{s:Shared}{Q:VK}{k k':Bool}(I:Inv X pins σ H s)(q:Q (.bl k) H)(e:k=k'):EP X pins σ Q (.bool k') s:=by
 subst e
 exact ⟨.bl k,H,I,rfl,q⟩
theorem O9:OpR X (compareOp .Eq) rEq:=by
 intro pins s σ H x y v u Q I rx ry h
 obtain ⟨hs,q⟩:=h
 cases x with
 | non=>
  cases rx
  cases y with
  | non=>cases ry;exact PySem.EqNone.eq_none_none (cx I q (by simp))
  | bl j=>cases ry;exact PySem.EqNone.eq_none_bool (cx I q (by simp))
  | int j=>obtain ⟨t',rfl⟩:=ry;exact PySem.EqNone.eq_none_int (cx I q (by simp))
  | str j=>obtain ⟨t',rfl⟩:=ry;exact PySem.EqNone.eq_none_str (cx I q (by simp))
  | _=>exact absurd (show false=true from hs) Bool.false_ne_true
 | bl i=>
  cases rx
  cases y with
  | non=>cases ry;exact PySem.EqNone.eq_bool_none (cx I q (by simp))
  | bl j=>cases ry;exact eq_bool (cx I q Lr)
  | str j=>obtain ⟨t',rfl⟩:=ry;exact PySem.EqMixed.eq_bool_str (cx I q (by simp))
  | _=>exact absurd (show false=true from hs) Bool.false_ne_true
 | int i=>
  obtain ⟨t,rfl⟩:=rx
  cases y with
  | non=>cases ry;exact PySem.EqNone.eq_int_none (cx I q (by simp))
  | int j=>obtain ⟨t',rfl⟩:=ry;exact eq_int (cx I q IW)
  | str j=>obtain ⟨t',rfl⟩:=ry;exact PySem.EqMixed.eq_int_str (cx I q (by simp))
  | _=>exact absurd (show false=true from hs) Bool.false_ne_true
 | str i=>
  obtain ⟨t,rfl⟩:=rx
  cases y with
  | non=>cases ry;exact PySem.EqNone.eq_str_none (cx I q (by simp))
  | bl j=>cases ry;exact PySem.EqMixed.eq_str_bool (cx I q (by simp))
  | int j=>obtain ⟨t',rfl⟩:=ry;exact PySem.EqMixed.eq_str_int (cx I q (by simp))
  | str j=>obtain ⟨t',rfl⟩:=ry;exact eq_str (cx I q IX)
  | _=>exact absurd (show false=true from hs) Bool.false_ne_true
 | byt i=>
  obtain ⟨t,rfl⟩:=rx
  cases y with
  | byt j=>obtain ⟨t',rfl⟩:=ry;exact W.eq_bytes (cx I q IY)
  | _=>exact absurd (show false=true from hs) Bool.false_ne_true
 | _=>cases y<;>exact absurd (show false=true from hs) Bool.false_ne_true
theorem Pa:OpR X (compareOp .NotEq) rNe:=by
 intro pins s σ H x y v u Q I rx ry h
 obtain ⟨hs,q⟩:=h
 cases x with
 | non=>
  cases rx
  cases y with
  | non=>cases ry;exact PySem.EqNone.ne_none_none (cx I q (by simp))
  | bl j=>cases ry;exact PySem.EqNone.ne_none_bool (cx I q (by simp))
  | int j=>obtain ⟨t',rfl⟩:=ry;exact PySem.EqNone.ne_none_int (cx I q (by simp))
  | str j=>obtain ⟨t',rfl⟩:=ry;exact PySem.EqNone.ne_none_str (cx I q (by simp))
  | _=>exact absurd (show false=true from hs) Bool.false_ne_true
 | bl i=>
  cases rx
  cases y with
  | non=>cases ry;exact PySem.EqNone.ne_bool_none (cx I q (by simp))
  | bl j=>cases ry;exact ne_bool (cx I q (congrArg not Lr))
  | str j=>obtain ⟨t',rfl⟩:=ry;exact PySem.EqMixed.ne_bool_str (cx I q (by simp))
  | _=>exact absurd (show false=true from hs) Bool.false_ne_true
 | int i=>
  obtain ⟨t,rfl⟩:=rx
  cases y with
  | non=>cases ry;exact PySem.EqNone.ne_int_none (cx I q (by simp))
  | int j=>obtain ⟨t',rfl⟩:=ry;exact ne_int (cx I q (congrArg not IW))
  | str j=>obtain ⟨t',rfl⟩:=ry;exact PySem.EqMixed.ne_int_str (cx I q (by simp))
  | _=>exact absurd (show false=true from hs) Bool.false_ne_true
 | str i=>
  obtain ⟨t,rfl⟩:=rx
  cases y with
  | non=>cases ry;exact PySem.EqNone.ne_str_none (cx I q (by simp))
  | bl j=>cases ry;exact PySem.EqMixed.ne_str_bool (cx I q (by simp))
  | int j=>obtain ⟨t',rfl⟩:=ry;exact PySem.EqMixed.ne_str_int (cx I q (by simp))
  | str j=>obtain ⟨t',rfl⟩:=ry;exact ne_str (cx I q (congrArg not IX))
  | _=>exact absurd (show false=true from hs) Bool.false_ne_true
 | byt i=>
  obtain ⟨t,rfl⟩:=rx
  cases y with
  | byt j=>obtain ⟨t',rfl⟩:=ry;exact W.ne_bytes (cx I q (congrArg not IY))
  | _=>exact absurd (show false=true from hs) Bool.false_ne_true
 | _=>cases y<;>exact absurd (show false=true from hs) Bool.false_ne_true
theorem Pb:OpR X (compareOp .Lt) (rI0 fun i j=>.bl (decide (i < j))):=Nu fun _ _ _ _ _ _ _ q=>lt_int q
theorem Pc:OpR X (compareOp .LtE) (rI0 fun i j=>.bl (decide (i<=j))):=Nu fun _ _ _ _ _ _ _ q=>le_int q
theorem RD:OpR X (compareOp .Gt) (rI0 fun i j=>.bl (decide (j < i))):=Nu fun _ _ _ _ _ _ _ q=>gt_int q
theorem Pd:OpR X (compareOp .GtE) (rI0 fun i j=>.bl (decide (j<=i))):=Nu fun _ _ _ _ _ _ _ q=>ge_int q
theorem Qf:OpR X (compareOp .Is) (fun x y H Q=>y=.non/\Q (.bl (decide (x=.non))) H):=by
 intro pins s σ H x y v u Q I rx ry h
 obtain ⟨rfl,q⟩:=h
 cases ry
 refine is_none_gen (cx I q ?_)
 cases x<;>first
  | (cases rx;rfl)
  | (obtain ⟨t,rfl⟩:=rx;rfl)
theorem Nw:OpR X (compareOp .IsNot) (fun x y H Q=>y=.non/\Q (.bl (!decide (x=.non))) H):=by
 intro pins s σ H x y v u Q I rx ry h
 obtain ⟨rfl,q⟩:=h
 cases ry
 refine isnot_none_gen (cx I q ?_)
 cases x<;>first
  | (cases rx;rfl)
  | (obtain ⟨t,rfl⟩:=rx;rfl)
theorem cE (b:Expr){op:CmpOp}(h:op≠.In:=by decide)(h2:op≠.NotIn:=by decide):behindInMarks op b=false:=by
 have e1:(op == CmpOp.In)=false:=by cases op<;>first | rfl | exact absurd rfl h
 have e2:(op == CmpOp.NotIn)=false:=by cases op<;>first | rfl | exact absurd rfl h2
 cases b<;>simp [behindInMarks,e1,e2]
theorem dF {op:CmpOp}{r:R2}(ho:OpR X (compareOp op) r)(ha:PE X a ta)(hb:PE X b tb)(hm:behindInMarks op b=false):PE X (.Compare a [op] [b] pos) (tOp r ta tb):=by
 intro pins s σ H Q I h
 exact wpAny_Compare1 (P8 ha hb I h fun v u s2 x y H2 I2 rx ry q=>ho pins s2 σ H2 x y v u Q I2 rx ry q) hm
def pf (t:TE):TT:=fun σ H Q=>t σ H fun x H'=>∃k,x=.bl k/\Q k H'
theorem iX {op:CmpOp}{r:R2}(ho:OpR X (compareOp op) r)(ha:PE X a ta)(hb:PE X b tb)(hm:behindInMarks op b=false):PT X (.Compare a [op] [b] pos) (pf (tOp r ta tb)):=by
 intro pins s σ H Q I h
 refine wpAny_isTrue_Compare1 (thn (ha pins s σ H _ I h) fun v s1 ⟨x,H1,I1,r1,q1⟩=>thn (hb pins s1 σ H1 _ I1 q1) fun u s2 ⟨y,H2,I2,r2,q2⟩=>
  thn (ho pins s2 σ H2 x y v u _ I2 r1 r2 q2) fun c s3 ⟨z,H3,I3,r3,k,e,q3⟩=>?_) hm
 subst e
 cases r3
 exact wpAny_truthy_bool ⟨H3,I3,q3⟩
def RE (K:WA)(x:V)(H:Hp)(k:Bool):Prop:=
 match x with
 | .non=>k=false
 | .bl b=>k=b
 | .int i=>k=(i != 0)
 | .str y=>y.length<=sizeLine/\k=((y.length:Int) != 0)
 | .byt y=>y.size<=sizeLine/\k=((y.size:Int) != 0)
 | .ref p=>(∃xs,SqL K H p xs/\k=!xs.isEmpty)\/(∃xs,SqT K H p xs/\k=!xs.isEmpty)\/∃kvs,H p=some (.dK kvs)/\k=!kvs.isEmpty
 | _=>False
theorem G7 {κ:Type}{kvs:List (κ×V)}{vs:List (κ×Value)}(r:KV kvs vs):(!vs.isEmpty)=!kvs.isEmpty:=by
 cases r<;>rfl
theorem y9 {xs:List V}{its:List Value}(r:bF xs its):(!its.toArray.isEmpty)=!xs.isEmpty:=by
 cases r<;>simp
theorem wu:(sizeLine:Nat) < 2 ^ 63:=by rw [sizeLine_eq];decide
theorem Qg:Sy X (fun x H Q=>∃k,RE X.K x H k/\Q k H):=by
 intro pins s σ H x v Q I rx h
 obtain ⟨k,e,q⟩:=h
 have hl:=wu
 have hs:sizeLine=16777216:=sizeLine_eq
 cases x with
 | non=>
  cases rx
  have e':k=false:=e
  subst e'
  exact truthy_none ⟨H,I,q⟩
 | bl b=>
  cases rx
  have e':k=b:=e
  subst e'
  exact wpAny_truthy_bool ⟨H,I,q⟩
 | int i=>
  obtain ⟨t,rfl⟩:=rx
  have e':k=(i != 0):=e
  subst e'
  exact PySem.P.truthy_int ⟨H,I,q⟩
 | str y=>
  obtain ⟨t,rfl⟩:=rx
  obtain ⟨hy,e'⟩:y.length<=sizeLine/\k=((y.length:Int) != 0):=e
  subst e'
  exact PySem.P.truthy_str (by omega) ⟨H,I.tok _,q⟩
 | byt y=>
  obtain ⟨t,rfl⟩:=rx
  obtain ⟨hy,e'⟩:y.size<=sizeLine/\k=((y.size:Int) != 0):=e
  subst e'
  exact W.truthy_bytes (by omega) ⟨H,I.tok _,q⟩
 | ref p=>
  cases rx
  have e':(∃xs,SqL X.K H p xs/\k=!xs.isEmpty)\/(∃xs,SqT X.K H p xs/\k=!xs.isEmpty)\/∃kvs,H p=some (.dK kvs)/\k=!kvs.isEmpty:=e
  rcases e' with ⟨xs,hx,e'⟩ | ⟨xs,hx,e'⟩ | ⟨kvs,hx,e'⟩
  ·subst e'
   obtain ⟨its,r,pl,hz⟩:=I.list hx
   have hlen:=r.length
   exact wpAny_truthy_list pl.isList (by simp only [List.size_toArray];omega) ⟨H,I.tok _,by rw [y9 r];exact q⟩
  ·subst e'
   obtain ⟨its,r,pl,hz⟩:=I.tuple hx
   have hlen:=r.length
   exact truthy_tuple pl (by simp only [List.size_toArray];omega) ⟨H,I.tok _,by rw [y9 r];exact q⟩
  ·subst e'
   obtain ⟨hz,hS,vs,r,m⟩:kvs.length<=sizeLine/\(p == sysModules)=false/\∃vs,KV kvs vs/\s.heap.DictOf (Dg X.prog X.w) p vs:=I.hok p _ hx
   have hlen:kvs.length=vs.length:=Paired.length r
   exact wpAny_truthy_dict hS m (by omega) ⟨H,I.tok _,by rw [G7 r];exact q⟩
 | _=>exact (show False from e).elim
theorem zc (ha:PE X a ta)(he:∀cw,isTrue a X.env cw=(do let v ←cw;standAt a.pos;holding [v] (truthy v))) :
  PT X a (fun σ H Q=>ta σ H fun x H'=>∃k,RE X.K x H' k/\Q k H'):=by
 intro pins s σ H Q I h
 exact isTrue_plain (thn (ha pins s σ H _ I h) fun v s1 ⟨x,H1,I1,r1,q1⟩=>Qg pins s1 σ H1 x v Q I1 r1 q1) (he _)
theorem uo {x:V}{us:List Value}(r:bF [x] us):∃u,us=[u]/\bT x u:=by
 cases r with
 | cons r1 r2=>cases r2;exact ⟨_,rfl,r1⟩
theorem ET {x y:V}{us:List Value}(r:bF [x,y] us):∃u w',us=[u,w']/\bT x u/\bT y w':=by
 cases r with
 | cons r1 r2=>
  cases r2 with
  | cons r3 r4=>cases r4;exact ⟨_,_,rfl,r1,r3⟩
theorem Ls:dw X (.builtin "abs") (fun xs H Q=>∃i,xs=[.int i]/\Q (.int (if i < 0 then -i else i)) H):=by
 intro pins s σ H xs us Q I r h
 obtain ⟨i,rfl,q⟩:=h
 obtain ⟨u,rfl,t,rfl⟩:=uo r
 exact call_abs_int fun u tk=>⟨.int (if i < 0 then -i else i),H,I.tok _,⟨_,rfl⟩,q⟩
theorem Kd (hc:X.calm=true):dw X (.builtin "max") (fun xs H Q=>∃i j,xs=[.int i,.int j]/\Q (.int (if j > i then j else i)) H):=by
 intro pins s σ H xs us Q I r h
 obtain ⟨i,j,rfl,q⟩:=h
 obtain ⟨u,w',rfl,⟨t,rfl⟩,⟨t',rfl⟩⟩:=ET r
 refine max_two_ints (I.ok.hd hc) fun h' tk k=>⟨_,H,I.kept k,?_,q⟩
 by_cases hj:j > i
 ·rw [if_pos hj,if_pos hj];exact ⟨_,rfl⟩
 ·rw [if_neg hj,if_neg hj];exact ⟨_,rfl⟩
theorem Ke (hc:X.calm=true):dw X (.builtin "min") (fun xs H Q=>∃i j,xs=[.int i,.int j]/\Q (.int (if j < i then j else i)) H):=by
 intro pins s σ H xs us Q I r h
 obtain ⟨i,j,rfl,q⟩:=h
 obtain ⟨u,w',rfl,⟨t,rfl⟩,⟨t',rfl⟩⟩:=ET r
 refine min_two_ints (I.ok.hd hc) fun h' tk k=>⟨_,H,I.kept k,?_,q⟩
 by_cases hj:j < i
 ·rw [if_pos hj,if_pos hj];exact ⟨_,rfl⟩
 ·rw [if_neg hj,if_neg hj];exact ⟨_,rfl⟩
theorem Kf:dw X (.type "int") (fun xs H Q=>(∃i,xs=[.int i]/\Q (.int i) H)\/∃k,xs=[.bl k]/\Q (.int (if k then 1 else 0)) H):=by
 intro pins s σ H xs us Q I r h
 rcases h with ⟨i,rfl,q⟩ | ⟨k,rfl,q⟩
 ·obtain ⟨u,rfl,t,rfl⟩:=uo r
  exact call_int_int ⟨.int i,H,I,⟨_,rfl⟩,q⟩
 ·obtain ⟨u,rfl,r1⟩:=uo r
  cases r1
  exact call_int_bool ⟨.int (if k then 1 else 0),H,I.tok _,⟨_,rfl⟩,q⟩
end
structure G8 (h:Heap)(x dx C:Addr)(mA:Str->Option Value):Prop where
 obj:h.get? x=some (W.instObj C dx)
 ns:h.Ns1 dx mA
 ne:dx≠x
theorem Kg {h:Heap}{dx:Addr}{mA:Str->Option Value}(n:h.Ns1 dx mA):∃od,h.get? dx=some od/\∀name,W.lookIn name od=some (mA name):=by
 obtain ⟨o,es,ep,ho,hd,hk,_,hm⟩:=n
 refine ⟨o,ho,fun name=>?_⟩
 have e:=hm name
 unfold nsFind findBy at e
 rw [←Array.find?_toList] at e
 unfold W.lookIn
 rw [hd]
 dsimp only
 split
 ·rename_i y q
  rw [q] at e
  exact congrArg some e
 ·rename_i q
  rw [q] at e
  have a:es.toList.any (·.refKey)=false:=by
   rw [List.any_eq_false]
   intro y hy
   obtain ⟨z,t,hkey⟩:=hk y (Array.mem_toList_iff.mp hy)
   simp [DictEntry.refKey,hkey]
  have a':¬es.toList.any (·.refKey)=true:=by rw [a];exact Bool.false_ne_true
  rw [if_neg a']
  exact congrArg some e
theorem G8.look {h:Heap}{x dx C:Addr}{mA:Str->Option Value}(I:G8 h x dx C mA):∃od,W.InstAt h x (W.instObj C dx) C (some od)/\∀name,W.lookIn name od=some (mA name):=
 let ⟨od,ho,hl⟩:=Kg I.ns
 ⟨od,⟨I.obj,rfl,rfl,ho⟩,hl⟩
section
variable {prog:Program}{w:World}{A:Around}{E:Value->Shared->Prop}{s:Shared}{K:WA}{x dx C f:Addr}{mA:Str->Option Value}{name:Str}{v:Value}
theorem Nx {expr:Bool}{Q:Value->Shared->Prop}(X:K.In s.heap)(I:G8 s.heap x dx C mA)(hg:W.plainGet K C name=true)(hh:W.hasDictIn K C=true)
  (ha:W.findIn K (.ref C) name=some none) (hv:mA name=some v) (hv':W.handedIn v=true) (h:Q v {s with toks:=s.toks+1}) :
  wpAny (model prog w) A (getAttr (.ref x) name expr) Q E s:=by
 obtain ⟨od,J,hl⟩:=I.look
 exact W.get_value X J (W.plainGet_of hg).1 (W.findObj_own hh ha rfl (by rw [hl,hv])) hv' h
theorem Lu {pl:Sem Bool}{Q:Value×List Value->Shared->Prop}(X:K.In s.heap)(I:G8 s.heap x dx C mA)(hg:W.plainGet K C name=true)
  (hf:W.findIn K (.ref C) name=some (some (.ref f))) (ht:W.isFn K (.ref f)=true) (hv:mA name=none) (h:Q (.ref f,[.ref x]) s) :
  wpAny (model prog w) A (getMethod (.ref x) name pl) Q E s:=by
 obtain ⟨od,J,hl⟩:=I.look
 exact W.method_fn X J (W.plainGet_of hg).1 (W.plainGet_of hg).2 hf (beq_iff_eq.mp ht) (by show (W.lookIn name od).map (·.isSome)=some false;rw [hl,hv];rfl) h
theorem Ny {ns:List Str}{Q:Unit->Shared->Prop}(X:K.In s.heap)(I:G8 s.heap x dx C mA)
  (hs:W.findIn K (.ref C) "__setattr__"=some (some (.builtin "object.__setattr__"))) (hp:W.plainOver K C=true) (ht:W.takerIn K C name=some none) (hh:W.hasDictIn K C=true)
  (hw:PySem.Within mA ns) (hsz:ns.length<=sizeLine)
  (h:∀h',G8 h' x dx C (fun y=>if y=name then some v else mA y)->Heap.SameBut dx s.heap h'->Q () {s with heap:=h',toks:=s.toks+2}) :
  wpAny (model prog w) A (setAttr (.ref x) name v) Q E s:=by
 obtain ⟨od,J,hl⟩:=I.look
 refine W.set_plain X J hs (W.osa_open (s:={s with toks:=s.toks+1}) (r:=none) X J hp ht fun b=>?_)
 obtain ⟨cd,hc,hd'⟩:=W.any_some hh
 have hx:s.heap.get? x=some ⟨.ref C,some dx,.plain,#[]⟩:=I.obj
 refine wpAny_bind (wpAny_pure (wpAny_bind (wpAny_bind (wpAny_loadPart hx (wpAny_bind (W.Looks.here (s:={s with toks:=s.toks+1}) (W.looks_clsIn X hc) ?_))))))
 rw [hd']
 refine wpAny_pure (a:=some dx) (wpAny_bind (wpAny_pure (wpAny_bind ?_)))
 refine wpAny_nsSet1 (s:={s with toks:=s.toks+1}) I.ns fun h' hn2 hs2=>?_
 obtain ⟨oD,esD,epD,hoD,hdD,hcD⟩:=hn2.count (PySem.Within.cons name v hw)
 refine wpAny_bind (wpAny_lookBehind hoD (by rw [hdD];exact pastItsLine_dict (Nat.le_trans hcD (by rw [List.length_cons];omega))) ?_)
 exact wpAny_pure (h _ ⟨(hs2.2 _ (Ne.symm I.ne)).trans I.obj,hn2,I.ne⟩ hs2)
theorem Lv {R:Result->Shared->Prop}{vs:List Value}{kw:List (Str×Value)}(X:K.In s.heap)(hm:W.makesIn K C=true)
  (hi:W.findIn K (.ref C) "__init__"=some (some (.ref f))) (hf:W.typeIn K (.ref f)=some (.type "function"))
  (h:codeAny (model prog w) (A.under (.builtin "type.__call__" ⟨.ref C::vs,kw⟩)) (.call (.ref f) ⟨.ref (s.heap.objs.size+1)::vs,kw⟩) (W.InitBack (s.heap.objs.size+1) R)
   {s with heap:=(s.heap.push W.emptyDict).push (W.instObj C s.heap.objs.size)}) :
  codeAny (model prog w) A (.call (.ref C) ⟨vs,kw⟩) R s:=by
 obtain ⟨hh,g,d,t,os⟩:=s
 exact W.make_core (W.makes_of X hm) (W.looks_findIn X hi) (fun self=>W.bind_fn X self hf) (.inl rfl) h
end
def bG (f:Str)(v:V):List (Str×V)->List (Str×V)
 | []=>[(f,v)]
 | (g,x)::r=>if g=f then (g,v)::r else (g,x)::bG f v r
theorem xE (f g:Str)(v:V):∀fs:List (Str×V),(bG f v fs).lookup g=if g=f then some v else fs.lookup g
 | []=>by
  show List.lookup g [(f,v)]=_
  by_cases h:g=f
  ·have hb:(g == f)=true:=beq_iff_eq.mpr h
   simp only [List.lookup,hb,if_pos h]
  ·have hb:(g == f)=false:=beq_eq_false_iff_ne.mpr h
   simp only [List.lookup,hb,if_neg h]
 | (k,x)::r=>by
  have ih:=xE f g v r
  rw [show bG f v ((k,x)::r)=(if k=f then (k,v)::r else (k,x)::bG f v r) from rfl]
  by_cases hk:k=f
  ·rw [if_pos hk]
   by_cases h:g=k
   ·have hb:(g == k)=true:=beq_iff_eq.mpr h
    simp only [List.lookup,hb,if_pos (h.trans hk)]
   ·have hb:(g == k)=false:=beq_eq_false_iff_ne.mpr h
    simp only [List.lookup,hb,if_neg (fun e:g=f=>h (e.trans hk.symm))]
  ·rw [if_neg hk]
   by_cases h:g=k
   ·have hb:(g == k)=true:=beq_iff_eq.mpr h
    simp only [List.lookup,hb,if_neg (fun e:g=f=>hk (h.symm.trans e))]
   ·have hb:(g == k)=false:=beq_eq_false_iff_ne.mpr h
    simp only [List.lookup,hb]
    exact ih
theorem wx (f:Str)(v:V):∀fs:List (Str×V),f∈(bG f v fs).map (·.1)/\∀g,g∈fs.map (·.1)->g∈(bG f v fs).map (·.1)
 | []=>⟨by simp [bG],fun g h=>by simp at h⟩
 | (k,x)::r=>by
  obtain ⟨i1,i2⟩:=wx f v r
  rw [show bG f v ((k,x)::r)=(if k=f then (k,v)::r else (k,x)::bG f v r) from rfl]
  by_cases hk:k=f
  ·rw [if_pos hk]
   subst hk
   exact ⟨by simp,fun g h=>by simpa using h⟩
  ·rw [if_neg hk]
   refine ⟨?_,fun g h=>?_⟩
   ·rw [List.map_cons]
    exact List.mem_cons_of_mem _ i1
   ·rw [List.map_cons] at h ⊢
    rcases List.mem_cons.mp h with e | e
    ·exact List.mem_cons.mpr (.inl e)
    ·exact List.mem_cons_of_mem _ (i2 g e)
theorem pj (f:Str)(v:V):∀fs:List (Str×V),(bG f v fs).length<=fs.length+1
 | []=>by simp [bG]
 | (k,x)::r=>by
  have ih:=pj f v r
  rw [show bG f v ((k,x)::r)=(if k=f then (k,v)::r else (k,x)::bG f v r) from rfl]
  by_cases hk:k=f
  ·rw [if_pos hk,List.length_cons,List.length_cons];omega
  ·rw [if_neg hk,List.length_cons,List.length_cons];omega
theorem AU.some_of {v:V}{o:Option Value}(r:AU (some v) o):∃u,o=some u/\bT v u:=by
 cases o with
 | none=>exact (show False from r).elim
 | some u=>exact ⟨u,rfl,r⟩
theorem AU.none_of {o:Option Value}(r:AU none o):o=none:=by
 cases o with
 | none=>rfl
 | some u=>exact (show False from r).elim
theorem Kh {v:V}{u:Value}(r:bT v u):W.handedIn u=true:=by
 cases v with
 | non=>cases (show u=Value.none from r);rfl
 | bl b=>cases (show u=Value.bool b from r);rfl
 | int i=>obtain ⟨t,e⟩:=(show ∃t,u=Value.int i t from r);cases e;rfl
 | str x=>obtain ⟨t,e⟩:=(show ∃t,u=Value.str x t from r);cases e;rfl
 | byt b=>obtain ⟨t,e⟩:=(show ∃t,u=Value.bytes b t from r);cases e;rfl
 | flt b=>obtain ⟨t,e⟩:=(show ∃t,u=Value.float b t from r);cases e;rfl
 | ref a=>cases (show u=Value.ref a from r);rfl
 | ty n=>cases (show u=Value.type n from r);rfl
section
variable {P:Program}{w:World}{H H':Hp}{h h':Heap}{a C dx:Addr}{fs fs':List (Str×V)}
theorem Di (hok:HOk P w H h)(e:H a=some (.ins C dx fs)):∃mA,G8 h a dx C mA/\(∀f,AU (fs.lookup f) (mA f))/\PySem.Within mA (fs.map (·.1))/\fs.length<=1000/\H dx=some (.own a):=by
 obtain ⟨d,z,ne,ob,mA,n,r,q⟩:=(show fY P w H h a (.ins C dx fs) from hok a _ e)
 exact ⟨mA,⟨ob,n,ne⟩,r,q,z,d⟩
end
structure Cls (K:WA)(C:Addr):Prop where
 pg:W.plainGet K C Str.empty=true
 hd:W.hasDictIn K C=true
 po:W.plainOver K C=true
 sa:W.findIn K (.ref C) "__setattr__"=some (some (.builtin "object.__setattr__"))
theorem Cls.get {K:WA}{C:Addr}(c:Cls K C)(f:Str):W.plainGet K C f=true:=c.pg
def bq (K:WA)(C:Addr)(f:Str):Prop:=W.findIn K (.ref C) f=some none
theorem bq.taker {K:WA}{C:Addr}{f:Str}(n:bq K C f):W.takerIn K C f=some none:=by
 unfold W.takerIn
 rw [show W.findIn K (.ref C) f=some none from n]
 rfl
structure G9 (K:WA)(C:Addr)(m:Str)(f:Addr):Prop where
 at_:W.findIn K (.ref C) m=some (some (.ref f))
 fn:W.isFn K (.ref f)=true
 kp:W.keepIn K (.ref f)=true
section
variable {X:Cx}{pins:List (Addr×Obj)}{σ:St}{H:Hp}{s:Shared}{a C dx:Addr}{fs:List (Str×V)}{f:Str}{v:V}{A:Around}{E:Value->Shared->Prop}
theorem Hb {b:Bool}{Q:Value->Shared->Prop}(I:Inv X pins σ H s)(e:H a=some (.ins C dx fs))(c:Cls X.K C)(n:bq X.K C f)(l:fs.lookup f=some v)
  (h:∀u s',Inv X pins σ H s'->bT v u->Q u s'):wpAny (model X.prog X.w) A (getAttr (.ref a) f b) Q E s:=by
 obtain ⟨mA,O,r,_,_,_⟩:=Di I.hok e
 obtain ⟨u,hu,ru⟩:=AU.some_of (v:=v) (o:=mA f) (by rw [←l];exact r f)
 exact Nx I.kIn O (c.get f) c.hd n hu (Kh ru) (h u _ (I.tok _) ru)
theorem sY {m:Str}{g:Addr}{pl:Sem Bool}{Q:Value×List Value->Shared->Prop}(I:Inv X pins σ H s)(e:H a=some (.ins C dx fs))(c:Cls X.K C)(k:G9 X.K C m g)(l:fs.lookup m=none)
  (h:Q (.ref g,[.ref a]) s):wpAny (model X.prog X.w) A (getMethod (.ref a) m pl) Q E s:=by
 obtain ⟨mA,O,r,_,_,_⟩:=Di I.hok e
 have hn:mA m=none:=AU.none_of (by rw [←l];exact r m)
 exact Lu I.kIn O (c.get m) k.at_ k.fn hn h
theorem Hc {y:V}{u:Value}{Q:Unit->Shared->Prop}(I:Inv X pins σ H s)(e:H a=some (.ins C dx fs))(c:Cls X.K C)(n:bq X.K C f)(hl:fs.length < 1000)(ry:bT y u)
  (h:∀s',Inv X pins σ (upd H a (.ins C dx (bG f y fs))) s'->Q () s'):wpAny (model X.prog X.w) A (setAttr (.ref a) f u) Q E s:=by
 obtain ⟨mA,O,r,wi,_,ho⟩:=Di I.hok e
 have hz:(fs.map (·.1)).length<=sizeLine:=by rw [WB,sizeLine_eq];omega
 refine Ny I.kIn O c.sa c.po n.taker c.hd wi hz fun h' O' sb=>h _ ?_
 have hd:∃o,h'.get? dx=some o:=let ⟨o,_,_,e',_⟩:=O'.ns;⟨o,e'⟩
 refine I.write (x:=a) (e:=dx) (by rw [e];exact True.intro) (.inr ho) (fun b q hb z=>(sb.2 b hb).trans z) hd ?_
 refine ⟨by rw [aN O.ne];exact ho,?_,O.ne,O'.obj,_,O'.ns,fun g=>?_,fun g hg=>?_⟩
 ·have:=pj f y fs;omega
 ·show AU ((bG f y fs).lookup g) (if g=f then some u else mA g)
  rw [xE]
  by_cases q:g=f
  ·rw [if_pos q,if_pos q];exact ry
  ·rw [if_neg q,if_neg q];exact r g
 ·by_cases q:g=f
  ·rw [q];exact (wx f y fs).1
  ·refine (wx f y fs).2 g (wi g fun z=>hg ?_)
   show (if g=f then some u else mA g)=none
   rw [if_neg q];exact z
theorem Inv.made (I:Inv X pins σ H s):Inv X pins σ (upd (upd H s.heap.objs.size (.own (s.heap.objs.size+1))) (s.heap.objs.size+1) (.ins C s.heap.objs.size []))
  {s with heap:=(s.heap.push W.emptyDict).push (W.instObj C s.heap.objs.size)}:=by
 have e1:(s.heap.push W.emptyDict).get? s.heap.objs.size=some W.emptyDict:=Heap.get?_push_size s.heap rfl
 have e2:((s.heap.push W.emptyDict).push (W.instObj C s.heap.objs.size)).get? (s.heap.objs.size+1)=some (W.instObj C s.heap.objs.size):=by
  have:=Heap.get?_push_size (s.heap.push W.emptyDict) (o:=W.instObj C s.heap.objs.size) rfl
  rwa [Heap.size_push] at this
 have e3:(s.heap.push W.emptyDict).Ns s.heap.objs.size (fun _=>none):=⟨W.emptyDict,#[],_,e1,rfl,(fun e he=>absurd he (by simp)),fun _=>rfl⟩
 have I1:=I.laid (a:=s.heap.objs.size) (o:=.own (s.heap.objs.size+1)) (h':=s.heap.push W.emptyDict) (t':=s.toks) (fun b u q=>Heap.get?_push_of_some _ q) (Nat.le_refl _) ⟨_,e1⟩
 refine I1.laid (a:=s.heap.objs.size+1) (o:=.ins C s.heap.objs.size []) (t':=s.toks) (fun b u q=>Heap.get?_push_of_some _ q) (Nat.le_of_eq (Heap.size_push _ _)) ?_
 have ne:s.heap.objs.size≠s.heap.objs.size+1:=Nat.ne_of_lt (Nat.lt_succ_self _)
 refine ⟨by rw [aN ne,ag],Nat.zero_le _,ne,e2,fun _=>none,(Heap.Ns1.of_empty e3).at fun o q=>Heap.get?_push_of_some _ q,fun _=>True.intro,fun y hy=>absurd rfl hy⟩
theorem Nz {prog:Program}{w:World}{env:Env}{e:Expr}{f:Str}{pos:Pos}{s:Shared}{Q:Value->Shared->Prop}(hb:attributeBase e f env (eval e env)=eval e env)
  (h:wpAny (model prog w) A (eval e env) (fun o s₁=>wpAny (model prog w) A (getAttr o f true) Q E s₁) E s):wpAny (model prog w) A (eval (.Attribute e f pos) env) Q E s:=
 Attribute_any_ h (by rw [arm_eval_Attribute,hb])
end
def RF (K:WA)(ta:TE)(f:Str):TE:=fun σ H Q=>ta σ H fun x H1=>∃a C dx fs v,x=.ref a/\H1 a=some (.ins C dx fs)/\Cls K C/\bq K C f/\fs.lookup f=some v/\Q v H1
noncomputable def RG (K:WA)(ta tv:TE)(f:Str):TS:=fun D σ H=>tv σ H fun y H1=>ta σ H1 fun x H2=>∃a C dx fs,x=.ref a/\H2 a=some (.ins C dx fs)/\Cls K C/\bq K C f/\fs.length < 1000/\
 D.nx σ (upd H2 a (.ins C dx (bG f y fs)))
section
variable {X:Cx}{o e value:Expr}{f:Str}{pos pos' tpos:Pos}{ta tv:TE}
theorem Qh (he:PE X e ta)(hb:attributeBase e f X.env (eval e X.env)=eval e X.env):PE X (.Attribute e f pos) (RF X.K ta f):=by
 intro pins s σ H Q I h
 refine Nz hb (thn (he pins s σ H _ I h) fun u s1 ⟨x,H1,I1,rx,a,C,dx,fs,v,ex,ea,c,n,l,q⟩=>?_)
 subst ex
 obtain rfl:u=Value.ref a:=rx
 exact Hb I1 ea c n l fun u' s2 I2 ru=>⟨v,H1,I2,ru,q⟩
theorem Qi (ha:PE X o ta)(hv:PE X value tv)(hs:swapsWith value (some (.Attribute o f pos')) pos.line X.env=pure false):PS X (.Assign [.Attribute o f pos'] value pos) (RG X.K ta tv f):=by
 intro pins s σ H D I h
 refine plainObj_wpAny_Assign_Attribute (thn (hv pins s σ H _ I h) fun u s1 ⟨y,H1,I1,ry,q⟩=>thn (ha pins s1 σ H1 _ I1 q) fun ov s2 ⟨x,H2,I2,rx,a,C,dx,fs,ex,ea,c,n,l,q2⟩=>?_) hs
 subst ex
 obtain rfl:ov=Value.ref a:=rx
 exact Hc I2 ea c n l ry fun s3 I3=>⟨σ,_,I3,q2⟩
theorem Pe {pl:Sem Bool}{m:Str}{apos:Pos}{args:List Expr}{pins:List (Addr×Obj)}{s:Shared}{σ:St}{H:Hp}{Q:Value->Shared->Prop}{te:TE}(he:PE X e te)(I:Inv X pins σ H s)
  (h:te σ H fun x H1=>∃a C dx fs g,x=.ref a/\H1 a=some (.ins C dx fs)/\Cls X.K C/\G9 X.K C m g/\fs.lookup m=none/\
   ∀s1,Inv X pins σ H1 s1->wpAny (model X.prog X.w) X.A (callWith pos (.ref g) [.ref a] (backTo pos (starEach args X.env)) (backToKw pos (keywordEach [] X.env))) Q X.xe s1)
  (ht:eval (.Call (.Attribute e m apos) args [] pos) X.env=(do
   let ov ←eval e X.env
   standAt apos.atName
   let (f,first) ←holding [ov] (getMethod ov m pl)
   callWith pos f first (backTo pos (starEach args X.env)) (backToKw pos (keywordEach [] X.env)))) :
  wpAny (model X.prog X.w) X.A (eval (.Call (.Attribute e m apos) args [] pos) X.env) Q X.xe s:=by
 refine W.methodCall_KW (pl:=pl) (thn (he pins s σ H _ I h) fun u s1 ⟨x,H1,I1,rx,a,C,dx,fs,g,ex,ea,c,k,l,q⟩=>?_) ht
 subst ex
 obtain rfl:u=Value.ref a:=rx
 exact sY I1 ea c k l (q s1 I1)
end
structure eC (k:Nat)(A:Around):Prop where
 hd:A.handled=none
 dp:A.depth+3 * k+5 < recursionLimit
 un:A.units+16 * k+200 < cLine
theorem eC.mono {j k:Nat}{A:Around}(r:eC k A)(h:j<=k):eC j A:=⟨r.hd,by have:=r.dp;omega,by have:=r.un;omega⟩
theorem eC.deeper {k:Nat}{A:Around}(r:eC (k+1) A)(env:Env):eC k (A.deeper env):=
 ⟨r.hd,by have:=r.dp;show A.depth+1+3 * k+5 < _;omega,by have:=r.un;show A.units+3+16 * k+200 < _;omega⟩
theorem Hd {A:Around}{C:Addr}{us:List Value}{kw:List (Str×Value)}:(A.under (.builtin "type.__call__" ⟨.ref C::us,kw⟩)).depth=A.depth+1:=by
 first | rfl | simp [Around.under,Code.weight,Code.isCreation,Code.isGuard,Code.isCaller,Code.frames,Code.isFrame,guardIds]
theorem He {A:Around}{C:Addr}{us:List Value}{kw:List (Str×Value)}:(A.under (.builtin "type.__call__" ⟨.ref C::us,kw⟩)).units=A.units+1:=by
 first | rfl | simp [Around.under,Code.cUnits,Code.frames,Code.isFrame]
theorem eC.make {k:Nat}{A:Around}(r:eC (k+1) A)(C:Addr)(us:List Value)(kw:List (Str×Value)):eC k (A.under (.builtin "type.__call__" ⟨.ref C::us,kw⟩)):=
 ⟨r.hd,by have:=r.dp;rw [Hd];omega,by have:=r.un;rw [He];omega⟩
theorem eC.depth {k:Nat}{A:Around}(r:eC k A):A.depth < recursionLimit:=by have:=r.dp;omega
theorem eC.units0 {k:Nat}{A:Around}(r:eC k A):A.units < cLine:=by have:=r.un;omega
noncomputable def AW:TA:=fun _ H Q=>Q [] H
noncomputable def oC (ta:TE)(tr:TA):TA:=fun σ H Q=>ta σ H fun x H1=>tr σ H1 fun xs H2=>Q (x::xs) H2
section
variable {X:Cx}{e:Expr}{es:List Expr}{te:TE}{t:TA}{pos:Pos}
theorem il:PA X [] AW:=fun _ _ _ _ H Q I h=>Calls.spliced_nil ⟨[],H,I,.nil,h⟩
theorem dY (ha:PE X e te)(hr:PA X es t)(hs:starEach (e::es) X.env=(false,eval e X.env)::starEach es X.env:=by rfl):PA X (e::es) (oC te t):=by
 intro pos pins s σ H Q I h
 rw [hs]
 show wpAny _ _ (spliced ((false,eval e X.env)::backTo pos (starEach es X.env))) _ _ s
 refine Calls.spliced_cons (thn (ha pins s σ H _ I h) fun u s1 ⟨x,H1,I1,r1,q1⟩=>?_)
 exact thn (hr pos pins s1 σ H1 _ I1 q1) fun us s2 ⟨xs,H2,I2,r2,q2⟩=>⟨x::xs,H2,I2,.cons r1 r2,q2⟩
noncomputable def RH (t:TA):TE:=fun σ H Q=>t σ H fun xs H1=>xs.length<=sizeLine/\∀p,H1 p=none->Q (.ref p) (upd H1 p (.tup xs))
noncomputable def RI (t:TA):TE:=fun σ H Q=>t σ H fun xs H1=>xs.length<=sizeLine/\∀p,H1 p=none->Q (.ref p) (upd H1 p (.lst xs))
theorem aK {x1}(h:PA X es t):PE X (.Tuple es x1 pos) (RH t):=by
 intro pins s σ H Q I hq
 refine wpAny_Tuple_spliced (thn (h pos pins s σ H _ I hq) fun us s1 ⟨xs,H1,I1,r,z,q⟩=>⟨by rw [←r.length];exact z,?_⟩)
 have hf:H1 s1.heap.objs.size=none:=I1.hok.fresh (Nat.le_refl _)
 refine ⟨.ref s1.heap.objs.size,upd H1 s1.heap.objs.size (.tup xs),I1.laid (t':=s1.toks) (fun b u e=>Heap.get?_push_of_some _ e) (Nat.le_refl _) ?_,rfl,q _ hf⟩
 exact ⟨z,us,r,⟨_,Heap.get?_push_size _ rfl,⟨rfl,_,rfl⟩,rfl⟩⟩
theorem bh (h:PA X es t):PE X (.List es pos) (RI t):=by
 intro pins s σ H Q I hq
 refine wpAny_List_spliced (thn (h pos pins s σ H _ I hq) fun us s1 ⟨xs,H1,I1,r,z,q⟩=>⟨by rw [←r.length];exact z,?_⟩)
 have hf:H1 s1.heap.objs.size=none:=I1.hok.fresh (Nat.le_refl _)
 refine ⟨.ref s1.heap.objs.size,upd H1 s1.heap.objs.size (.lst xs),I1.laid (t':=s1.toks) (fun b u e=>Heap.get?_push_of_some _ e) (Nat.le_refl _) ?_,rfl,q _ hf⟩
 exact ⟨z,us,0,r,Heap.get?_push_size _ rfl⟩
end
noncomputable abbrev Sp:=List V->Hp->VK->XK->Prop
noncomputable abbrev CXT:=List Env->Hp->Shared->XK->Value->Shared->Prop
structure Hf (P:Program)(w:World)(K:WA)(mg:Str->Option Value)(base:Heap)(A:Around)(outer:List Env)(s:Shared)(H:Hp):Prop where
 frames:A.frames=some outer
 mod:Mod K mg base
 bs:∀b o,base.get? b=some o->s.heap.get? b=some o/\H b=none
 bsz:base.objs.size<=s.heap.objs.size
 funs:s.heap.FunFrames base outer
 frf:∀b∈frs outer,H b=none
 hok:HOk P w H s.heap
 bare:AllBare s.gens
def CE (outer:List Env)(P:Program)(w:World)(H:Hp)(s:Shared)(Q:VK)(u:Value)(s':Shared):Prop:=
 ∃v H',s'.os=s.os/\AllBare s'.gens/\Un (frs outer) [] H H' s.heap s'.heap/\HOk P w H' s'.heap/\bT v u/\Q v H'
def CR (CX:CXT)(outer:List Env)(P:Program)(w:World)(H:Hp)(s:Shared)(Q:VK)(E:XK)(r:Result)(s':Shared):Prop:=
 match r with
 | .ok (.ret u)=>CE outer P w H s Q u s'
 | .ok _=>False
 | .error e=>CX outer H s E e s'
structure gH (P:Program)(w:World)(K:WA)(mg:Str->Option Value)(base:Heap)(CX:CXT)(k:Nat)(f:Addr)(fd:FuncData)(ps:List Str)(sp:Sp):Prop where
 len:∀vs H Q E,sp vs H Q E->vs.length=ps.length
 run:∀(A:Around) (outer:List Env) (s:Shared) (H:Hp) (args:Args) (us:List Value) (vs:List V) (Q:VK) (E:XK),eC k A->Hf P w K mg base A outer s H->BindsTo s fd args (ps.zip us)->bF vs us->sp vs H Q E->
  codeAny (model P w) A (.call (.ref f) args) (CR CX outer P w H s Q E) s
theorem gH.imp {P:Program}{w:World}{K:WA}{mg:Str->Option Value}{base:Heap}{CX:CXT}{k:Nat}{f:Addr}{fd:FuncData}{ps:List Str}{sp sp':Sp}(F:gH P w K mg base CX k f fd ps sp)
  (h:∀vs H Q E,sp' vs H Q E->sp vs H Q E):gH P w K mg base CX k f fd ps sp':=
 ⟨fun vs H Q E q=>F.len vs H Q E (h _ _ _ _ q),fun A outer s H args us vs Q E hr he hb hv hs=>F.run A outer s H args us vs Q E hr he hb hv (h _ _ _ _ hs)⟩
theorem Hf.make {P:Program}{w:World}{K:WA}{mg:Str->Option Value}{base:Heap}{A:Around}{outer:List Env}{s:Shared}{H:Hp}(e:Hf P w K mg base A outer s H)(C:Addr)(us:List Value)(kw:List (Str×Value)) :
  Hf P w K mg base (A.under (.builtin "type.__call__" ⟨.ref C::us,kw⟩)) outer s H:=⟨by first | exact e.frames | (simpa [Around.under,Code.envs,Code.isFrame,pushEnvs] using e.frames),e.mod,e.bs,e.bsz,e.funs,e.frf,e.hok,e.bare⟩
section
variable {X:Cx}{pins:List (Addr×Obj)}{σ:St}{H:Hp}{s s':Shared}
theorem Inv.env0 (I:Inv X pins σ H s):Hf X.prog X.w X.K X.mg X.base X.A X.stack s H:=
 ⟨I.ok.frames,I.ok.mod,I.bs,Nat.le_trans I.ok.bsz I.sz,I.stack,I.stkFree,I.hok,I.bare⟩
theorem Inv.after {Q:VK}{u:Value}(I:Inv X pins σ H s)(h:CE X.stack X.prog X.w H s Q u s'):EP X pins σ Q u s':=by
 obtain ⟨v,H',os,bare,un,hok,r,q⟩:=h
 obtain ⟨hh,g,d,t,os'⟩:=s'
 obtain rfl:os'=s.os:=os
 exact ⟨v,H',I.call (h':=hh) (g':=g) (d':=d) (t':=t) (ch:=[]) un hok bare (fun b z=>absurd z (by simp)),r,q⟩
end
noncomputable def IZ (sp:Sp)(dvs:List V)(E:XK)(t:TA):TE:=fun σ H Q=>t σ H fun vs H1=>sp (vs++dvs) H1 Q E
noncomputable def EU (C:Addr)(m:Str)(sp:Sp)(dvs:List V)(E:XK)(ta:TE)(t:TA):TE:=fun σ H Q=>ta σ H fun x H1=>∃a dx fs,x=.ref a/\H1 a=some (.ins C dx fs)/\fs.lookup m=none/\
 t σ H1 fun vs H2=>sp (x::(vs++dvs)) H2 Q E
noncomputable def Lw (C:Addr)(sp:Sp)(dvs:List V)(E:XK)(t:TA):TE:=fun σ H Q=>t σ H fun vs H1=>∀x dx,H1 x=none->H1 dx=none->dx≠x->
 sp (.ref x::(vs++dvs)) (upd (upd H1 dx (.own x)) x (.ins C dx [])) (fun v H2=>v=.non/\Q (.ref x) H2) E
def eP (K:WA)(fd:FuncData)(ps:List Str)(ds:List Value):Prop:=
 ∀(s:Shared) (us:List Value),K.In s.heap->(us++ds).length=ps.length->BindsTo s fd ⟨us,[]⟩ (ps.zip (us++ds))
theorem eP.all {K:WA}{fd:FuncData}{ps:List Str}(h:∀us:List Value,us.length=ps.length->bindArgs fd ⟨us,[]⟩=pure (ps.zip us)):eP K fd ps []:=fun s us _ hl=>by
 rw [List.append_nil] at hl ⊢
 exact .of_eq (h us hl)
def fZ (CX:CXT)(X:Cx)(E:XK):Prop:=∀(pins:List (Addr×Obj)) (σ:St) (H:Hp) (s:Shared) (e:Value) (s':Shared),Inv X pins σ H s->CX X.stack H s E e s'->X.xe e s'
section
variable {X:Cx}{CX:CXT}{k:Nat}{f C:Addr}{fd:FuncData}{ps:List Str}{sp:Sp}{dvs:List V}{ds:List Value}{E:XK}{x m:Str}{p pos apos:Pos}{e o:Expr}{es:List Expr}{ta:TE}{t:TA}
theorem Hg {pins:List (Addr×Obj)}{σ:St}{H:Hp}{s:Shared}{Q:VK}{us:List Value}{vs:List V}(F:gH X.prog X.w X.K X.mg X.base CX k f fd ps sp)(hr:eC k X.A)(hb:eP X.K fd ps ds)(hd:bF dvs ds)(hx:fZ CX X E)
  (I:Inv X pins σ H s) (r:bF vs us) (h:sp (vs++dvs) H Q E):wpAny (model X.prog X.w) X.A (call (.ref f) us) (EP X pins σ Q) X.xe s:=by
 have r2:bF (vs++dvs) (us++ds):=r.append hd
 have hl:(us++ds).length=ps.length:=by rw [←r2.length];exact F.len _ _ _ _ h
 refine wpAny_call (codeAny_mono (F.run X.A X.stack s H ⟨us,[]⟩ (us++ds) (vs++dvs) Q E hr I.env0 (hb s us I.kIn hl) r2 h) fun r s' hq=>?_)
 cases r with
 | error e=>exact hx pins σ H s e s' I hq
 | ok fl=>
  cases fl with
  | ret u=>exact I.after hq
  | next=>exact False.elim hq
  | brk=>exact False.elim hq
  | cont=>exact False.elim hq
theorem NA (F:gH X.prog X.w X.K X.mg X.base CX k f fd ps sp)(hr:eC k X.A)(hg:Gl X x)(hm:X.mg x=some (.ref f))(hk:W.keepIn X.K (.ref f)=true)(hb:eP X.K fd ps ds)(hd:bF dvs ds)(hx:fZ CX X E)
  (ha:PA X (e::es) t) (hdb:(x == ("__debug__":Str))=false:=by decide) (he:starEach (e::es) X.env=(false,eval e X.env)::starEach es X.env:=by rfl) (hpl:(backTo pos (starEach es X.env)).any (·.1)=false:=by rfl) :
  PE X (.Call (.Name x p) (e::es) [] pos) (IZ sp dvs E t):=by
 intro pins s σ H Q I h
 refine wpAny_Call_Name_kw (qY I hg hm ?_ hdb)
 refine W.callWith_K (h₀:=X.base) I.ok.mod.kin hk (thn (ha pos pins s σ H _ I h) fun us s1 ⟨vs,H1,I1,r,q⟩=>⟨I1.kIn,?_⟩) he hpl
 exact Hg F hr hb hd hx I1 r q
theorem NB {pl:Sem Bool}(he:PE X o ta)(c:Cls X.K C)(hm:G9 X.K C m f)(F:gH X.prog X.w X.K X.mg X.base CX k f fd ps sp)(hr:eC k X.A)(hb:eP X.K fd ps ds)(hd:bF dvs ds)(hx:fZ CX X E)(ha:PA X (e::es) t)
  (hst:starEach (e::es) X.env=(false,eval e X.env)::starEach es X.env:=by rfl) (hpl:(backTo pos (starEach es X.env)).any (·.1)=false:=by rfl)
  (ht:eval (.Call (.Attribute o m apos) (e::es) [] pos) X.env=(do
   let ov ←eval o X.env
   standAt apos.atName
   let (f,first) ←holding [ov] (getMethod ov m pl)
   callWith pos f first (backTo pos (starEach (e::es) X.env)) (backToKw pos (keywordEach [] X.env))):=by rfl) :
  PE X (.Call (.Attribute o m apos) (e::es) [] pos) (EU C m sp dvs E ta t):=by
 intro pins s σ H Q I h
 refine W.methodCall_KW (pl:=pl) (thn (he pins s σ H _ I h) fun u s1 ⟨x,H1,I1,rx,a,dx,fs,ex,ea,l,q⟩=>?_) ht
 subst ex
 obtain rfl:u=Value.ref a:=rx
 refine sY I1 ea c hm l ?_
 refine W.callWith_K (first:=[.ref a]) (h₀:=X.base) I.ok.mod.kin hm.kp (thn (ha pos pins s1 σ H1 _ I1 q) fun us s2 ⟨vs,H2,I2,r,q2⟩=>⟨I2.kIn,?_⟩) hst hpl
 exact Hg (us:=.ref a::us) (vs:=.ref a::vs) F hr hb hd hx I2 (.cons rfl r) q2
theorem Lx {pl:Sem Bool}(he:PE X o ta)(c:Cls X.K C)(hm:G9 X.K C m f)(F:gH X.prog X.w X.K X.mg X.base CX k f fd ps sp)(hr:eC k X.A)(hb:eP X.K fd ps ds)(hd:bF dvs ds)(hx:fZ CX X E)
  (ht:eval (.Call (.Attribute o m apos) [] [] pos) X.env=(do
   let ov ←eval o X.env
   standAt apos.atName
   let (f,first) ←holding [ov] (getMethod ov m pl)
   callWith pos f first (backTo pos (starEach [] X.env)) (backToKw pos (keywordEach [] X.env))):=by rfl) :
  PE X (.Call (.Attribute o m apos) [] [] pos) (EU C m sp dvs E ta AW):=by
 intro pins s σ H Q I h
 refine W.methodCall_KW (pl:=pl) (thn (he pins s σ H _ I h) fun u s1 ⟨x,H1,I1,rx,a,dx,fs,ex,ea,l,q⟩=>?_) ht
 subst ex
 obtain rfl:u=Value.ref a:=rx
 refine sY I1 ea c hm l ?_
 exact W.callWith_K0 (first:=[.ref a]) I1.kIn hm.kp (Hg (us:=[.ref a]) (vs:=[.ref a]) F hr hb hd hx I1 (.cons rfl .nil) q)
structure Mk (K:WA)(C f:Addr):Prop where
 makes:W.makesIn K C=true
 init:W.findIn K (.ref C) "__init__"=some (some (.ref f))
 fn:W.isFn K (.ref f)=true
 kp:W.keepIn K (.ref C)=true
theorem Ly {pins:List (Addr×Obj)}{σ:St}{H:Hp}{s:Shared}{Q:VK}{us:List Value}{vs:List V}(M:Mk X.K C f)(F:gH X.prog X.w X.K X.mg X.base CX k f fd ps sp)(hr:eC (k+1) X.A)(hb:eP X.K fd ps ds)(hd:bF dvs ds)
  (hx:fZ CX X E) (I:Inv X pins σ H s) (r:bF vs us)
  (h:∀x dx,H x=none->H dx=none->dx≠x->sp (.ref x::(vs++dvs)) (upd (upd H dx (.own x)) x (.ins C dx [])) (fun v H2=>v=.non/\Q (.ref x) H2) E) :
  wpAny (model X.prog X.w) X.A (call (.ref C) us) (EP X pins σ Q) X.xe s:=by
 have hq:=h (s.heap.objs.size+1) s.heap.objs.size (I.hok.fresh (Nat.le_succ _)) (I.hok.fresh (Nat.le_refl _)) (Nat.ne_of_lt (Nat.lt_succ_self _))
 have I2:=Inv.made (C:=C) I
 have r2:bF (V.ref (s.heap.objs.size+1)::(vs++dvs)) (Value.ref (s.heap.objs.size+1)::(us++ds)):=.cons rfl (r.append hd)
 have hl:(Value.ref (s.heap.objs.size+1)::us++ds).length=ps.length:=by
  have e:=r2.length
  rw [F.len _ _ _ _ hq] at e
  exact e.symm
 refine wpAny_call (Lv (f:=f) I.kIn M.makes M.init (beq_iff_eq.mp M.fn) (codeAny_mono (F.run _ X.stack _ _ ⟨Value.ref (s.heap.objs.size+1)::us,[]⟩ (Value.ref (s.heap.objs.size+1)::(us++ds)) _ _ E (hr.make C us [])
  (I2.env0.make C us []) (hb _ (Value.ref (s.heap.objs.size+1)::us) I2.kIn hl) r2 hq) fun r s' hq'=>?_))
 cases r with
 | error e=>exact hx pins σ _ _ e s' I2 hq'
 | ok fl=>
  cases fl with
  | ret u=>
   obtain ⟨v,H',I3,rv,ev,q3⟩:=I2.after hq'
   subst ev
   exact ⟨rv,⟨V.ref (s.heap.objs.size+1),H',I3,rfl,q3⟩⟩
  | next=>exact False.elim hq'
  | brk=>exact False.elim hq'
  | cont=>exact False.elim hq'
theorem NC (M:Mk X.K C f)(F:gH X.prog X.w X.K X.mg X.base CX k f fd ps sp)(hr:eC (k+1) X.A)(hg:Gl X x)(hm:X.mg x=some (.ref C))(hb:eP X.K fd ps ds)(hd:bF dvs ds)(hx:fZ CX X E)
  (ha:PA X (e::es) t) (hdb:(x == ("__debug__":Str))=false:=by decide) (he:starEach (e::es) X.env=(false,eval e X.env)::starEach es X.env:=by rfl) (hpl:(backTo pos (starEach es X.env)).any (·.1)=false:=by rfl) :
  PE X (.Call (.Name x p) (e::es) [] pos) (Lw C sp dvs E t):=by
 intro pins s σ H Q I h
 refine wpAny_Call_Name_kw (qY I hg hm ?_ hdb)
 refine W.callWith_K (h₀:=X.base) I.ok.mod.kin M.kp (thn (ha pos pins s σ H _ I h) fun us s1 ⟨vs,H1,I1,r,q⟩=>⟨I1.kIn,?_⟩) he hpl
 exact Ly M F hr hb hd hx I1 r q
end
structure au (N P:List Str)(sc:Scope):Prop where
 kind:sc.kind=.function
 co:sc.isCoroutine=false
 gen:sc.isGenerator=false
 nd:N.Nodup
 pre:N.take P.length=P
 par:∀x∈P,sc.names.lookup x=some .local\/sc.names.lookup x=some .cell
 nofree:∀y∈sc.names,y.2≠.free
theorem B0 {kindOf:Str->Option NameKind}{x:Str}:∀{binds:List (Str×Value)} {m:Str->Option Value},(∀v,(x,v)∉binds)->bindL kindOf binds m x=m x
 | [],_,_=>rfl
 | (n,v)::r,m,h=>by
  unfold bindL
  rw [B0 fun w hw=>h w (List.mem_cons_of_mem _ hw)]
  split
  ·have:x≠n:=by rintro rfl;exact h v List.mem_cons_self
   simp [this]
  ·rfl
theorem B8 {kindOf:Str->Option NameKind}{x:Str}:∀{binds:List (Str×Value)} {m:Str->Option Value},(∀v,(x,v)∉binds)->bindC kindOf binds m x=m x
 | [],_,_=>rfl
 | (n,v)::r,m,h=>by
  unfold bindC
  rw [B8 fun w hw=>h w (List.mem_cons_of_mem _ hw)]
  split
  ·rfl
  ·have:x≠n:=by rintro rfl;exact h v List.mem_cons_self
   simp [this]
theorem B9 {kindOf:Str->Option NameKind}{x:Str}{v:Value}:∀{P:List Str} {vs:List Value} {i:Nat} {m:Str->Option Value},P.Nodup->P[i]?=some x->vs[i]?=some v->kindOf x=some .local->
  bindL kindOf (P.zip vs) m x=some v
 | [],_,_,_,_,h,_,_=>by simp at h
 | _::_,[],_,_,_,_,h,_=>by simp at h
 | p::P,w::vs,0,m,nd,h1,h2,hk=>by
  simp at h1 h2;subst h1;subst h2
  show bindL kindOf ((p,w)::P.zip vs) m p=_
  unfold bindL
  rw [B0 fun v hv=>(List.nodup_cons.mp nd).1 (List.of_mem_zip hv).1,if_pos hk]
  simp
 | p::P,w::vs,i+1,m,nd,h1,h2,hk=>by
  show bindL kindOf ((p,w)::P.zip vs) m x=_
  unfold bindL
  exact B9 (i:=i) (List.nodup_cons.mp nd).2 (by simpa using h1) (by simpa using h2) hk
theorem Ca {kindOf:Str->Option NameKind}{x:Str}{v:Value}:∀{P:List Str} {vs:List Value} {i:Nat} {m:Str->Option Value},P.Nodup->P[i]?=some x->vs[i]?=some v->kindOf x≠some .local->
  bindC kindOf (P.zip vs) m x=some v
 | [],_,_,_,_,h,_,_=>by simp at h
 | _::_,[],_,_,_,_,h,_=>by simp at h
 | p::P,w::vs,0,m,nd,h1,h2,hk=>by
  simp at h1 h2;subst h1;subst h2
  show bindC kindOf ((p,w)::P.zip vs) m p=_
  unfold bindC
  rw [B8 fun v hv=>(List.nodup_cons.mp nd).1 (List.of_mem_zip hv).1,if_neg hk]
  simp
 | p::P,w::vs,i+1,m,nd,h1,h2,hk=>by
  show bindC kindOf ((p,w)::P.zip vs) m x=_
  unfold bindC
  exact Ca (i:=i) (List.nodup_cons.mp nd).2 (by simpa using h1) (by simpa using h2) hk
noncomputable def oE (N:List Str)(vs:List V):St:=vs.map some++List.replicate (N.length - vs.length) none
noncomputable def sZ (CX:CXT)(P:Program)(w:World)(K:WA)(mg:Str->Option Value)(base:Heap)(N:List Str)(qual:Str)(scope:Scope)(f:Addr)(cd:Value)(A:Around)(outer:List Env)(s:Shared)(H:Hp)(E:XK):Cx where
 prog:=P
 w:=w
 K:=K
 mg:=mg
 base:=base
 A:=A.deeper (envOfC qual scope s.heap.objs.size f cd)
 N:=N
 s₀:=s
 H₀:=H
 env:=envOfC qual scope s.heap.objs.size f cd
 outer:=outer
 stack:=envOfC qual scope s.heap.objs.size f cd::outer
 ex:=[]
 calm:=true
 fn:=fun _=>true
 pn:=[]
 xe:=fun e s'=>wpAny (model P w) (A.deeper (envOfC qual scope s.heap.objs.size f cd)) (leaving (envOfC qual scope s.heap.objs.size f cd) e) (fun _ s''=>CX outer H s E e s'') (fun e' s''=>CX outer H s E e' s'') s'
theorem EV {sc:Scope}{n:Nat}{x:Str}(h:sc.names.lookup x=some .cell):∃c,(cellsFrom n sc.names []).lookup x=some c:=by
 have q:=W.cellsFrom_some sc.names n [] (.inl h)
 exact Option.isSome_iff_exists.mp q
theorem Ki {CX:CXT}{P:Program}{w:World}{K:WA}{mg:Str->Option Value}{base:Heap}{N ps:List Str}{qual:Str}{scope:Scope}{f:Addr}{cd:Value}{A:Around}{outer:List Env}{s s1:Shared}{H:Hp}{E:XK}{us:List Value}{vs:List V}
  (S:au N ps scope) (hd:A.handled=none) (e0:Hf P w K mg base A outer s H) (hl:vs.length=ps.length) (r:bF vs us)
  (x:InCallC s s.heap.objs.size (bindL (envOfC qual scope s.heap.objs.size f cd).kindOf (ps.zip us) fun _=>none) (cellsFrom (s.heap.objs.size+1) scope.names []) (bindC (envOfC qual scope s.heap.objs.size f cd).kindOf (ps.zip us) fun _=>none) s1) :
  Inv (sZ CX P w K mg base N qual scope f cd A outer s H E) [] (oE N vs) H s1:=by
 have hpl:ps.length<=N.length:=by have:=congrArg List.length S.pre;rw [List.length_take] at this;omega
 obtain ⟨h1,tk,rfl,hk⟩:=x.done
 have noA:∀b:Addr,b∉(sZ CX P w K mg base N qual scope f cd A outer s H E).ex:=fun b z=>absurd (show b∈([]:List Addr) from z) (by simp)
 refine ⟨⟨e0.mod,S.kind,rfl,rfl,Nat.le_refl _,fun y z c h1 h2=>?_,fun y hy=>?_,fun y c _ h=>?_,fun _=>hd,Around.frames_deeper e0.frames,.inr ⟨rfl,rfl⟩,fun b z=>absurd z (noA b),e0.bs,e0.bsz,fun b _ _=>noA b,fun b z=>absurd z (noA b),e0.funs,e0.frf⟩,
  rfl,e0.bare,Un.kept hk,⟨_,x.toInCall.ns,fun i y v h1 h2 h3=>?_⟩,fun y c h=>⟨_,x.cell y c h⟩,e0.hok.fresh (Nat.le_refl _),fun y c h=>?_,fun p hp=>absurd (show p∈([]:List (Addr×Obj)) from hp) (by simp),e0.hok.kept hk,?_⟩
 ·exact name_of_addr x.apart (PySem.mem_of_lookup h1) (PySem.mem_of_lookup h2)
 ·have hy:scope.names.lookup y=some .cell\/scope.names.lookup y=some .free:=hy
  rcases hy with hy | hy
  ·exact EV hy
  ·exact absurd rfl (S.nofree _ (PySem.mem_of_lookup hy))
 ·exact Nat.le_of_lt (x.above y c (PySem.mem_of_lookup h))
 ·have hi:i < vs.length:=by
   unfold oE at h2
   by_cases hi:i < vs.length
   ·exact hi
   ·rw [List.getElem?_append_right (by simpa using hi)] at h2
    rw [List.getElem?_replicate] at h2
    split at h2<;>cases h2
  have ha:vs[i]?=some v:=by
   unfold oE at h2
   rw [List.getElem?_append_left (by simpa using hi),List.getElem?_map] at h2
   cases e:vs[i]? with
   | none=>rw [e] at h2;cases h2
   | some a=>rw [e] at h2;cases h2;rfl
  obtain ⟨u,hu,rv⟩:=r.get ha
  have hp:ps[i]?=some y:=by
   rw [←S.pre,List.getElem?_take_of_lt (by omega)];exact h1
  have ndP:ps.Nodup:=by rw [←S.pre];exact S.nd.sublist (List.take_sublist _ _)
  refine ⟨u,rv,?_⟩
  rcases S.par y (List.mem_of_getElem? hp) with k | k
  ·exact .inl ⟨k,B9 ndP hp hu k⟩
  ·obtain ⟨c,e⟩:=EV (n:=s.heap.objs.size+1) k
   refine .inr ⟨.inl k,c,e,?_⟩
   have q:=x.cell y c e
   rw [Ca ndP hp hu (by show scope.names.lookup y≠_;rw [k];decide)] at q
   exact q
 ·exact e0.hok.fresh (Nat.le_of_lt (x.above y c (PySem.mem_of_lookup h)))
 ·unfold oE
  show _=N.length
  rw [List.length_append,WB,List.length_replicate]
  omega
theorem Pf {CX:CXT}{P:Program}{w:World}{K:WA}{mg:Str->Option Value}{base:Heap}{k:Nat}{f:Addr}{name qual:Str}{params:Arguments}{body:List Stmt}{scope:Scope}{dV kV doc pm cdv ct oc:Value}{an od:Option Addr}
  {osl:Array (Option Value)} {N ps:List Str} {sp:Sp} (lk:K.lookup f=some ⟨oc,od,.func (W.fnOf name qual params body scope dV kV doc pm an cdv ct),osl⟩) (hcd:W.codeIn K cdv qual=true) (S:au N ps scope)
  (len:∀vs H Q E,sp vs H Q E->vs.length=ps.length)
  (hbody:∀(A:Around) (outer:List Env) (s:Shared) (H:Hp) (vs:List V) (Q:VK) (E:XK),eC k (A.deeper (envOfC qual scope s.heap.objs.size f cdv))->sp vs H Q E->
   ∃t,PSs (sZ CX P w K mg base N qual scope f cdv A outer s H E) body t/\t {nx:=fun _ H'=>Q .non H',rt:=Q} (oE N vs) H) :
  gH P w K mg base CX (k+1) f (W.fnOf name qual params body scope dV kV doc pm an cdv ct) ps sp:=by
 refine ⟨len,fun A outer s H args us vs Q E hr e0 hb r hsp=>?_⟩
 have hl:=len _ _ _ _ hsp
 have KX:K.In s.heap:=e0.mod.kin.keeps fun b o e=>(e0.bs b o e).1
 have lim:s.heap.NoLimit:=e0.mod.nolimit.keeps fun b o e=>(e0.bs b o e).1
 have hkind:∀y∈ps.zip us,scope.names.lookup y.1=some .local\/(scope.names.lookup y.1=some .cell/\((cellsFrom (s.heap.objs.size+1) scope.names []).lookup y.1).isSome=true):=fun ⟨n,v⟩ hy=>by
  rcases S.par n (List.of_mem_zip hy).1 with q | q
  ·exact .inl q
  ·exact .inr ⟨q,W.cellsFrom_some _ _ _ (.inl q)⟩
 refine codeAny_call_function hr.depth (KX _ _ lk) rfl S.co S.gen rfl (W.codeRec_of KX hcd) (hb _ _ _ _ ?_)
 refine wpAny_newFunctionEnv_cells S.kind hkind fun env he s1 x=>?_
 subst he
 refine ⟨lim.keeps x.toInCall.keep,codeAny_func ?_⟩
 obtain ⟨t,ht,hq⟩:=hbody A outer s H vs Q E (hr.deeper _) hsp
 have I:Inv (sZ CX P w K mg base N qual scope f cdv A outer s H E) [] (oE N vs) H s1:=Ki S hr.hd e0 hl r x
 refine wpAny_mono (ht [] s1 (oE N vs) H _ I hq) (fun fl s' hs=>?_) fun e s' hs=>hs
 have fin:∀{σ':St} {H':Hp} {v:V} {u:Value},Inv (sZ CX P w K mg base N qual scope f cdv A outer s H E) [] σ' H' s'->bT v u->Q v H'->CE outer P w H s Q u s':=
  fun {σ' H' v u} J rv q=>⟨v,H',J.os,J.bare,J.base,J.hok,rv,q⟩
 cases fl with
 | ret u=>
  obtain ⟨v,σ',H',J,rv,q⟩:=hs
  exact fin J rv q
 | next=>
  obtain ⟨σ',H',J,q⟩:=hs
  exact fin (v:=V.non) (u:=Value.none) J rfl q
 | brk=>
  obtain ⟨_,_,_,q⟩:=hs
  exact False.elim q
 | cont=>
  obtain ⟨_,_,_,q⟩:=hs
  exact False.elim q
section
variable {X:Cx}{x:Str}{p pos:Pos}{e:Expr}{es:List Expr}{t:TA}{id T:String}{r:List V->Hp->VK->Prop}
noncomputable def tCB (r:List V->Hp->VK->Prop)(t:TA):TE:=fun σ H Q=>t σ H fun vs H1=>r vs H1 Q
theorem aF (hc:dw X (.builtin id) r)(hg:Gl X x)(hm:X.mg x=none)(hv:bootBuiltins x=some (.builtin id))(ha:PA X (e::es) t)(hn:x≠"__name__":=by decide)(hdb:(x == ("__debug__":Str))=false:=by decide)
  (he:starEach (e::es) X.env=(false,eval e X.env)::starEach es X.env:=by rfl) (hpl:(backTo pos (starEach es X.env)).any (·.1)=false:=by rfl):PE X (.Call (.Name x p) (e::es) [] pos) (tCB r t):=by
 intro pins s σ H Q I h
 refine wpAny_Call_Name_kw (sX I hg hm hv ?_ hn hdb)
 exact PyProof.Rows.callWith_builtin1 (thn (ha pos pins s σ H _ I h) fun us s1 ⟨vs,H1,I1,r1,q1⟩=>hc pins s1 σ H1 vs us Q I1 r1 q1) he hpl
theorem bg (hc:dw X (.type T) r)(hg:Gl X x)(hm:X.mg x=none)(hv:bootBuiltins x=some (.type T))(ha:PA X (e::es) t)(hn:x≠"__name__":=by decide)(hdb:(x == ("__debug__":Str))=false:=by decide)
  (he:starEach (e::es) X.env=(false,eval e X.env)::starEach es X.env:=by rfl) (hpl:(backTo pos (starEach es X.env)).any (·.1)=false:=by rfl):PE X (.Call (.Name x p) (e::es) [] pos) (tCB r t):=by
 intro pins s σ H Q I h
 refine wpAny_Call_Name_kw (sX I hg hm hv ?_ hn hdb)
 exact PyProof.Rows.callWith_type1 (thn (ha pos pins s σ H _ I h) fun us s1 ⟨vs,H1,I1,r1,q1⟩=>hc pins s1 σ H1 vs us Q I1 r1 q1) he hpl
end
end L2
namespace HT
open PySem PyProof.Rows
section
open PySem.SeqAt
open PySem.AutoSeq1 (wpAny_loadPart')
open PySem.MeetsSeq PySem.MeetsSeq2 PySem.MeetsSeq3
end
section
variable {prog:Program}{w:World}{A:Around}{E:Value->Shared->Prop}{s:Shared}
theorem ND {t b:Addr}{vs ws:List Value}{Q:Value->Shared->Prop}(ht:IsTup s.heap t vs.toArray)(hb:IsTup s.heap b ws.toArray)(hv:vs≠[])
  (h1:ws=[]->Q (.ref t) s) (h2:ws≠[]->Q (.ref s.heap.objs.size) {s with heap:=s.heap.push {cls:=.type "tuple",data:=.seq (vs++ws).toArray}})
  (hsz:vs.length+ws.length<=sizeLine):wpAny (model prog w) A (binaryOp .Add (.ref t) (.ref b)) Q E s:=by
 obtain ⟨⟨cls,dd,data,sl⟩,ho,hc,n,hd⟩:=id ht
 obtain ⟨⟨cls2,dd2,data2,sl2⟩,ho2,hc2,n2,hd2⟩:=id hb
 simp only at hc hd hc2 hd2
 subst hc hd hc2 hd2
 have e:vs.toArray++ws.toArray=(vs++ws).toArray:=by simp
 by_cases hw:ws=[]
 ·exact concat_meets ⟨_,ho,rfl⟩ ⟨_,ho2,rfl⟩ noFill_tuple_add seq_tuple_add PySem.F.slot_tuple_add PySem.F.entry_tuple_add (PySem.F.args_tuple_add_2 _ _)
   (tuple_addW1 t b vs.toArray ws.toArray n n2 dd dd2 sl sl2 (by simpa using hv) (by simp [hw])) ⟨ho,ho2,h1 hw⟩
 ·refine concat_meets ⟨_,ho,rfl⟩ ⟨_,ho2,rfl⟩ noFill_tuple_add seq_tuple_add PySem.F.slot_tuple_add PySem.F.entry_tuple_add (PySem.F.args_tuple_add_2 _ _)
   (tuple_addW2 t b vs.toArray ws.toArray n n2 dd dd2 sl sl2 (by simpa using hv) (by simpa using hw) (by rw [List.size_toArray,List.size_toArray];exact hsz)) ⟨ho,ho2,?_⟩
  rw [e]
  exact h2 hw
noncomputable def sIx (n d:Nat):Option Int->Nat
 | none=>d
 | some v=>if v < 0 then (v+(n:Int)).toNat else min v.toNat n
theorem NF (n d k:Nat):sIx n d (some (k:Int))=min k n:=by
 show (if (k:Int) < 0 then ((k:Int)+(n:Int)).toNat else min (k:Int).toNat n)=min k n
 rw [if_neg (by omega),Int.toNat_natCast]
theorem Qj (n d:Nat)(hd:d<=n)(o:Option Int):sIx n d o<=n:=by
 cases o with
 | none=>exact hd
 | some v=>
  show (if v < 0 then (v+(n:Int)).toNat else min v.toNat n)<=n
  by_cases hv:v < 0
  ·rw [if_pos hv];omega
  ·rw [if_neg hv];exact Nat.min_le_right _ _
theorem Dj (v:Int)(n d:Nat):(if v < 0 then max (v+(n:Int)) 0 else min v (n:Int))=((sIx n d (some v):Nat):Int):=by
 show (if v < 0 then max (v+(n:Int)) 0 else min v (n:Int))=(((if v < 0 then (v+(n:Int)).toNat else min v.toNat n):Nat):Int)
 by_cases hv:v < 0
 ·simp only [if_pos hv];omega
 ·simp only [if_neg hv];omega
theorem Hh (lo hi:Option Int)(n:Nat):Builtin.Slice.sliceAdjust lo hi 1 (n:Int)=(((sIx n 0 lo:Nat):Int),((sIx n n hi:Nat):Int)):=by
 have h1:¬((1:Int) < 0):=by omega
 unfold Builtin.Slice.sliceAdjust
 simp only [h1,if_false]
 refine Prod.ext ?_ ?_
 ·cases lo with
  | none=>rfl
  | some v=>exact Dj v n 0
 ·cases hi with
  | none=>rfl
  | some v=>exact Dj v n n
theorem Hi (i j:Nat):Builtin.Slice.slicePlaces (i:Int) (j:Int) 1=j - i:=by
 unfold Builtin.Slice.slicePlaces
 have h1:(1:Int) > 0:=by omega
 simp only [h1,if_true,Int.ediv_one]
 split<;>omega
theorem zd {v:Value}{o:Option Int}{Q:Option Int->Shared->Prop}(p:IsPart v o)(h:Q o s):wpAny (model prog w) A (Builtin.Slice.slicePartIndex v) Q E s:=by
 cases p with
 | none=>exact slicePart_none h
 | int i t=>exact slicePart_int h
theorem wz {sl:Addr}{vl vu:Value}{lo hi:Option Int}{n:Nat}{Q:Int×Int×Nat->Shared->Prop}(hs:s.heap.IsSliceOf sl vl vu .none)(pl:IsPart vl lo)(pu:IsPart vu hi)
  (h:Q (((sIx n 0 lo:Nat):Int),1,sIx n n hi - sIx n 0 lo) s):wpAny (model prog w) A (Builtin.Slice.sliceApplied (.ref sl) (pure (n:Int))) Q E s:=by
 obtain ⟨os,hos,hcs,hds⟩:=id hs
 unfold Builtin.Slice.sliceApplied Builtin.Slice.sliceFields
 refine wpAny_bind (wpAny_bind (wpAny_field hos hds (x:=vl) rfl (wpAny_bind (wpAny_field hos hds (x:=vu) rfl (wpAny_bind (wpAny_field hos hds (x:=.none) rfl (wpAny_pure ?_)))))))
 refine wpAny_bind (slicePart_none ?_)
 show wpAny _ _ (if ((1:Int) == 0)=true then _ else _) _ _ s
 rw [if_neg (by decide)]
 refine wpAny_bind (zd pl (wpAny_bind (zd pu (wpAny_bind (wpAny_pure ?_)))))
 show wpAny _ _ (match Builtin.Slice.sliceAdjust lo hi 1 (n:Int) with | (lo,hi)=>pure (lo,(1:Int),Builtin.Slice.slicePlaces lo hi 1)) _ _ s
 rw [Hh lo hi n]
 show wpAny _ _ (pure (((sIx n 0 lo:Nat):Int),(1:Int),Builtin.Slice.slicePlaces ((sIx n 0 lo:Nat):Int) ((sIx n n hi:Nat):Int) 1)) _ _ s
 rw [Hi]
 exact wpAny_pure h
theorem Lz (xs:Array Value)(i k:Nat):((List.range k).filterMap fun (m:Nat)=>xs[((i:Int)+(m:Int) * 1).toNat]?).toArray=((xs.toList.drop i).take k).toArray:=by
 have e:(fun (m:Nat)=>xs[((i:Int)+(m:Int) * 1).toNat]?)=fun m=>xs[i+m]?:=by
  funext m
  have:((i:Int)+(m:Int) * 1).toNat=i+m:=by omega
  rw [this]
 rw [e]
 have:=pick_run xs i k
 rw [List.filterMap_map] at this
 have e2:((fun x=>xs[x]?) ∘ fun x=>i+x)=fun m=>xs[i+m]?:=rfl
 rw [e2] at this
 rw [this]
theorem uq {t sl:Addr}{items:Array Value}{vl vu:Value}{lo hi:Option Int}{Q:Value->Shared->Prop}(ht:IsTup s.heap t items)(hs:s.heap.IsSliceOf sl vl vu .none)(pl:IsPart vl lo)(pu:IsPart vu hi)
  (hw:¬(sIx items.size 0 lo=0/\sIx items.size items.size hi=items.size))
  (h:Q (.ref s.heap.objs.size) {s with heap:=s.heap.push {cls:=.type "tuple",data:=.seq ((items.toList.drop (sIx items.size 0 lo)).take (sIx items.size items.size hi - sIx items.size 0 lo)).toArray}})
  (hsz:items.size<=sizeLine):wpAny (model prog w) A (getItem (.ref t) (.ref sl)) Q E s:=by
 have htake:sizeOk (.seq ((items.toList.drop (sIx items.size 0 lo)).take (sIx items.size items.size hi - sIx items.size 0 lo)).toArray):=by
  show ((items.toList.drop (sIx items.size 0 lo)).take (sIx items.size items.size hi - sIx items.size 0 lo)).toArray.size<=sizeLine
  rw [List.size_toArray,List.length_take,List.length_drop,Array.length_toList]
  omega
 have hj:sIx items.size items.size hi<=items.size:=Qj _ _ (Nat.le_refl _) hi
 obtain ⟨os,hos,hcs,hds⟩:=id hs
 have hTs:s.TypeIs (.ref sl) "slice":=⟨os,hos,hcs⟩
 unfold getItem
 try with_reducible refine wpAny_holding ?_
 first | refine wpAny_bind (wpAny_pure ?_) | skip
 refine wpAny_bind (wpAny_sequenceKey ht.typeIs (by decide) ?_)
 refine wpAny_bind (wpAny_callSpecial?_slot (name:=Str.ofString "__getitem__") ht.typeIs PyProof.Rows.slot_tuple_getitem
  (wpAny_call_entry PyProof.Rows.slot_tuple_getitem ht.typeIs entry_tuple_getitem ?_ (args_tuple_getitem _ _)))
 show wpAny _ _ (Builtin.Tuple.tupleItemsOf (.ref t) >>= _) _ _ s
 refine wpAny_bind (tupleItemsOf_ ht ?_)
 refine wpAny_bind (wpAny_typeOf hTs ?_)
 rw [if_pos (by decide)]
 refine wpAny_bind (wz hs pl pu ?_)
 have hno:¬((((sIx items.size 0 lo:Nat):Int) == 0 && (1:Int) == 1 && (sIx items.size items.size hi - sIx items.size 0 lo) == items.size)=true):=by
  intro q
  rw [Bool.and_eq_true,Bool.and_eq_true] at q
  have q1:((sIx items.size 0 lo:Nat):Int)=0:=eq_of_beq q.1.1
  have q2:sIx items.size items.size hi - sIx items.size 0 lo=items.size:=eq_of_beq q.2
  exact hw ⟨by omega,by omega⟩
 show wpAny _ _ (if (((sIx items.size 0 lo:Nat):Int) == 0 && (1:Int) == 1 && (sIx items.size items.size hi - sIx items.size 0 lo) == items.size)=true then _ else _) _ _ s
 rw [if_neg hno,Lz]
 first
  | exact wpAny_bind (m:=Builtin.Tuple.tupleExact _) (wpAny_newObj_type (wpAny_pure ⟨_,rfl,wpAny_pure h⟩) htake)
  | exact wpAny_bind (m:=Builtin.Tuple.tupleExact _) (wpAny_newObj_type (wpAny_bind (wpAny_pure (wpAny_pure ⟨_,rfl,wpAny_pure h⟩))) htake)
  | exact wpAny_bind (wpAny_bind (m:=Builtin.Tuple.tupleExact _) (wpAny_newObj_type (wpAny_pure (wpAny_pure ⟨_,rfl,wpAny_pure h⟩)) htake))
  | exact wpAny_bind (wpAny_bind (m:=Builtin.Tuple.tupleExact _) (wpAny_newObj_type (wpAny_pure ⟨_,rfl,wpAny_pure h⟩) htake))
end
end HT
namespace L2
open PySem PySem.Spec PyProof.Rows
noncomputable abbrev TO:=St->Hp->(Option Int->Hp->Prop)->Prop
def PO (X:Cx)(e:Option Expr)(t:TO):Prop:=
 ∀(pins:List (Addr×Obj)) (s:Shared) (σ:St) (H:Hp) (Q:Option Int->Hp->Prop),Inv X pins σ H s->t σ H Q->
  wpAny (model X.prog X.w) X.A (evalPart e X.env) (fun u s'=>∃o H',Inv X pins σ H' s'/\IsPart u o/\Q o H') X.xe s
noncomputable def I8:TO:=fun _ H Q=>Q none H
noncomputable def Pg (t:TE):TO:=fun σ H Q=>t σ H fun x H1=>∃i,x=.int i/\Q (some i) H1
section
variable {X:Cx}{e:Expr}{te:TE}{lo hi:Option Expr}{tl th:TO}{pos p2:Pos}
theorem I9:PO X none I8:=by
 intro pins s σ H Q I h
 rw [evalPart_none]
 exact wpAny_pure ⟨none,H,I,.none,h⟩
theorem NG (h:PE X e te):PO X (some e) (Pg te):=by
 intro pins s σ H Q I hw
 rw [evalPart_some]
 refine thn (h pins s σ H _ I hw) fun u s1 ⟨x,H1,I1,r1,q1⟩=>?_
 obtain ⟨i,rfl,q⟩:=q1
 obtain ⟨t,rfl⟩:=r1
 exact ⟨some i,H1,I1,.int i t,q⟩
def SlR (X:Cx)(r:V->Option Int->Option Int->Hp->VK->Prop):Prop:=
 ∀(pins:List (Addr×Obj)) (s:Shared) (σ:St) (H:Hp) (x:V) (v vl vu:Value) (lo hi:Option Int) (sl:Addr) (Q:VK),Inv X pins σ H s->bT x v->s.heap.IsSliceOf sl vl vu .none->IsPart vl lo->IsPart vu hi->r x lo hi H Q->
  ∃T id,typeLookup (.type T) "__getitem__"=pure (some (.builtin id))/\s.TypeIs v T/\wpAny (model X.prog X.w) X.A (getItem v (.ref sl)) (EP X pins σ Q) X.xe s
noncomputable def tSl (r:V->Option Int->Option Int->Hp->VK->Prop)(te:TE)(tl th:TO):TE:=fun σ H Q=>te σ H fun x H1=>tl σ H1 fun l H2=>th σ H2 fun u H3=>r x l u H3 Q
theorem ze {r:V->Option Int->Option Int->Hp->VK->Prop}(hr:SlR X r)(he:PE X e te)(hl:PO X lo tl)(hu:PO X hi th):PE X (.Subscript e (.Slice lo hi none p2) pos) (tSl r te tl th):=by
 intro pins s σ H Q I h
 refine Subscript_ (thn (he pins s σ H _ I h) fun v s1 ⟨x,H1,I1,r1,q1⟩=>?_)
 refine wpAny_Slice (thn (hl pins s1 σ H1 _ I1 q1) fun vl s2 ⟨l,H2,I2,pl,q2⟩=>thn (hu pins s2 σ H2 _ I2 q2) fun vu s3 ⟨u,H3,I3,pu,q3⟩=>?_)
 rw [evalPart_none]
 refine wpAny_pure ?_
 have I4:Inv X pins σ H3 {s3 with heap:=s3.heap.push {cls:=.type "slice",data:=.fields #[vl,vu,.none]}}:=I3.kept (t':=s3.toks) fun b ob q=>Heap.get?_push_of_some _ q
 obtain ⟨T,id,hT,ht,hg⟩:=hr pins {s3 with heap:=s3.heap.push {cls:=.type "slice",data:=.fields #[vl,vu,.none]}} σ H3 x v vl vu l u s3.heap.objs.size Q I4 r1 (Heap.IsSliceOf.new ..) pl pu q3
 show wpAny (model X.prog X.w) X.A (subscriptTail e (.Slice lo hi none p2) v (.ref s3.heap.objs.size)) (EP X pins σ Q) X.xe {s3 with heap:=s3.heap.push {cls:=.type "slice",data:=.fields #[vl,vu,.none]}}
 exact tail_any (ops:=[.ref s3.heap.objs.size,v]) ht hT hg (by with_unfolding_all rfl)
noncomputable def ur (xs:List V)(lo hi:Option Int):List V:=(xs.drop (HT.sIx xs.length 0 lo)).take (HT.sIx xs.length xs.length hi - HT.sIx xs.length 0 lo)
theorem ke (xs:List V)(lo hi:Option Int):(ur xs lo hi).length<=xs.length:=by
 unfold ur
 rw [List.length_take,List.length_drop]
 omega
noncomputable def RJ (K:WA):V->Option Int->Option Int->Hp->VK->Prop:=fun x lo hi H Q=>∃a xs,x=.ref a/\SqT K H a xs/\
 ¬(HT.sIx xs.length 0 lo=0/\HT.sIx xs.length xs.length hi=xs.length)/\∀p,H p=none->Q (.ref p) (upd H p (.tup (ur xs lo hi)))
theorem Qk:SlR X (RJ X.K):=by
 intro pins s σ H x v vl vu lo hi sl Q I rx hs pl pu h
 obtain ⟨a,xs,rfl,hx,hw,q⟩:=h
 cases rx
 obtain ⟨its,r,ht,hz⟩:=I.tuple hx
 have hlen:its.toArray.size=xs.length:=by rw [List.size_toArray];exact r.length.symm
 refine ⟨"tuple",_,PyProof.Rows.slot_tuple_getitem.lookup,ht.typeIs,?_⟩
 refine HT.uq ht hs pl pu (by rw [hlen];exact hw) ?_ (by rw [hlen];exact hz)
 rw [hlen]
 refine ⟨.ref s.heap.objs.size,_,I.laid (t':=s.toks) (o:=.tup (ur xs lo hi)) (fun b ob q=>Heap.get?_push_of_some _ q) (Nat.le_refl _) ?_,rfl,q _ (I.hok.fresh (Nat.le_refl _))⟩
 exact ⟨Nat.le_trans (ke xs lo hi) hz,_,(r.drop (HT.sIx xs.length 0 lo)).take (HT.sIx xs.length xs.length hi - HT.sIx xs.length 0 lo),jb.new _ _⟩
noncomputable def Ph (K:WA):R2:=fun x y H Q=>∃a b xs ys,x=.ref a/\y=.ref b/\SqT K H a xs/\SqT K H b ys/\xs≠[]/\xs.length+ys.length<=sizeLine/\
 (ys=[]->Q (.ref a) H)/\(ys≠[]->∀p,H p=none->Q (.ref p) (upd H p (.tup (xs++ys))))
theorem bF.nil_iff {xs:List V}{us:List Value}(r:bF xs us):us=[]↔xs=[]:=by
 cases r with
 | nil=>simp
 | cons _ _=>simp
theorem Jb:OpR X (binaryOp .Add) (Ph X.K):=by
 intro pins s σ H x y v u Q I rx ry h
 obtain ⟨a,b,xs,ys,rfl,rfl,ha,hb,hx,hz,q1,q2⟩:=h
 cases rx
 cases ry
 obtain ⟨its,r1,p1,_⟩:=I.tuple ha
 obtain ⟨its2,r2,p2,_⟩:=I.tuple hb
 refine HT.ND p1 p2 (fun z=>hx (r1.nil_iff.mp z)) (fun z=>⟨.ref a,H,I,rfl,q1 (r2.nil_iff.mp z)⟩) (fun z=>?_) (by rw [←r1.length,←r2.length];exact hz)
 refine ⟨.ref s.heap.objs.size,_,I.laid (t':=s.toks) (o:=.tup (xs++ys)) (fun b ob q=>Heap.get?_push_of_some _ q) (Nat.le_refl _) ?_,rfl,q2 (fun w=>z (r2.nil_iff.mpr w)) _ (I.hok.fresh (Nat.le_refl _))⟩
 exact ⟨by rw [List.length_append];exact hz,_,r1.append r2,jb.new _ _⟩
end
noncomputable def ixN (n:Nat)(i:Int):Option Nat:=if 0<=i then (if i < n then some i.toNat else none) else if -(n:Int)<=i then some (i+n).toNat else none
noncomputable def atI {α:Type}(xs:List α)(i:Int):Option α:=(ixN xs.length i).bind fun j=>xs[j]?
theorem Jc {n:Nat}{i:Int}{j:Nat}(h:ixN n i=some j):seqIndex? i n=some j/\j < n/\-(n:Int)<=i/\i < n:=by
 unfold ixN at h
 by_cases h0:0<=i
 ·rw [if_pos h0] at h
  by_cases h1:i < n
  ·rw [if_pos h1] at h
   have e:i.toNat=j:=Option.some.inj h
   exact ⟨by rw [seqIndex_of h0 h1,e],by omega,by omega,h1⟩
  ·rw [if_neg h1] at h;cases h
 ·rw [if_neg h0] at h
  by_cases h1:-(n:Int)<=i
  ·rw [if_pos h1] at h
   have e:(i+n).toNat=j:=Option.some.inj h
   exact ⟨by rw [seqIndex_neg (by omega) h1,e],by omega,h1,by omega⟩
  ·rw [if_neg h1] at h;cases h
theorem Dk {α:Type}{xs:List α}{i:Int}{v:α}(h:atI xs i=some v):∃j,seqIndex? i xs.length=some j/\xs[j]?=some v/\j < xs.length/\-(xs.length:Int)<=i/\i < xs.length:=by
 unfold atI at h
 cases e:ixN xs.length i with
 | none=>rw [e] at h;cases h
 | some j=>
  rw [e] at h
  obtain ⟨h1,h2,h3,h4⟩:=Jc e
  exact ⟨j,h1,h,h2,h3,h4⟩
theorem Jd {α:Type}{xs:List α}{j:Nat}{v:α}(h:xs[j]?=some v):atI xs (j:Int)=some v:=by
 have hj:j < xs.length:=(List.getElem?_eq_some_iff.mp h).1
 have e:ixN xs.length (j:Int)=some j:=by
  unfold ixN
  rw [if_pos (by omega),if_pos (by omega)];simp
 unfold atI;rw [e];exact h
theorem LA {α:Type}(xs:List α)(v:α):atI (xs++[v]) (-1)=some v:=by
 have hl:(xs++[v]).length=xs.length+1:=by simp
 have e:ixN (xs++[v]).length (-1)=some xs.length:=by
  unfold ixN
  rw [hl,if_neg (by decide),if_pos (by omega)]
  congr 1
  omega
 unfold atI
 rw [e]
 show (xs++[v])[xs.length]?=some v
 simp
def Je (b:Expr):Prop:=∀o i,subscripted b false o i=operate [o,i] (getItem o i)
def IxR (X:Cx)(r:R2):Prop:=
 ∀(value slice:Expr) (pins:List (Addr×Obj)) (s:Shared) (σ:St) (H:Hp) (x y:V) (v u:Value) (Q:VK),Inv X pins σ H s->bT x v->bT y u->r x y H Q->
  subscripted slice false v u=operate [v,u] (getItem v u)->wpAny (model X.prog X.w) X.A (subscriptTail value slice v u) (EP X pins σ Q) X.xe s
def MtR (X:Cx)(id:String)(r:V->List V->Hp->VK->Prop):Prop:=
 ∀(pins:List (Addr×Obj)) (s:Shared) (σ:St) (H:Hp) (x:V) (xs:List V) (v:Value) (us:List Value) (Q:VK),Inv X pins σ H s->bT x v->bF xs us->r x xs H Q->
  wpAny (model X.prog X.w) X.A (call (.builtin id) (v::us)) (EP X pins σ Q) X.xe s
section
variable {X:Cx}{a b:Expr}{ta tb:TE}{pos:Pos}
theorem IxR.or {r r':R2}(h:IxR X r)(h':IxR X r'):IxR X (fun x y H Q=>r x y H Q\/r' x y H Q):=by
 intro value slice pins s σ H x y v u Q I rx ry q hs
 rcases q with q | q
 ·exact h value slice pins s σ H x y v u Q I rx ry q hs
 ·exact h' value slice pins s σ H x y v u Q I rx ry q hs
theorem RK {r:R2}(hr:IxR X r)(ha:PE X a ta)(hb:PE X b tb)(hs:Je b):PE X (.Subscript a b pos) (tOp r ta tb):=by
 intro pins s σ H Q I h
 exact Subscript_ (P8 ha hb I h fun v u s2 x y H2 I2 rx ry q=>hr a b pins s2 σ H2 x y v u Q I2 rx ry q (hs _ _))
noncomputable def Ql (K:WA):R2:=fun x y H Q=>∃p xs i v,x=.ref p/\y=.int i/\SqL K H p xs/\atI xs i=some v/\Q v H
noncomputable def Qm (K:WA):R2:=fun x y H Q=>∃p xs i v,x=.ref p/\y=.int i/\SqT K H p xs/\atI xs i=some v/\Q v H
noncomputable def RL:R2:=fun x y H Q=>∃z i c,x=.str z/\y=.int i/\z.length<=sizeLine/\atI z.cps.toList i=some c/\Q (.str ⟨#[c]⟩) H
theorem Jf:IxR X (Ql X.K):=by
 intro value slice pins s σ H x y v u Q I rx ry h hs
 obtain ⟨p,xs,i,z,rfl,rfl,hq,he,q⟩:=h
 cases rx
 obtain ⟨t,rfl⟩:=ry
 obtain ⟨its,r,pl,hz⟩:=I.list hq
 obtain ⟨j,h1,h2,h3,h4,h5⟩:=Dk he
 obtain ⟨w,ew,rw'⟩:=r.get h2
 have hl:=r.length
 have hn:=wu
 have fin:EP X pins σ Q w s:=⟨z,H,I,rw',q⟩
 by_cases h0:0<=i
 ·have hj:i.toNat=j:=by
   rw [seqIndex_of h0 h5] at h1
   exact Option.some.inj h1
  exact item_listR pl.isList h0 (by omega) (by rw [hj];simpa using ew) fin hs
 ·have hj:(i+(its.toArray.size:Int)).toNat=j:=by
   rw [seqIndex_neg (by omega) h4] at h1
   rw [List.size_toArray,←hl]
   exact Option.some.inj h1
  exact subscriptTail_builtinR (x:=w) pl.isList.typeIs slot_list_getitem.lookup
   (wpAny_getItem_list_neg (Q:=fun r s'=>r=w/\EP X pins σ Q r s') pl.isList (by omega) (by rw [List.size_toArray]<;>omega) (by omega) (by rw [hj];simpa using ew) ⟨rfl,fin⟩) hs
theorem LB:IxR X (Qm X.K):=by
 intro value slice pins s σ H x y v u Q I rx ry h hs
 obtain ⟨p,xs,i,z,rfl,rfl,hq,he,q⟩:=h
 cases rx
 obtain ⟨t,rfl⟩:=ry
 obtain ⟨its,r,pl,hz⟩:=I.tuple hq
 obtain ⟨j,h1,h2,h3,h4,h5⟩:=Dk he
 obtain ⟨w,ew,rw'⟩:=r.get h2
 have hl:=r.length
 have hn:=wu
 have fin:EP X pins σ Q w s:=⟨z,H,I,rw',q⟩
 exact subscriptTail_builtinR (x:=w) pl.typeIs slot_tuple_getitem.lookup
  (getItem_tuple (j:=j) (Q:=fun r s'=>r=w/\EP X pins σ Q r s') pl (by omega) (by omega) (by rw [List.size_toArray,←hl];exact h1) (by simpa using ew) ⟨rfl,fin⟩) hs
theorem Qn:IxR X RL:=by
 intro value slice pins s σ H x y v u Q I rx ry h hs
 obtain ⟨z,i,c,rfl,rfl,hz,he,q⟩:=h
 obtain ⟨t,rfl⟩:=rx
 obtain ⟨t',rfl⟩:=ry
 obtain ⟨j,h1,h2,h3,h4,h5⟩:=Dk he
 have hl:z.cps.toList.length=z.length:=by simp [Str.length]
 rw [hl] at h1 h4 h5
 have hn:=wu
 exact tail_any (typeIs_str s z t) slot_str_getitem.lookup (getItem_str (c:=c) (by
  have e1:decide (i < -(2 ^ 63:Int))=false:=decide_eq_false (by omega)
  have e2:decide (i≥2 ^ 63)=false:=decide_eq_false (by omega)
  rw [e1,e2,Bool.or_false]) (by rw [h1];simpa using h2) ⟨.str ⟨#[c]⟩,H,I.tok _,⟨_,rfl⟩,q⟩) hs
noncomputable def rIx (K:WA):R2:=fun x y H Q=>Ql K x y H Q\/Qm K x y H Q\/RL x y H Q
theorem LC:IxR X (rIx X.K):=Jf.or (LB.or Qn)
theorem Hj (its:List Value)(n j:Nat)(u:Value):Obj.mapSeq (·.setIfInBounds j u) {cls:=.type "list",data:=.seq its.toArray n}={cls:=.type "list",data:=.seq (its.set j u).toArray n}:=by
 simp [Obj.mapSeq]
theorem Inv.lst {pins:List (Addr×Obj)}{σ:St}{H:Hp}{s:Shared}{p:Addr}{xs:List V}(I:Inv X pins σ H s)(h:H p=some (.lst xs)) :
  ∃(its:List Value) (n:Nat),bF xs its/\s.heap.get? p=some {cls:=.type "list",data:=.seq its.toArray n}/\xs.length<=sizeLine:=by
 obtain ⟨z,its,n,r,e⟩:=I.hok p _ h
 exact ⟨its,n,r,e,z⟩
theorem Inv.lstUpd {pins:List (Addr×Obj)}{σ:St}{H:Hp}{s:Shared}{p:Addr}{xs ys:List V}{its its':List Value}{n n':Nat}{f:Obj->Obj}(I:Inv X pins σ H s)(h:H p=some (.lst xs))
  (ho:s.heap.get? p=some {cls:=.type "list",data:=.seq its.toArray n}) (hf:f {cls:=.type "list",data:=.seq its.toArray n}={cls:=.type "list",data:=.seq its'.toArray n'}) (r:bF ys its') (hz:ys.length<=sizeLine) (t:Nat) :
  Inv X pins σ (upd H p (.lst ys)) {s with heap:=s.heap.update p f,toks:=t}:=by
 have e:(s.heap.update p f).get? p=some {cls:=.type "list",data:=.seq its'.toArray n'}:=by
  rw [Heap.get?_update_self f ho (by rw [hf]<;>rfl),hf]
 refine I.write (x:=p) (e:=p) (by rw [h];trivial) (.inl rfl) (fun b u hb q=>(Heap.get?_update_other _ _ (Ne.symm hb)).trans q) ⟨_,e⟩ ?_
 exact ⟨hz,its',n',r,e⟩
noncomputable def Pj:V->V->V->Hp->(Hp->Prop)->Prop:=fun o i v H Q=>∃p xs k j,o=.ref p/\i=.int k/\H p=some (.lst xs)/\ixN xs.length k=some j/\Q (upd H p (.lst (xs.set j v)))
theorem LD:P0 X Pj:=by
 intro pins s σ H o i v ov iv u Q I ro ri rv h
 obtain ⟨p,xs,k,j,rfl,rfl,hp,hj,q⟩:=h
 cases ro
 obtain ⟨t,rfl⟩:=ri
 obtain ⟨its,n,r,ho,hz⟩:=I.lst hp
 obtain ⟨h1,h2,h3,h4⟩:=Jc hj
 have hl:=r.length
 have hn:=wu
 have I':Inv X pins σ (upd H p (.lst (xs.set j v))) {s with heap:=s.heap.update p (Obj.mapSeq (·.setIfInBounds j u))}:=
  I.lstUpd hp ho (Hj its n j u) (r.set rv j) (by rw [List.length_set];exact hz) s.toks
 by_cases h0:0<=k
 ·have hk:k.toNat=j:=by
   rw [seqIndex_of h0 h4] at h1
   exact Option.some.inj h1
  exact W.ki_setAt ho h0 (by omega) (by rw [List.size_toArray,←hl];exact h4) (by rw [hk];exact ⟨_,I',q⟩)
 ·have hk:(k+(its.toArray.size:Int)).toNat=j:=by
   rw [seqIndex_neg (by omega) h3] at h1
   rw [List.size_toArray,←hl]
   exact Option.some.inj h1
  exact W.ki_setBack ho (by omega) (by rw [List.size_toArray,←hl];exact h3) (by omega) (by rw [hk];exact ⟨_,I',q⟩)
theorem Dl (lo hi:Option Int)(n:Nat):(sliceBounds lo hi none n).1=((HT.sIx n 0 lo:Nat):Int)/\(sliceBounds lo hi none n).2.1=((HT.sIx n n hi:Nat):Int)/\(sliceBounds lo hi none n).2.2=1:=by
 refine ⟨?_,?_,rfl⟩
 ·cases lo with
  | none=>simp [sliceBounds,HT.sIx]
  | some i=>
   simp only [sliceBounds,HT.sIx,Option.getD_none,show (1:Int) > 0 by decide,if_true]
   by_cases h:i < 0
   ·simp only [h,if_true]<;>omega
   ·simp only [h,if_false]<;>omega
 ·cases hi with
  | none=>simp [sliceBounds,HT.sIx]
  | some i=>
   simp only [sliceBounds,HT.sIx,Option.getD_none,show (1:Int) > 0 by decide,if_true]
   by_cases h:i < 0
   ·simp only [h,if_true]<;>omega
   ·simp only [h,if_false]<;>omega
theorem AX (its:List Value)(lo hi:Option Int):slicePick its.toArray lo hi none=((its.drop (HT.sIx its.length 0 lo)).take (HT.sIx its.length its.length hi - HT.sIx its.length 0 lo)).toArray:=by
 obtain ⟨h1,h2,h3⟩:=Dl lo hi its.toArray.size
 unfold slicePick
 rw [h1,h2,h3]
 simp only [sliceRange_one,pick_run,List.size_toArray]<;>rfl
noncomputable def RM (K:WA):V->Option Int->Option Int->Hp->VK->Prop:=fun x lo hi H Q=>∃a xs,x=.ref a/\SqL K H a xs/\∀p,H p=none->Q (.ref p) (upd H p (.lst (ur xs lo hi)))
theorem NH:SlR X (RM X.K):=by
 intro pins s σ H x v vl vu lo hi sl Q I rx hs pl pu h
 obtain ⟨a,xs,rfl,hx,q⟩:=h
 cases rx
 obtain ⟨its,r,ht,hz⟩:=I.list hx
 have hlen:=r.length
 refine ⟨"list",_,slot_list_getitem.lookup,ht.isList.typeIs,?_⟩
 refine wpAny_getItem_list_slice ht.isList hs pl pu .none (by simp) ?_ (by rw [List.size_toArray]<;>omega)
 rw [AX,←hlen]
 refine ⟨.ref s.heap.objs.size,_,I.laid (t':=s.toks) (o:=.lst (ur xs lo hi)) (fun b ob q=>Heap.get?_push_of_some _ q) (Nat.le_refl _) ?_,rfl,q _ (I.hok.fresh (Nat.le_refl _))⟩
 exact ⟨Nat.le_trans (ke xs lo hi) hz,_,0,(r.drop (HT.sIx xs.length 0 lo)).take (HT.sIx xs.length xs.length hi - HT.sIx xs.length 0 lo),Heap.get?_push_size _ rfl⟩
noncomputable def bU:V->Bool
 | .non=>true
 | .bl _=>true
 | .int _=>true
 | .str _=>true
 | _=>false
noncomputable def eqV:V->V->Bool
 | .non,.non=>true
 | .bl a,.bl b=>a == b
 | .bl a,.int b=>(if a then 1 else 0) == b
 | .int a,.bl b=>a == (if b then 1 else 0)
 | .int a,.int b=>a == b
 | .str a,.str b=>a == b
 | _,_=>false
theorem wA {A:Around}{s:Shared}{y x:V}{u v:Value}(ry:bT y u)(rx:bT x v)(fy:bU y=true)(fx:bU x=true):SeqAt.EqAt A s u v (eqV y x):=by
 cases y with
 | non=>
  cases ry
  cases x with
  | non=>cases rx;exact SeqAt.EqAt.same _
  | bl b=>cases rx;exact SeqAt.EqAt.none_bool b
  | int b=>obtain ⟨t,rfl⟩:=rx;exact SeqAt.EqAt.none_int b t
  | str b=>obtain ⟨t,rfl⟩:=rx;exact SeqAt.EqAt.none_str b t
  | _=>exact absurd (show false=true from fx) Bool.false_ne_true
 | bl a=>
  cases ry
  cases x with
  | non=>cases rx;exact SeqAt.EqAt.bool_none a
  | bl b=>cases rx;exact SeqAt.EqAt.bool_bool a b
  | int b=>obtain ⟨t,rfl⟩:=rx;exact SeqAt.EqAt.bool_int a b t
  | str b=>obtain ⟨t,rfl⟩:=rx;exact SeqAt.EqAt.bool_str a b t
  | _=>exact absurd (show false=true from fx) Bool.false_ne_true
 | int a=>
  obtain ⟨t',rfl⟩:=ry
  cases x with
  | non=>cases rx;exact SeqAt.EqAt.int_none a t'
  | bl b=>cases rx;exact SeqAt.EqAt.int_bool a t' b
  | int b=>obtain ⟨t,rfl⟩:=rx;exact SeqAt.EqAt.int_int a t' b t
  | str b=>obtain ⟨t,rfl⟩:=rx;exact SeqAt.EqAt.int_str a t' b t
  | _=>exact absurd (show false=true from fx) Bool.false_ne_true
 | str a=>
  obtain ⟨t',rfl⟩:=ry
  cases x with
  | non=>cases rx;exact SeqAt.EqAt.str_none a t'
  | bl b=>cases rx;exact SeqAt.EqAt.str_bool a t' b
  | int b=>obtain ⟨t,rfl⟩:=rx;exact SeqAt.EqAt.str_int a t' b t
  | str b=>obtain ⟨t,rfl⟩:=rx;exact SeqAt.EqAt.str_str a t' b t
  | _=>exact absurd (show false=true from fx) Bool.false_ne_true
 | _=>exact absurd (show false=true from fy) Bool.false_ne_true
noncomputable def eqU (x:V)(u:Value):Bool:=match u with
 | .none=>eqV .non x
 | .bool b=>eqV (.bl b) x
 | .int i _=>eqV (.int i) x
 | .str z _=>eqV (.str z) x
 | _=>false
theorem LF {x y:V}{u:Value}(r:bT y u)(f:bU y=true):eqU x u=eqV y x:=by
 cases y with
 | non=>cases r;rfl
 | bl b=>cases r;rfl
 | int i=>obtain ⟨t,rfl⟩:=r;rfl
 | str z=>obtain ⟨t,rfl⟩:=r;rfl
 | _=>exact absurd (show false=true from f) Bool.false_ne_true
theorem uu {x:V}:∀{xs:List V} {us:List Value},bF xs us->xs.all bU=true->us.any (eqU x)=xs.any fun y=>eqV y x
 | _,_,.nil,_=>rfl
 | y::xs,u::us,.cons r t,f=>by
  rw [List.all_cons,Bool.and_eq_true] at f
  rw [List.any_cons,List.any_cons,LF r f.1,uu t f.2]
theorem pk {A:Around}{s:Shared}{x:V}{v:Value}(rx:bT x v)(fx:bU x=true):∀{xs:List V} {us:List Value},bF xs us->xs.all bU=true->∀u∈us,SeqAt.EqAt A s u v (eqU x u)
 | _,_,.nil,_=>fun u hu=>by cases hu
 | y::xs,u::us,.cons r t,f=>fun u' hu=>by
  rw [List.all_cons,Bool.and_eq_true] at f
  rcases List.mem_cons.mp hu with rfl | hu
  ·rw [LF r f.1];exact wA r rx f.1 fx
  ·exact pk rx fx t f.2 u' hu
noncomputable def inV (x:V)(xs:List V):Bool:=xs.any fun y=>eqV y x
noncomputable def rIn (K:WA)(neg:Bool):R2:=fun x y H Q=>∃p xs,y=.ref p/\(SqL K H p xs\/SqT K H p xs)/\bU x=true/\xs.all bU=true/\Q (.bl (if neg then !inV x xs else inV x xs)) H
theorem Kj:OpR X (compareOp .In) (rIn X.K false):=by
 intro pins s σ H x y v u Q I rx ry h
 obtain ⟨p,xs,rfl,hq,fx,fs,q⟩:=h
 cases ry
 rcases hq with hq | hq
 ·obtain ⟨its,r,pl,hz⟩:=I.list hq
  refine SeqAt.in_listAt (eqU x) pl.isList (fun w hw=>pk rx fx r fs w (by simpa using hw)) ⟨.bl _,H,I,rfl,?_⟩
  rw [show its.toArray.any (eqU x)=its.any (eqU x) by simp,uu r fs]
  exact q
 ·obtain ⟨its,r,pl,hz⟩:=I.tuple hq
  refine SeqAt.in_tupleAt (eqU x) pl (fun w hw=>pk rx fx r fs w (by simpa using hw)) ⟨.bl _,H,I,rfl,?_⟩
  rw [show its.toArray.any (eqU x)=its.any (eqU x) by simp,uu r fs]
  exact q
theorem Dm:OpR X (compareOp .NotIn) (rIn X.K true):=by
 intro pins s σ H x y v u Q I rx ry h
 obtain ⟨p,xs,rfl,hq,fx,fs,q⟩:=h
 cases ry
 rcases hq with hq | hq
 ·obtain ⟨its,r,pl,hz⟩:=I.list hq
  refine SeqAt.notIn_listAt (eqU x) pl.isList (fun w hw=>pk rx fx r fs w (by simpa using hw)) ⟨.bl _,H,I,rfl,?_⟩
  rw [show its.toArray.any (eqU x)=its.any (eqU x) by simp,uu r fs]
  exact q
 ·obtain ⟨its,r,pl,hz⟩:=I.tuple hq
  refine SeqAt.notIn_tupleAt (eqU x) pl (fun w hw=>pk rx fx r fs w (by simpa using hw)) ⟨.bl _,H,I,rfl,?_⟩
  rw [show its.toArray.any (eqU x)=its.any (eqU x) by simp,uu r fs]
  exact q
theorem Dn:dw X (.builtin "len") (fun xs H Q=>∃p ys,xs=[.ref p]/\(SqL X.K H p ys\/SqT X.K H p ys)/\Q (.int ys.length) H):=by
 intro pins s σ H xs us Q I r h
 obtain ⟨p,ys,rfl,hq,q⟩:=h
 obtain ⟨u,rfl,rx⟩:=uo r
 cases rx
 have hn:=wu
 rcases hq with hq | hq
 ·obtain ⟨its,r',pl,hz⟩:=I.list hq
  have hlen:=r'.length
  exact Calls.call_len_list pl.isList (by simp only [List.size_toArray]<;>omega) ⟨.int ys.length,H,I.tok _,⟨s.toks+1,by rw [List.size_toArray,hlen]⟩,q⟩
 ·obtain ⟨its,r',pl,hz⟩:=I.tuple hq
  have hlen:=r'.length
  exact len_tuple pl (by simp only [List.size_toArray]<;>omega) ⟨.int ys.length,H,I.tok _,⟨s.toks+1,by rw [List.size_toArray,hlen]⟩,q⟩
theorem Dp:dw X (.type "list") (fun xs H Q=>∃p ys,xs=[.ref p]/\(SqL X.K H p ys\/SqT X.K H p ys)/\∀l,H l=none->Q (.ref l) (upd H l (.lst ys))):=by
 intro pins s σ H xs us Q I r h
 obtain ⟨p,ys,rfl,hq,q⟩:=h
 obtain ⟨u,rfl,rx⟩:=uo r
 cases rx
 have fin:∀(its:List Value),bF ys its->ys.length<=sizeLine->∀(h':Heap) (c':Nat),(∀b o',s.heap.get? b=some o'->h'.get? b=some o')->
   h'.get? s.heap.objs.size=some {cls:=.type "list",dict:=none,data:=.seq its.toArray c',slots:=#[]}->EP X pins σ Q (.ref s.heap.objs.size) {s with heap:=h'}:=fun its r' hz h' c' kp e=>
  ⟨.ref s.heap.objs.size,_,I.laid (t':=s.toks) kp (Nat.le_refl _) (show fY X.prog X.w _ h' _ (.lst ys) from ⟨hz,its,c',r',e⟩),rfl,q _ (I.hok.fresh (Nat.le_refl _))⟩
 rcases hq with hq | hq
 ·obtain ⟨its,r',pl,hz⟩:=I.list hq
  have hlen:=r'.length
  obtain ⟨o,ho,hc,n,hd⟩:=pl.isList
  exact call_list_seq p (.inl rfl) ho hc hd (fun h' c' kp e=>fin its r' hz h' c' kp e) (by simp only [List.size_toArray]<;>omega)
 ·obtain ⟨its,r',pl,hz⟩:=I.tuple hq
  have hlen:=r'.length
  obtain ⟨o,ho,hc,n,hd⟩:=pl
  exact call_list_seq p (.inr rfl) ho hc hd (fun h' c' kp e=>fin its r' hz h' c' kp e) (by simp only [List.size_toArray]<;>omega)
theorem AY:dw X (.type "tuple") (fun xs H Q=>∃p ys,xs=[.ref p]/\((SqL X.K H p ys/\∀l,H l=none->Q (.ref l) (upd H l (.tup ys)))\/(SqT X.K H p ys/\Q (.ref p) H))):=by
 intro pins s σ H xs us Q I r h
 obtain ⟨p,ys,rfl,h⟩:=h
 obtain ⟨u,rfl,rx⟩:=uo r
 cases rx
 rcases h with ⟨hq,q⟩ | ⟨hq,q⟩
 ·obtain ⟨its,r',pl,hz⟩:=I.list hq
  have hlen:=r'.length
  refine call_tuple_list pl.isList (fun h' kp=>?_) (by simp only [List.size_toArray]<;>omega)
  have I1:Inv X pins σ H {s with heap:=h'}:=I.kept (t':=s.toks) kp
  have I2:Inv X pins σ (upd H h'.objs.size (.tup ys)) {s with heap:=h'.push {cls:=.type "tuple",data:=.seq its.toArray}}:=
   I1.laid (t':=s.toks) (fun b o e=>Heap.get?_push_of_some _ e) (Nat.le_refl _) (show fY X.prog X.w _ _ _ (.tup ys) from ⟨hz,its,r',jb.new _ _⟩)
  exact ⟨.ref h'.objs.size,_,I2,rfl,q _ (I1.hok.fresh (Nat.le_refl _))⟩
 ·obtain ⟨its,r',pl,hz⟩:=I.tuple hq
  exact call_tuple_same pl ⟨.ref p,H,I,rfl,q⟩
def tyV (K:WA)(T:String)(x:V)(H:Hp):Prop:=match x with
 | .str _=>T="str"
 | .int _=>T="int"
 | .ref p=>(T="list"/\∃xs,SqL K H p xs)\/(T="tuple"/\∃o,K.lookup p=some o/\o.cls=.type "tuple"/\o.dict=none)\/
   (T="dict"/\((∃kvs,H p=some (.dK kvs))\/∃kvs,H p=some (.dT kvs)))\/(T="set"/\∃S n,H p=some (.set S n))
 | _=>False
theorem LG {pins:List (Addr×Obj)}{σ:St}{H:Hp}{s:Shared}{T:String}{x:V}{v:Value}(I:Inv X pins σ H s)(r:bT x v)(ty:tyV X.K T x H) :
  s.TypeIs v T/\∀a,v=.ref a->∃ob,s.heap.get? a=some ob/\ob.dict=none:=by
 cases x with
 | str z=>
  obtain ⟨t,rfl⟩:=r
  cases (show T="str" from ty)
  exact ⟨typeIs_str s z t,fun _ e=>nomatch e⟩
 | int i=>
  obtain ⟨t,rfl⟩:=r
  cases (show T="int" from ty)
  exact ⟨typeIs_int s i t,fun _ e=>nomatch e⟩
 | ref p=>
  cases r
  rcases ty with ⟨rfl,xs,hq⟩ | ⟨rfl,o,hk,hc,hd⟩ | ⟨rfl,hk⟩ | ⟨rfl,S,n,hk⟩
  ·obtain ⟨its,_,pl,_⟩:=I.list hq
   refine ⟨pl.isList.typeIs,fun a e=>?_⟩
   cases e
   obtain ⟨o,n,e,c,hd,_⟩:=pl
   exact ⟨o,e,hd⟩
  ·refine ⟨⟨o,I.kIn p o hk,hc⟩,fun a e=>?_⟩
   cases e
   exact ⟨o,I.kIn _ o hk,hd⟩
  ·have z:∃o,s.heap.get? p=some o/\o.ExactDict:=by
    rcases hk with ⟨kvs,hk⟩ | ⟨kvs,hk⟩
    ·obtain ⟨_,_,_,_,o,_,_,e,ex,_⟩:=I.hok p _ hk
     exact ⟨o,e,ex⟩
    ·obtain ⟨_,_,_,_,o,_,_,e,ex,_⟩:=I.hok p _ hk
     exact ⟨o,e,ex⟩
   obtain ⟨o,e,ex⟩:=z
   refine ⟨⟨o,e,ex.1⟩,fun a e2=>?_⟩
   cases e2
   exact ⟨o,e,ex.2.1⟩
  ·obtain ⟨o,_,_,_,e,ex,_⟩:=I.hok p _ hk
   refine ⟨⟨o,e,ex.1⟩,fun a e2=>?_⟩
   cases e2
   exact ⟨o,e,ex.2.1⟩
 | _=>exact False.elim ty
noncomputable def RN (K:WA)(T:String)(r:V->List V->Hp->VK->Prop)(to:TE):TE:=fun σ H Q=>to σ H fun x H1=>tyV K T x H1/\r x [] H1 Q
noncomputable def tBM (K:WA)(T:String)(r:V->List V->Hp->VK->Prop)(to:TE)(t:TA):TE:=fun σ H Q=>to σ H fun x H1=>tyV K T x H1/\t σ H1 fun xs H2=>r x xs H2 Q
variable {o e:Expr}{es:List Expr}{to:TE}{t:TA}{name:Str}{apos cpos:Pos}{T id:String}{r:V->List V->Hp->VK->Prop}
theorem zg (pa:PlainAttrs T)(slot:Slot T name id)(hty:typeOf (.builtin id)=pure (.type "method_descriptor"))(hm:MtR X id r)(ho:PE X o to)
  (hbase:attributeBase o name X.env (eval o X.env)=eval o X.env:=by rfl) (hline:(apos.endLine == cpos.line)=true:=by rfl):PE X (.Call (.Attribute o name apos) [] [] cpos) (RN X.K T r to):=by
 intro pins s σ H Q I h
 refine wpAny_Call_method0_late hbase hline (thn (ho pins s σ H _ I h) fun v s1 ⟨x,H1,I1,r1,ty,q1⟩=>?_)
 obtain ⟨h1,h2⟩:=LG I1 r1 ty
 exact ⟨T,id,pa,slot,hty,h1,h2,Calls.callWith_builtin rfl (PySem.evalArgs_none (hm pins s1 σ H1 x [] v [] Q I1 r1 .nil q1))⟩
theorem kg (pa:PlainAttrs T)(slot:Slot T name id)(hty:typeOf (.builtin id)=pure (.type "method_descriptor"))(hm:MtR X id r)(ho:PE X o to)(ha:PA X (e::es) t)
  (hbase:attributeBase o name X.env (eval o X.env)=eval o X.env:=by rfl)
  (hfew:((backTo cpos (starEach (e::es) X.env)).all (fun x=>!x.1) && (backToKw cpos (keywordEach [] X.env)).all (fun x=>x.1.isSome)
   && decide ((e::es).length+([]:List Keyword).length+(if ([]:List Keyword).isEmpty then 0 else 1) < 30))=true:=by rfl)
  (hline:(apos.endLine == cpos.line)=true:=by rfl) (hs:starEach (e::es) X.env=(false,eval e X.env)::starEach es X.env:=by rfl) (hplain:(backTo cpos (starEach es X.env)).any (·.1)=false:=by rfl) :
  PE X (.Call (.Attribute o name apos) (e::es) [] cpos) (tBM X.K T r to t):=by
 intro pins s σ H Q I h
 refine wpAny_Call_method_late hbase hfew hline rfl (thn (ho pins s σ H _ I h) fun v s1 ⟨x,H1,I1,r1,ty,q1⟩=>?_)
 obtain ⟨h1,h2⟩:=LG I1 r1 ty
 refine ⟨T,id,pa,slot,hty,h1,h2,?_⟩
 have hA:=ha cpos pins s1 σ H1 _ I1 q1
 rw [hs] at hA ⊢
 refine Calls.callWith_builtin (by show (false || (backTo cpos (starEach es X.env)).any (·.1))=false;rw [hplain]<;>rfl) (Calls.evalArgs_plain ?_)
 exact thn hA fun us s2 ⟨vs,H2,I2,r2,q2⟩=>hm pins s2 σ H2 x vs v us Q I2 r1 r2 q2
end
def MtM (X:Cx)(id:String)(r:V->List V->Hp->VK->Prop):Prop:=
 ∀(pins:List (Addr×Obj)) (s:Shared) (σ:St) (H:Hp) (x:V) (xs:List V) (v:Value) (us:List Value) (Q:VK),Inv X pins σ H s->bT x v->bF xs us->r x xs H Q->
  wpAny (model X.prog X.w) X.A (call (.builtin id) (v::us)) (EP X pins σ Q) X.xe s
theorem bF.one:∀{x:V} {us:List Value},bF [x] us->∃u,us=[u]/\bT x u
 | _,_,.cons r .nil=>⟨_,rfl,r⟩
theorem bF.two:∀{x y:V} {us:List Value},bF [x,y] us->∃u v,us=[u,v]/\bT x u/\bT y v
 | _,_,_,.cons r (.cons q .nil)=>⟨_,_,rfl,r,q⟩
theorem bF.zero:∀{us:List Value},bF [] us->us=[]
 | _,.nil=>rfl
theorem bF.dropLast {xs:List V}{us:List Value}(h:bF xs us):bF xs.dropLast us.dropLast:=by
 induction h with
 | nil=>exact .nil
 | cons r t ih=>
  cases t with
  | nil=>exact .nil
  | cons q t'=>exact .cons r ih
theorem Hk {α:Type}(l:List α):l.eraseIdx (l.length - 1)=l.dropLast:=by
 induction l with
 | nil=>rfl
 | cons a r ih=>
  cases r with
  | nil=>rfl
  | cons b r=>
   have e:(a::b::r).length - 1=((b::r).length - 1)+1:=by
    have h1:(a::b::r).length=r.length+2:=rfl
    have h2:(b::r).length=r.length+1:=rfl
    omega
   rw [e,List.eraseIdx_cons_succ,ih]
   all_goals rfl
theorem Cb (its:List Value):∀(k:Nat) (acc:List Value),
  List.foldl (fun x1 x2=>x1++x2) acc.toArray (List.replicate k its.toArray)=(acc++(List.replicate k its).flatten).toArray
 | 0,acc=>by simp
 | k+1,acc=>by
  have e:acc.toArray++its.toArray=(acc++its).toArray:=by simp
  have e2:(acc++its)++(List.replicate k its).flatten=acc++(List.replicate (k+1) its).flatten:=by
   rw [List.replicate_succ,List.flatten_cons,List.append_assoc]
  rw [←e2,←Cb its k (acc++its),←e,List.replicate_succ,List.foldl_cons]
section
variable {X:Cx}{pins:List (Addr×Obj)}{σ:St}{H:Hp}{s:Shared}{l b:Addr}{xs ys zs:List V}
theorem Inv.lset {its its':List Value}{n:Nat}{f:Array Value->Array Value}{t':Nat}(I:Inv X pins σ H s)(hH:H l=some (.lst xs))
  (e:s.heap.get? l=some {cls:=.type "list",data:=.seq its.toArray n}) (hf:f its.toArray=its'.toArray) (hv:bF ys its') (hz:ys.length<=sizeLine) :
  Inv X pins σ (upd H l (.lst ys)) {s with heap:=s.heap.update l (Obj.mapSeq f),toks:=t'}:=by
 have q:=PySem.IsL.update e f
 rw [hf] at q
 refine I.write (x:=l) (e:=l) (by rw [hH];exact trivial) (.inl rfl) (fun b' u hb hu=>(Heap.get?_update_other s.heap (Obj.mapSeq f) (Ne.symm hb)).trans hu) ⟨_,q⟩ ?_
 exact ⟨hz,its',_,hv,q⟩
theorem Inv.lnew {its:List Value}{t':Nat}(I:Inv X pins σ H s)(hv:bF ys its)(hz:ys.length<=sizeLine) :
  Inv X pins σ (upd H s.heap.objs.size (.lst ys)) {s with heap:=s.heap.push {cls:=.type "list",data:=.seq its.toArray},toks:=t'}:=
 I.laid (fun _ _ q=>Heap.get?_push_of_some _ q) (Nat.le_refl _) ⟨hz,its,0,hv,Heap.get?_push_size _ rfl⟩
theorem Inv.fresh (I:Inv X pins σ H s):H s.heap.objs.size=none:=I.hok.fresh (Nat.le_refl _)
theorem Inv.lstM (I:Inv X pins σ H s)(hH:H l=some (.lst xs)):xs.length<=sizeLine/\∃(its:List Value) (n:Nat),bF xs its/\xs.length=its.length/\s.heap.get? l=some {cls:=.type "list",data:=.seq its.toArray n}:=by
 obtain ⟨z,its,n,r,e⟩:=I.hok l _ hH
 exact ⟨z,its,n,r,r.length,e⟩
theorem LH {n:Nat}(h:n<=sizeLine):Builtin.List.listTooLong n=false:=by
 unfold Builtin.List.listTooLong
 exact decide_eq_false (by omega)
end
section
variable {X:Cx}
noncomputable def Jg:V->List V->Hp->VK->Prop:=fun x vs H Q=>∃l xs y,x=.ref l/\vs=[y]/\H l=some (.lst xs)/\xs.length < sizeLine/\Q .non (upd H l (.lst (xs++[y])))
theorem Kk:MtM X "list.append" Jg:=by
 intro pins s σ H x vs v us Q I rx rv h
 obtain ⟨l,xs,y,rfl,rfl,hH,hz,q⟩:=h
 cases rx
 obtain ⟨u,rfl,ru⟩:=rv.one
 obtain ⟨z,its,n,r,hl,e⟩:=I.lstM hH
 refine call_meets F.slot_list_append ⟨_,e,rfl⟩ F.entry_list_append (F.args_list_append_2 _ _) (PySem.list_append l its.toArray n u (by rw [List.size_toArray];omega)) ⟨e,?_⟩
 refine ⟨.non,_,I.lset (its':=its++[u]) hH e (by simp) (r.append (.cons ru .nil)) ?_,rfl,q⟩
 rw [List.length_append,List.length_singleton]
 omega
noncomputable def NJ:V->List V->Hp->VK->Prop:=fun x vs H Q=>∃l b xs zs,x=.ref l/\vs=[.ref b]/\H l=some (.lst xs)/\H b=some (.lst zs)/\xs.length+zs.length<=sizeLine/\Q .non (upd H l (.lst (xs++zs)))
theorem Rr:MtM X "list.extend" NJ:=by
 intro pins s σ H x vs v us Q I rx rv h
 obtain ⟨l,b,xs,zs,rfl,rfl,hH,hB,hz,q⟩:=h
 cases rx
 obtain ⟨u,rfl,ru⟩:=rv.one
 cases ru
 obtain ⟨z,its,n,r,hl,e⟩:=I.lstM hH
 obtain ⟨z2,its2,n2,r2,hl2,e2⟩:=I.lstM hB
 have hsz:its.toArray.size+its2.toArray.size<=sizeLine:=by rw [List.size_toArray,List.size_toArray];omega
 have hlong:¬(!its.toArray.isEmpty && Builtin.List.listTooLong (its.toArray.size+its2.toArray.size))=true:=by
  rw [LH hsz,Bool.and_false]
  exact Bool.false_ne_true
 refine call_meets F.slot_list_extend ⟨_,e,rfl⟩ F.entry_list_extend (F.args_list_extend_2 _ _)
  (AutoSeq1.list_extend_list_list_0 l its.toArray n b its2.toArray n2 hlong (by rw [List.size_toArray];omega) (by omega)) ⟨e,e2,?_⟩
 refine ⟨.non,_,I.lset (its':=its++its2) hH e (by simp) (r.append r2) ?_,rfl,q⟩
 rw [List.length_append]
 omega
noncomputable def Qo:V->List V->Hp->VK->Prop:=fun x vs H Q=>∃l xs y,x=.ref l/\vs=[]/\H l=some (.lst xs)/\xs[xs.length - 1]?=some y/\Q y (upd H l (.lst xs.dropLast))
theorem Qp:MtM X "list.pop" Qo:=by
 intro pins s σ H x vs v us Q I rx rv h
 obtain ⟨l,xs,y,rfl,rfl,hH,hy,q⟩:=h
 cases rx
 have hus:=rv.zero
 subst hus
 obtain ⟨z,its,n,r,hl,e⟩:=I.lstM hH
 obtain ⟨u,hu,ru⟩:=r.get hy
 have hy':its.toArray[its.toArray.size - 1]?=some u:=by
  show its.toArray[its.length - 1]?=some u
  rw [←Array.getElem?_toList,←hl]
  exact hu
 refine call_meets F.slot_list_pop ⟨_,e,rfl⟩ F.entry_list_pop (F.args_list_pop_1 _) (MeetsSeq.list_pop_last l its.toArray n u hy' (by rw [List.size_toArray];omega)) ⟨e,?_⟩
 refine ⟨y,_,I.lset (its':=its.dropLast) hH e ?_ r.dropLast ?_,ru,q⟩
 ·show its.toArray.eraseIdxIfInBounds (its.toArray.size - 1)=its.dropLast.toArray
  rw [List.size_toArray,List.eraseIdxIfInBounds_toArray,Hk]
 ·rw [List.length_dropLast]
  omega
noncomputable def Hl:V->List V->Hp->VK->Prop:=fun x vs H Q=>∃l xs,x=.ref l/\vs=[]/\H l=some (.lst xs)/\Q .non (upd H l (.lst []))
theorem LI:MtM X "list.clear" Hl:=by
 intro pins s σ H x vs v us Q I rx rv h
 obtain ⟨l,xs,rfl,rfl,hH,q⟩:=h
 cases rx
 have hus:=rv.zero
 subst hus
 obtain ⟨z,its,n,r,hl,e⟩:=I.lstM hH
 refine call_meets F.slot_list_clear ⟨_,e,rfl⟩ F.entry_list_clear (F.args_list_clear_1 _) (AutoSeq1.list_clear_list_0 l its.toArray n (by rw [List.size_toArray];omega)) ⟨e,?_⟩
 exact ⟨.non,_,I.lset (its':=[]) (ys:=[]) hH e rfl .nil (Nat.zero_le _),rfl,q⟩
noncomputable def RO:R2:=fun x y H Q=>∃l b xs zs,x=.ref l/\y=.ref b/\H l=some (.lst xs)/\H b=some (.lst zs)/\xs.length+zs.length<=sizeLine/\∀p,H p=none->Q (.ref p) (upd H p (.lst (xs++zs)))
theorem Qq:OpR X (binaryOp .Add) RO:=by
 intro pins s σ H x y v u Q I rx ry h
 obtain ⟨l,b,xs,zs,rfl,rfl,hH,hB,hz,q⟩:=h
 cases rx
 cases ry
 obtain ⟨z,its,n,r,hl,e⟩:=I.lstM hH
 obtain ⟨z2,its2,n2,r2,hl2,e2⟩:=I.lstM hB
 refine PySem.P.add_list e e2 ?_ (by rw [List.size_toArray,List.size_toArray];omega)
 have ea:its.toArray++its2.toArray=(its++its2).toArray:=by simp
 rw [ea]
 exact ⟨.ref _,_,I.lnew (t':=s.toks) (r.append r2) (by rw [List.length_append];omega),rfl,q _ I.fresh⟩
end
section
variable {prog:Program}{w:World}{A:Around}{E:Value->Shared->Prop}{s:Shared}
set_option maxRecDepth 100000 in
end
end L2
namespace Att
open PySem PySem.W PySem.Calls PyProof.Rows
theorem ym {P:Params}{h:Heap}:∀(ns:List Int) (vs:List Value),WellAll P h vs (ns.map WData.int)->IntsAre vs ns:=by
 intro ns
 induction ns with
 | nil=>
  intro vs w
  rw [List.map_nil] at w
  cases w
  exact .nil
 | cons n ns ih=>
  intro vs w
  rw [List.map_cons] at w
  cases w with
  | cons a b=>
   cases a
   exact .cons _ _ (ih _ b)
theorem Kl {l:OpenLaw}{n:Nat}(hn:l.most=some n){P:Params}{h:Heap}{args:List WData}{vals:List Value}
  (hpre:l.row.toRowW.claim.pre args=true) (hwl:WellAll P h vals args) :
  ∃a vs ns,vals=[Value.ref a]/\args=[WData.list (ns.map WData.int)]/\h.get? a=some {cls:=.type "list",data:=.seq vs.toArray}/\IntsAre vs ns/\ns.length<=n:=by
 have hsh:WShape.hasAll [] args [.list .int]=true:=(pre_splitW hpre).1
 have hc:l.pre.holds [] {args:=args}=true:=(pre_splitW hpre).2
 obtain ⟨d,r,rfl,h1,h2⟩:=hasAllW_cons hsh
 obtain rfl:=hasAllW_nil h2
 obtain ⟨xs,rfl,h3⟩:=hasW_list h1
 obtain ⟨ns,rfl⟩:=items_int h3
 have hlen:ns.length<=n:=by
  unfold OpenLaw.pre at hc
  have h4:(WTm.not (.lt (.lit (.int (n:Int))) (.len (.arg 0)))).holds [] {args:=[.list (ns.map .int)]}=true:=by
   have h4:=(holds_andW hc).1
   rw [hn] at h4
   exact h4
  have h5:=condW_of h4 (w_not (w_lt w_lit (w_len_list (w_arg rfl))))
  rw [WB] at h5
  refine Nat.le_of_not_lt fun q=>?_
  have q':(n:Int) < ((ns.length:Nat):Int):=by omega
  first
   | (rw [decide_eq_true q'] at h5;exact absurd h5 (by decide))
   | (simp at h5;omega)
 cases hwl with
 | cons w1 w2=>
  cases w2
  cases w1 with
  | list ho hall=>exact ⟨_,_,ns,rfl,rfl,ho,ym ns _ hall,hlen⟩
theorem Km (l:OpenLaw)(args:List WData):l.row.toRowW.claim.post args (.bool true) args=true:=
 postW_of (r:=l.row.toRowW) (X:=(true == true))
  (show WShape.has [] (.bool true) .bool=true by first | rfl | decide | simp [WShape.has,WShape.arms,WShape.armsAll])
  (show (WTm.eq .res (.lit (.bool true))).value [] {args:=args,res:=some (.bool true),after:=args}=some (.bool (true == true)) from w_eq_bool (w_res rfl) w_lit) rfl
theorem EW {l:OpenLaw}{n:Nat}{q:Program}{loose:List Str}{XP:(Str->Option Value)->Heap->Prop}{YP:World->Heap->Prop}{d:DefRec}
  (hn:l.most=some n) (hdf:d.params.defaults=[])
  (call:∀(w:World) (s₀ s₁:Shared) (mg mb:Str->Option Value) (fa:Addr) (o:Obj) (pm cd doc:Value) (a:Addr) (vs:List Value) (ns:List Int),
   Ground q loose [] XP w s₀ mg mb s₁.heap->YP w s₁.heap->
   s₁.heap.get? fa=some o->o.data=.func (docDef d.name d.params d.body d.scope pm cd doc)->s₁.heap.CodeRec cd d.name->mg d.name=some (.ref fa)->
   s₁.heap.get? a=some {cls:=.type "list",data:=.seq vs.toArray}->IntsAre vs ns->ns.length<=n->s₁.gens=#[]->
   codeAny (model l.prog w) callerA (.call (.ref fa) ⟨[.ref a],[]⟩) (fun r s'=>r=.ok (.ret (.bool true))/\OldK s₁.heap s'.heap/\s'.os=s₁.os/\AllBare s'.gens) s₁) :
  WalkO q loose XP YP l.row.toRowW d [] (fun f vs=>PySem.call f vs):=by
 intro w s₀ s₁ mg mb G Y fa o pm cd doc dV kV ho hd hcd hD hmg hg args vals as hpre hlay hrd hwl hlo
 obtain rfl:dV=.none:=Dflts.none hD hdf
 obtain rfl:kV=.none:=Dflts.noKw hD
 obtain ⟨a,vs,ns,rfl,rfl,hobj,hints,hlen⟩:=Kl hn hpre hwl
 refine enter_call (codeAny_mono (call w s₀ s₁ mg mb fa o pm cd doc a vs ns G Y ho (fd_plain hd) hcd hmg hobj hints hlen hg) fun r s' hq=>?_)
 obtain ⟨rfl,h2,h3,h4⟩:=hq
 exact ⟨.inl ⟨.bool true,.bool true,[],rfl,fun _=>rfl,.bool true,Km l _,fun _=>⟨List.Pairwise.nil,fun _ hm=>(nomatch hm)⟩⟩,h2,h3,h4⟩
end Att
namespace L2
open PySem PySem.Spec PyProof.Rows
theorem Cc:∀{vs:List Value} {ns:List Int},IntsAre vs ns->bF (ns.map V.int) vs
 | _,_,.nil=>.nil
 | _,_,.cons n t h=>.cons ⟨t,rfl⟩ (Cc h)
def Qr (H:Hp):Prop:=∀b,H b=none\/∃o xs,H b=some (.frz o (.lst xs))
theorem LJ {P:Program}{w:World}{K:WA}{mg mb:Str->Option Value}{CX:CXT}{k:Nat}{fa a:Addr}{fd:FuncData}{x:Str}{sp:Sp}{s₁:Shared}{vs:List Value}{ns:List Int}
  (KX:K.In s₁.heap) (hns:s₁.heap.Ns mainGlobals mg) (hb:s₁.heap.Ns builtinsNs mb) (hbb:∀x:Str,x≠"__name__"->mb x=bootBuiltins x) (hlim:s₁.heap.NoLimit) (hg:s₁.gens=#[])
  (ha:s₁.heap.get? a=some {cls:=.type "list",data:=.seq vs.toArray}) (hi:IntsAre vs ns) (hl:ns.length<=sizeLine) (hr:eC k callerA)
  (F:∀base:Heap,K.In base->base.Ns mainGlobals mg->gH P w K mg base CX k fa fd [x] sp) (hbind:∀(s:Shared) (u:Value),BindsTo s fd ⟨[u],[]⟩ [(x,u)])
  (hsp:∀H:Hp,Qr H->SqL K H a (ns.map V.int)->sp [.ref a] H (fun v _=>v=.bl true) fun _ _ _=>False)
  (hCX:∀H e s',CX [] H s₁ (fun _ _ _=>False) e s'->False) :
  codeAny (model P w) callerA (.call (.ref fa) ⟨[.ref a],[]⟩) (fun r s'=>r=.ok (.ret (.bool true))/\OldK s₁.heap s'.heap/\s'.os=s₁.os/\AllBare s'.gens) s₁:=by
 have rv:=Cc hi
 have lenV:=hi.length
 have core:∀H:Hp,Qr H->SqL K H a (ns.map V.int)->HOk P w H s₁.heap->(∀b,H b≠none->b=a)->(H a≠none->K.lookup a=none)->
   codeAny (model P w) callerA (.call (.ref fa) ⟨[.ref a],[]⟩) (fun r s'=>r=.ok (.ret (.bool true))/\OldK s₁.heap s'.heap/\s'.os=s₁.os/\AllBare s'.gens) s₁:=by
  intro H hO hS hok hA hK
  have base_of:∀{b:Addr} {o:Obj},s₁.heap.get? b=some o->H b=none->(Dh s₁.heap H).get? b=some o:=fun e n=>Li e n
  have noA:∀{b:Addr} {o:Obj} {es:Array DictEntry} {ep:Nat},s₁.heap.get? b=some o->o.data=.dict es ep->H b=none:=fun {b o es ep} e d=>by
   cases q:H b with
   | none=>rfl
   | some u=>
    have e':b=a:=hA b (by rw [q];simp)
    subst e'
    rw [ha] at e;cases e
    have d':Data.seq vs.toArray _=Data.dict es ep:=d
    cases d'
  have nsK:∀{b:Addr} {m:Str->Option Value},s₁.heap.Ns b m->(Dh s₁.heap H).Ns b m:=fun {b m} ⟨o,es,ep,e,d,r⟩=>⟨o,es,ep,base_of e (noA e d),d,r⟩
  have hKb:K.In (Dh s₁.heap H):=fun b o e=>base_of (KX b o e) (by
   cases q:H b with
   | none=>rfl
   | some u=>
    have e':b=a:=hA b (by rw [q];simp)
    subst e'
    rw [hK (by rw [q];simp)] at e;cases e)
  have hM:Mod K mg (Dh s₁.heap H):=⟨hKb,nsK hns,⟨mb,nsK hb,hbb⟩,let ⟨mc,h1,h2⟩:=hlim;⟨mc,nsK h1,h2⟩⟩
  have e0:Hf P w K mg (Dh s₁.heap H) callerA [] s₁ H:=⟨rfl,hM,fun b o e=>Np e,Nat.le_of_eq (J1 _ _),trivial,fun b hb=>absurd (show b∈([]:List Addr) from hb) (by simp),hok,.of_eq hg⟩
  refine codeAny_mono ((F _ hKb (nsK hns)).run callerA [] s₁ H ⟨[.ref a],[]⟩ [.ref a] [.ref a] _ _ hr e0 (hbind s₁ (.ref a)) (.cons rfl .nil) (hsp H hO hS)) fun r s' h=>?_
  cases r with
  | error e=>exact (hCX H e s' h).elim
  | ok fl=>
   cases fl with
   | next=>exact False.elim h
   | brk=>exact False.elim h
   | cont=>exact False.elim h
   | ret u=>
    obtain ⟨v,H',os,bare,un,hok',r',q⟩:=h
    have q':v=.bl true:=q
    subst q'
    obtain rfl:u=Value.bool true:=r'
    refine ⟨rfl,OldK.of_keep fun b o e=>?_,os,bare⟩
    cases q:H b with
    | none=>exact un.keep b o e q (by intro z;exact absurd (show b∈([]:List Addr) from z) (by simp)) (by simp)
    | some u=>
     rcases hO b with z | ⟨ob,xs,z⟩
     ·rw [q] at z;cases z
     ·have z2:=un.frzs b ob _ z
      obtain ⟨e1,_⟩:=hok b _ z
      obtain ⟨e2,_⟩:=hok' b _ z2
      rw [e] at e1;cases e1
      exact e2
 cases hk:K.lookup a with
 | some o=>
  have e:=KX a o hk
  rw [ha] at e
  cases e
  refine core (fun _=>none) (fun _=>.inl rfl) (.inr ⟨_,vs.toArray,_,hk,rfl,rfl,rfl,by rw [List.size_toArray,lenV];exact hl,by simpa using rv⟩) (fun b u z=>by have z':(none:Option HO)=some u:=z;cases z') (fun b z=>absurd rfl z) fun z=>absurd rfl z
 | none=>
  refine core (fun b=>if b=a then some (.frz {cls:=.type "list",data:=.seq vs.toArray} (.lst (ns.map V.int))) else none) (fun b=>?_) (.inl (.inr ⟨{cls:=.type "list",data:=.seq vs.toArray},if_pos rfl⟩)) (fun b u z=>?_) (fun b z=>?_) fun _=>hk
  ·by_cases hb:b=a
   ·exact .inr ⟨_,_,if_pos hb⟩
   ·exact .inl (if_neg hb)
  ·by_cases hb:b=a
   ·have z':=(if_pos hb).symm.trans z
    cases z'
    subst hb
    exact ⟨ha,by rw [WB];exact hl,vs,_,rv,ha⟩
   ·have z':=(if_neg hb).symm.trans z
    cases z'
  ·by_cases hb:b=a
   ·exact hb
   ·exact absurd (if_neg hb) z
theorem NK {l:W.OpenLaw}{n k:Nat}{q:Program}{loose:List Str}{XP:(Str->Option Value)->Heap->Prop}{YP:World->Heap->Prop}{d:DefRec}{K:Params->WA}{CX:World->CXT}{sp:World->Sp}{x:Str}
  (hn:l.most=some n) (hn2:n<=sizeLine) (hdf:d.params.defaults=[]) (hr:eC k callerA)
  (hY:∀(w:World) (h:Heap),YP w h->(K w.params).In h)
  (F:∀(w:World) (mg:Str->Option Value) (fa:Addr) (h:Heap),(K w.params).In h->h.Ns mainGlobals mg->mg d.name=some (.ref fa)->
   ∃fd:FuncData,(∀(s:Shared) (u:Value),BindsTo s fd ⟨[u],[]⟩ [(x,u)])/\
    ∀base:Heap,(K w.params).In base->base.Ns mainGlobals mg->gH l.prog w (K w.params) mg base (CX w) k fa fd [x] (sp w))
  (hsp:∀(w:World) (H:Hp) (a:Addr) (ns:List Int),ns.length<=n->Qr H->SqL (K w.params) H a (ns.map V.int)->sp w [.ref a] H (fun v _=>v=.bl true) fun _ _ _=>False)
  (hCX:∀(w:World) (H:Hp) (s:Shared) (e:Value) (s':Shared),CX w [] H s (fun _ _ _=>False) e s'->False) :
  W.WalkO q loose XP YP l.row.toRowW d [] (fun f vs=>PySem.call f vs):=by
 refine Att.EW hn hdf fun w s₀ s₁ mg mb fa o pm cd doc a vs ns G Y ho hd hcd hmg hobj hints hlen hg=>?_
 have KX:=hY w _ Y
 obtain ⟨fd,hb,hF⟩:=F w mg fa _ KX G.T.g hmg
 exact LJ KX G.T.g G.T.b G.T.builtins G.T.nolimit hg hobj hints (Nat.le_trans hlen hn2) hr hF hb (fun H hO hS=>hsp w H a ns hlen hO hS) fun H e s'=>hCX w H s₁ e s'
noncomputable def aR (s:Stmt)(j:Nat):Stmt:=match s with
 | .ClassDef _ _ _ body _ _ _ _ _ _ _=>body.getD j (.Pass ⟨0,0,0,0⟩)
 | _=>.Pass ⟨0,0,0,0⟩
noncomputable def eD (s:Stmt):Arguments:=match s with
 | .FunctionDef _ a _ _ _ _ _ _ _ _=>a
 | _=>{posonlyargs:=[],args:=[],vararg:=none,kwonlyargs:=[],kw_defaults:=[],kwarg:=none,defaults:=[]}
noncomputable def bZ (s:Stmt):List Stmt:=match s with
 | .FunctionDef _ _ b _ _ _ _ _ _ _=>b
 | _=>[]
noncomputable def ai (s:Stmt):Scope:=match s with
 | .FunctionDef _ _ _ _ _ _ sc _ _ _=>sc
 | _=>{kind:=.function,names:=[],isGenerator:=false,isCoroutine:=false}
noncomputable abbrev CX0:CXT:=fun _ _ _ _ _ _=>False
noncomputable abbrev E0:XK:=fun _ _ _=>False
theorem br {X:Cx}:fZ CX0 X E0:=fun _ _ _ _ _ _ _ h=>h.elim
structure Fun (K:WA)(x qual:Str)(st:Stmt)(f:Addr)(fd:FuncData):Prop where
 ex:∃(oc:Value) (od:Option Addr) (kV doc pm:Value) (an:Option Addr) (cdv ct:Value) (osl:Array (Option Value)),
  fd=W.fnOf x qual (eD st) (bZ st) (ai st) .none kV doc pm an cdv ct/\K.lookup f=some ⟨oc,od,.func fd,osl⟩/\W.codeIn K cdv qual=true
 kp:W.keepIn K (.ref f)=true
section
variable {P:Program}{w:World}{K:WA}{mg:Str->Option Value}{base:Heap}
theorem Fun.ok {x qual:Str}{st:Stmt}{f:Addr}{fd:FuncData}{N ps:List Str}{k:Nat}{sp:Sp}(F:Fun K x qual st f fd)(S:au N ps (ai st))(len:∀vs H Q E,sp vs H Q E->vs.length=ps.length)
  (hbody:∀(cdv:Value) (A:Around) (outer:List Env) (s:Shared) (H:Hp) (vs:List V) (Q:VK) (E:XK),eC k (A.deeper (envOfC qual (ai st) s.heap.objs.size f cdv))->sp vs H Q E->
   ∃t,PSs (sZ CX0 P w K mg base N qual (ai st) f cdv A outer s H E).nox (bZ st) t/\t {nx:=fun _ H'=>Q .non H',rt:=Q} (oE N vs) H):gH P w K mg base CX0 (k+1) f fd ps sp:=by
 obtain ⟨oc,od,kV,doc,pm,an,cdv,ct,osl,rfl,lk,hcd⟩:=F.ex
 refine Pf lk hcd S len fun A outer s H vs Q E hr hsp=>?_
 obtain ⟨t,h,q⟩:=hbody cdv A outer s H vs Q E hr hsp
 exact ⟨t,h.nox,q⟩
theorem Fun.binds {x qual:Str}{st:Stmt}{f:Addr}{fd:FuncData}{ps:List Str}(F:Fun K x qual st f fd)
  (h:∀(kV doc pm:Value) (an:Option Addr) (cdv ct:Value) (us:List Value),us.length=ps.length->bindArgs (W.fnOf x qual (eD st) (bZ st) (ai st) .none kV doc pm an cdv ct) ⟨us,[]⟩=pure (ps.zip us)):eP K fd ps []:=by
 obtain ⟨oc,od,kV,doc,pm,an,cdv,ct,osl,rfl,lk,hcd⟩:=F.ex
 exact .all (h kV doc pm an cdv ct)
theorem Hm {x qual:Str}{st:Stmt}{f:Addr}{oc:Value}{od an:Option Addr}{osl:Array (Option Value)}{kV doc pm cdv ct:Value}(l:K.lookup f=some ⟨oc,od,.func (W.fnOf x qual (eD st) (bZ st) (ai st) .none kV doc pm an cdv ct),osl⟩)
  (c:W.codeIn K cdv qual=true) (k:W.keepIn K (.ref f)=true):Fun K x qual st f (W.fnOf x qual (eD st) (bZ st) (ai st) .none kV doc pm an cdv ct):=⟨⟨oc,od,kV,doc,pm,an,cdv,ct,osl,rfl,l,c⟩,k⟩
end
theorem cu {n:Nat}(h:n<=1000):n < sizeLine:=Nat.lt_of_le_of_lt h (by decide)
section
variable {X:Cx}
theorem pv (i:Nat){x:Str}{pos:Pos}(hN:X.N[i]?=some x:=by rfl)(hv:Vis X.env.scope x:=by first | exact Or.inl rfl | exact Or.inr (Or.inl rfl) | exact Or.inr (Or.inr rfl))(hd:(x == ("__debug__":Str))=false:=by decide)
  (hcd:(x == ("__classdict__":Str))=false:=by decide):PE X (.Name x pos) (PR i):=PU hN hv hd hcd
end
theorem RP {A B:Prop}(h:B):if false=true then A else B:=by
 rw [if_neg Bool.false_ne_true]
 exact h
theorem RQ {A B:Prop}(h:A):if true=true then A else B:=by
 rw [if_pos rfl]
 exact h
def av (H H':Hp):Prop:=∀b o,H b=some o->H' b=some o
theorem av.refl (H:Hp):av H H:=fun _ _ h=>h
theorem av.trans {H H1 H2:Hp}(a:av H H1)(b:av H1 H2):av H H2:=fun c o h=>b c o (a c o h)
theorem av.free {H H':Hp}(e:av H H'){l:Addr}(h:H' l=Option.none):H l=Option.none:=by
 cases q:H l with
 | none=>rfl
 | some o=>
  rw [e l o q] at h
  cases h
theorem av.seq {K:WA}{H H':Hp}{a:Addr}{xs:List V}(e:av H H')(h:SqL K H a xs):SqL K H' a xs:=by
 rcases h with (h | ⟨o,h⟩) | h
 ·exact .inl (.inl (e _ _ h))
 ·exact .inl (.inr ⟨o,e _ _ h⟩)
 ·exact .inr h
end L2
set_option maxHeartbeats 4000000
namespace L2
open PySem PySem.Spec PyProof.Rows
noncomputable def jc (cells:List (Str×Addr)):List (Str×NameKind)->List (Str×Addr)->List (Str×Addr)
 | [],acc=>acc
 | (n,k)::r,acc=>if (k == NameKind.free)=true then (match cells.lookup n with | some c=>jc cells r ((n,c)::acc) | none=>jc cells r acc) else jc cells r acc
theorem jd {scope:Scope}{env:Env}(h:∀y∈scope.names,y.2=.free->∃c,env.cells.lookup y.1=some c):closureFor scope env=pure (jc env.cells scope.names []):=by
 have key:∀(l:List (Str×NameKind)) (acc:List (Str×Addr)),(∀y∈l,y.2=.free->∃c,env.cells.lookup y.1=some c)->
   (forIn l acc fun x s=>if (x.snd == NameKind.free)=true then do
       let c ←cellOf env x.fst
       pure (ForInStep.yield ((x.fst,c)::s))
      else pure (ForInStep.yield s))=(pure (jc env.cells l acc):Sem _):=by
  intro l
  induction l with
  | nil=>intro acc _;rfl
  | cons y r ih=>
   intro acc hy
   obtain ⟨n,k⟩:=y
   have ih':=fun a=>ih a fun z hz=>hy z (List.mem_cons_of_mem _ hz)
   by_cases hk:(k == NameKind.free)=true
   ·obtain ⟨c,hc⟩:=hy (n,k) List.mem_cons_self (by simpa using hk)
    have hc':env.cells.lookup n=some c:=hc
    simp only [List.forIn_cons,hk,if_true,cellOf,hc',pure_bind,jc]
    exact ih' _
   ·simp only [List.forIn_cons,hk,if_false,pure_bind,jc]
    exact ih' _
 simp only [closureFor]
 rw [key _ _ h]
 rfl
theorem yQ {cells:List (Str×Addr)}:∀{l:List (Str×NameKind)} {acc:List (Str×Addr)} {x:Str} {c:Addr},(∀x c,acc.lookup x=some c->cells.lookup x=some c)->(jc cells l acc).lookup x=some c->cells.lookup x=some c
 | [],acc,x,c,h,e=>h x c e
 | (n,k)::r,acc,x,c,h,e=>by
  unfold jc at e
  split at e
  ·split at e
   ·rename_i d hd
    refine yQ (l:=r) (acc:=(n,d)::acc) (fun y b hy=>?_) e
    rw [List.lookup_cons] at hy
    split at hy
    ·rename_i z
     have zn:y=n:=by simpa using z
     cases hy
     rw [zn];exact hd
    ·exact h y b hy
   ·exact yQ h e
  ·exact yQ h e
theorem uv {cells:List (Str×Addr)}{x:Str}:∀{l:List (Str×NameKind)} {acc:List (Str×Addr)},(∃c,acc.lookup x=some c)->∃c,(jc cells l acc).lookup x=some c
 | [],acc,h=>h
 | (n,k)::r,acc,h=>by
  unfold jc
  split
  ·split
   ·rename_i d hd
    refine uv (l:=r) ?_
    rw [List.lookup_cons]
    split
    ·exact ⟨_,rfl⟩
    ·exact h
   ·exact uv h
  ·exact uv h
theorem pq {cells:List (Str×Addr)}{x:Str}:∀{l:List (Str×NameKind)} {acc:List (Str×Addr)},l.lookup x=some .free->(∃c,cells.lookup x=some c)->∃c,(jc cells l acc).lookup x=some c
 | [],acc,h,_=>by simp at h
 | (n,k)::r,acc,h,hc=>by
  rw [List.lookup_cons] at h
  unfold jc
  split at h
  ·rename_i z
   have zn:x=n:=by simpa using z
   cases h
   subst zn
   obtain ⟨c,hc⟩:=hc
   rw [if_pos (by decide),hc]
   refine uv ⟨c,?_⟩
   rw [List.lookup_cons]
   simp
  ·split
   ·split
    ·exact pq h hc
    ·exact pq h hc
   ·exact pq h hc
theorem iT {env:Env}:∀{names:List (Str×NameKind)} {x:Str},names.lookup x=some .free->
  (names.map fun (n,k)=>if (k == NameKind.free && env.scope.kind == .function && env.kindOf n == some .cell) then (n,NameKind.cell) else (n,k)).lookup x=some .cell\/
  (names.map fun (n,k)=>if (k == NameKind.free && env.scope.kind == .function && env.kindOf n == some .cell) then (n,NameKind.cell) else (n,k)).lookup x=some .free
 | [],_,h=>by simp at h
 | (n,k)::r,x,h=>by
  have ih:=@iT env r x
  show List.lookup x ((if (k == NameKind.free && env.scope.kind == .function && env.kindOf n == some .cell)=true then (n,NameKind.cell) else (n,k))::_)=_\/List.lookup x ((if (k == NameKind.free && env.scope.kind == .function && env.kindOf n == some .cell)=true then (n,NameKind.cell) else (n,k))::_)=_
  cases hx:x == n with
  | true=>
   simp only [List.lookup_cons,hx] at h
   cases h
   by_cases hc:(NameKind.free == NameKind.free && env.scope.kind == .function && env.kindOf n == some .cell)=true
   ·rw [if_pos hc];left;simp only [List.lookup_cons,hx]
   ·rw [if_neg hc];right;simp only [List.lookup_cons,hx]
  | false=>
   simp only [List.lookup_cons,hx] at h
   by_cases hc:(k == NameKind.free && env.scope.kind == .function && env.kindOf n == some .cell)=true
   ·rw [if_pos hc];simp only [List.lookup_cons,hx];exact ih h
   ·rw [if_neg hc];simp only [List.lookup_cons,hx];exact ih h
theorem iU {env:Env}:∀{names:List (Str×NameKind)} {x:Str},(∀y∈names,y.2≠NameKind.cell)->
  ((names.map fun (n,k)=>if (k == NameKind.free && env.scope.kind == .function && env.kindOf n == some .cell) then (n,NameKind.cell) else (n,k)).lookup x=some .cell\/
  (names.map fun (n,k)=>if (k == NameKind.free && env.scope.kind == .function && env.kindOf n == some .cell) then (n,NameKind.cell) else (n,k)).lookup x=some .free)->names.lookup x=some .free
 | [],_,_,h=>by simp at h
 | (n,k)::r,x,hn,h=>by
  have ih:=@iU env r x fun y hy=>hn y (List.mem_cons_of_mem _ hy)
  have h':List.lookup x ((if (k == NameKind.free && env.scope.kind == .function && env.kindOf n == some .cell)=true then (n,NameKind.cell) else (n,k))::(r.map fun (n,k)=>if (k == NameKind.free && env.scope.kind == .function && env.kindOf n == some .cell) then (n,NameKind.cell) else (n,k)))=some .cell\/List.lookup x ((if (k == NameKind.free && env.scope.kind == .function && env.kindOf n == some .cell)=true then (n,NameKind.cell) else (n,k))::(r.map fun (n,k)=>if (k == NameKind.free && env.scope.kind == .function && env.kindOf n == some .cell) then (n,NameKind.cell) else (n,k)))=some .free:=h
  cases hx:x == n with
  | true=>
   simp only [List.lookup_cons,hx]
   by_cases hc:(k == NameKind.free && env.scope.kind == .function && env.kindOf n == some .cell)=true
   ·have hk:k=NameKind.free:=by
     rw [Bool.and_eq_true,Bool.and_eq_true] at hc
     simpa using hc.1.1
    rw [hk]
   ·rw [if_neg hc] at h'
    simp only [List.lookup_cons,hx] at h'
    rcases h' with h' | h'
    ·exact absurd (Option.some.inj h') (hn (n,k) List.mem_cons_self)
    ·exact h'
  | false=>
   simp only [List.lookup_cons,hx]
   by_cases hc:(k == NameKind.free && env.scope.kind == .function && env.kindOf n == some .cell)=true
   ·rw [if_pos hc] at h';simp only [List.lookup_cons,hx] at h';exact ih h'
   ·rw [if_neg hc] at h';simp only [List.lookup_cons,hx] at h';exact ih h'
noncomputable def blk (X:Cx)(Nc:List Str)(scope:Scope)(C:Addr)(s₀:Shared)(H₀:Hp)(ex:List Addr):Cx:=
 {X with N:=Nc,s₀:=s₀,H₀:=H₀,env:=compEnvC scope (jc X.env.cells scope.names []) C X.env,outer:=X.stack,ex:=ex,fn:=fun _=>false,pn:=[],xe:=fun _ _=>False}
noncomputable def cV (cm:List (Option Nat))(σ:St):St:=cm.map fun o=>match o with
 | none=>none
 | some i=>(σ[i]?).getD none
def Wk (σ σ':St):Prop:=σ.length=σ'.length/\∀(i:Nat) (v:V),σ[i]?=some (some v)->σ'[i]?=some (some v)
noncomputable def zh (wi:TI)(g:TG)(tc:TT)(te:TE)(cm:List (Option Nat)):TE:=fun σ H Q=>wi σ H fun J H1=>∃W:Nat->Nat->List V->Hp->Prop,(∃m,W 0 m [] H1)/\∀i m acc H,W i m acc H->
 (J.stop i H/\∀p,H p=none->Q (.ref p) (upd H p (.lst acc)))\/
 (J.go i H/\acc.length < sizeLine/\∀x H',J.yld i H x H'->g x (cV cm σ) H' fun σ2 H2=>Wk (cV cm σ) σ2/\tc σ2 H2 fun b H3=>if b=true then te σ2 H3 fun v H4=>∃m',m' < m/\W (i+1) m' (acc++[v]) H4 else ∃m',m' < m/\W (i+1) m' acc H3)
def PIf (X:Cx)(ifs:List Expr)(t:TT):Prop:=
 ∀(pins:List (Addr×Obj)) (s:Shared) (σ:St) (H:Hp) (Q:Bool->Hp->Prop),Inv X pins σ H s->t σ H Q->
  wpAny (model X.prog X.w) X.A (forIn ifs true fun c r=>if r=true then do let ok ←isTrue c X.env (eval c X.env);pure (ForInStep.yield ok) else pure (ForInStep.yield r)) (TP X pins σ Q) X.xe s
noncomputable def yp:TT:=fun _ H Q=>Q true H
theorem gf {X:Cx}:PIf X [] yp:=fun _ _ σ H _ I h=>wpAny_pure ⟨H,I,h⟩
theorem mX {X:Cx}{c:Expr}{t:TT}(h:PT X c t):PIf X [c] t:=fun pins s σ H Q I q=>wpAny_tests_one (h pins s σ H Q I q)
theorem Inv.track {X:Cx}{pins:List (Addr×Obj)}{σ:St}{H:Hp}{s:Shared}{D:Addr}{o:HO}(I:Inv X pins σ H s)(hn:H D=none)(h0:X.s₀.heap.objs.size<=D)(hL:D≠X.env.locals)
  (hcl:∀x c,X.env.cells.lookup x=some c->c≠D) (hp:∀p∈X.pn++pins,p.1≠D) (new:fY X.prog X.w (upd H D o) s.heap D o):Inv X pins σ (upd H D o) s:=by
 have hb:∀b u,X.s₀.heap.get? b=some u->b≠D:=fun b u e=>Nat.ne_of_lt (Nat.lt_of_lt_of_le (Heap.lt_size e) h0)
 refine ⟨I.ok,I.os,I.bare,⟨I.base.keep,I.base.slot,fun b u e n hx=>?_,I.base.there,fun b xs e=>?_,fun b u xs e=>?_,fun b ps e=>?_⟩,I.loc,I.cell,?_,fun x c e=>?_,fun p hpp=>?_,fun b u e=>?_,I.len⟩
 ·rw [aN (hb b u e)];exact I.base.free b u e n hx
 ·have q:=I.base.tups b xs e;rw [aN (ak q hn)];exact q
 ·have q:=I.base.frzs b u xs e;rw [aN (ak q hn)];exact q
 ·obtain ⟨more,q⟩:=I.base.tbls b ps e;exact ⟨more,by rw [aN (ak q hn)];exact q⟩
 ·rw [aN (Ne.symm hL)];exact I.free
 ·rw [aN (hcl x c e)];exact I.freeC x c e
 ·obtain ⟨a,b,c⟩:=I.pin p hpp
  exact ⟨a,by rw [aN (hp p hpp)];exact b,c⟩
 ·by_cases hb:b=D
  ·subst hb;rw [ag] at e;cases e;exact new
  ·rw [aN hb] at e
   exact (I.hok b u e).stay (fun c v _ q=>q) (fun c q=>by rw [aN (ak q hn)];exact q) fun c xs q=>by rw [aN (ak q hn)];exact q
theorem ie {env:Env}{yc:Str}:∀{names:List (Str×NameKind)} {x:Str},(∀z∈names,z.2=NameKind.cell->z.1=yc)->
  ((names.map fun (n,k)=>if (k == NameKind.free && env.scope.kind == .function && env.kindOf n == some .cell) then (n,NameKind.cell) else (n,k)).lookup x=some .cell\/
  (names.map fun (n,k)=>if (k == NameKind.free && env.scope.kind == .function && env.kindOf n == some .cell) then (n,NameKind.cell) else (n,k)).lookup x=some .free)->x=yc\/names.lookup x=some .free
 | [],_,_,h=>by simp at h
 | (n,k)::r,x,hn,h=>by
  have ih:=@ie env yc r x fun y hy=>hn y (List.mem_cons_of_mem _ hy)
  have h':List.lookup x ((if (k == NameKind.free && env.scope.kind == .function && env.kindOf n == some .cell)=true then (n,NameKind.cell) else (n,k))::(r.map fun (n,k)=>if (k == NameKind.free && env.scope.kind == .function && env.kindOf n == some .cell) then (n,NameKind.cell) else (n,k)))=some .cell\/List.lookup x ((if (k == NameKind.free && env.scope.kind == .function && env.kindOf n == some .cell)=true then (n,NameKind.cell) else (n,k))::(r.map fun (n,k)=>if (k == NameKind.free && env.scope.kind == .function && env.kindOf n == some .cell) then (n,NameKind.cell) else (n,k)))=some .free:=h
  cases hx:x == n with
  | true=>
   simp only [List.lookup_cons,hx]
   by_cases hc:(k == NameKind.free && env.scope.kind == .function && env.kindOf n == some .cell)=true
   ·have hk:k=NameKind.free:=by
     rw [Bool.and_eq_true,Bool.and_eq_true] at hc
     simpa using hc.1.1
    rw [hk];exact .inr rfl
   ·rw [if_neg hc] at h'
    simp only [List.lookup_cons,hx] at h'
    rcases h' with h' | h'
    ·have e:=hn (n,k) List.mem_cons_self (Option.some.inj h')
     have:x=n:=by simpa using hx
     exact .inl (this.trans e)
    ·exact .inr h'
  | false=>
   simp only [List.lookup_cons,hx]
   by_cases hc:(k == NameKind.free && env.scope.kind == .function && env.kindOf n == some .cell)=true
   ·rw [if_pos hc] at h';simp only [List.lookup_cons,hx] at h';exact ih h'
   ·rw [if_neg hc] at h';simp only [List.lookup_cons,hx] at h';exact ih h'
noncomputable def ip (yo:Option Str)(C:Addr)(cl:List (Str×Addr)):List (Str×Addr):=match yo with | some yc=>(yc,C+1)::cl | none=>cl
noncomputable def fnG (yo:Option Str):Str->Bool:=match yo with | some yc=>fun x=>x == yc | none=>fun _=>false
noncomputable def LK (X:Cx)(Nc:List Str)(scope:Scope)(yo:Option Str)(C:Addr)(s₀:Shared)(H₀:Hp)(ex:List Addr):Cx:=
 {X with N:=Nc,s₀:=s₀,H₀:=H₀,env:=compEnvC scope (ip yo C (jc X.env.cells scope.names [])) C X.env,outer:=X.stack,ex:=ex,fn:=fnG yo,pn:=[],xe:=fun _ _=>False}
theorem wB {yo:Option Str}{C:Addr}{cl:List (Str×Addr)}{x:Str}(h:yo≠some x):(ip yo C cl).lookup x=cl.lookup x:=by
 cases yo with
 | none=>rfl
 | some yc=>show List.lookup x ((yc,C+1)::cl)=_;rw [List.lookup_cons,show (x == yc)=false by simpa using fun z=>h (by rw [z])]
theorem Kn {yo:Option Str}{C c:Addr}{cl:List (Str×Addr)}{x:Str}(e:(ip yo C cl).lookup x=some c):(yo=some x/\c=C+1)\/(yo≠some x/\cl.lookup x=some c):=by
 by_cases h:yo=some x
 ·rw [h] at e
  have e':List.lookup x ((x,C+1)::cl)=some c:=e
  rw [List.lookup_cons] at e'
  simp at e'
  exact .inl ⟨h,e'.symm⟩
 ·rw [wB h] at e
  exact .inr ⟨h,e⟩
theorem Qs {yo:Option Str}{x:Str}(e:fnG yo x=true):yo=some x:=by
 cases yo with
 | none=>cases e
 | some yc=>rw [show x=yc from eq_of_beq e]
theorem pw {env:Env}{yo:Option Str}{names:List (Str×NameKind)}{x:Str}(hn:∀z∈names,z.2=NameKind.cell->yo=some z.1)
  (h:(names.map fun (n,k)=>if (k == NameKind.free && env.scope.kind == .function && env.kindOf n == some .cell) then (n,NameKind.cell) else (n,k)).lookup x=some .cell\/
  (names.map fun (n,k)=>if (k == NameKind.free && env.scope.kind == .function && env.kindOf n == some .cell) then (n,NameKind.cell) else (n,k)).lookup x=some .free):yo=some x\/names.lookup x=some .free:=by
 cases yo with
 | none=>exact .inr (iU (fun y hy e=>by cases hn y hy e) h)
 | some yc=>exact (ie (fun z hz e=>(Option.some.inj (hn z hz e)).symm) h).imp (fun e=>by rw [e]) id
section
variable {X:Cx}
theorem wC {tg iter elt:Expr}{ifs:List Expr}{scope:Scope}{pos:Pos}{Nc:List Str}{cm:List (Option Nat)}{g:TG}{tc:TT}{te:TE}{yo:Option Str}{pins:List (Addr×Obj)}{σ:St}{it:Addr}{fp:List Addr}{tn:Nat->Heap->Prop}{J:It}{H2:Hp}{s2:Shared}{W:Nat->Nat->List V->Hp->Prop}{m0:Nat}{h₁:Heap}{QV:VK}{use:Option (Value->Sem Unit)}{R:Value->Shared->Prop}
  (hc:X.calm=true) (hkind:scope.kind=.function) (hcell:∀z∈scope.names,z.2=.cell->yo=some z.1) (hyc:∀yc,yo=some yc->scope.names.lookup yc=some .cell)
  (hfr:∀y∈scope.names,y.2=.free->∃c,X.env.cells.lookup y.1=some c) (hlen:cm.length=Nc.length)
  (hcm:∀(j:Nat) (x:Str) (i:Nat),Nc[j]?=some x->cm[j]?=some (some i)->X.N[i]?=some x/\scope.names.lookup x=some .free/\(X.env.kindOf x=some .cell\/X.env.kindOf x=some .free))
  (hg:∀C s₀ H₀ ex,PG (LK X Nc scope yo C s₀ H₀ ex) tg g) (ht:∀C s₀ H₀ ex,PIf (LK X Nc scope yo C s₀ H₀ ex) ifs tc) (he:∀C s₀ H₀ ex,PE (LK X Nc scope yo C s₀ H₀ ex) elt te)
  (I2:Inv X pins σ H2 s2) (T:J2 X.prog X.w X.K tg J fp it tn) (st2:tn 0 s2.heap) (f2:∀b∈fp,wq X pins H2 b) (w0:W 0 m0 [] H2)
  (turn:∀i m acc H,W i m acc H->(J.stop i H/\∀p,H p=none->QV (.ref p) (upd H p (.lst acc)))\/(J.go i H/\acc.length < sizeLine/\∀x H',J.yld i H x H'->g x (cV cm σ) H' fun σ2 H2=>Wk (cV cm σ) σ2/\tc σ2 H2 fun b H3=>if b=true then te σ2 H3 fun v H4=>∃m',m' < m/\W (i+1) m' (acc++[v]) H4 else ∃m',m' < m/\W (i+1) m' acc H3))
  (hns₁:h₁.Ns (s2.heap.push {cls:=.type "list",dict:=none,data:=.seq ([]:List Value).toArray}).objs.size fun _=>none) (keep1:∀b u,(s2.heap.push {cls:=.type "list",dict:=none,data:=.seq ([]:List Value).toArray}).get? b=some u->h₁.get? b=some u)
  (hcl₁:∀yc,yo=some yc->h₁.IsCell ((s2.heap.push {cls:=.type "list",dict:=none,data:=.seq ([]:List Value).toArray}).objs.size+1) none)
  (fin:∀(s6:Shared) (H5:Hp) (acc:List V) (m:Str->Option Value),s6.heap.Ns (s2.heap.push {cls:=.type "list",dict:=none,data:=.seq ([]:List Value).toArray}).objs.size m->wq X pins (upd H5 s2.heap.objs.size (.lst acc)) (s2.heap.push {cls:=.type "list",dict:=none,data:=.seq ([]:List Value).toArray}).objs.size->
   (∀h',Heap.SameBut (s2.heap.push {cls:=.type "list",dict:=none,data:=.seq ([]:List Value).toArray}).objs.size s6.heap h'->Inv X pins σ (upd H5 s2.heap.objs.size (.lst acc)) {s6 with heap:=h'})->QV (.ref s2.heap.objs.size) (upd H5 s2.heap.objs.size (.lst acc))->
   ∀fl,compPost (model X.prog X.w) X.A X.xe use R (.ref s2.heap.objs.size) (s2.heap.push {cls:=.type "list",dict:=none,data:=.seq ([]:List Value).toArray}).objs.size (.ok fl) s6) :
  codeAny (model X.prog X.w) X.A (.compStart (.ListComp elt [⟨tg,iter,ifs,0⟩] scope pos) 0 (.ref it) (.ref s2.heap.objs.size) (compEnvC scope (ip yo (s2.heap.push {cls:=.type "list",dict:=none,data:=.seq ([]:List Value).toArray}).objs.size (jc X.env.cells scope.names [])) (s2.heap.push {cls:=.type "list",dict:=none,data:=.seq ([]:List Value).toArray}).objs.size X.env))
   (compPost (model X.prog X.w) X.A X.xe use R (.ref s2.heap.objs.size) (s2.heap.push {cls:=.type "list",dict:=none,data:=.seq ([]:List Value).toArray}).objs.size) {s2 with heap:=h₁,toks:=s2.toks+([]:List (Str×Value)).length}:=by
 have hk3:∀b u,s2.heap.get? b=some u->(s2.heap.push {cls:=.type "list",dict:=none,data:=.seq ([]:List Value).toArray}).get? b=some u:=fun b u q=>Heap.get?_push_of_some _ q
 have I3:Inv X pins σ H2 {s2 with heap:=s2.heap.push {cls:=.type "list",dict:=none,data:=.seq ([]:List Value).toArray},toks:=s2.toks}:=I2.kept hk3
 have hD3:(s2.heap.push {cls:=.type "list",dict:=none,data:=.seq ([]:List Value).toArray}).get? s2.heap.objs.size=some {cls:=.type "list",data:=.seq ([]:List Value).toArray}:=Heap.get?_push_size _ rfl
 have hCs:(s2.heap.push {cls:=.type "list",dict:=none,data:=.seq ([]:List Value).toArray}).objs.size=s2.heap.objs.size+1:=Heap.size_push _ _
 have hDn:H2 s2.heap.objs.size=none:=I2.hok.fresh (Nat.le_refl _)
 have st3:tn 0 (s2.heap.push {cls:=.type "list",dict:=none,data:=.seq ([]:List Value).toArray}):=T.keep _ _ _ st2 fun b _ o q=>hk3 b o q
 have fpD:∀b∈fp,b < s2.heap.objs.size:=fun b hb=>by
  obtain ⟨o,e,_⟩:=T.obj _ _ st2 b hb
  exact Heap.lt_size e
 have DX:wq X pins H2 s2.heap.objs.size:=I2.fpOk (Nat.le_refl _) hDn
 generalize hs3:s2.heap.push {cls:=.type "list",dict:=none,data:=.seq ([]:List Value).toArray}=h3 at *
 generalize hDg:s2.heap.objs.size=D at *
 have exX:∀b∈D::fp,wq X pins H2 b:=fun b hb=>by
  rcases List.mem_cons.mp hb with z | z
  ·rw [z];exact DX
  ·exact f2 b z
 have exC:∀b∈D::fp,b < h3.objs.size:=fun b hb=>by
  rcases List.mem_cons.mp hb with z | z
  ·rw [z,hCs];exact Nat.lt_succ_self _
  ·rw [hCs];exact Nat.lt_succ_of_lt (fpD b z)
 have exS:∀b∈D::fp,b∉frs X.stack:=fun b hb z=>by
  obtain ⟨_,n1,n2,_⟩:=exX b hb
  rcases List.mem_cons.mp (I2.stkSub b z) with y | y
  ·exact n1 y
  ·exact n2 y
 have clo:∀x c,(jc X.env.cells scope.names []).lookup x=some c->X.env.cells.lookup x=some c:=fun x c e=>yQ (acc:=[]) (fun _ _ z=>by simp at z) e
 have ltX:∀x c,X.env.cells.lookup x=some c->c < h3.objs.size:=fun x c e=>by
  obtain ⟨v,z⟩:=I3.cell x c e
  exact z.lt
 have cloC:∀x c,(ip yo h3.objs.size (jc X.env.cells scope.names [])).lookup x=some c->(yo=some x/\c=h3.objs.size+1)\/(yo≠some x/\X.env.cells.lookup x=some c):=fun x c e=>(Kn e).imp id fun h=>⟨h.1,clo x c h.2⟩
 have cellne:∀b,b < h3.objs.size->(∀x c,X.env.cells.lookup x=some c->c≠b)->∀x c,(ip yo h3.objs.size (jc X.env.cells scope.names [])).lookup x=some c->c≠b:=fun b hb hn x c e=>by
  rcases cloC x c e with ⟨_,z⟩ | ⟨_,z⟩
  ·rw [z];exact Nat.ne_of_gt (Nat.lt_succ_of_lt hb)
  ·exact hn x c z
 let s3:Shared:={s2 with heap:=h3}
 let X':Cx:=LK X Nc scope yo h3.objs.size s3 H2 (D::fp)
 have hX':X'=LK X Nc scope yo h3.objs.size s3 H2 (D::fp):=rfl
 have okX:X'.Ok:=by
  refine ⟨I3.ok.mod,hkind,I3.ok.glob,I3.ok.blt,Nat.le_refl _,fun x y c e1 e2=>(by
   rcases cloC x c e1 with ⟨a1,a2⟩ | ⟨_,a2⟩
   ·rcases cloC y c e2 with ⟨b1,b2⟩ | ⟨_,b2⟩
    ·exact Option.some.inj (a1.symm.trans b1)
    ·exact absurd (ltX y c b2) (by rw [a2];exact Nat.not_lt.mpr (Nat.le_succ _))
   ·rcases cloC y c e2 with ⟨b1,b2⟩ | ⟨_,b2⟩
    ·exact absurd (ltX x c a2) (by rw [b2];exact Nat.not_lt.mpr (Nat.le_succ _))
    ·exact I3.ok.inj x y c a2 b2),fun x hx=>?_,fun x c e z=>(cloC x c z).elim (fun h=>by rw [h.2];exact Nat.le_succ _) (fun h=>absurd (Qs e) h.1),I3.ok.hd,I3.ok.frames,.inl rfl,fun b hb=>⟨Nat.ne_of_lt (exC b hb),cellne b (exC b hb) (exX b hb).2.2.2.2.1⟩,
   I3.bs,?_,fun b o e hb=>?_,exS,I3.stack,I3.stkFree⟩
  ·rcases pw (env:=X.env) hcell hx with hx' | hx'
   ·exact ⟨h3.objs.size+1,by show List.lookup x (ip yo h3.objs.size _)=_;rw [hx'];show List.lookup x ((x,h3.objs.size+1)::_)=_;rw [List.lookup_cons];simp⟩
   have hmem:(x,NameKind.free)∈scope.names:=by
    have:∀(l:List (Str×NameKind)),l.lookup x=some .free->(x,NameKind.free)∈l:=by
     intro l
     induction l with
     | nil=>intro z;simp at z
     | cons a r ih=>
      obtain ⟨n,k⟩:=a
      intro z
      rw [List.lookup_cons] at z
      split at z
      ·rename_i y
       have yn:x=n:=by simpa using y
       cases z
       rw [yn];exact List.mem_cons_self
      ·exact List.mem_cons_of_mem _ (ih z)
    exact this _ hx'
   have nx:yo≠some x:=fun z=>by rw [hyc x z] at hx';cases hx'
   obtain ⟨c,hc⟩:=pq (acc:=[]) hx' (hfr (x,.free) hmem rfl)
   exact ⟨c,by show List.lookup x (ip yo _ _)=_;rw [wB nx];exact hc⟩
  ·exact Nat.le_trans I3.ok.bsz I3.sz
  ·rcases (exX b hb).2.2.2.1 with z | z
   ·exact I3.ok.noex b o e z
   ·exact absurd (Nat.lt_of_lt_of_le (Heap.lt_size (I3.ok.bs b o e).1) z) (Nat.lt_irrefl _)
 have hσl:(cV cm σ).length=Nc.length:=by
  unfold cV
  rw [WB];exact hlen
 have I4:Inv X' [] (cV cm σ) H2 {s2 with heap:=h₁,toks:=s2.toks+([]:List (Str×Value)).length}:=by
  refine ⟨okX,rfl,I3.bare,Un.kept keep1,⟨_,hns₁,fun j x v e1 e2 e3=>?_⟩,fun x c e=>?_,?_,fun x c e=>(cloC x c e).elim (fun h=>by rw [h.2];exact I3.hok.fresh (Nat.le_succ _)) (fun h=>I3.freeC x c h.2),(fun p hp=>absurd (show p∈([]:List (Addr×Obj)) from hp) (by simp)),I3.hok.kept keep1,hσl⟩
  ·have e2':∃i,cm[j]?=some (some i)/\σ[i]?=some (some v):=by
    unfold cV at e2
    rw [List.getElem?_map] at e2
    cases q:cm[j]? with
    | none=>rw [q] at e2;simp at e2
    | some o=>
     rw [q] at e2
     cases o with
     | none=>simp at e2
     | some i=>
      refine ⟨i,rfl,?_⟩
      simp only [Option.map_some,Option.some.injEq] at e2
      cases q2:σ[i]? with
      | none=>rw [q2] at e2;simp at e2
      | some o2=>rw [q2] at e2;simp at e2;rw [e2]
   obtain ⟨i,ej,ei⟩:=e2'
   obtain ⟨n1,n2,n3⟩:=hcm j x i e1 ej
   obtain ⟨m,hn,hl⟩:=I3.loc
   have n3':Vis X.env.scope x:=by
    rcases n3 with z | z
    ·exact .inr (.inl z)
    ·exact .inr (.inr z)
   obtain ⟨u,r,l⟩:=hl i x v n1 ei n3'
   refine ⟨u,r,?_⟩
   rcases l with ⟨l,_⟩ | ⟨_,c,ec,ic⟩
   ·rcases n3 with z | z
    ·rw [l] at z;cases z
    ·rw [l] at z;cases z
   ·obtain ⟨c',ec'⟩:=pq (cells:=X.env.cells) (acc:=[]) n2 ⟨c,ec⟩
    have hcc:=clo x c' ec'
    rw [ec] at hcc;cases hcc
    obtain ⟨oc,hoc,hdc⟩:=ic
    have nx:yo≠some x:=fun z=>by rw [hyc x z] at n2;cases n2
    refine .inr ⟨?_,c,(by show List.lookup x (ip yo _ _)=_;rw [wB nx];exact ec'),oc,keep1 _ _ hoc,hdc⟩
    exact iT (env:=X.env) n2
  ·rcases cloC x c e with ⟨z0,z⟩ | ⟨_,z⟩
   ·rw [z];exact ⟨none,hcl₁ _ z0⟩
   ·obtain ⟨v,oc,hoc,hdc⟩:=I3.cell x c z
    exact ⟨v,oc,keep1 _ _ hoc,hdc⟩
  ·exact I3.hok.fresh (Nat.le_refl _)
 have stat:∀{H':Hp} {pl:List (Addr×Obj)},(∀b∈fp,H' b=none)->(∀p∈pl,p.1=D)->∀b∈fp,wq X' pl H' b:=fun {H' pl} hn hpl b hb=>
  ⟨hn b hb,Nat.ne_of_lt (exC b (List.mem_cons_of_mem _ hb)),exS b (List.mem_cons_of_mem _ hb),.inl (List.mem_cons_of_mem _ hb),cellne b (exC b (List.mem_cons_of_mem _ hb)) (f2 b hb).2.2.2.2.1,fun p hp z=>by
   have:p∈pl:=(List.mem_append.mp hp).elim (fun z=>absurd (show p∈([]:List (Addr×Obj)) from z) (by simp)) fun z=>z
   have e:=hpl p this
   rw [e] at z
   exact absurd (fpD b hb) (by rw [←z];exact Nat.lt_irrefl _)⟩
 have hDC:D≠h3.objs.size:=by rw [hCs];exact Nat.ne_of_lt (Nat.lt_succ_self _)
 have hDs:D∉frs X.stack:=exS D List.mem_cons_self
 have loop:∀s5:Shared,s5={s2 with heap:=h₁,toks:=s2.toks+([]:List (Str×Value)).length}->
   codeAny (model X.prog X.w) X.A (.compLoop (.ListComp elt [⟨tg,iter,ifs,0⟩] scope pos) 0 (.ref it) (.ref D) (compEnvC scope (ip yo h3.objs.size (jc X.env.cells scope.names [])) h3.objs.size X.env))
    (compPost (model X.prog X.w) X.A X.xe use R (.ref D) h3.objs.size) s5:=by
  rintro s5 rfl
  refine codeAny_loop rfl (fun n s'=>∃i acc its k H',Inv X' [] (cV cm σ) H' s'/\tn i s'.heap/\(∀b∈fp,H' b=none)/\s'.heap.get? D=some {cls:=.type "list",data:=.seq (List.toArray its) k}/\H' D=none/\bF acc its/\acc.length<=sizeLine/\W i n acc H') (fun n s' hI=>?_) m0
   ⟨0,[],[],0,H2,I4,T.keep _ _ _ st3 fun b _ o q=>keep1 b o q,fun b hb=>(f2 b hb).1,keep1 _ _ hD3,hDn,.nil,Nat.zero_le _,w0⟩
  obtain ⟨i,acc,its,k,H5,J5,t5,fr5,d5,dn5,va5,ac5,w5⟩:=hI
  show wpAny _ X.A ((compTurn (.ListComp elt [⟨tg,iter,ifs,0⟩] scope pos) 0 (.ref it) (.ref D) (compEnvC scope (ip yo h3.objs.size (jc X.env.cells scope.names [])) h3.objs.size X.env)).onRaise (fun x=>do noteFrame x (compEnvC scope (ip yo h3.objs.size (jc X.env.cells scope.names [])) h3.objs.size X.env);theTreesLotGoes x)) _ _ s'
  refine wpAny_noted ?_
  rw [compTurn_list]
  have nocell:∀v,({cls:=.type "list",data:=.seq (List.toArray its) k}:Obj).data≠.cell v:=fun v z=>nomatch z
  have P5:Inv X' [(D,{cls:=.type "list",data:=.seq (List.toArray its) k})] (cV cm σ) H5 s':=J5.pins_of fun p hp=>by
   have e:p=(D,{cls:=.type "list",data:=.seq (List.toArray its) k}):=by simpa using hp
   subst e
   exact ⟨d5,dn5,hDC,hDs,nocell⟩
  have pl1:∀p∈[((D,{cls:=.type "list",data:=.seq (List.toArray its) k}):Addr×Obj)],p.1=D:=fun p hp=>by
   have e:p=(D,{cls:=.type "list",data:=.seq (List.toArray its) k}):=by simpa using hp
   rw [e]
  rcases turn i n acc H5 w5 with ⟨stop,qn⟩ | ⟨go,hsz,step⟩
  ·refine wpAny_bind (wpAny_standAt (wpAny_bind (wpAny_mono (T.done X' rfl rfl rfl hc i _ s' _ H5 (fun _ _=>False) P5 (stat fr5 pl1) t5 stop) (fun r s6 ⟨hr,J6⟩=>?_) fun _ _ f=>f.elim)))
   subst hr
   refine wpAny_pure ?_
   obtain ⟨mC,hnC,_⟩:=J6.loc
   have hCn:H5 h3.objs.size=none:=J6.free
   obtain ⟨dg,dg2,_⟩:=J6.pin (D,{cls:=.type "list",data:=.seq (List.toArray its) k}) (by simp)
   refine fin s6 H5 acc mC hnC (I3.fpOk (b:=h3.objs.size) (H':=upd H5 D (.lst acc)) (Nat.le_refl _) (by rw [aN (Ne.symm hDC)];exact hCn)) (fun h' hsb=>?_) (qn D dg2) _
   have toh:∀b u,b≠h3.objs.size->s6.heap.get? b=some u->h'.get? b=some u:=fun b u hb q=>(hsb.2 b hb).trans q
   have hok':HOk X.prog X.w H5 h':=fun a o e=>(J6.hok a o e).stay (fun b u hb q=>toh b u (by
    rintro rfl
    rcases hb with z | z
    ·rw [←z,hCn] at e;cases e
    ·rw [hCn] at z;cases z) q) (fun _ q=>q) fun _ _ q=>q
   have ltC:∀{b:Addr} {u:Obj},h3.get? b=some u->b≠h3.objs.size:=fun q=>Nat.ne_of_lt (Heap.lt_size q)
   have un':Un (frs X.stack) (D::fp) H2 H5 h3 h':=by
    have u:=J6.base
    refine ⟨fun b o e n hb hx=>toh b o (ltC e) (u.keep b o e n hb hx),fun b o e n hb hx=>?_,u.free,fun b o e hx=>?_,u.tups,u.frzs,u.tbls⟩
    ·obtain ⟨sl,q⟩:=u.slot b o e n hb hx
     exact ⟨sl,toh b _ (ltC e) q⟩
    ·obtain ⟨o',q⟩:=u.there b o e hx
     exact ⟨o',toh b _ (ltC e) q⟩
   have J7:Inv X pins σ H5 {s6 with heap:=h'}:=Inv.call' (s':={s6 with heap:=h'}) (ch:=D::fp) I3 J6.os un' hok' J6.bare fun b hb=>by
    obtain ⟨_,n1,n2,n3,n4,n5⟩:=exX b hb
    exact ⟨n3,n1,n4,n5⟩
   obtain ⟨_,n1,n2,n3,n4,n5⟩:=exX D List.mem_cons_self
   have n3':X.s₀.heap.objs.size<=D:=by
    have:=I2.sz
    rw [hDg] at this
    exact this
   exact J7.track (o:=.lst acc) dg2 n3' n1 n4 n5 ⟨ac5,its,k,va5,toh _ _ hDC dg⟩
  ·refine wpAny_bind (wpAny_standAt (wpAny_bind (wpAny_mono (T.item X' rfl rfl rfl hc i _ s' _ H5 (fun _ _=>False) P5 (stat fr5 pl1) t5 go) (fun r s6 ⟨u,hr,h6⟩=>?_) fun _ _ f=>f.elim)))
   subst hr
   refine wpAny_bind (wpAny_mono h6 (fun _ s7 ⟨x,H7,J7,r7,y7,t7,fr7⟩=>?_) fun _ _ f=>f.elim)
   have P7:=J7.pinned (stat fr7 pl1) (T.obj _ _ t7)
   refine wpAny_bind (wpAny_mono (hg _ _ _ _ _ s7 _ H7 x u _ P7 r7 (step x H7 y7)) (fun _ s8 ⟨σ8,H8,J8,wk8,q8⟩=>?_) fun _ _ f=>f.elim)
   refine wpAny_bind (wpAny_mono (ht _ _ _ _ _ s8 σ8 H8 _ J8 q8) (fun b s9 ⟨H9,J9,q9⟩=>?_) fun _ _ f=>f.elim)
   have back:∀{Ha:Hp} {sa:Shared},Inv X' ([(D,{cls:=.type "list",data:=.seq (List.toArray its) k})]++y6 fp s7.heap) σ8 Ha sa->
     Inv X' [] (cV cm σ) Ha sa/\tn (i+1) sa.heap/\(∀b∈fp,Ha b=none)/\sa.heap.get? D=some {cls:=.type "list",data:=.seq (List.toArray its) k}/\Ha D=none:=fun {Ha sa} Ja=>by
    refine ⟨(Ja.weak wk8.1 wk8.2).pins_of fun p hp=>absurd hp (by simp),T.keep _ _ _ t7 fun b hb o e=>(Ja.pin (b,o) (List.mem_append_right _ (List.mem_append_right _ (mW hb e)))).1,fun b hb=>?_,?_⟩
    ·obtain ⟨o,e,d⟩:=T.obj _ _ t7 b hb
     exact (Ja.pin (b,o) (List.mem_append_right _ (List.mem_append_right _ (mW hb e)))).2.1
    ·obtain ⟨z1,z2,_⟩:=Ja.pin (D,{cls:=.type "list",data:=.seq (List.toArray its) k}) (by simp)
     exact ⟨z1,z2⟩
   cases b with
   | false=>
    simp only [Bool.false_eq_true,if_false] at q9 ⊢
    obtain ⟨m',hm,w'⟩:=q9
    obtain ⟨z0,z1,z2,z3,z4⟩:=back J9
    exact wpAny_pure ⟨rfl,m',hm,i+1,acc,its,k,H9,z0,z1,z2,z3,z4,va5,ac5,w'⟩
   | true=>
    simp only [if_true] at q9 ⊢
    refine wpAny_bind (wpAny_bind (wpAny_mono (he _ _ _ _ _ s9 σ8 H9 _ J9 q9) (fun y s10 ⟨v,H10,J10,rv,q10⟩=>wpAny_bind ?_) fun _ _ f=>f.elim))
    obtain ⟨m',hm,w'⟩:=q10
    obtain ⟨z0,z1,z2,z3,z4⟩:=back J10
    have hli:=va5.length
    refine call_meets F.slot_list_append ⟨_,z3,rfl⟩ F.entry_list_append (F.args_list_append_2 _ _) (PySem.list_append D its.toArray k y (by rw [List.size_toArray];omega)) ⟨z3,?_⟩
    obtain ⟨k',q⟩:∃k',(s10.heap.update D (Obj.mapSeq (·.push y))).get? D=some {cls:=.type "list",data:=.seq (List.toArray (its++[y])) k'}:=by
     have q:=PySem.IsL.update z3 (·.push y)
     have e:its.toArray.push y=(its++[y]).toArray:=by simp
     rw [e] at q
     exact ⟨_,q⟩
    refine wpAny_pure (wpAny_pure ⟨rfl,m',hm,i+1,acc++[v],its++[y],k',H10,z0.turned (it:=D) (fun b o hb hu=>(Heap.get?_update_other s10.heap (Obj.mapSeq (·.push y)) (Ne.symm hb)).trans hu) z4 hDC (.inl List.mem_cons_self) (cellne D (exC D List.mem_cons_self) (exX D List.mem_cons_self).2.2.2.2.1) (fun p hp=>absurd (show p∈([]:List (Addr×Obj)) from hp) (by simp)),
     T.keep _ _ _ z1 fun b hb o e=>(Heap.get?_update_other s10.heap (Obj.mapSeq (·.push y)) (Nat.ne_of_gt (fpD b hb))).trans e,z2,q,z4,va5.append (.cons rv .nil),by rw [List.length_append,List.length_singleton];omega,w'⟩)
 exact codeAny_compStart_list (loop _ rfl) (T.self X.A 0 _ _ _ (T.keep _ _ _ st3 fun b _ o q=>keep1 b o q) (loop _ rfl))
theorem NL {tg iter elt:Expr}{ifs:List Expr}{scope:Scope}{pos:Pos}{Nc:List Str}{cm:List (Option Nat)}{wi:TI}{g:TG}{tc:TT}{te:TE}
  (hc:X.calm=true) (hi:PI X tg iter wi) (hkind:scope.kind=.function) (hcell:∀y∈scope.names,y.2≠.cell) (hnames:∀y∈scope.names,y.2=.local->scope.names.lookup y.1=some .local)
  (hfree:∀y∈scope.names,y.2=.free->X.env.kindOf y.1=some .cell\/X.env.kindOf y.1=some .free) (hlen:cm.length=Nc.length)
  (hcm:∀(j:Nat) (x:Str) (i:Nat),Nc[j]?=some x->cm[j]?=some (some i)->X.N[i]?=some x/\scope.names.lookup x=some .free/\(X.env.kindOf x=some .cell\/X.env.kindOf x=some .free))
  (hg:∀C s₀ H₀ ex,PG (blk X Nc scope C s₀ H₀ ex) tg g) (ht:∀C s₀ H₀ ex,PIf (blk X Nc scope C s₀ H₀ ex) ifs tc) (he:∀C s₀ H₀ ex,PE (blk X Nc scope C s₀ H₀ ex) elt te)
  (hs:∀x,foldedSetIterable iter X.env x=pure x:=by intro _;rfl):PE X (.ListComp elt [⟨tg,iter,ifs,0⟩] scope pos) (zh wi g tc te cm):=by
 intro pins s σ H Q I h
 rw [eval_ListComp]
 have hfr:∀y∈scope.names,y.2=.free->∃c,X.env.cells.lookup y.1=some c:=fun y hy e=>I.ok.has y.1 (hfree y hy e)
 refine wpAny_comprehension_free (use:=none) rfl hs (jd hfr) hkind hnames (thn (hi pins s σ H _ I h) fun v s1 h1=>thn h1 fun itv s2 h2=>?_)
 obtain ⟨it,fp,tn,J,H2,e,I2,T,st2,f2,W,⟨m0,w0⟩,turn⟩:=h2
 subst e
 refine wpAny_newObj_type (wpAny_newFunctionEnv hcell (by intro y hy;simp at hy) (fun h₁ hns₁ hsb₁=>?_) hkind)
 dsimp only at hns₁ hsb₁ ⊢
 have keepA:∀b u,(s2.heap.push {cls:=.type "list",dict:=none,data:=.seq ([]:List Value).toArray}).get? b=some u->h₁.get? b=some u:=fun b u q=>(hsb₁.2 b (Nat.ne_of_lt (Heap.lt_size q))).trans (Heap.get?_push_of_some _ q)
 exact wC (yo:=none) hc hkind (fun z hz e=>absurd e (hcell z hz)) (fun _ e=>by cases e) hfr hlen hcm hg ht he I2 T st2 f2 w0 turn hns₁ keepA (fun _ e=>by cases e) fun s6 H5 acc m hm _ J qn _=>⟨m,hm,fun h' hsb=>⟨.ref s2.heap.objs.size,_,J h' hsb,rfl,qn⟩⟩
end
theorem Qt {lo:Int}{n:Nat}{g:TG}{tc:TT}{te:TE}{cm:List (Option Nat)}{σ:St}{H:Hp}{Q:VK}(Pv:Nat->List V->Hp->Prop)(h0:Pv 0 [] H)
  (hs:∀i acc H,i < n->Pv i acc H->acc.length < sizeLine/\g (.int (lo+i)) (cV cm σ) H fun σ2 H2=>Wk (cV cm σ) σ2/\tc σ2 H2 fun b H3=>if b=true then te σ2 H3 fun v H4=>Pv (i+1) (acc++[v]) H4 else Pv (i+1) acc H3)
  (mono:∀x σ H N N',(∀σ2 H2,N σ2 H2->N' σ2 H2)->g x σ H N->g x σ H N':=by exact fun _ _ _ _ _ h q=>h _ _ q)
  (monoc:∀σ H N N',(∀b H2,N b H2->N' b H2)->tc σ H N->tc σ H N') (monoe:∀σ H N N',(∀v H2,N v H2->N' v H2)->te σ H N->te σ H N')
  (hd:∀acc H,Pv n acc H->∀p,H p=none->Q (.ref p) (upd H p (.lst acc))) :
  ∃W:Nat->Nat->List V->Hp->Prop,(∃m,W 0 m [] H)/\∀i m acc H,W i m acc H->
   ((Itr lo n).stop i H/\∀p,H p=none->Q (.ref p) (upd H p (.lst acc)))\/
   ((Itr lo n).go i H/\acc.length < sizeLine/\∀x H',(Itr lo n).yld i H x H'->g x (cV cm σ) H' fun σ2 H2=>Wk (cV cm σ) σ2/\tc σ2 H2 fun b H3=>if b=true then te σ2 H3 fun v H4=>∃m',m' < m/\W (i+1) m' (acc++[v]) H4 else ∃m',m' < m/\W (i+1) m' acc H3):=by
 refine ⟨fun i m acc H=>m=n - i/\i<=n/\Pv i acc H,⟨n,by simp,Nat.zero_le _,h0⟩,?_⟩
 rintro i m acc H ⟨rfl,hi,p⟩
 by_cases hlt:i < n
 ·obtain ⟨hz,q⟩:=hs i acc H hlt p
  refine .inr ⟨hlt,hz,fun x H' y=>?_⟩
  obtain ⟨e,y⟩:=y
  subst e y
  refine mono _ _ _ _ _ (fun σ2 H2 ⟨wk,q⟩=>⟨wk,monoc _ _ _ _ (fun b H3 q=>?_) q⟩) q
  cases b with
  | true=>exact monoe _ _ _ _ (fun v H4 q=>⟨n - (i+1),by omega,rfl,hlt,q⟩) q
  | false=>exact ⟨n - (i+1),by omega,rfl,hlt,q⟩
 ·have e:i=n:=by omega
  subst e
  exact .inl ⟨Nat.le_refl _,hd acc H p⟩
theorem zi {lo:Int}{n:Nat}{te:TE}{cm:List (Option Nat)}{σ:St}{H:Hp}{Q:VK}(f:Nat->V)(hn:n<=sizeLine){j:Nat}(hj:(cV cm σ)[j]?=some none)
  (hs:∀i,i < n->∀N:VK,N (f i) H->te ((cV cm σ).set j (some (.int (lo+i)))) H N)
  (hd:∀p,H p=none->Q (.ref p) (upd H p (.lst ((List.range n).map f)))) :
  ∃W:Nat->Nat->List V->Hp->Prop,(∃m,W 0 m [] H)/\∀i m acc H,W i m acc H->
   ((Itr lo n).stop i H/\∀p,H p=none->Q (.ref p) (upd H p (.lst acc)))\/
   ((Itr lo n).go i H/\acc.length < sizeLine/\∀x H',(Itr lo n).yld i H x H'->eW j x (cV cm σ) H' fun σ2 H2=>Wk (cV cm σ) σ2/\yp σ2 H2 fun b H3=>if b=true then te σ2 H3 fun v H4=>∃m',m' < m/\W (i+1) m' (acc++[v]) H4 else ∃m',m' < m/\W (i+1) m' acc H3):=by
 refine ⟨fun i m acc H'=>m=n - i/\i<=n/\H'=H/\acc=(List.range i).map f,⟨n,by simp,Nat.zero_le _,rfl,rfl⟩,?_⟩
 rintro i m acc H' ⟨rfl,hi,rfl,rfl⟩
 by_cases hlt:i < n
 ·refine .inr ⟨hlt,by rw [WB,List.length_range];omega,fun x H' y=>?_⟩
  obtain ⟨e,y⟩:=y
  subst e y
  refine ⟨⟨by simp,fun k v e=>?_⟩,?_⟩
  ·by_cases hk:j=k
   ·subst hk;rw [hj] at e;cases e
   ·rw [List.getElem?_set_ne hk];exact e
  ·unfold yp;dsimp only
   split
   ·refine hs i hlt _ ⟨n - (i+1),by omega,rfl,hlt,rfl,?_⟩
    rw [List.range_succ,List.map_append];rfl
   ·rename_i z;exact absurd rfl z
 ·have e:i=n:=by omega
  subst e
  exact .inl ⟨Nat.le_refl _,hd⟩
theorem AZ {K:WA}{a:Addr}{xs:List V}{tc:TT}{te:TE}{cm:List (Option Nat)}{σ:St}{H:Hp}{Q:VK}(p:V->Bool)(f:V->V)(hl:SqL K H a xs)(hn:xs.length<=sizeLine){j:Nat}(hj:(cV cm σ)[j]?=some none)
  (hc:∀x,x∈xs->∀N:Bool->Hp->Prop,N (p x) H->tc ((cV cm σ).set j (some x)) H N)
  (hs:∀x,x∈xs->p x=true->∀N:VK,N (f x) H->te ((cV cm σ).set j (some x)) H N)
  (hd:∀b,H b=none->Q (.ref b) (upd H b (.lst ((xs.filter p).map f)))) :
  ∃W:Nat->Nat->List V->Hp->Prop,(∃m,W 0 m [] H)/\∀i m acc H,W i m acc H->
   ((Itl K a).stop i H/\∀p,H p=none->Q (.ref p) (upd H p (.lst acc)))\/
   ((Itl K a).go i H/\acc.length < sizeLine/\∀x H',(Itl K a).yld i H x H'->eW j x (cV cm σ) H' fun σ2 H2=>Wk (cV cm σ) σ2/\tc σ2 H2 fun b H3=>if b=true then te σ2 H3 fun v H4=>∃m',m' < m/\W (i+1) m' (acc++[v]) H4 else ∃m',m' < m/\W (i+1) m' acc H3):=by
 refine ⟨fun i m acc H'=>m=xs.length - i/\i<=xs.length/\H'=H/\acc=((xs.take i).filter p).map f,⟨xs.length,by simp,Nat.zero_le _,rfl,by simp⟩,?_⟩
 rintro i m acc H' ⟨rfl,hi,rfl,rfl⟩
 by_cases hlt:i < xs.length
 ·have hx:xs[i]?=some xs[i]:=by simp [hlt]
  have hle:(((xs.take i).filter p).map f).length < sizeLine:=by
   rw [WB]
   have:=List.length_filter_le p (xs.take i)
   rw [List.length_take] at this
   omega
  refine .inr ⟨⟨xs,xs[i],hl,hx⟩,hle,fun x H' y=>?_⟩
  obtain ⟨e,y⟩:=y
  subst e
  have hy:=y xs hl
  rw [hx] at hy;cases hy
  have hmem:xs[i]∈xs:=List.getElem_mem hlt
  refine ⟨⟨by simp,fun k v e=>?_⟩,hc _ hmem _ ?_⟩
  ·by_cases hk:j=k
   ·subst hk;rw [hj] at e;cases e
   ·rw [List.getElem?_set_ne hk];exact e
  ·have hstep:((xs.take (i+1)).filter p).map f=((xs.take i).filter p).map f++(if p xs[i] then [f xs[i]] else []):=by
    rw [take_succ_filter p xs i _ hx,List.map_append]
    cases p xs[i]<;>rfl
   cases hp:p xs[i] with
   | true=>
    refine RQ (hs _ hmem hp _ ⟨xs.length - (i+1),by omega,rfl,hlt,rfl,?_⟩)
    rw [hstep,hp];rfl
   | false=>
    refine RP ⟨xs.length - (i+1),by omega,rfl,hlt,rfl,?_⟩
    rw [hstep,hp];simp
 ·have e:i=xs.length:=by omega
  subst e
  refine .inl ⟨⟨xs,hl,Nat.le_refl _⟩,?_⟩
  rw [List.take_length]
  exact hd
theorem uw {lo:Int}{n:Nat}{tc:TT}{te:TE}{cm:List (Option Nat)}{σ:St}{H:Hp}{Q:VK}(p:Nat->Bool)(f:Nat->V)(hn:n<=sizeLine){j:Nat}(hj:(cV cm σ)[j]?=some none)
  (hc:∀i,i < n->∀N:Bool->Hp->Prop,N (p i) H->tc ((cV cm σ).set j (some (.int (lo+i)))) H N)
  (hs:∀i,i < n->p i=true->∀N:VK,N (f i) H->te ((cV cm σ).set j (some (.int (lo+i)))) H N)
  (hd:∀b,H b=none->Q (.ref b) (upd H b (.lst (((List.range n).filter p).map f)))) :
  ∃W:Nat->Nat->List V->Hp->Prop,(∃m,W 0 m [] H)/\∀i m acc H,W i m acc H->
   ((Itr lo n).stop i H/\∀p,H p=none->Q (.ref p) (upd H p (.lst acc)))\/
   ((Itr lo n).go i H/\acc.length < sizeLine/\∀x H',(Itr lo n).yld i H x H'->eW j x (cV cm σ) H' fun σ2 H2=>Wk (cV cm σ) σ2/\tc σ2 H2 fun b H3=>if b=true then te σ2 H3 fun v H4=>∃m',m' < m/\W (i+1) m' (acc++[v]) H4 else ∃m',m' < m/\W (i+1) m' acc H3):=by
 refine ⟨fun i m acc H'=>m=n - i/\i<=n/\H'=H/\acc=((List.range i).filter p).map f,⟨n,by simp,Nat.zero_le _,rfl,by simp⟩,?_⟩
 rintro i m acc H' ⟨rfl,hi,rfl,rfl⟩
 by_cases hlt:i < n
 ·have hle:(((List.range i).filter p).map f).length < sizeLine:=by
   rw [WB]
   have:=List.length_filter_le p (List.range i)
   rw [List.length_range] at this
   omega
  refine .inr ⟨hlt,hle,fun x H' y=>?_⟩
  obtain ⟨e,y⟩:=y
  subst e y
  refine ⟨⟨by simp,fun k v e=>?_⟩,hc _ hlt _ ?_⟩
  ·by_cases hk:j=k
   ·subst hk;rw [hj] at e;cases e
   ·rw [List.getElem?_set_ne hk];exact e
  ·have hstep:((List.range (i+1)).filter p).map f=((List.range i).filter p).map f++(if p i then [f i] else []):=by
    rw [List.range_succ,List.filter_append,List.map_append]
    cases hp:p i<;>simp [hp]
   cases hp:p i with
   | true=>
    refine RQ (hs _ hlt hp _ ⟨n - (i+1),by omega,rfl,hlt,rfl,?_⟩)
    rw [hstep,hp];rfl
   | false=>
    refine RP ⟨n - (i+1),by omega,rfl,hlt,rfl,?_⟩
    rw [hstep,hp];simp
 ·have e:i=n:=by omega
  subst e
  exact .inl ⟨Nat.le_refl _,hd⟩
section
variable {X:Cx}
def Pk (i j:Int):Prop:=0 < j/\j < 2 ^ 200
theorem LL:OpR X (binaryOp .FloorDiv) (rI Pk fun i j=>.int (i / j)):=opI fun i j _ _ _ _ _ hc q=>by
 have hj:j.natAbs.log2 < 9000:=by
  have h1:j.natAbs < 2 ^ 200:=by have:=hc.2;have:=hc.1;omega
  have h0:j.natAbs≠0:=by have:=hc.1;omega
  exact Nat.lt_of_lt_of_le ((Nat.log2_lt h0).mpr h1) (by decide)
 have e:i.fdiv j=i / j:=Int.fdiv_eq_ediv_of_nonneg _ (Int.le_of_lt hc.1)
 exact floordiv_int (by have:=hc.1;omega) (by rw [e];exact q) (.inl (PyProof.noPylong_of_log2 hj))
end
theorem bu:bootBuiltins "len"=some (.builtin "len"):=by decide +kernel
theorem bc:bootBuiltins "isinstance"=some (.builtin "isinstance"):=by decide +kernel
theorem Qu:bootBuiltins "max"=some (.builtin "max"):=by decide +kernel
theorem Dq:bootBuiltins "min"=some (.builtin "min"):=by decide +kernel
theorem Hn:bootBuiltins "abs"=some (.builtin "abs"):=by decide +kernel
theorem Ko:bootBuiltins "sorted"=some (.builtin "sorted"):=by decide +kernel
theorem iq:bootBuiltins "int"=some (.type "int"):=by decide +kernel
theorem Jh:bootBuiltins "bool"=some (.type "bool"):=by decide +kernel
theorem LM:bootBuiltins "str"=some (.type "str"):=by decide +kernel
theorem dG:bootBuiltins "list"=some (.type "list"):=by decide +kernel
theorem pz:bootBuiltins "tuple"=some (.type "tuple"):=by decide +kernel
theorem LN:bootBuiltins "range"=some (.type "range"):=by decide +kernel
theorem Qv:bootBuiltins "zip"=some (.type "zip"):=by decide +kernel
theorem mY:bootBuiltins "enumerate"=some (.type "enumerate"):=by decide +kernel
noncomputable def Ho (X:Cx)(scope:Scope):Bool:=scope.names.all fun y=>y.2 != .free || (X.env.kindOf y.1 == some .cell || X.env.kindOf y.1 == some .free)
noncomputable def Qw (X:Cx)(scope:Scope)(Nc:List Str)(cm:List (Option Nat)):Bool:=(Nc.zip cm).all fun p=>match p.2 with
 | none=>true
 | some i=>X.N[i]? == some p.1 && (scope.names.lookup p.1 == some .free && (X.env.kindOf p.1 == some .cell || X.env.kindOf p.1 == some .free))
theorem kh {X:Cx}{tg iter elt:Expr}{ifs:List Expr}{scope:Scope}{pos:Pos}(Nc:List Str)(cm:List (Option Nat)){wi:TI}{g:TG}{tc:TT}{te:TE}
  (hi:PI X tg iter wi) (hg:∀C s₀ H₀ ex,PG (blk X Nc scope C s₀ H₀ ex) tg g) (ht:∀C s₀ H₀ ex,PIf (blk X Nc scope C s₀ H₀ ex) ifs tc) (he:∀C s₀ H₀ ex,PE (blk X Nc scope C s₀ H₀ ex) elt te)
  (hc:X.calm=true:=by rfl) (hkind:scope.kind=.function:=by rfl) (hcell:∀y∈scope.names,y.2≠.cell:=by decide +kernel) (hnames:∀y∈scope.names,y.2=.local->scope.names.lookup y.1=some .local:=by decide +kernel)
  (hfree:Ho X scope=true:=by rfl) (hlen:cm.length=Nc.length:=by rfl) (hcm:Qw X scope Nc cm=true:=by rfl)
  (hs:∀x,foldedSetIterable iter X.env x=pure x:=by intro _;rfl):PE X (.ListComp elt [⟨tg,iter,ifs,0⟩] scope pos) (zh wi g tc te cm):=by
 refine NL hc hi hkind hcell hnames (fun y hy e=>?_) hlen (fun j x i e1 e2=>?_) hg ht he hs
 ·have h:=List.all_eq_true.mp hfree y hy
  rw [e] at h
  simpa using h
 ·have hj:(Nc.zip cm)[j]?=some (x,some i):=by
   rw [List.getElem?_zip_eq_some];exact ⟨e1,e2⟩
  have h:=List.all_eq_true.mp hcm _ (List.mem_of_getElem? hj)
  simpa using h
theorem Qx {CX:CXT}{P:Program}{w:World}{K:WA}{mg:Str->Option Value}{base:Heap}{N:List Str}{qual:Str}{scope:Scope}{f:Addr}{cd:Value}{A:Around}{outer:List Env}{s:Shared}{H:Hp}{E:XK} :
  (sZ CX P w K mg base N qual scope f cd A outer s H E).K=K:=rfl
theorem dZ {ns:List Int}{k:Int}(h0:0<=k)(h1:k < ns.length):atI (ns.map V.int) k=some (.int (ns.getD k.toNat 0)):=by
 have hl:k.toNat < ns.length:=by omega
 have q:(ns.map V.int)[k.toNat]?=some (.int (ns.getD k.toNat 0)):=by
  rw [List.getElem?_map,List.getD_eq_getElem?_getD,List.getElem?_eq_getElem hl]
  rfl
 have q2:=Jd q
 rw [show ((k.toNat:Nat):Int)=k by omega] at q2
 exact q2
theorem gg {ns:List Int}{k:Nat}(h1:k < ns.length):atI (ns.map V.int) (k:Int)=some (.int (ns.getD k 0)):=by
 have:=dZ (ns:=ns) (k:=(k:Int)) (by omega) (by omega)
 simpa using this
theorem LO {ns:List Int}{k:Nat}(h:ns.length<=k):ns.getD k 0=0:=by
 rw [List.getD_eq_getElem?_getD,List.getElem?_eq_none_iff.mpr h];rfl
structure cC (ds:List Int):Prop where
 l2:2<=ds.length
 l6:ds.length<=6
 lo:∀d∈ds,0<=d
 hi:∀d∈ds,d<=500
 up:ds.Pairwise (· < ·)
theorem cC.get {ds:List Int}(h:cC ds){i:Nat}(hi:i < ds.length):0<=ds.getD i 0/\ds.getD i 0<=500:=by
 rw [List.getD_eq_getElem?_getD,List.getElem?_eq_getElem hi,Option.getD_some]
 exact ⟨h.lo _ (List.getElem_mem hi),h.hi _ (List.getElem_mem hi)⟩
theorem cC.lt {ds:List Int}(h:cC ds){i j:Nat}(hij:i < j)(hj:j < ds.length):ds.getD i 0 < ds.getD j 0:=by
 have hi:i < ds.length:=Nat.lt_trans hij hj
 rw [List.getD_eq_getElem?_getD,List.getElem?_eq_getElem hi,List.getD_eq_getElem?_getD,List.getElem?_eq_getElem hj,Option.getD_some,Option.getD_some]
 exact List.pairwise_iff_getElem.mp h.up i j hi hj hij
noncomputable def cw (ds:List Int):Int:=ds.getD (ds.length - 1) 0
theorem cC.le_whole {ds:List Int}(h:cC ds){d:Int}(hd:d∈ds):d<=cw ds:=by
 obtain ⟨i,hi,rfl⟩:=List.getElem_of_mem hd
 have e:ds[i]=ds.getD i 0:=by rw [List.getD_eq_getElem?_getD,List.getElem?_eq_getElem hi];rfl
 rw [e]
 unfold cw
 by_cases hl:i=ds.length - 1
 ·rw [hl];exact Int.le_refl _
 ·exact Int.le_of_lt (h.lt (by omega) (by have:=h.l2;omega))
theorem cC.whole_mem {ds:List Int}(h:cC ds):cw ds∈ds:=by
 have hl:=h.l2
 unfold cw
 rw [List.getD_eq_getElem?_getD,List.getElem?_eq_getElem (by omega:ds.length - 1 < ds.length),Option.getD_some]
 exact List.getElem_mem _
theorem cC.even {n:Nat}{g:Int}(h2:2<=n)(h6:n<=6)(g1:1<=g)(g2:g<=100):cC ((List.range n).map fun (i:Nat)=>g * (i:Int)):=by
 refine ⟨by simpa using h2,by simpa using h6,fun d hd=>?_,fun d hd=>?_,?_⟩
 ·obtain ⟨i,hi,rfl⟩:=List.mem_map.mp hd
  exact Int.mul_nonneg (by omega) (by omega)
 ·obtain ⟨i,hi,rfl⟩:=List.mem_map.mp hd
  have hi':=List.mem_range.mp hi
  have a:g * (i:Int)<=g * 5:=Int.mul_le_mul_of_nonneg_left (by omega) (by omega)
  omega
 ·rw [List.pairwise_map]
  refine List.Pairwise.imp_of_mem (fun {a b} ha hb hab=>?_) List.pairwise_lt_range
  exact Int.mul_lt_mul_of_pos_left (by omega) (by omega)
structure mZ (ds:List Int)(l:Int):Prop where
 lo:∀d∈ds,0<=d
 hi:∀d∈ds,d<=l
 up:ds.Pairwise (· < ·)
 l0:-1<=l
theorem mZ.nil:mZ [] (-1):=⟨by simp,by simp,List.Pairwise.nil,by omega⟩
theorem mZ.snoc {ds:List Int}{l r:Int}(h:mZ ds l)(h0:0<=r):mZ (ds++[l+1+r]) (l+1+r):=by
 have l0:=h.l0
 refine ⟨fun d hd=>?_,fun d hd=>?_,?_,by omega⟩
 ·rcases List.mem_append.mp hd with z | z
  ·exact h.lo d z
  ·have:d=l+1+r:=by simpa using z
   omega
 ·rcases List.mem_append.mp hd with z | z
  ·have:=h.hi d z;omega
  ·have:d=l+1+r:=by simpa using z
   omega
 ·rw [List.pairwise_append]
  refine ⟨h.up,by simp,fun a ha b hb=>?_⟩
  have hb':b=l+1+r:=by simpa using hb
  have:=h.hi a ha;omega
theorem mZ.shaft {ds:List Int}{l:Int}(h:mZ ds l)(hl:l<=500)(h2:2<=ds.length)(h6:ds.length<=6):cC ds:=
 ⟨h2,h6,h.lo,fun d hd=>Int.le_trans (h.hi d hd) hl,h.up⟩
theorem cC.ends {ds:List Int}(h:cC ds):cC ([0]++(ds.drop 1).take (ds.length - 1 - 1)++[500]):=by
 have l2:=h.l2
 have l6:=h.l6
 have hlen:((ds.drop 1).take (ds.length - 1 - 1)).length=ds.length - 2:=by
  rw [List.length_take,List.length_drop];omega
 have hmem:∀d,d∈(ds.drop 1).take (ds.length - 1 - 1)->0 < d/\d < 500:=fun d hd=>by
  obtain ⟨i,hi,rfl⟩:=List.getElem_of_mem hd
  rw [hlen] at hi
  have e:((ds.drop 1).take (ds.length - 1 - 1))[i]'(by rw [hlen];exact hi)=ds.getD (1+i) 0:=by
   rw [List.getElem_take,List.getElem_drop,List.getD_eq_getElem?_getD,List.getElem?_eq_getElem (by omega)]
   rfl
  rw [e]
  have a:=h.lt (i:=0) (j:=1+i) (by omega) (by omega)
  have b:=h.lt (i:=1+i) (j:=ds.length - 1) (by omega) (by omega)
  have c:=(h.get (i:=0) (by omega)).1
  have d:=(h.get (i:=ds.length - 1) (by omega)).2
  omega
 refine ⟨by simp [hlen]<;>omega,by simp [hlen]<;>omega,fun d hd=>?_,fun d hd=>?_,?_⟩
 ·rcases List.mem_append.mp hd with z | z
  ·rcases List.mem_append.mp z with z | z
   ·have:d=0:=by simpa using z
    omega
   ·have:=hmem d z;omega
  ·have:d=500:=by simpa using z
   omega
 ·rcases List.mem_append.mp hd with z | z
  ·rcases List.mem_append.mp z with z | z
   ·have:d=0:=by simpa using z
    omega
   ·have:=hmem d z;omega
  ·have:d=500:=by simpa using z
   omega
 ·rw [List.pairwise_append,List.pairwise_append]
  refine ⟨⟨by simp,(h.up.drop).take,fun a ha b hb=>?_⟩,by simp,fun a ha b hb=>?_⟩
  ·have ha':a=0:=by simpa using ha
   have:=hmem b hb;omega
  ·have hb':b=500:=by simpa using hb
   rcases List.mem_append.mp ha with z | z
   ·have:a=0:=by simpa using z
    omega
   ·have:=hmem a z;omega
def Ji (J:It)(g:TG)(tb:TS)(D:j1)(σ:St)(H1:Hp):Prop:=∃W:Nat->Nat->St->Hp->Prop,(∃m,W 0 m σ H1)/\∀i m σ H,W i m σ H->
 (J.stop i H/\D.nx σ H)\/(J.go i H/\∃N:St->Hp->Prop,(∀σ' H',N σ' H'->∃m',m' < m/\W (i+1) m' σ' H')/\∀x H',J.yld i H x H'->g x σ H' fun σ2 H2=>tb {D with nx:=N,ct:=N,bk:=D.nx} σ2 H2)
theorem NM (wi:TI)(g:TG)(tb:TS)(D:j1)(σ:St)(H:Hp):RB wi g tb D σ H=wi σ H fun J H1=>Ji J g tb D σ H1:=rfl
def ux (J:It)(g:TG)(tc:TT)(te:TE)(cm:List (Option Nat))(σ:St)(Q:VK)(H1:Hp):Prop:=∃W:Nat->Nat->List V->Hp->Prop,(∃m,W 0 m [] H1)/\∀i m acc H,W i m acc H->
 (J.stop i H/\∀p,H p=none->Q (.ref p) (upd H p (.lst acc)))\/
 (J.go i H/\acc.length < sizeLine/\∀x H',J.yld i H x H'->g x (cV cm σ) H' fun σ2 H2=>Wk (cV cm σ) σ2/\tc σ2 H2 fun b H3=>if b=true then te σ2 H3 fun v H4=>∃m',m' < m/\W (i+1) m' (acc++[v]) H4 else ∃m',m' < m/\W (i+1) m' acc H3)
theorem LP (wi:TI)(g:TG)(tc:TT)(te:TE)(cm:List (Option Nat))(σ:St)(H:Hp)(Q:VK):zh wi g tc te cm σ H Q=wi σ H fun J H1=>ux J g tc te cm σ Q H1:=rfl
theorem cf {lo:Int}{n:Nat}{g:TG}{tb:TS}{D:j1}{σ:St}{H:Hp}(Pv:Nat->St->Hp->Prop)(h0:Pv 0 σ H)
  (hs:∀i σ H,i < n->Pv i σ H->g (.int (lo+i)) σ H fun σ2 H2=>tb {D with nx:=Pv (i+1),ct:=Pv (i+1),bk:=D.nx} σ2 H2) (hd:∀σ H,Pv n σ H->D.nx σ H):Ji (Itr lo n) g tb D σ H:=Kc Pv h0 hs hd
theorem en {K:WA}{a:Addr}(xs:List V){g:TG}{tb:TS}{D:j1}{σ:St}{H:Hp}(Pv:Nat->St->Hp->Prop)(h0:Pv 0 σ H)(hl:∀i σ H,i<=xs.length->Pv i σ H->SqL K H a xs)
  (hs:∀i x σ H,xs[i]?=some x->Pv i σ H->g x σ H fun σ2 H2=>tb {D with nx:=Pv (i+1),ct:=Pv (i+1),bk:=D.nx} σ2 H2) (hd:∀σ H,Pv xs.length σ H->D.nx σ H):Ji (Itl K a) g tb D σ H:=Ln Pv h0 hl hs hd
theorem uy {lo:Int}{n:Nat}{te:TE}{cm:List (Option Nat)}{σ:St}{H:Hp}{Q:VK}(f:Nat->V)(hn:n<=sizeLine){j:Nat}(hj:(cV cm σ)[j]?=some none)
  (hs:∀i,i < n->∀N:VK,N (f i) H->te ((cV cm σ).set j (some (.int (lo+i)))) H N)
  (hd:∀p,H p=none->Q (.ref p) (upd H p (.lst ((List.range n).map f)))):ux (Itr lo n) (eW j) yp te cm σ Q H:=zi f hn hj hs hd
theorem eL {lo:Int}{n:Nat}{tc:TT}{te:TE}{cm:List (Option Nat)}{σ:St}{H:Hp}{Q:VK}(p:Nat->Bool)(f:Nat->V)(hn:n<=sizeLine){j:Nat}(hj:(cV cm σ)[j]?=some none)
  (hc:∀i,i < n->∀N:Bool->Hp->Prop,N (p i) H->tc ((cV cm σ).set j (some (.int (lo+i)))) H N)
  (hs:∀i,i < n->p i=true->∀N:VK,N (f i) H->te ((cV cm σ).set j (some (.int (lo+i)))) H N)
  (hd:∀b,H b=none->Q (.ref b) (upd H b (.lst (((List.range n).filter p).map f)))):ux (Itr lo n) (eW j) tc te cm σ Q H:=uw p f hn hj hc hs hd
theorem xF {K:WA}{a:Addr}{xs:List V}{tc:TT}{te:TE}{cm:List (Option Nat)}{σ:St}{H:Hp}{Q:VK}(p:V->Bool)(f:V->V)(hl:SqL K H a xs)(hn:xs.length<=sizeLine){j:Nat}(hj:(cV cm σ)[j]?=some none)
  (hc:∀x,x∈xs->∀N:Bool->Hp->Prop,N (p x) H->tc ((cV cm σ).set j (some x)) H N)
  (hs:∀x,x∈xs->p x=true->∀N:VK,N (f x) H->te ((cV cm σ).set j (some x)) H N)
  (hd:∀b,H b=none->Q (.ref b) (upd H b (.lst ((xs.filter p).map f)))):ux (Itl K a) (eW j) tc te cm σ Q H:=AZ p f hl hn hj hc hs hd
theorem upo {H:Hp}{a b:Addr}{o u:HO}(h:H b=some u)(hn:H a=none):upd H a o b=some u:=by rw [aN (ak h hn)];exact h
theorem upn {H:Hp}{a b:Addr}{o:HO}(h:upd H a o b=none):H b=none:=by
 by_cases e:b=a
 ·subst e;rw [ag] at h;cases h
 ·rw [aN e] at h;exact h
theorem av.lay {H H':Hp}{a:Addr}{o:HO}(s:av H H')(hn:H' a=none):av H (upd H' a o):=fun b u e=>upo (s b u e) hn
theorem av.rewr {H H':Hp}{a:Addr}{o:HO}(s:av H H')(hn:H a=none):av H (upd H' a o):=fun b u e=>by rw [aN (ak e hn)];exact s b u e
theorem NN {n d:Nat}(h:1<=n):HT.sIx n d (some 1)=1:=by
 have:=HT.NF n d 1
 rw [show ((1:Nat):Int)=1 from rfl] at this
 omega
theorem Qy {n d:Nat}(h:1<=n):HT.sIx n d (some (-1))=n - 1:=by
 have:=HT.Dj (-1) n d
 rw [if_pos (by decide)] at this
 omega
theorem LQ (ds:List Int)(h:2<=ds.length):ur (ds.map V.int) (some 1) (some (-1))=((ds.drop 1).take (ds.length - 1 - 1)).map V.int:=by
 unfold ur
 rw [WB,NN (by omega),Qy (by omega),List.map_take,List.map_drop]
theorem Hq {ds:List Int}(h:0 < ds.length):atI (ds.map V.int) (-1)=some (.int (cw ds)):=by
 unfold atI ixN
 rw [if_neg (by decide),WB,if_pos (by omega),Option.bind_some,List.getElem?_map,show (-1+(ds.length:Int)).toNat=ds.length - 1 by omega,List.getElem?_eq_getElem (by omega)]
 unfold cw
 rw [List.getD_eq_getElem?_getD,List.getElem?_eq_getElem (by omega)]
 rfl
theorem Dr (a b:Int):eqV (.int a) (.int b)=decide (a=b):=by
 simp [eqV,Bool.beq_eq_decide_eq]
theorem ki (d:Int)(ds:List Int):inV (.int d) (ds.map V.int)=decide (d∈ds):=by
 unfold inV
 rw [List.any_map]
 by_cases h:d∈ds
 ·rw [decide_eq_true h,List.any_eq_true]
  exact ⟨d,h,by simp [Dr]⟩
 ·rw [decide_eq_false h,List.any_eq_false]
  intro x hx
  simp [Dr]
  rintro rfl
  exact h hx
theorem ng {xs:List Int}{i:Nat}{x:V}(h:(xs.map V.int)[i]?=some x):∃z,x=V.int z/\xs[i]?=some z/\z∈xs:=by
 rw [List.getElem?_map] at h
 cases e:xs[i]? with
 | none=>rw [e] at h;cases h
 | some z=>rw [e] at h;exact ⟨z,(Option.some.inj h).symm,rfl,List.mem_of_getElem? e⟩
section
variable {X:Cx}
theorem EX:dw X (.type "range") (fun xs H Q=>∃j:Int,xs=[.int j]/\∀p,H p=none->Q (.ref p) (upd H p (.rng 0 j))):=by
 intro pins s σ H xs us Q I r h
 obtain ⟨j,rfl,q⟩:=h
 obtain ⟨u,rfl,t,rfl⟩:=uo r
 refine call_range_1 ?_
 exact ⟨.ref s.heap.objs.size,_,I.laid (o:=.rng 0 j) (fun b o e=>Heap.get?_push_of_some _ e) (Nat.le_refl _) ⟨_,_,_,Heap.get?_push_size _ rfl⟩,rfl,q _ I.fresh⟩
theorem A1 (hc:X.calm=true):dw X (.type "list") (fun xs H Q=>∃(r:Addr) (n:Nat),xs=[.ref r]/\H r=some (.rng 0 (n:Int))/\n<=100000/\∀p,H p=none->Q (.ref p) (upd H p (.lst ((List.range n).map fun (i:Nat)=>V.int (i:Int))))):=by
 intro pins s σ H xs us Q I rr h
 obtain ⟨r,n,rfl,hr,hn,q⟩:=h
 obtain ⟨u,rfl,ru⟩:=uo rr
 cases ru
 obtain ⟨t,u,v,e⟩:=I.hok r _ hr
 have hsz:Builtin.Range.rangeSize 0 (n:Int) 1=((n:Nat):Int):=by rw [rangeSize_one];split<;>omega
 refine call_list_range (I.ok.hd hc) (show IsRange s.heap r 0 n 1 t u v from e) (small_one (by omega) (by omega) (by omega) (by omega)) hsz (by omega) fun h' tk acc c' hk hS hacc=>?_
 have hv:bF ((List.range n).map fun (i:Nat)=>V.int (i:Int)) acc.toList:=by
  have:∀(m:Nat) (us:List Value) (k:Nat),us.length=m->(∀(j:Nat) v,us[j]?=some v->∃t,v=Value.int ((k:Int)+j) t)->bF ((List.range' k m).map fun (i:Nat)=>V.int (i:Int)) us:=by
   intro m
   induction m with
   | zero=>intro us k hl _;cases us with
    | nil=>exact .nil
    | cons=>simp at hl
   | succ m ih=>intro us k hl ha;cases us with
    | nil=>simp at hl
    | cons x r=>
     obtain ⟨t,e⟩:=ha 0 x rfl
     refine .cons ⟨t,by simpa using e⟩ (ih r (k+1) (by simpa using hl) fun j v hv=>?_)
     obtain ⟨t,e⟩:=ha (j+1) v (by simpa using hv)
     exact ⟨t,by rw [e];congr 1;push_cast;omega⟩
  rw [List.range_eq_range']
  refine this n acc.toList 0 (by simpa using hacc.1) fun j v hv=>?_
  obtain ⟨t,e⟩:=hacc.2 j v (by simpa using hv)
  exact ⟨t,by rw [e];congr 1;omega⟩
 refine ⟨.ref s.heap.objs.size,_,I.laid (o:=.lst ((List.range n).map fun (i:Nat)=>V.int (i:Int))) hk (Nat.le_refl _) ⟨by rw [WB,List.length_range];exact Nat.le_of_lt (Nat.lt_of_le_of_lt hn (by decide)),acc.toList,c',hv,by simpa using hS⟩,rfl,q _ I.fresh⟩
end
theorem Jj (d x y:Int):inV (.int d) [.int x,.int y]=decide (d=x\/d=y):=by
 have:=ki d [x,y]
 simpa [eq_comm] using this
section
variable {X:Cx}
def Pl (i j:Int):Prop:=i.natAbs < 2 ^ 300/\j.natAbs < 2 ^ 300
theorem NO:OpR X (binaryOp .Mult) (rI Pl fun i j=>.int (i * j)):=opI fun _ _ _ _ _ _ _ hc q=>mul_int q
 (IntMulOk.of_bits (Nat.le_trans (PyProof.Rows.intBits_le hc.1) (by decide)) (Nat.le_trans (PyProof.Rows.intBits_le hc.2) (by decide)))
end
theorem Hr {w s:Int}(hw:0<=w)(hs:0 < s):0<=(w+s - 1) / s/\w<=(w+s - 1) / s * s/\((w+s - 1) / s - 1) * s < w/\(w+s - 1) / s<=w:=by
 have e:=Int.emod_add_mul_ediv (w+s - 1) s
 have r0:=Int.emod_nonneg (w+s - 1) (by omega:s≠0)
 have r1:=Int.emod_lt_of_pos (w+s - 1) hs
 have e2:s * ((w+s - 1) / s)=(w+s - 1) / s * s:=Int.mul_comm _ _
 have e3:((w+s - 1) / s - 1) * s=(w+s - 1) / s * s - s:=by rw [Int.sub_mul,Int.one_mul]
 have q0:0<=(w+s - 1) / s:=Int.ediv_nonneg (by omega) (by omega)
 refine ⟨q0,by omega,by omega,?_⟩
 by_cases h:(w+s - 1) / s<=w
 ·exact h
 ·exfalso
  have h1:((w+s - 1) / s - 1) * 1<=((w+s - 1) / s - 1) * s:=Int.mul_le_mul_of_nonneg_left (by omega) (by omega)
  omega
end L2
namespace L2
theorem NP {x y i:Int}(h:i=0\/i=1):∃m,(m=x\/m=y)/\atI [V.int x,V.int y] i=some (.int m):=by
 rcases h with rfl | rfl
 ·exact ⟨x,.inl rfl,rfl⟩
 ·exact ⟨y,.inr rfl,rfl⟩
end L2
namespace L2
open PySem PySem.Spec PyProof.Rows
noncomputable def CXf (P:Program)(w:World):CXT:=fun outer H s E e s'=>
 ∃(x:Addr) (cls a0:Value) (H':Hp) (B:Heap),e=.ref x/\s'.os=s.os/\AllBare s'.gens/\Un (frs outer) [] H H' s.heap s'.heap/\HOk P w H' s'.heap/\Heap.FlyingW B outer x cls a0 s'.heap/\
  (∀b o,s'.heap.get? b=some o->(H' b≠none\/∃o0,s.heap.get? b=some o0)->b∉frs outer->B.get? b=some o)/\(∀o,s.heap.get? x≠some o)/\H' x=none/\E cls none H'
theorem fY.there {P:Program}{w:World}{H:Hp}{h:Heap}{a:Addr}{o:HO}(l:fY P w H h a o):∃ob,h.get? a=some ob:=by
 cases o with
 | lst xs=>obtain ⟨_,its,n,_,e⟩:=l;exact ⟨_,e⟩
 | tup xs=>obtain ⟨_,its,_,ob,e,_⟩:=l;exact ⟨_,e⟩
 | dK kvs=>obtain ⟨_,_,_,_,ob,_,_,e,_⟩:=l;exact ⟨_,e⟩
 | dT kvs=>obtain ⟨_,_,_,_,ob,_,_,e,_⟩:=l;exact ⟨_,e⟩
 | set S n=>obtain ⟨ob,_,_,_,e,_⟩:=l;exact ⟨_,e⟩
 | ins C dx fs=>obtain ⟨_,_,_,e,_⟩:=l;exact ⟨_,e⟩
 | own y=>exact l
 | xd fs=>obtain ⟨mA,⟨od,_,_,e,_⟩,_⟩:=l;exact ⟨_,e⟩
 | rng lo hi=>obtain ⟨_,_,_,e⟩:=l;exact ⟨_,e⟩
 | frz ob u=>obtain ⟨e,_⟩:=l;exact ⟨_,e⟩
 | tbl ps=>exact ⟨_,l⟩
 | met f y=>exact ⟨_,l⟩
 | ext φ=>obtain ⟨_,h,_⟩:=l;exact h
section
variable {P:Program}{w:World}{K:WA}{mg:Str->Option Value}{base:Heap}{N:List Str}{qual:Str}{scope:Scope}{f:Addr}{cd:Value}{A:Around}{outer:List Env}{s:Shared}{H:Hp}{E:XK}
noncomputable abbrev cxF (P:Program)(w:World)(K:WA)(mg:Str->Option Value)(base:Heap)(N:List Str)(qual:Str)(scope:Scope)(f:Addr)(cd:Value)(A:Around)(outer:List Env)(s:Shared)(H:Hp)(E:XK):Cx:=
 sZ (CXf P w) P w K mg base N qual scope f cd A outer s H E
theorem Jk {pins:List (Addr×Obj)}{σ:St}{H1:Hp}{s1:Shared}{h2:Heap}{x:Addr}{cls a0:Value}{B:Heap}(I:Inv (cxF P w K mg base N qual scope f cd A outer s H E) pins σ H1 s1)
  (hB:∀b o,s1.heap.get? b=some o->(H1 b≠none\/∃o0,s.heap.get? b=some o0)->b∉frs (cxF P w K mg base N qual scope f cd A outer s H E).stack->B.get? b=some o)
  (hfl:Heap.FlyingW B outer x cls a0 h2) (hsl:∀b o,s1.heap.get? b=some o->(∀vs,o.data≠.fields vs)->∃sl,h2.get? b=some {o with slots:=sl}) (hx:∀o,s.heap.get? x≠some o) (hx1:H1 x=none) (q:E cls none H1) :
  CXf P w outer H s E (.ref x) {s1 with heap:=h2}:=by
 have neL:∀b o,s.heap.get? b=some o->b≠s.heap.objs.size:=fun b o e=>Nat.ne_of_lt (Heap.lt_size e)
 have stk:∀b,b∈frs (cxF P w K mg base N qual scope f cd A outer s H E).stack->b=s.heap.objs.size\/b∈frs outer:=fun b hb=>by
  rcases List.mem_cons.mp (I.stkSub b hb) with z | z
  ·exact .inl z
  ·exact .inr z
 have hfree:H1 s.heap.objs.size=none:=I.free
 have st:B.StaysIn h2:=hfl.1
 have frD:∀b∈frs outer,∃o,s.heap.get? b=some o/\∀vs,o.data≠.fields vs:=fun b hb=>(I.ok.funs.mem hb).2
 have u:=I.base
 have nf:∀b o,s.heap.get? b=some o->b∉frs outer->b∉frs (cxF P w K mg base N qual scope f cd A outer s H E).stack:=fun b o e hb z=>(stk b z).elim (neL b o e) hb
 have up:∀b∈frs outer,∀o,s.heap.get? b=some o->∃sl,h2.get? b=some {o with slots:=sl}:=fun b hb o e=>by
  obtain ⟨o',e',d⟩:=frD b hb
  rw [e] at e';cases e'
  obtain ⟨sl,q1⟩:=u.any (b:=b) e (I.ok.frf b hb) (by intro z;exact nomatch z)
  obtain ⟨sl',q2⟩:=hsl b _ q1 d
  exact ⟨sl',q2⟩
 refine ⟨x,cls,a0,H1,B,rfl,I.os,I.bare,⟨fun b o e n hb _=>?_,fun b o e n hb _=>up b hb o e,u.free,fun b o e _=>?_,u.tups,u.frzs,u.tbls⟩,fun b o e=>?_,hfl,fun b o e hh hb=>?_,hx,hx1,q⟩
 ·exact st b o (hB b o (u.keep b o e n hb (by intro z;exact nomatch z)) (.inr ⟨o,e⟩) (nf b o e hb))
 ·by_cases hb:b∈frs outer
  ·obtain ⟨sl,q⟩:=up b hb o e
   exact ⟨_,q⟩
  ·obtain ⟨o',e'⟩:=u.there b o e (by intro z;exact nomatch z)
   exact ⟨o',st b o' (hB b o' e' (.inr ⟨o,e⟩) (nf b o e hb))⟩
 ·have ne:b≠s.heap.objs.size:=fun z=>by rw [z,hfree] at e;cases e
  have inB:∀c v,H1 c≠none->s1.heap.get? c=some v->h2.get? c=some v:=fun c v hc q=>st c v (hB c v q (.inl hc) fun z=>by
   rcases stk c z with y | y
   ·rw [y] at hc;exact hc hfree
   ·obtain ⟨o',e',_⟩:=frD c y
    exact hc (u.free c o' e' (I.ok.frf c y) (by intro z;exact nomatch z)))
  refine (I.hok b o e).stay (fun c v hc q=>inB c v ?_ q) (fun _ q=>q) fun _ _ q=>q
  rcases hc with z | z
  ·rw [z,e];simp
  ·rw [z];simp
 ·
  have there1:∃o1,s1.heap.get? b=some o1:=by
   rcases hh with z | ⟨o0,z⟩
   ·cases q:H1 b with
    | none=>exact absurd q z
    | some v=>exact (I.hok b v q).there
   ·exact u.there b o0 z (by intro z;exact nomatch z)
  obtain ⟨o1,e1⟩:=there1
  have nfb:b∉frs (cxF P w K mg base N qual scope f cd A outer s H E).stack:=fun z=>by
   rcases stk b z with y | y
   ·rcases hh with t | ⟨o0,t⟩
    ·rw [y] at t;exact t hfree
    ·exact neL b o0 t y
   ·exact hb y
  have e2:=hB b o1 e1 hh nfb
  have e3:=st b o1 e2
  have e':h2.get? b=some o:=e
  rw [e3] at e';cases e'
  exact e2
theorem Kp {pins:List (Addr×Obj)}{σ:St}{H1:Hp}{s1:Shared}{h':Heap}{x:Addr}{cls:Value}{args:List Value}(I:Inv (cxF P w K mg base N qual scope f cd A outer s H E) pins σ H1 s1)
  (hx:Heap.MadeExcOf s1.heap h' x cls args) (q:E cls none H1):(cxF P w K mg base N qual scope f cd A outer s H E).xe (.ref x) {s1 with heap:=h'}:=by
 have hn:=hx.new
 have hin:∀env∈(cxF P w K mg base N qual scope f cd A outer s H E).stack,∀b,env.frame=some b->b∈frs (cxF P w K mg base N qual scope f cd A outer s H E).stack:=fun env he b hb=>List.mem_filterMap.mpr ⟨env,he,hb⟩
 have hx1:H1 x=none:=by
  cases q:H1 x with
  | none=>rfl
  | some v=>
   obtain ⟨ob,e⟩:=(I.hok x v q).there
   rw [hn] at e;cases e
 refine wpAny_leaves_madeW (base:=W.hideAll s1.heap (frs (cxF P w K mg base N qual scope f cd A outer s H E).stack)) (h:=s1.heap) (s:={s1 with heap:=h'}) I.ok.frames rfl (fun b o q=>W.of_hideAll _ q) (W.funFrames_hide I.stack hin) hx fun h2 t f1 f2 f3 f4=>?_
 refine Jk (s1:=s1) I (fun b o e _ hb=>W.hideAll_get _ e hb) f1 (fun b o e d=>f4 b o (hx.keeps b o e) d) (fun o e=>?_) hx1 q
 obtain ⟨o',e'⟩:=I.base.there x o e (by intro z;exact nomatch z)
 rw [hn] at e';cases e'
theorem bC:fZ (CXf P w) (cxF P w K mg base N qual scope f cd A outer s H E) E:=by
 rintro pins σ H1 s1 e s2 I ⟨x,cls,a0,H2,B,rfl,os,bare,un,hok,hfl,hB,hx,hx2,q⟩
 have I2:Inv (cxF P w K mg base N qual scope f cd A outer s H E) pins σ H2 s2:=I.call' os un hok bare fun b hb=>absurd hb (by simp)
 refine wpAny_leaves_onW (s:=s2) I.ok.frames rfl hfl fun h2 f1 f2=>?_
 refine Jk I2 (fun b o e hh hb=>hB b o e ?_ hb) f1 (fun b o e d=>f2 b o e d) (fun o e=>?_) hx2 q
 ·rcases hh with z | ⟨o0,z⟩
  ·exact .inl z
  ·obtain ⟨o1,e1⟩:=I.base.there b o0 z (by intro z;exact nomatch z)
   exact .inr ⟨o1,e1⟩
 ·obtain ⟨o1,e1⟩:=I.base.there x o e (by intro z;exact nomatch z)
  exact hx o1 e1
theorem A2:PassesOwn (model P w) (cxF P w K mg base N qual scope f cd A outer s H E).A (cxF P w K mg base N qual scope f cd A outer s H E).env (cxF P w K mg base N qual scope f cd A outer s H E).xe:=PassesOwn.leaving
structure ExC (K:WA)(C:Addr):Prop where
 ex:∃(nm q:Str) (N:Addr) (bs bm:List Value) (hdct:Bool) (sn:List Str) (sub:List Value) (ab:Bool) (col:Option Bool) (dd:Option Addr) (k0 k1 k2 k3 k5:Option Value) (mN:Str->Option Value),
  ∀h,K.In h->h.get? C=some (excClassObj nm q C N bs bm hdct sn sub ab col dd k0 k1 k2 k3 k5 "ValueError.__new__")/\h.Ns N mN/\(∀n∈quietNames,mN n=none)/\OwnTailQ h [.type "ValueError",.type "Exception",.type "BaseException",.type "object"] bm
noncomputable def qZ (es:Array DictEntry):Bool:=es.toList.all fun e=>match e.key with | .str _ _=>true | _=>false
theorem Pm {K:WA}{h:Heap}{N:Addr}{c:Value}{d:Option Addr}{es:Array DictEntry}{ep:Nat}{sl:Array (Option Value)}(X:K.In h)(l:K.lookup N=some ⟨c,d,.dict es ep,sl⟩)(k:qZ es=true):h.Ns N (nsFind es):=by
 refine ⟨_,es,ep,X _ _ l,rfl,fun e he=>?_,fun _=>rfl⟩
 have z:=List.all_eq_true.mp k e (by simpa using he)
 split at z
 ·rename_i n t q;exact ⟨n,t,q⟩
 ·cases z
theorem Qz {K:WA}{C N C0 N0:Addr}{nm q:Str}{bs:List Value}{hdct:Bool}{sn:List Str}{sub:List Value}{ab:Bool}{col:Option Bool}{dd:Option Addr}{k0 k1 k2 k3 k5:Option Value}
  {c1 c2 c0:Value} {d1 d2 dd0:Option Addr} {es es0:Array DictEntry} {ep ep0:Nat} {sl1 sl2 sl0:Array (Option Value)} {cd0:ClassData}
  (lC:K.lookup C=some (excClassObj nm q C N bs [.ref C0,.type "ValueError",.type "Exception",.type "BaseException",.type "object"] hdct sn sub ab col dd k0 k1 k2 k3 k5 "ValueError.__new__"))
  (lN:K.lookup N=some ⟨c1,d1,.dict es ep,sl1⟩) (kN:qZ es=true) (iN:(quietNames.all fun n=>(nsFind es n).isNone)=true)
  (l0:K.lookup C0=some ⟨c0,dd0,.cls cd0,sl0⟩) (e0:cd0.ns=N0) (lN0:K.lookup N0=some ⟨c2,d2,.dict es0 ep0,sl2⟩) (kN0:qZ es0=true) (iN0:(quietNames.all fun n=>(nsFind es0 n).isNone)=true):ExC K C:=
 ⟨nm,q,N,bs,_,hdct,sn,sub,ab,col,dd,k0,k1,k2,k3,k5,nsFind es,fun h X=>⟨X _ _ lC,Pm X lN kN,fun n hn=>Option.isNone_iff_eq_none.mp (List.all_eq_true.mp iN n hn),.own (X _ _ l0) (e0▸Pm X lN0 kN0) (fun n hn=>Option.isNone_iff_eq_none.mp (List.all_eq_true.mp iN0 n hn)) .base⟩⟩
noncomputable def LR (E:XK)(C:Addr)(t:TA):TS:=fun _ σ H=>t σ H fun vs H1=>vs.length<=sizeLine/\E (.ref C) none H1
theorem bz {x:Str}{C:Addr}{e:Expr}{es:List Expr}{t:TA}{np cpos pos:Pos}(O:ExC K C)(hg:Gl (cxF P w K mg base N qual scope f cd A outer s H E) x)(hm:mg x=some (.ref C))
  (ha:PA (cxF P w K mg base N qual scope f cd A outer s H E) (e::es) t) (hdb:(x == ("__debug__":Str))=false:=by decide)
  (he:starEach (e::es) (cxF P w K mg base N qual scope f cd A outer s H E).env=(false,eval e (cxF P w K mg base N qual scope f cd A outer s H E).env)::starEach es (cxF P w K mg base N qual scope f cd A outer s H E).env:=by rfl)
  (hpl:(backTo cpos (starEach es (cxF P w K mg base N qual scope f cd A outer s H E).env)).any (·.1)=false:=by rfl) :
  PS (cxF P w K mg base N qual scope f cd A outer s H E) (.Raise (some (.Call (.Name x np) (e::es) [] cpos)) none pos) (LR E C t):=by
 intro pins s1 σ H1 D I h
 obtain ⟨nm,q,N,bs,bm,hdct,sn,sub,ab,col,dd,k0,k1,k2,k3,k5,mN,O⟩:=O.ex
 obtain ⟨_,_,hni,T0⟩:=O _ I.kIn
 refine wpAny_Raise_call_subU (C:=C) (nm:=nm) (q:=q) (N:=N) (bs:=bs) (bm:=bm) (hdct:=hdct) (sn:=sn) (sub:=sub) (ab:=ab) (col:=col) (dd:=dd) (k0:=k0) (k1:=k1) (k2:=k2) (k3:=k3) (k5:=k5)
  PySem.F.excBase_ValueError (by decide +kernel) PySem.F.excBase_ValueError (mN:=mN) (T0.tail.hasType PySem.F.excBase_ValueError.hasBase) (I.ok.hd rfl) (by rw [he];show (false || (backTo cpos (starEach es _)).any (·.1))=false;rw [hpl];rfl) (hni _ (.head _)) (qY I hg hm ⟨rfl,?_⟩ hdb)
 have ha':=ha cpos pins s1 σ H1 _ I h
 rw [he] at ha' ⊢
 refine Calls.evalArgs_plain (wpAny_mono ha' (fun us s2 h2=>?_) fun _ _ y=>y)
 obtain ⟨vs,H2,I2,rv,hlen,qE⟩:=h2
 obtain ⟨a1,a2,_,a4⟩:=O _ I2.kIn
 exact ⟨rfl,by rw [←rv.length];exact hlen,a1,a2,a4.tail,fun h' e hx=>Kp I2 hx qE⟩
theorem Fun.okF {x qual:Str}{st:Stmt}{f:Addr}{fd:FuncData}{N ps:List Str}{k:Nat}{sp:Sp}(F:Fun K x qual st f fd)(S:au N ps (ai st))(len:∀vs H Q E,sp vs H Q E->vs.length=ps.length)
  (hbody:∀(cdv:Value) (A:Around) (outer:List Env) (s:Shared) (H:Hp) (vs:List V) (Q:VK) (E:XK),eC k (A.deeper (envOfC qual (ai st) s.heap.objs.size f cdv))->sp vs H Q E->
   ∃t,PSs (cxF P w K mg base N qual (ai st) f cdv A outer s H E) (bZ st) t/\t {nx:=fun _ H'=>Q .non H',rt:=Q} (oE N vs) H):gH P w K mg base (CXf P w) (k+1) f fd ps sp:=by
 obtain ⟨oc,od,kV,doc,pm,an,cdv,ct,osl,rfl,lk,hcd⟩:=F.ex
 refine Pf lk hcd S len fun A outer s H vs Q E hr hsp=>?_
 exact hbody cdv A outer s H vs Q E hr hsp
end
noncomputable abbrev XT:=Value->St->Hp->Prop
noncomputable def Xt (X:Cx)(pins:List (Addr×Obj))(E':XT):Cx:=
 {X with pn:=X.pn++pins,xe:=fun e s'=>∃σ H s,Inv X pins σ H s/\CXf X.prog X.w X.stack H s (fun cls _ H'=>E' cls σ H') e s'}
noncomputable def Xh (X:Cx)(e:Value):Cx:={X with A:=X.A.mark (some e),calm:=false,xe:=fun _ _=>False}
section
variable {X:Cx}{pins pins':List (Addr×Obj)}{σ:St}{H:Hp}{s:Shared}{E':XT}{e:Value}
theorem Cx.Ok.toT (ok:X.Ok):(Xt X pins E').Ok:=⟨ok.mod,ok.kind,ok.glob,ok.blt,ok.above,ok.inj,ok.has,ok.cab,ok.hd,ok.frames,ok.stk,ok.exf,ok.bs,ok.bsz,ok.noex,ok.exfs,ok.funs,ok.frf⟩
theorem Cx.Ok.ofT (ok:(Xt X pins E').Ok):X.Ok:=⟨ok.mod,ok.kind,ok.glob,ok.blt,ok.above,ok.inj,ok.has,ok.cab,ok.hd,ok.frames,ok.stk,ok.exf,ok.bs,ok.bsz,ok.noex,ok.exfs,ok.funs,ok.frf⟩
theorem Inv.toT (I:Inv X pins σ H s):Inv (Xt X pins E') [] σ H s:=⟨I.ok.toT,I.os,I.bare,I.base,I.loc,I.cell,I.free,I.freeC,fun p hp=>I.pin p (by simpa [Xt] using hp),I.hok,I.len⟩
theorem Inv.ofT (I:Inv (Xt X pins E') pins' σ H s):Inv X pins σ H s:=⟨I.ok.ofT,I.os,I.bare,I.base,I.loc,I.cell,I.free,I.freeC,fun p hp=>I.pin p (List.mem_append_left _ hp),I.hok,I.len⟩
theorem Inv.toH (I:Inv X pins σ H s):Inv (Xh X e) pins σ H s:=
 ⟨⟨I.ok.mod,I.ok.kind,I.ok.glob,I.ok.blt,I.ok.above,I.ok.inj,I.ok.has,I.ok.cab,fun z=>(Bool.false_ne_true z).elim,I.ok.frames,I.ok.stk,I.ok.exf,I.ok.bs,I.ok.bsz,I.ok.noex,I.ok.exfs,I.ok.funs,I.ok.frf⟩,I.os,I.bare,I.base,I.loc,I.cell,I.free,I.freeC,I.pin,I.hok,I.len⟩
theorem Inv.ofH (ok:X.Ok)(I:Inv (Xh X e) pins σ H s):Inv X pins σ H s:=⟨ok,I.os,I.bare,I.base,I.loc,I.cell,I.free,I.freeC,I.pin,I.hok,I.len⟩
theorem Inv.flown {H1:Hp}{s1:Shared}{h2:Heap}{B:Heap}(I:Inv X pins σ H s)(os:s1.os=s.os)(bare:AllBare s1.gens)(un:Un (frs X.stack) [] H H1 s.heap s1.heap)(hok:HOk X.prog X.w H1 s1.heap)
  (hB:∀b o,s1.heap.get? b=some o->(H1 b≠none\/∃o0,s.heap.get? b=some o0)->b∉frs X.stack->B.get? b=some o) (st:B.StaysIn h2) (hsl:s1.heap.UpToSlots h2):Inv X pins σ H1 {s1 with heap:=h2}:=by
 have frD:∀b∈frs X.stack,∃o,s.heap.get? b=some o/\∀vs,o.data≠.fields vs:=fun b hb=>(I.stack.mem hb).2
 have up:∀b∈frs X.stack,∀o,s.heap.get? b=some o->∃sl,h2.get? b=some {o with slots:=sl}:=fun b hb o e=>by
  obtain ⟨o',e',d⟩:=frD b hb
  rw [e] at e';cases e'
  obtain ⟨sl,q1⟩:=un.any (b:=b) e (I.stkFree b hb) (by intro z;exact nomatch z)
  obtain ⟨sl',q2⟩:=hsl b _ q1 d
  exact ⟨sl',q2⟩
 refine I.call' (s':={s1 with heap:=h2}) (ch:=[]) os ⟨fun b o e n hb _=>?_,fun b o e n hb _=>up b hb o e,un.free,fun b o e _=>?_,un.tups,un.frzs,un.tbls⟩ (fun b o e=>?_) bare fun b hb=>absurd hb (by simp)
 ·exact st b o (hB b o (un.keep b o e n hb (by intro z;exact nomatch z)) (.inr ⟨o,e⟩) hb)
 ·by_cases hb:b∈frs X.stack
  ·obtain ⟨sl,q⟩:=up b hb o e
   exact ⟨_,q⟩
  ·obtain ⟨o',e'⟩:=un.there b o e (by intro z;exact nomatch z)
   exact ⟨o',st b o' (hB b o' e' (.inr ⟨o,e⟩) hb)⟩
 ·have inB:∀c v,H1 c≠none->s1.heap.get? c=some v->h2.get? c=some v:=fun c v hc q=>st c v (hB c v q (.inl hc) fun z=>by
   obtain ⟨o',e',_⟩:=frD c z
   exact hc (un.free c o' e' (I.stkFree c z) (by intro z;exact nomatch z)))
  refine (hok b o e).stay (fun c v hc q=>inB c v ?_ q) (fun _ q=>q) fun _ _ q=>q
  rcases hc with z | z
  ·rw [z,e];simp
  ·rw [z];simp
noncomputable def LS (y:Addr)(cls:Value):HO:=.ext fun h=>∃o vs,h.get? y=some o/\o.cls=cls/\o.data=.fields vs
theorem Kq {H1:Hp}{s1:Shared}{x:Addr}{cls:Value}{oe:Obj}{vs:Array Value}(I0:Inv X pins σ H s)(I:Inv X pins σ H1 s1)(hx:∀o,s.heap.get? x≠some o)(hx1:H1 x=none)(he:s1.heap.get? x=some oe)(hc:oe.cls=cls)(hd:oe.data=.fields vs)
  (hxl:x≠X.env.locals) (hxc:∀y c,X.env.cells.lookup y=some c->c≠x):Inv X pins σ (upd H1 x (LS x cls)) s1:=by
 have hb:∀b u,X.s₀.heap.get? b=some u->b∉X.ex->b≠x:=fun b u e hbx z=>by
  obtain ⟨o',e'⟩:=I0.base.there b u e hbx
  rw [z] at e'
  exact hx o' e'
 refine ⟨I.ok,I.os,I.bare,⟨I.base.keep,I.base.slot,fun b u e n hbx=>?_,I.base.there,fun b xs e=>?_,fun b u xs e=>?_,fun b ps e=>?_⟩,I.loc,I.cell,?_,fun y c e=>?_,fun p hpp=>?_,fun b u e=>?_,I.len⟩
 ·rw [aN (hb b u e hbx)];exact I.base.free b u e n hbx
 ·have q:=I.base.tups b xs e;rw [aN (ak q hx1)];exact q
 ·have q:=I.base.frzs b u xs e;rw [aN (ak q hx1)];exact q
 ·obtain ⟨more,q⟩:=I.base.tbls b ps e;exact ⟨more,by rw [aN (ak q hx1)];exact q⟩
 ·rw [aN (Ne.symm hxl)];exact I.free
 ·rw [aN (hxc y c e)];exact I.freeC y c e
 ·obtain ⟨a,b,c⟩:=I.pin p hpp
  refine ⟨a,?_,c⟩
  rw [aN (fun z=>?_)];exact b
  have:=(I0.pin p hpp).1
  rw [z] at this
  exact hx _ this
 ·by_cases hbb:b=x
  ·subst hbb;rw [ag] at e;cases e
   exact ⟨⟨oe,vs,he,hc,hd⟩,⟨oe,he⟩,fun h1 h2 ⟨o,v,a,b,c⟩ k=>⟨o,v,k _ a,b,c⟩⟩
  ·rw [aN hbb] at e
   exact (I.hok b u e).stay (fun c v _ q=>q) (fun c q=>by rw [aN (ak q hx1)];exact q) fun c xs q=>by rw [aN (ak q hx1)];exact q
theorem rd {i:Nat}{n:Str}{pos:Pos}{A:Around}{M:Model}{Er:Value->Shared->Prop}{Q:Unit->Shared->Prop}(I:Inv X pins σ H s)(hN:X.N.Nodup)(hi:X.N[i]?=some n)(hk:X.env.scope.names.lookup n=some .local)
  (h:∀s',Inv X pins (σ.set i none) H s'->Q () s'):wpAny M A (do bindName X.env n .none;unbindBehindTheSuite X.env n pos) Q Er s:=by
 refine wpAny_bind (wpAny_bindName (ma (v:=V.non) I hN hi (.inl hk) rfl (fun s1 I1=>?_) (.inr hk)))
 unfold unbindBehindTheSuite
 refine wpAny_onRaise ?_
 obtain ⟨m,hn,hl⟩:=id I1.loc
 have hiσ:i < σ.length:=by rw [I.len];exact (List.getElem?_eq_some_iff.mp hi).1
 obtain ⟨u,ru,lk⟩:=hl i n .non hi (List.getElem?_set_self hiσ) (.inl hk)
 have hv:m n=some u:=by
  rcases lk with ⟨_,z⟩ | ⟨z,_⟩
  ·exact z
  ·have hk':X.env.kindOf n=some .local:=hk
   rcases z with z | z
   ·rw [hk'] at z;cases z
   ·rw [hk'] at z;cases z
 have hcls:(X.env.scope.kind == .class || (X.env.scope.kind == .module && X.env.locals != X.env.globals))=false:=by rw [I.ok.kind];rfl
 refine wpAny_unbindName_local hk hn hv hcls fun h' u' hn' hs=>?_
 have ne:∀b o,X.s₀.heap.get? b=some o->b≠X.env.locals:=fun b o e=>Nat.ne_of_lt (Nat.lt_of_lt_of_le (Heap.lt_size e) I.ok.above)
 refine h _ ⟨I1.ok,I1.os,I1.bare,⟨fun b o e n hb hx=>(hs.2 b (ne b o e)).trans (I1.base.keep b o e n hb hx),fun b o e n hb hx=>?_,I1.base.free,fun b o e hx=>?_,I1.base.tups,I1.base.frzs,I1.base.tbls⟩,⟨_,hn',fun j y v' e1 e2 e3=>?_⟩,fun y c e=>?_,I1.free,I1.freeC,fun p hp=>?_,fun b ob e=>?_,?_⟩
 ·obtain ⟨sl,e1⟩:=I1.base.slot b o e n hb hx
  exact ⟨sl,(hs.2 b (ne b o e)).trans e1⟩
 ·obtain ⟨o',e1⟩:=I1.base.there b o e hx
  exact ⟨o',(hs.2 b (ne b o e)).trans e1⟩
 ·by_cases hj:j=i
  ·subst hj
   rw [List.getElem?_set_self hiσ] at e2
   cases e2
  ·rw [List.getElem?_set_ne (Ne.symm hj)] at e2
   obtain ⟨u2,r2,q⟩:=hl j y v' e1 (by rw [List.getElem?_set_ne (Ne.symm hj)];exact e2) e3
   refine ⟨u2,r2,?_⟩
   rcases q with ⟨k,e⟩ | ⟨k,c,e,z⟩
   ·refine .inl ⟨k,?_⟩
    have:y≠n:=fun e=>hj (y4 hN e1 (e▸hi))
    simp [this,e]
   ·exact .inr ⟨k,c,e,z.sameBut hs (I1.cne y c e)⟩
 ·obtain ⟨w',z⟩:=I1.cell y c e
  exact ⟨w',z.sameBut hs (I1.cne y c e)⟩
 ·obtain ⟨e,n,ne',nf,d⟩:=I1.pin p hp
  exact ⟨(hs.2 p.1 ne').trans e,n,ne',nf,d⟩
 ·refine (I1.hok b ob e).stay (fun c w' hc q=>(hs.2 c ?_).trans q) (fun _ q=>q) fun _ _ q=>q
  rintro rfl
  rcases hc with z | z
  ·rw [←z,I1.free] at e;cases e
  ·rw [I1.free] at z;cases z
 ·rw [List.length_set];exact I.len
end
section
variable {X:Cx}
noncomputable def RR (K:WA)(C:Addr)(i:Nat)(tb:XT->TS)(th:TS):TS:=fun D σ H=>
 tb (fun cls σ' H'=>W.exmOne K cls (.ref C)=some true/\∀y,H' y=none->
  th {nx:=fun σ H=>D.nx (σ.set i none) H,rt:=D.rt,bk:=fun σ H=>D.bk (σ.set i none) H,ct:=fun σ H=>D.ct (σ.set i none) H} (σ'.set i (some (.ref y))) (upd H' y (LS y cls))) D σ H
theorem QA {body suite:List Stmt}{b₀:Stmt}{x n:Str}{C:Addr}{i:Nat}{tb:XT->TS}{th:TS}{np hpos pos:Pos}(hst:X.stack=X.env::X.outer)(hfr:X.env.frame=some X.env.locals)
  (hb:∀pins E',PSs (Xt X pins E') body (tb E')) (hh:∀e,PSs (Xh X e) (b₀::suite) th) (hN:X.N.Nodup) (hi:X.N[i]?=some n) (hk:X.env.scope.names.lookup n=some .local) (hg:Gl X x) (hm:X.mg x=some (.ref C))
  (hdb:(x == ("__debug__":Str))=false:=by decide):PS X (.Try body [.ExceptHandler (some (.Name x np)) (some n) (b₀::suite) hpos] [] [] pos) (RR X.K C i tb th):=by
 intro pins s σ H D I h
 refine wpAny_Try_except (wpAny_mono (hb pins _ [] s σ H D I.toT h) (fun f s1 h1=>?_) fun e s1 h1=>?_)
 ·cases f with
  | next=>obtain ⟨σ',H',J,q⟩:=h1;exact wpAny_execs_nil ⟨σ',H',J.ofT,q⟩
  | brk=>obtain ⟨σ',H',J,q⟩:=h1;exact ⟨σ',H',J.ofT,q⟩
  | cont=>obtain ⟨σ',H',J,q⟩:=h1;exact ⟨σ',H',J.ofT,q⟩
  | ret u=>obtain ⟨v,σ',H',J,r,q⟩:=h1;exact ⟨v,σ',H',J.ofT,r,q⟩
 ·obtain ⟨σ0,H0,s0,I0,y,cls,a0,H1,B,rfl,os,bare,un,hok,hfl,hB,hx,hx1,em,q⟩:=h1
  have frames:X.A.frames=some (X.env::X.outer):=by rw [←hst];exact I0.ok.frames
  rw [hst] at hfl
  refine wpAny_looks_onW frames hfr hfl fun h4 held4 sm4=>wpAny_landsW held4 fun h5 fl5 sm5=>?_
  have I5:Inv X pins σ0 H1 {s1 with heap:=h5}:=I0.flown os bare un hok hB fl5.1 (sm4.trans sm5)
  refine wpAny_handleBy_cons (codeAny_handlers_test (qY (X:=Xh X (.ref y)) (I5.toH) hg hm ?_ hdb)) (by intro q;cases q)
  obtain ⟨ob,hob,hobc⟩:=fl5.there
  have LT:W.Looks (model X.prog X.w) h5 (typeOf (.ref y)) cls:=hobc▸(W.Looks.ld hob).andThen .now
  refine (W.exm_one (M:=model X.prog X.w) I5.kIn LT em) _ _ _ _ (fun _ _ e=>e) ?_
  refine codeAny_handlers_suite_as ?_
  refine lands_againW fl5 fun h6 fl6 sm6=>?_
  have I6:Inv X pins σ0 H1 {s1 with heap:=h6}:=I0.flown os bare un hok hB fl6.1 ((sm4.trans sm5).trans sm6)
  obtain ⟨_,_,_,oe,vs,T,oT,ts,he,hc,hd,_⟩:=id fl6
  have hyl:y≠X.env.locals:=fun z=>by
   obtain ⟨m,⟨o,es,ep,ho,hod,_⟩,_⟩:=I0.loc
   rw [←z] at ho
   exact hx o ho
  have hyc:∀z c,X.env.cells.lookup z=some c->c≠y:=fun z c e t=>by
   obtain ⟨v,o,ho,_⟩:=I0.cell z c e
   rw [t] at ho
   exact hx o ho
  have I6t:=Kq (s1:={s1 with heap:=h6}) I0 I6 hx hx1 he hc.1 hd hyl hyc
  refine ma (X:=Xh X (.ref y)) (v:=V.ref y) (I6t.toH) hN hi (.inl hk) rfl (fun s7 I7=>?_) (.inr hk)
  refine wpAny_mono (hh (.ref y) pins s7 _ _ _ I7 (q y hx1)) (fun f s8 h8=>?_) fun _ _ z=>z.elim
  cases f with
  | next=>obtain ⟨σ8,H8,J,q8⟩:=h8;exact rd (J.ofH I.ok) hN hi hk fun s9 J9=>⟨_,_,J9,q8⟩
  | brk=>obtain ⟨σ8,H8,J,q8⟩:=h8;exact rd (J.ofH I.ok) hN hi hk fun s9 J9=>⟨_,_,J9,q8⟩
  | cont=>obtain ⟨σ8,H8,J,q8⟩:=h8;exact rd (J.ofH I.ok) hN hi hk fun s9 J9=>⟨_,_,J9,q8⟩
  | ret u=>obtain ⟨v,σ8,H8,J,r,q8⟩:=h8;exact rd (J.ofH I.ok) hN hi hk fun s9 J9=>⟨v,_,_,J9,r,q8⟩
noncomputable def Hs (sp:Sp)(dvs:List V)(E':XT)(t:TA):TE:=fun σ H Q=>t σ H fun vs H1=>sp (vs++dvs) H1 Q fun cls _ H'=>E' cls σ H'
theorem LU {pins:List (Addr×Obj)}{E':XT}{k:Nat}{f:Addr}{fd:FuncData}{ps:List Str}{sp:Sp}{dvs:List V}{ds:List Value}{x:Str}{p pos:Pos}{e:Expr}{es:List Expr}{t:TA}
  (F:gH X.prog X.w X.K X.mg X.base (CXf X.prog X.w) k f fd ps sp) (hr:eC k X.A) (hg:Gl X x) (hm:X.mg x=some (.ref f)) (hk:W.keepIn X.K (.ref f)=true) (hb:eP X.K fd ps ds) (hd:bF dvs ds)
  (ha:PA (Xt X pins E') (e::es) t) (hdb:(x == ("__debug__":Str))=false:=by decide) (he:starEach (e::es) X.env=(false,eval e X.env)::starEach es X.env:=by rfl) (hpl:(backTo pos (starEach es X.env)).any (·.1)=false:=by rfl) :
  PE (Xt X pins E') (.Call (.Name x p) (e::es) [] pos) (Hs sp dvs E' t):=by
 intro pins' s σ H Q I h
 refine wpAny_Call_Name_kw (qY (X:=Xt X pins E') I hg hm ?_ hdb)
 refine W.callWith_K (h₀:=X.base) I.ok.mod.kin hk (thn (ha pos pins' s σ H _ I h) fun us s1 ⟨vs,H1,I1,r,q⟩=>⟨I1.kIn,?_⟩) he hpl
 have r2:bF (vs++dvs) (us++ds):=r.append hd
 have hl:(us++ds).length=ps.length:=by rw [←r2.length];exact F.len _ _ _ _ q
 refine wpAny_call (codeAny_mono (F.run X.A X.stack s1 H1 ⟨us,[]⟩ (us++ds) (vs++dvs) Q _ hr I1.env0 (hb s1 us I1.kIn hl) r2 q) fun r s' hq=>?_)
 cases r with
 | error e=>exact ⟨σ,H1,s1,I1.ofT,hq⟩
 | ok fl=>
  cases fl with
  | ret u=>exact I1.after hq
  | next=>exact False.elim hq
  | brk=>exact False.elim hq
  | cont=>exact False.elim hq
end
end L2
namespace L2
open PySem PySem.W PySem.Spec PyProof.Rows
structure ExI (K:Frag)(C:Addr):Prop where
 ex:ExC K C
 ca:findIn K (.ref C) "__class__"=some (some (.builtin "object.__class__"))
 mo:mroIn K C (.type "object")=some true
section
variable {prog:Program}{w:World}{A:Around}{E:Value->Shared->Prop}{h:Heap}{g:Array GenState}{d:Drawn}{t:Nat}{os:OsState}{a:Addr}{o:Obj}{vs:Array Value}{K:Frag}{C:Addr}
theorem NQ {R:Result->Shared->Prop}{tp:Value}(X:K.In h)(O:ExI K C)(hx:h.get? a=some o)(hc:o.cls=.ref C)(hq:R (.ok (.ret (.ref C))) ⟨h,g,d,t,os⟩) :
  codeAny (model prog w) A (.call (.builtin "getset_descriptor.__get__") ⟨[.builtin "object.__class__",.ref a,tp],[]⟩) R ⟨h,g,d,t,os⟩:=by
 have L0:Looks (model prog w) h (typeOf (.ref a)) (.ref C):=hc▸(Looks.ld hx).andThen .now
 have L1:=looks_mroIn (M:=model prog w) X O.mo
 refine codeAny_call_builtin KF.slot_gs.plain KF.entry_gs (KF.slot_gs.check _ _ _ _ _ _ _ _ KF.type_class (KF.args_gs _ _ _) ?_)
 unfold Builtin.«getset_descriptor.__get__» Builtin.Getset_descriptor.descrGet
 rw [dga_obj]
 refine wpAny_bind (wpAny_pure ?_)
 unfold Builtin.Getset_descriptor.descrGetter Builtin.Getset_descriptor.descrCheckInstance Builtin.Getset_descriptor.descrNameAndClass isInstance
 simp only [KF.owner_class]
 repeat lk
 refine ⟨Code.quiet_builtin _ (by decide +kernel),codeAny_builtin KF.entry_class ?_⟩
 unfold Builtin.«object.__class__» shownTypeOf
 repeat lk
 exact hq
theorem Kr {tk:Tok}{Q:PySem.Fin->Shared->Prop}(X:K.In h)(O:ExI K C)(hx:h.get? a=some o)(hc:o.cls=.ref C)(hq:Q (.done (.ret (.ref C))) ⟨h,g,d,t,os⟩) :
  wpAny (model prog w) A (Builtin.«object.__getattribute__» ⟨[.ref a,.str "__class__" tk],[]⟩) Q E ⟨h,g,d,t,os⟩:=by
 have L2:=looks_findIn (M:=model prog w) X O.ca
 have f5:=KF.type_class
 have f6:=KF.slot_gs.lookup
 have f7:=PySem.F.slot_gs_set.lookup
 repeat (any_goals (first | assumption | (with_reducible refine wpAny_loadPart_at hx ?_;rw [hc]) | with_reducible refine L2.at ?_ | wp_step))
 refine NQ X O hx hc ?_
 repeat (any_goals (first | assumption | wp_step))
theorem LV {tk:Tok}{R:Result->Shared->Prop}(X:K.In h)(O:ExI K C)(hx:h.get? a=some o)(hc:o.cls=.ref C)(hq:R (.ok (.ret (.ref C))) ⟨h,g,d,t,os⟩) :
  codeAny (model prog w) A (.call (.builtin "BaseException.__getattribute__") ⟨[.ref a,.str "__class__" tk],[]⟩) R ⟨h,g,d,t,os⟩:=by
 obtain ⟨nm,q,N,bs,bm,hdct,sn,sub,ab,col,dd,k0,k1,k2,k3,k5,mN,Oe⟩:=O.ex.ex
 obtain ⟨hC,hN,hmN,T⟩:=Oe h X
 exact codeAny_call_builtin PySem.F.attrBase_ValueError.ga.plain PySem.F.entry_bexc_ga (wpAny_check_ga_own PySem.F.attrBase_ValueError hC T hx hc (Kr X O hx hc hq))
theorem QB {tk:Tok}{fill expr:Bool}{Q:Value->Shared->Prop}(X:K.In h)(O:ExI K C)(hx:h.get? a=some o)(hc:o.cls=.ref C)(hq:Q (.ref C) ⟨h,g,d,t,os⟩) :
  wpAny (model prog w) A (getAttrBy (.ref a) (.str "__class__" tk) fill expr) Q E ⟨h,g,d,t,os⟩:=by
 obtain ⟨nm,q,N,bs,bm,hdct,sn,sub,ab,col,dd,k0,k1,k2,k3,k5,mN,Oe⟩:=O.ex.ex
 obtain ⟨hC,hN,hmN,T⟩:=Oe h X
 have FB:=PySem.F.attrBase_ValueError
 have f3:=FB.ga.bind (.ref a)
 have hx0:(expr && onTheHeap (Value.builtin "BaseException.__getattribute__"))=false:=by cases expr<;>rfl
 have hx2:(Value.builtin "BaseException.__getattribute__" == Value.builtin "object.__getattribute__")=false:=by decide +kernel
 have hx1:(onTheHeap (Value.ref C) && Value.builtin "BaseException.__getattribute__" == Value.builtin "object.__getattribute__")=false:=by rw [hx2];rfl
 have hm1:("__getattribute__":Str)∈quietNames:=.tail _ (.head _)
 have hm2:("__getattr__":Str)∈quietNames:=.tail _ (.tail _ (.head _))
 repeat (any_goals (first | assumption | (with_reducible refine wpAny_loadPart_at hx ?_;rw [hc]) | with_reducible refine wpAny_typeLookup_tailQ hm1 hC hN hmN T FB.mro FB.ga.lookup ?_ | with_reducible refine wpAny_typeLookup_tailQ hm2 hC hN hmN T FB.mro FB.noGetattr ?_ | wp_step))
 refine LV X O hx hc ?_
 repeat (any_goals (first | assumption | wp_step))
theorem LW {Q:Option Value->Shared->Prop}(X:K.In h)(O:ExI K C)(hx:h.get? a=some o)(hc:o.cls=.ref C)(hq:Q (some (.ref C)) ⟨h,g,d,t+1,os⟩) :
  wpAny (model prog w) A (getAttr? (.ref a) "__class__") Q E ⟨h,g,d,t,os⟩:=by
 unfold getAttr? getAttrBy?
 repeat (any_goals (first | assumption | with_reducible apply QB X O hx hc | wp_step))
theorem LX (O:ExI K C):KitX K (.ref a) (.ref C) (fun h=>∃o vs,h.get? a=some o/\o.cls=.ref C/\o.data=.fields vs) where
 ty:=fun _ _ _ ⟨o,vs,h1,h2,_⟩=>h2▸(Looks.ld h1).andThen .now
 it:=fun M h X _=>by
  obtain ⟨nm,q,N,bs,bm,hdct,sn,sub,ab,col,dd,k0,k1,k2,k3,k5,mN,Oe⟩:=O.ex.ex
  obtain ⟨hC,_⟩:=Oe h X
  intro A' Q' E' s' k q
  unfold isType loadHead
  exact wpAny_bind (wpAny_loadPart (k _ _ hC) (wpAny_pure q))
 ne:=fun h tp dd its n sl X htp=>by
  obtain ⟨nm,q,N,bs,bm,hdct,sn,sub,ab,col,dd',k0,k1,k2,k3,k5,mN,Oe⟩:=O.ex.ex
  obtain ⟨hC,_⟩:=Oe h X
  refine Bool.eq_false_iff.mpr fun q=>?_
  have e:C=tp:=Value.ref.inj (beq_iff_eq.mp q)
  subst e
  have z:=congrArg Obj.data (Option.some.inj (hC.symm.trans htp))
  exact nomatch z
 ca:=fun {_ _ _ _ _ s} X ⟨o,vs,h1,h2,_⟩ k=>by
  obtain ⟨h,g,d,t,os⟩:=s
  exact LW X O h1 h2 k
end
noncomputable def Ks:V->Value
 | .ref a=>.ref a
 | .ty n=>.type n
 | _=>.none
noncomputable def md (K:Frag):List V->Hp->VK->Prop:=fun xs H Q=>∃y c C b,xs=[.ref y,c]/\Ks c≠.none/\H y=some (LS y (.ref C))/\ExI K C/\kitOne K (.ref C) (Ks c)=some b/\Q (.bl b) H
theorem gh {X:Cx}:dw X (.builtin "isinstance") (md X.K):=by
 intro pins s σ H xs us Q I r h
 obtain ⟨y,c,C,b,rfl,hc,hy,O,e,q⟩:=h
 obtain ⟨u,v,rfl,ru,rv⟩:=ET r
 cases ru
 have hv:v=Ks c:=by
  cases c with
  | ref a=>exact rv
  | ty n=>exact rv
  | _=>exact absurd rfl hc
 rw [hv]
 obtain ⟨φ,_,_⟩:=I.hok y _ hy
 exact kia_one (LX O) I.kIn φ e (fun z=>nomatch z) fun tk=>⟨.bl b,H,I.tok tk,rfl,q⟩
end L2
namespace L2
open PySem PySem.Spec PyProof.Rows
theorem eo {X:Cx}{x:Str}{v:V}{pos:Pos}(hg:Gl X x)(h:∃u,X.mg x=some u/\bT v u)(hd:(x == ("__debug__":Str))=false:=by decide):PE X (.Name x pos) (tC v):=
 let ⟨_,hm,r⟩:=h
 gZ hg hm r hd
theorem Ds {K:WA}{H:Hp}{Q:VK}{y C:Addr}{c:V}{b:Bool}(hy:H y=some (LS y (.ref C)))(O:ExI K C)(e:W.kitOne K (.ref C) (Ks c)=some b)(hc:Ks c≠.none)(q:Q (.bl b) H):md K [.ref y,c] H Q:=
 ⟨y,c,C,b,rfl,hc,hy,O,e,q⟩
theorem gj {a:Addr}:Ks (.ref a)≠.none:=by intro h;cases h
noncomputable def eqL:List V->List V->Bool
 | [],[]=>true
 | x::xs,y::ys=>eqV x y && eqL xs ys
 | _,_=>false
theorem yR:∀{xs ys:List V},eqL xs ys=true->xs.length=ys.length
 | [],[],_=>rfl
 | _::_,_::_,h=>by
  unfold eqL at h
  rw [Bool.and_eq_true] at h
  simp [yR h.2]
 | [],_::_,h=>by cases h
 | _::_,[],h=>by cases h
noncomputable def QC (K:WA):R2:=fun x y H Q=>∃a b xs ys,x=.ref a/\y=.ref b/\SqL K H a xs/\SqL K H b ys/\xs.all bU=true/\ys.all bU=true/\Q (.bl (eqL xs ys)) H
theorem yS:∀{xs ys:List V},xs.length=ys.length->(List.range xs.length).all (fun j=>eqV (xs.getD j .non) (ys.getD j .non))=eqL xs ys
 | [],[],_=>rfl
 | x::xs,y::ys,h=>by
  have ih:=yS (xs:=xs) (ys:=ys) (by simpa using h)
  rw [List.length_cons,List.range_succ_eq_map,List.all_cons,List.all_map]
  show (eqV x y && (List.range xs.length).all (fun j=>eqV (xs.getD j .non) (ys.getD j .non)))=(eqV x y && eqL xs ys)
  rw [ih]
 | [],_::_,h=>by simp at h
 | _::_,[],h=>by simp at h
theorem QD {X:Cx}(hu:X.A.units < cLine):OpR X (compareOp .Eq) (QC X.K):=by
 intro pins s σ H x y u v Q I rx ry h
 obtain ⟨a,b,xs,ys,rfl,rfl,ha,hb,fa,fb,q⟩:=h
 cases rx;cases ry
 obtain ⟨ia,ra,pa,za⟩:=I.list ha
 obtain ⟨ib,rb,pb,zb⟩:=I.list hb
 have la:=ra.length
 have lb:=rb.length
 by_cases hl:xs.length=ys.length
 ·refine PySem.SeqAt.eq_listAt (e:=fun j=>eqV (xs.getD j .non) (ys.getD j .non)) pa.isList pb.isList (by simp only [List.size_toArray];omega) hu (fun j h1 h2=>?_) ?_
  ·simp only [List.size_toArray] at h1 h2
   have hx:xs[j]?=some (xs.getD j .non):=by
    rw [List.getD_eq_getElem?_getD,List.getElem?_eq_getElem (by omega)];rfl
   have hy:ys[j]?=some (ys.getD j .non):=by
    rw [List.getD_eq_getElem?_getD,List.getElem?_eq_getElem (by omega)];rfl
   obtain ⟨u,eu,ru⟩:=ra.get hx
   obtain ⟨v,ev,rv⟩:=rb.get hy
   have e1:ia.toArray[j]=u:=by
    have:=List.getElem?_eq_some_iff.mp eu
    simpa using this.2
   have e2:ib.toArray[j]=v:=by
    have:=List.getElem?_eq_some_iff.mp ev
    simpa using this.2
   rw [e1,e2]
   exact wA ru rv (List.all_eq_true.mp fa _ (List.mem_of_getElem? hx)) (List.all_eq_true.mp fb _ (List.mem_of_getElem? hy))
  ·have e:(List.range ia.toArray.size).all (fun j=>eqV (xs.getD j .non) (ys.getD j .non))=eqL xs ys:=by
    rw [List.size_toArray,←la]
    exact yS hl
   rw [e]
   exact ⟨.bl (eqL xs ys),H,I,rfl,q⟩
 ·refine PySem.SeqAt.eq_list_lengthsAt pa.isList pb.isList (by simp only [List.size_toArray,bne_iff_ne,ne_eq];omega) hu ?_
  have e:eqL xs ys=false:=by
   cases z:eqL xs ys with
   | false=>rfl
   | true=>exact absurd (yR z) hl
  rw [e] at q
  exact ⟨.bl false,H,I,rfl,q⟩
end L2
namespace L2
theorem cC.of {ds:List Int}(l2:2<=ds.length)(l6:ds.length<=6)(b:∀i,i < ds.length->0<=ds.getD i 0/\ds.getD i 0<=500)(u:∀i,i+1 < ds.length->ds.getD i 0 < ds.getD (i+1) 0):cC ds:=by
 have get:∀i (h:i < ds.length),ds[i]=ds.getD i 0:=fun i h=>by rw [List.getD_eq_getElem?_getD,List.getElem?_eq_getElem h];rfl
 have up:∀k i,i+k+1 < ds.length->ds.getD i 0 < ds.getD (i+k+1) 0:=by
  intro k
  induction k with
  | zero=>intro i h;exact u i h
  | succ k ih=>
   intro i h
   have h1:=ih i (by omega)
   have h2:=u (i+k+1) (by omega)
   rw [show i+(k+1)+1=i+k+1+1 by omega]
   omega
 refine ⟨l2,l6,fun d hd=>?_,fun d hd=>?_,List.pairwise_iff_getElem.mpr fun i j hi hj hij=>?_⟩
 ·obtain ⟨i,hi,rfl⟩:=List.getElem_of_mem hd
  rw [get i hi];exact (b i hi).1
 ·obtain ⟨i,hi,rfl⟩:=List.getElem_of_mem hd
  rw [get i hi];exact (b i hi).2
 ·rw [get i hi,get j hj]
  have:=up (j - i - 1) i (by omega)
  rw [show i+(j - i - 1)+1=j by omega] at this
  exact this
end L2
namespace L2
end L2
namespace L2
open PySem PySem.W PySem.Spec PyProof.Rows
noncomputable def zj:V->Option String
 | .non=>some "NoneType"
 | .bl _=>some "bool"
 | .int _=>some "int"
 | .str _=>some "str"
 | _=>none
def TyX (K:Frag)(H:Hp)(x:V)(T:String):Prop:=zj x=some T\/(∃a xs,x=.ref a/\SqL K H a xs/\T="list")\/∃a xs,x=.ref a/\SqT K H a xs/\T="tuple"
noncomputable def kj:List String:=["NoneType","bool","int","str","list","tuple"]
noncomputable def EY (T n:String):Bool:=T == n || (T == "bool" && n == "int")
theorem Jl {K:Frag}{T n:String}(hT:T∈kj)(hn:n∈kj):kitOne K (.type T) (.type n)=some (EY T n):=by
 simp only [kj,List.mem_cons,List.not_mem_nil,or_false] at hT hn
 rcases hT with rfl | rfl | rfl | rfl | rfl | rfl<;>rcases hn with rfl | rfl | rfl | rfl | rfl | rfl<;>with_unfolding_all rfl
theorem Jm {K:Frag}{T:String}(hT:T∈kj):∀{ns:List String},(∀n∈ns,n∈kj)->kitAny K (.type T) (ns.map Value.type)=some (ns.any (EY T))
 | [],_=>rfl
 | n::r,h=>by
  have ih:=Jm (K:=K) hT (ns:=r) fun m hm=>h m (List.mem_cons_of_mem _ hm)
  rw [List.map_cons,List.any_cons]
  unfold kitAny
  rw [Jl hT (h n List.mem_cons_self)]
  cases e:EY T n with
  | true=>rfl
  | false=>rw [Bool.false_or];exact ih
section
variable {X:Cx}{pins:List (Addr×Obj)}{σ:St}{H:Hp}{s:Shared}
theorem Ce {K:Frag}{x:V}{T:String}(h:TyX K H x T):T∈kj:=by
 rcases h with h | ⟨_,_,_,_,rfl⟩ | ⟨_,_,_,_,rfl⟩
 ·cases x<;>simp only [zj,Option.some.injEq,reduceCtorEq] at h<;>subst h<;>decide
 ·decide
 ·decide
theorem EZ (I:Inv X pins σ H s){x:V}{u:Value}{T:String}(rx:bT x u)(ty:TyX X.K H x T):∃φ:Heap->Prop,KitX X.K u (.type T) φ/\φ s.heap/\u≠.builtin "__main__.__loader__#opaque":=by
 rcases ty with h | ⟨a,xs,rfl,h,rfl⟩ | ⟨a,xs,rfl,h,rfl⟩
 ·cases x with
  | non=>cases rx;cases h;exact ⟨_,kitx_none,trivial,fun z=>nomatch z⟩
  | bl b=>cases rx;cases h;exact ⟨_,kitx_bool,trivial,fun z=>nomatch z⟩
  | int i=>obtain ⟨t,rfl⟩:=rx;cases h;exact ⟨_,kitx_int,trivial,fun z=>nomatch z⟩
  | str i=>obtain ⟨t,rfl⟩:=rx;cases h;exact ⟨_,kitx_str,trivial,fun z=>nomatch z⟩
  | _=>cases h
 ·cases rx
  obtain ⟨its,r,pl,hz⟩:=I.list h
  obtain ⟨o,ho,hc,_⟩:=pl.isList
  exact ⟨_,kitx_list,⟨o,ho,hc⟩,fun z=>nomatch z⟩
 ·cases rx
  obtain ⟨its,r,⟨o,ho,hc,_⟩,hz⟩:=I.tuple h
  exact ⟨_,kitx_tuple,⟨o,ho,hc⟩,fun z=>nomatch z⟩
noncomputable def RS (K:Frag):List V->Hp->VK->Prop:=fun xs H Q=>∃x n T,xs=[x,.ty n]/\TyX K H x T/\n∈kj/\Q (.bl (EY T n)) H
theorem i8:dw X (.builtin "isinstance") (RS X.K):=by
 intro pins s σ H xs us Q I r h
 obtain ⟨x,n,T,rfl,ty,hn,q⟩:=h
 obtain ⟨u,v,rfl,ru,rv⟩:=ET r
 cases rv
 obtain ⟨φ,Z,p,ne⟩:=EZ I ru ty
 exact kia_one Z I.kIn p (Jl (Ce ty) hn) ne fun tk=>⟨.bl _,H,I.tok tk,rfl,q⟩
noncomputable def RT (K:Frag):List V->Hp->VK->Prop:=fun xs H Q=>∃(x:V) (tp:Addr) (ns:List String) (T:String),xs=[x,.ref tp]/\SqT K H tp (ns.map V.ty)/\TyX K H x T/\(∀n∈ns,n∈kj)/\Q (.bl (ns.any (EY T))) H
theorem Jn:∀{ns:List String} {its:List Value},bF (ns.map V.ty) its->its=ns.map Value.type
 | [],_,h=>by cases h;rfl
 | n::r,_,h=>by
  cases h with
  | cons a b=>rw [Jn b];cases a;rfl
theorem wD:dw X (.builtin "isinstance") (RT X.K):=by
 intro pins s σ H xs us Q I r h
 obtain ⟨x,tp,ns,T,rfl,ht,ty,hn,q⟩:=h
 obtain ⟨u,v,rfl,ru,rv⟩:=ET r
 cases rv
 obtain ⟨φ,Z,p,ne⟩:=EZ I ru ty
 obtain ⟨its,rt,⟨o,ho,hc,n,hd⟩,hz⟩:=I.tuple ht
 obtain rfl:=Jn rt
 obtain ⟨c,d,dt,sl⟩:=o
 dsimp only at hc hd
 subst hc hd
 exact kia_tup Z I.kIn p ho (Jm (Ce ty) hn) ne fun tk=>⟨.bl _,H,I.tok tk,rfl,q⟩
end
inductive Dt where
 | flat (v:V)
 | lst (ds:List Dt)
 | tup (ds:List Dt)
inductive Rep (K:Frag)(H:Hp):Nat->V->Dt->Prop
 | flat {n:Nat} {v:V} (h:bU v=true):Rep K H n v (.flat v)
 | lst {n:Nat} {a:Addr} {xs:List V} {ds:List Dt} (hs:SqL K H a xs) (hb:xs.length<=100000) (hl:xs.length=ds.length) (hr:∀(i:Nat) x d,xs[i]?=some x->ds[i]?=some d->Rep K H n x d):Rep K H (n+1) (.ref a) (.lst ds)
 | tup {n:Nat} {a:Addr} {xs:List V} {ds:List Dt} (hs:SqT K H a xs) (hb:xs.length<=100000) (hl:xs.length=ds.length) (hr:∀(i:Nat) x d,xs[i]?=some x->ds[i]?=some d->Rep K H n x d):Rep K H (n+1) (.ref a) (.tup ds)
theorem av.tup {K:Frag}{H H':Hp}{a:Addr}{xs:List V}(e:av H H')(h:SqT K H a xs):SqT K H' a xs:=by
 rcases h with (h | ⟨o,h⟩) | h
 ·exact .inl (.inl (e _ _ h))
 ·exact .inl (.inr ⟨o,e _ _ h⟩)
 ·exact .inr h
theorem Rep.same {K:Frag}{H H':Hp}(s:av H H'){n:Nat}{x:V}{d:Dt}(h:Rep K H n x d):Rep K H' n x d:=by
 induction h with
 | flat h=>exact .flat h
 | lst hs hb hl _ ih=>exact .lst (s.seq hs) hb hl ih
 | tup hs hb hl _ ih=>exact .tup (s.tup hs) hb hl ih
theorem LY {P:Program}{w:World}{K:Frag}{mg:Str->Option Value}{base:Heap}{CX:CXT}{k:Nat}{f:Addr}{fd:FuncData}{ps:List Str}:gH P w K mg base CX k f fd ps (fun _ _ _ _=>False):=
 ⟨fun _ _ _ _ h=>h.elim,fun _ _ _ _ _ _ _ _ _ _ _ _ _ h=>h.elim⟩
theorem kP {α:Type}{xs:List α}{k:Nat}{v:α}(h:xs[k]?=some v):atI xs (k:Int)=some v:=Jd h
end L2
namespace L2
open PySem PySem.Spec PyProof.Rows
noncomputable abbrev Ld:=Str×Int×Int
noncomputable def ldV (x:Ld):List V:=[.str x.1,.int x.2.1,.int x.2.2]
def kQ (K:WA)(H:Hp)(as:List Addr)(ls:List Ld):Prop:=as.length=ls.length/\∀(i:Nat) a x,as[i]?=some a->ls[i]?=some x->SqT K H a (ldV x)
def fI (K:WA)(H:Hp)(l:Addr)(ls:List Ld):Prop:=∃as:List Addr,SqL K H l (as.map V.ref)/\kQ K H as ls
def je (m:Int)(x:Ld):Prop:=(0<=x.2.1/\x.2.1 < m)/\(0<=x.2.2/\x.2.2 < m)
def Ht (x:Ld):Prop:=x.1="men"\/x.1="coal"
theorem kQ.same {K:WA}{H H':Hp}{as:List Addr}{ls:List Ld}(s:av H H')(h:kQ K H as ls):kQ K H' as ls:=⟨h.1,fun i a x e1 e2=>s.tup (h.2 i a x e1 e2)⟩
theorem fI.same {K:WA}{H H':Hp}{l:Addr}{ls:List Ld}(s:av H H')(h:fI K H l ls):fI K H' l ls:=by
 obtain ⟨as,a,b⟩:=h
 exact ⟨as,s.seq a,b.same s⟩
theorem kQ.nil {K:WA}{H:Hp}:kQ K H [] []:=⟨rfl,fun i a x e _=>by simp at e⟩
theorem kQ.app {K:WA}{H:Hp}{as bs:List Addr}{ls ks:List Ld}(h:kQ K H as ls)(g:kQ K H bs ks):kQ K H (as++bs) (ls++ks):=by
 refine ⟨by rw [List.length_append,List.length_append,h.1,g.1],fun i a x e1 e2=>?_⟩
 by_cases hi:i < as.length
 ·rw [List.getElem?_append_left hi] at e1
  rw [List.getElem?_append_left (by rw [←h.1];exact hi)] at e2
  exact h.2 i a x e1 e2
 ·rw [List.getElem?_append_right (by omega)] at e1
  rw [List.getElem?_append_right (by rw [←h.1];omega),←h.1] at e2
  exact g.2 _ a x e1 e2
theorem kQ.one {K:WA}{H:Hp}{a:Addr}{x:Ld}(h:SqT K H a (ldV x)):kQ K H [a] [x]:=by
 refine ⟨rfl,fun i b y e1 e2=>?_⟩
 cases i with
 | zero=>cases e1;cases e2;exact h
 | succ i=>simp at e1
theorem SqT.rew {K:WA}{H:Hp}{a l:Addr}{xs ys:List V}{o:HO}(h:SqT K H a xs)(hl:H l=some (.lst ys)):SqT K (upd H l o) a xs:=by
 rcases h with (h | ⟨o',h⟩) | h
 ·refine .inl (.inl ?_)
  rw [aN (fun e=>by rw [e,hl] at h;cases h)];exact h
 ·refine .inl (.inr ⟨o',?_⟩)
  rw [aN (fun e=>by rw [e,hl] at h;cases h)];exact h
 ·exact .inr h
theorem kQ.rew {K:WA}{H:Hp}{as:List Addr}{ls:List Ld}{l:Addr}{ys:List V}{o:HO}(h:kQ K H as ls)(hl:H l=some (.lst ys)):kQ K (upd H l o) as ls:=⟨h.1,fun i a x e1 e2=>(h.2 i a x e1 e2).rew hl⟩
theorem LZ {r:Int}(h0:0<=r)(h1:r < 2):∃k:Str,(k="men"\/k="coal")/\atI [V.str "men",V.str "coal"] r=some (.str k):=by
 rcases (by omega:r=0\/r=1) with rfl | rfl
 ·exact ⟨"men",.inl rfl,rfl⟩
 ·exact ⟨"coal",.inr rfl,rfl⟩
theorem wF {J:It}{g:TG}{tc:TT}{te:TE}{cm:List (Option Nat)}{σ:St}{Q:VK}{H:Hp}(n:Nat)(Pv:Nat->List V->Hp->Prop)(h0:Pv 0 [] H)
  (hgo:∀i acc H,i < n->Pv i acc H->J.go i H) (hst:∀acc H,Pv n acc H->J.stop n H)
  (hs:∀i acc H,i < n->Pv i acc H->acc.length < sizeLine/\∀x H',J.yld i H x H'->∀M:List V->Hp->Prop,(∀acc' H',Pv (i+1) acc' H'->M acc' H')->g x (cV cm σ) H' fun σ2 H2=>Wk (cV cm σ) σ2/\tc σ2 H2 fun b H3=>if b=true then te σ2 H3 fun v H4=>M (acc++[v]) H4 else M acc H3)
  (hd:∀acc H,Pv n acc H->∀p,H p=none->Q (.ref p) (upd H p (.lst acc))):ux J g tc te cm σ Q H:=by
 refine ⟨fun i m acc H=>m=n - i/\i<=n/\Pv i acc H,⟨n,by simp,Nat.zero_le _,h0⟩,?_⟩
 rintro i m acc H ⟨rfl,hi,p⟩
 by_cases hlt:i < n
 ·obtain ⟨hz,q⟩:=hs i acc H hlt p
  refine .inr ⟨hgo i acc H hlt p,hz,fun x H' y=>q x H' y (fun acc' H4=>∃m',m' < n - i/\m'=n - (i+1)/\i+1<=n/\Pv (i+1) acc' H4) fun acc' H4 q=>⟨n - (i+1),by omega,rfl,hlt,q⟩⟩
 ·have e:i=n:=by omega
  subst e
  exact .inl ⟨hst acc H p,hd acc H p⟩
theorem L3 {σ:St}{j:Nat}{x:V}(hj:σ[j]?=some none):Wk σ (σ.set j (some x)):=by
 refine ⟨by simp,fun k v e=>?_⟩
 by_cases hk:j=k
 ·subst hk;rw [hj] at e;cases e
 ·rw [List.getElem?_set_ne hk];exact e
theorem uz {lo:Int}{n:Nat}{te:TE}{cm:List (Option Nat)}{σ:St}{H:Hp}{Q:VK}(Pv:Nat->List V->Hp->Prop)(h0:Pv 0 [] H){j:Nat}(hj:(cV cm σ)[j]?=some none)
  (hs:∀i acc H,i < n->Pv i acc H->acc.length < sizeLine/\∀N:VK,(∀v H',Pv (i+1) (acc++[v]) H'->N v H')->te ((cV cm σ).set j (some (.int (lo+i)))) H N)
  (hd:∀acc H,Pv n acc H->∀p,H p=none->Q (.ref p) (upd H p (.lst acc))):ux (Itr lo n) (eW j) yp te cm σ Q H:=by
 refine wF n Pv h0 (fun i _ _ hi _=>hi) (fun _ _ _=>Nat.le_refl _) (fun i acc H hi p=>⟨(hs i acc H hi p).1,fun x H' y M hM=>?_⟩) hd
 obtain ⟨e,y⟩:=y
 subst e y
 refine ⟨L3 hj,?_⟩
 unfold yp;dsimp only
 split
 ·exact (hs i acc H' hi p).2 _ fun v H4 q=>hM _ _ q
 ·rename_i z;exact absurd rfl z
theorem ff {K:WA}{H:Hp}{a:Addr}{xs:List V}{n:Nat}(h:SqT K H a xs)(hb:xs.length<=100000)(hf:∀x∈xs,bU x=true):Rep K H (n+1) (.ref a) (.tup (xs.map Dt.flat)):=by
 refine .tup h hb (by rw [WB]) fun i y d e1 e2=>?_
 rw [List.getElem?_map,e1] at e2
 cases e2
 exact .flat (hf y (List.mem_of_getElem? e1))
section
variable {X:Cx}{e:Expr}{te:TE}{p1 p2 pos1 pos2:Pos}
theorem Cf:∀{vs:List Value} {ms:List Int},IntsAre vs ms->bF (ms.map V.int) vs
 | _,_,.nil=>.nil
 | _,_,.cons n t h=>.cons ⟨t,rfl⟩ (Cf h)
theorem wG:∀{ms:List Int} {vs:List Value},bF (ms.map V.int) vs->IntsAre vs ms
 | [],_,h=>by cases h;exact .nil
 | m::ms,_,h=>by
  cases h with
  | cons a b=>
   obtain ⟨t,rfl⟩:=a
   exact .cons m t (wG b)
end
section
variable {X:Cx}
theorem Inv.turnedL {pins:List (Addr×Obj)}{σ:St}{H:Hp}{s:Shared}{h':Heap}{t':Nat}{fp:List Addr}(I:Inv X pins σ H s)(k:∀b o,b∉fp->s.heap.get? b=some o->h'.get? b=some o)(hf:∀b∈fp,wq X pins H b) :
  Inv X pins σ H {s with heap:=h',toks:=t'}:=by
 have nit:∀b u,H b=some u->b∉fp:=fun b u e z=>by rw [(hf b z).1] at e;cases e
 refine I.step (g':=s.gens) (d':=s.drawn) (ch:=fp) (fun b hb=>⟨(hf b hb).2.2.2.1,(hf b hb).2.1,(hf b hb).2.2.2.2.1,(hf b hb).2.2.2.2.2⟩) (fun b o _ _ hc e _=>k b o hc e) (fun b o _ _ hc e _=>⟨o.slots,k b o hc e⟩) (fun _ _ _ _ n=>n)
  (fun b o hc e=>⟨o,k b o hc e⟩) (fun _ _ e=>e) (fun _ _ _ e=>e) (fun b ps e=>⟨#[],by rw [e];simp⟩) (fun m hm=>?_) (fun b u e=>?_) I.bare
 ·obtain ⟨o,es,ep,ho,r⟩:=hm
  exact ⟨o,es,ep,k _ o (fun z=>(hf _ z).2.1 rfl) ho,r⟩
 ·refine (I.hok b u e).stay (fun c v hc q=>k c v ?_ q) (fun _ q=>q) fun _ _ q=>q
  rcases hc with z | z
  ·exact z▸nit b u e
  ·exact nit c _ z
theorem Inv.handed {pins:List (Addr×Obj)}{σ:St}{H:Hp}{s:Shared}{h':Heap}{t':Nat}{fp:List Addr}{xs:List V}{us:List Value}{T:Addr}{n:Nat}(I:Inv X pins σ H s)(k:∀b o,b∉fp->s.heap.get? b=some o->h'.get? b=some o)(hf:∀b∈fp,wq X pins H b)
  (hT:s.heap.objs.size<=T) (hz:xs.length<=sizeLine) (r:bF xs us) (e:h'.get? T=some {cls:=.type "tuple",data:=.seq us.toArray n}):Inv X pins σ (upd H T (.tup xs)) {s with heap:=h',toks:=t'}:=by
 have I1:Inv X pins σ H {s with heap:=h',toks:=t'}:=I.turnedL k hf
 have hn:H T=none:=I.hok.fresh hT
 obtain ⟨f0,f1,f2,f3,f4,f5⟩:=I.fpOk hT hn
 have h0:X.s₀.heap.objs.size<=T:=Nat.le_trans I.sz hT
 exact I1.track hn h0 f1 f4 f5 ⟨hz,us,r,⟨_,e,⟨rfl,_,rfl⟩,rfl⟩⟩
noncomputable def Ite (K:WA)(a:Addr):It:=
 ⟨fun i H=>∃xs x,SqL K H a xs/\xs[i]?=some x,fun i H y H'=>∃t x,y=.ref t/\H t=none/\H'=upd H t (.tup [.int (i:Nat),x])/\∀xs,SqL K H a xs->xs[i]?=some x,fun i H=>∃xs,SqL K H a xs/\xs.length<=i⟩
theorem Ku {P:Program}{w:World}{K:WA}{elts:List Expr}{x1:Nat}{tpos:Pos}(a e it:Addr)(hne:e≠it):J2 P w K (.Tuple elts x1 tpos) (Ite K a) [e,it] e (fun i h=>(∃old,IsEnum h e it (i:Nat) old)/\h.IsListIter it a i) where
 mem:=by simp
 obj:=fun i h st b hb=>by
  obtain ⟨⟨old,h1⟩,o,h2,_,h3⟩:=st
  rcases List.mem_cons.mp hb with rfl | hb
  ·exact ⟨_,h1,fun v z=>by
    have z':Data.fields _=Data.cell v:=z
    cases z'⟩
  ·rw [List.mem_singleton] at hb
   subst hb
   exact ⟨o,h2,fun v z=>by rw [h3] at z;cases z⟩
 keep:=fun i h h' st k=>by
  obtain ⟨⟨old,h1⟩,h2⟩:=st
  exact ⟨⟨old,k e (by simp) _ h1⟩,h2.at fun o q=>k it (by simp) o q⟩
 item:=by
  intro X hP hw hK hc i pins s σ H E I hf st hg
  subst hP hw hK
  obtain ⟨xs,x,hq,hx⟩:=hg
  obtain ⟨its,rv,p,hz⟩:=I.list hq
  obtain ⟨u,hu,ru⟩:=rv.get hx
  obtain ⟨⟨old,h1⟩,h2⟩:=st
  have hel:e < s.heap.objs.size:=Heap.lt_size h1
  have hil:it < s.heap.objs.size:=by
   obtain ⟨o,q,_⟩:=h2
   exact Heap.lt_size q
  refine wpAny_pyNext_enum_item h1 h2 p.isList (x:=u) (by simpa using hu) hne fun h' g1 g2 g3 g4 g5=>?_
  have kf:∀b o,b∉[e,it]->s.heap.get? b=some o->h'.get? b=some o:=fun b o hb q=>g5 b o (fun z=>hb (by simp [z])) (fun z=>hb (by simp [z])) q
  have I1:Inv X pins σ (upd H s.heap.objs.size (.tup [.int (i:Nat),x])) {s with heap:=h',toks:=s.toks+1}:=I.handed (us:=[Value.int (i:Nat) s.toks,u]) kf hf (Nat.le_refl _) (by show 2<=sizeLine;decide) (.cons ⟨_,rfl⟩ (.cons ru .nil)) g3
  have hn:H s.heap.objs.size=none:=I.hok.fresh (Nat.le_refl _)
  have hf1:∀b∈[e,it],upd H s.heap.objs.size (.tup [.int (i:Nat),x]) b=none:=fun b hb=>by
   have hlt:b < s.heap.objs.size:=by
    rcases List.mem_cons.mp hb with rfl | hb
    ·exact hel
    ·rw [List.mem_singleton] at hb
     subst hb
     exact hil
   rw [aN (Nat.ne_of_lt hlt)]
   exact (hf b hb).1
  refine ⟨_,rfl,wpAny_letOwnedTupleGo_enum (s:={s with heap:=h',toks:=s.toks+1}) g1 fun h2' q1 q2=>?_⟩
  have I2:Inv X pins σ (upd H s.heap.objs.size (.tup [.int (i:Nat),x])) {s with heap:=h2',toks:=s.toks+1}:=I1.turnedL (s:={s with heap:=h',toks:=s.toks+1}) (t':=s.toks+1) (fp:=[e,it]) (fun b o hb q=>(q2.2 b (fun z=>hb (by simp [z]))).trans q) fun b hb=>⟨hf1 b hb,(hf b hb).2⟩
  refine ⟨.ref s.heap.objs.size,_,I2,rfl,⟨_,x,rfl,hn,rfl,fun ys hy=>by rw [I.list_inj hy hq];exact hx⟩,⟨⟨u,?_⟩,?_⟩,hf1⟩
  ·have:((i+1:Nat):Int)=(i:Int)+1:=by omega
   rw [this]
   exact q1
  ·exact g2.at fun o q=>(q2.2 it (Ne.symm hne)).trans q
 done:=by
  intro X hP hw hK hc i pins s σ H E I hf st hg
  subst hP hw hK
  obtain ⟨xs,hq,hx⟩:=hg
  obtain ⟨its,rv,p,hz⟩:=I.list hq
  have hl:=rv.length
  obtain ⟨⟨old,h1⟩,h2⟩:=st
  exact wpAny_pyNext_enum_end (I.ok.hd hc) h1 h2 p.isList (by simp;omega) fun h' eb=>⟨rfl,I.turnedL (t':=s.toks) (fun b o hb q=>eb b o (fun z=>hb (by simp [z])) q) hf⟩
 self:=fun _ _ _ _ _ st h=>by
  obtain ⟨⟨old,h1⟩,h2⟩:=st
  exact wpAny_pyIter_enum h1 h
noncomputable def Pn (K:WA)(te:TE):TI:=fun σ H R=>te σ H fun x H1=>∃a,x=.ref a/\(∃xs,SqL K H1 a xs)/\R (Ite K a) H1
theorem NR {a:Expr}{te:TE}{p pos tpos:Pos}{elts:List Expr}{x1:Nat}(hg:Gl X "enumerate")(hm:X.mg "enumerate"=none)(hb:bootBuiltins "enumerate"=some (.type "enumerate"))(he:PE X a te)(hs:starEach [a] X.env=[(false,eval a X.env)]:=by rfl) :
  PI X (.Tuple elts x1 tpos) (.Call (.Name "enumerate" p) [a] [] pos) (Pn X.K te):=by
 intro pins s σ H R I h
 refine Call_ (sX I hg hm hb (PyProof.Rows.callWith_type1 ?_ hs rfl))
 rw [hs]
 refine Calls.spliced_cons (thn (he pins s σ H _ I h) fun u s1 ⟨x,H1,I1,r1,l,ex,⟨xs,hq⟩,q⟩=>?_)
 subst ex
 cases r1
 refine Calls.spliced_nil ?_
 obtain ⟨its,rv,pl,hz⟩:=I1.list hq
 refine call_enumerate_list pl.isList fun h' h1 h2 h3 h4=>?_
 refine wpAny_pyIter_enum h1 ?_
 have hne:s1.heap.objs.size+1≠s1.heap.objs.size:=Nat.ne_of_gt (Nat.lt_succ_self _)
 refine ⟨s1.heap.objs.size+1,[s1.heap.objs.size+1,s1.heap.objs.size],_,_,H1,rfl,I1.kept (t':=s1.toks) h4,Ku l _ _ hne,⟨⟨_,h1⟩,h2⟩,fun b hb=>?_,q⟩
 rcases List.mem_cons.mp hb with rfl | hb
 ·exact I1.fpOk (Nat.le_succ _) (I1.hok.fresh (Nat.le_succ _))
 ·rw [List.mem_singleton] at hb
  subst hb
  exact I1.fpOk (Nat.le_refl _) (I1.hok.fresh (Nat.le_refl _))
noncomputable def Itz (K:WA)(a b:Addr):It:=
 ⟨fun i H=>∃xs ys x y,SqL K H a xs/\SqL K H b ys/\xs[i]?=some x/\ys[i]?=some y,fun i H v H'=>∃t x y,v=.ref t/\H t=none/\H'=upd H t (.tup [x,y])/\(∀xs,SqL K H a xs->xs[i]?=some x)/\∀ys,SqL K H b ys->ys[i]?=some y,
  fun i H=>∃xs ys,SqL K H a xs/\SqL K H b ys/\(xs.length<=i\/ys.length<=i)⟩
theorem L4 {P:Program}{w:World}{K:WA}{elts:List Expr}{x1:Nat}{tpos:Pos}(l1 l2 z TI TO i1 i2:Addr)(D:ZipApart z TI TO i1 i2 l1 l2) :
  J2 P w K (.Tuple elts x1 tpos) (Itz K l1 l2) [z,TI,TO,i1,i2] z (fun i h=>IsZip h z TI TO .none/\IsPair h TI (.ref i1) (.ref i2)/\(∃u v,IsPair h TO u v)/\h.IsListIter i1 l1 i/\h.IsListIter i2 l2 i) where
 mem:=by simp
 obj:=fun i h st b hb=>by
  obtain ⟨h1,h2,⟨u,v,h3⟩,⟨o4,h4,_,d4⟩,⟨o5,h5,_,d5⟩⟩:=st
  simp only [List.mem_cons,List.not_mem_nil,or_false] at hb
  rcases hb with rfl | rfl | rfl | rfl | rfl
  ·exact ⟨_,h1,fun v z=>by
    have z':Data.fields _=Data.cell v:=z
    cases z'⟩
  ·exact ⟨_,h2,fun v z=>by
    have z':Data.seq _ _=Data.cell v:=z
    cases z'⟩
  ·exact ⟨_,h3,fun v z=>by
    have z':Data.seq _ _=Data.cell v:=z
    cases z'⟩
  ·exact ⟨o4,h4,fun v z=>by rw [d4] at z;cases z⟩
  ·exact ⟨o5,h5,fun v z=>by rw [d5] at z;cases z⟩
 keep:=fun i h h' st k=>by
  obtain ⟨h1,h2,⟨u,v,h3⟩,h4,h5⟩:=st
  exact ⟨k z (by simp) _ h1,k TI (by simp) _ h2,⟨u,v,k TO (by simp) _ h3⟩,h4.at fun o q=>k i1 (by simp) o q,h5.at fun o q=>k i2 (by simp) o q⟩
 item:=by
  intro X hP hw hK hc i pins s σ H E I hf st hg
  subst hP hw hK
  obtain ⟨xs,ys,x,y,hq1,hq2,hx,hy⟩:=hg
  obtain ⟨its1,rv1,p1,hz1⟩:=I.list hq1
  obtain ⟨its2,rv2,p2,hz2⟩:=I.list hq2
  obtain ⟨u,hu,ru⟩:=rv1.get hx
  obtain ⟨v,hv,rv⟩:=rv2.get hy
  obtain ⟨h1,h2,⟨c1,c2,h3⟩,h4,h5⟩:=st
  have lt:∀b∈[z,TI,TO,i1,i2],b < s.heap.objs.size:=fun b hb=>by
   simp only [List.mem_cons,List.not_mem_nil,or_false] at hb
   rcases hb with rfl | rfl | rfl | rfl | rfl
   ·exact Heap.lt_size h1
   ·exact Heap.lt_size h2
   ·exact Heap.lt_size h3
   ·obtain ⟨o,q,_⟩:=h4;exact Heap.lt_size q
   ·obtain ⟨o,q,_⟩:=h5;exact Heap.lt_size q
  refine wpAny_pyNext_zip_item D h1 h2 h3 h4 h5 p1.isList p2.isList (x:=u) (y:=v) (by simpa using hu) (by simpa using hv) fun h' g1 g2 g3 g4 g5 g6 g7=>?_
  have kf:∀b o,b∉[z,TI,TO,i1,i2]->s.heap.get? b=some o->h'.get? b=some o:=fun b o hb q=>g7 b o (fun e=>hb (by simp [e])) (fun e=>hb (by simp [e])) (fun e=>hb (by simp [e])) (fun e=>hb (by simp [e])) q
  have I1:Inv X pins σ (upd H s.heap.objs.size (.tup [x,y])) {s with heap:=h',toks:=s.toks}:=I.handed (us:=[u,v]) kf hf (Nat.le_refl _) (by show 2<=sizeLine;decide) (.cons ru (.cons rv .nil)) g5
  have hn:H s.heap.objs.size=none:=I.hok.fresh (Nat.le_refl _)
  have hf1:∀b∈[z,TI,TO,i1,i2],upd H s.heap.objs.size (.tup [x,y]) b=none:=fun b hb=>by
   rw [aN (Nat.ne_of_lt (lt b hb))]
   exact (hf b hb).1
  refine ⟨_,rfl,wpAny_letOwnedTupleGo_zip (s:={s with heap:=h'}) g1 fun h2' q1 q2=>?_⟩
  have I2:Inv X pins σ (upd H s.heap.objs.size (.tup [x,y])) {s with heap:=h2',toks:=s.toks}:=I1.turnedL (s:={s with heap:=h',toks:=s.toks}) (t':=s.toks) (fp:=[z,TI,TO,i1,i2]) (fun b o hb q=>(q2.2 b (fun e=>hb (by simp [e]))).trans q) fun b hb=>⟨hf1 b hb,(hf b hb).2⟩
  have k2:∀b o,b≠z->h'.get? b=some o->h2'.get? b=some o:=fun b o hb q=>(q2.2 b hb).trans q
  have gTI:IsPair h' TI (.ref i1) (.ref i2):=g7 TI _ D.TIz D.TITO D.TIi1 D.TIi2 h2
  refine ⟨.ref s.heap.objs.size,_,I2,rfl,⟨_,x,y,rfl,hn,rfl,fun zs hz=>by rw [I.list_inj hz hq1];exact hx,fun zs hz=>by rw [I.list_inj hz hq2];exact hy⟩,⟨q1,k2 _ _ D.TIz gTI,⟨u,v,k2 _ _ D.TOz g2⟩,g3.at fun o q=>k2 _ _ D.i1z q,g4.at fun o q=>k2 _ _ D.i2z q⟩,hf1⟩
 done:=by
  intro X hP hw hK hc i pins s σ H E I hf st hg
  subst hP hw hK
  obtain ⟨xs,ys,hq1,hq2,hend⟩:=hg
  obtain ⟨its1,rv1,p1,hz1⟩:=I.list hq1
  obtain ⟨its2,rv2,p2,hz2⟩:=I.list hq2
  have hl1:=rv1.length
  have hl2:=rv2.length
  obtain ⟨h1,h2,⟨c1,c2,h3⟩,h4,h5⟩:=st
  refine wpAny_pyNext_zip_end (I.ok.hd hc) D h1 h2 h3 h4 h5 p1.isList p2.isList ?_ fun h' eb=>⟨rfl,I.turnedL (t':=s.toks) (fun b o hb q=>eb b o (fun e=>hb (by simp [e])) (fun e=>hb (by simp [e])) (fun e=>hb (by simp [e])) (fun e=>hb (by simp [e])) q) hf⟩
  rcases hend with e | e
  ·left;simp;omega
  ·right;simp;omega
 self:=fun _ _ _ _ _ st h=>wpAny_pyIter_zip st.1 h
noncomputable def RU (K:WA)(ta tb:TE):TI:=fun σ H R=>ta σ H fun x H1=>tb σ H1 fun y H2=>∃a b,x=.ref a/\y=.ref b/\(∃xs,SqL K H2 a xs)/\(∃ys,SqL K H2 b ys)/\R (Itz K a b) H2
theorem QE {a b:Expr}{ta tb:TE}{p pos tpos:Pos}{elts:List Expr}{x1:Nat}(hg:Gl X "zip")(hm:X.mg "zip"=none)(hb:bootBuiltins "zip"=some (.type "zip"))(ha:PE X a ta)(hb2:PE X b tb)(hs:starEach [a,b] X.env=[(false,eval a X.env),(false,eval b X.env)]:=by rfl)(hs2:starEach [b] X.env=[(false,eval b X.env)]:=by rfl) :
  PI X (.Tuple elts x1 tpos) (.Call (.Name "zip" p) [a,b] [] pos) (RU X.K ta tb):=by
 intro pins s σ H R I h
 refine Call_ (sX I hg hm hb (PyProof.Rows.callWith_type1 ?_ (by rw [hs,hs2]) (by rw [hs2];rfl)))
 rw [hs]
 refine Calls.spliced_cons (thn (ha pins s σ H _ I h) fun u s1 ⟨x,H1,I1,r1,q1⟩=>?_)
 refine Calls.spliced_cons (thn (hb2 pins s1 σ H1 _ I1 q1) fun v s2 ⟨y,H2,I2,r2,l1,l2,ex,ey,⟨xs,hq1⟩,⟨ys,hq2⟩,q⟩=>?_)
 subst ex ey
 cases r1
 cases r2
 refine Calls.spliced_nil ?_
 obtain ⟨its1,rv1,p1,hz1⟩:=I2.list hq1
 obtain ⟨its2,rv2,p2,hz2⟩:=I2.list hq2
 have a1:l1 < s2.heap.objs.size:=by obtain ⟨o,q,_⟩:=p1.isList;exact Heap.lt_size q
 have a2:l2 < s2.heap.objs.size:=by obtain ⟨o,q,_⟩:=p2.isList;exact Heap.lt_size q
 refine call_zip_2 p1.isList p2.isList fun h' h1 h2 h3 h4 h5 h6 h7=>?_
 refine wpAny_pyIter_zip h1 ?_
 have n0:∀l:Nat,l < s2.heap.objs.size->∀k:Nat,l≠s2.heap.objs.size+k:=fun l hl k=>by omega
 have n1:∀j k:Nat,j≠k->s2.heap.objs.size+j≠s2.heap.objs.size+k:=fun j k hjk=>by omega
 refine ⟨s2.heap.objs.size+4,[s2.heap.objs.size+4,s2.heap.objs.size+2,s2.heap.objs.size+3,s2.heap.objs.size+0,s2.heap.objs.size+1],_,_,H2,rfl,I2.kept (t':=s2.toks) h7,
  L4 l1 l2 _ _ _ _ _ ⟨n1 2 4 (by decide),n1 3 4 (by decide),n1 0 4 (by decide),n1 1 4 (by decide),n1 2 3 (by decide),n1 2 0 (by decide),n1 2 1 (by decide),n1 3 0 (by decide),n1 3 1 (by decide),n1 0 1 (by decide),n0 _ a1 4,n0 _ a1 3,n0 _ a1 0,n0 _ a1 1,n0 _ a2 4,n0 _ a2 3,n0 _ a2 0,n0 _ a2 1⟩,⟨h1,h2,⟨_,_,h3⟩,h4,h5⟩,fun b hb=>?_,q⟩
 have hle:s2.heap.objs.size<=b:=by
  simp only [List.mem_cons,List.not_mem_nil,or_false] at hb
  rcases hb with rfl | rfl | rfl | rfl | rfl<;>exact Nat.le_add_right _ _
 exact I2.fpOk hle (I2.hok.fresh hle)
end
theorem E1 {J:It}{g:TG}{tb:TS}{D:j1}{σ:St}{H:Hp}(n:Nat)(Pv:Nat->St->Hp->Prop)(h0:Pv 0 σ H)(hgo:∀i σ H,i < n->Pv i σ H->J.go i H)(hst:∀σ H,Pv n σ H->J.stop n H)
  (hs:∀i σ H,i < n->Pv i σ H->∀x H',J.yld i H x H'->g x σ H' fun σ2 H2=>tb {D with nx:=Pv (i+1),ct:=Pv (i+1),bk:=D.nx} σ2 H2) (hd:∀σ H,Pv n σ H->D.nx σ H):Ji J g tb D σ H:=by
 refine ⟨fun i m σ H=>m=n - i/\i<=n/\Pv i σ H,⟨n,by simp,Nat.zero_le _,h0⟩,?_⟩
 rintro i m σ H ⟨rfl,hi,p⟩
 by_cases hlt:i < n
 ·exact .inr ⟨hgo i σ H hlt p,Pv (i+1),fun σ' H' q=>⟨n - (i+1),by omega,rfl,hlt,q⟩,fun x H' y=>hs i σ H hlt p x H' y⟩
 ·have e:i=n:=by omega
  subst e
  exact .inl ⟨hst σ H p,hd σ H p⟩
section
variable {X:Cx}
noncomputable def QF (K:WA):V->List V->Hp->VK->Prop:=fun x vs H Q=>∃(l:Addr) (ns:List Int) (k:Int),x=.ref l/\vs=[.int k]/\SqL K H l (ns.map V.int)/\k∈ns/\Q (.int (ns.idxOf k:Nat)) H
end
def aD (p:Addr)(H H':Hp):Prop:=∀b o,b≠p->H b=some o->H' b=some o
theorem aD.of {p:Addr}{H H':Hp}(s:av H H'):aD p H H':=fun b o _ e=>s b o e
theorem aD.trans {p:Addr}{H H1 H2:Hp}(a:aD p H H1)(b:aD p H1 H2):aD p H H2:=fun c o n e=>b c o n (a c o n e)
theorem aD.put {p:Addr}{H H':Hp}{o:HO}(s:aD p H H'):aD p H (upd H' p o):=fun b u n e=>by rw [aN n];exact s b u n e
theorem Rd.keep {p a:Addr}{H H':Hp}{u:HO}(s:aD p H H')(n:a≠p)(h:Rd H a u):Rd H' a u:=by
 rcases h with h | ⟨o,h⟩
 ·exact .inl (s _ _ n h)
 ·exact .inr ⟨o,s _ _ n h⟩
theorem SqT.keep {K:WA}{p a:Addr}{H H':Hp}{xs ys:List V}(s:aD p H H')(hp:H p=some (.lst ys))(h:SqT K H a xs):SqT K H' a xs:=by
 rcases h with h | h
 ·refine .inl (h.keep s fun z=>?_)
  subst z
  rcases h with h | ⟨o,h⟩
  ·rw [hp] at h;cases h
  ·rw [hp] at h;cases h
 ·exact .inr h
theorem Rd.keepI {p a C dx:Addr}{H H':Hp}{fs:List (Str×V)}{u:HO}(s:aD p H H')(hp:H p=some (.ins C dx fs))(hu:∀C dx fs,u≠.ins C dx fs)(h:Rd H a u):Rd H' a u:=by
 refine h.keep s fun z=>?_
 subst z
 rcases h with h | ⟨o,h⟩
 ·rw [hp] at h;cases h;exact hu _ _ _ rfl
 ·rw [hp] at h;cases h
theorem SqL.keepI {K:WA}{p a C dx:Addr}{H H':Hp}{xs:List V}{fs:List (Str×V)}(s:aD p H H')(hp:H p=some (.ins C dx fs))(h:SqL K H a xs):SqL K H' a xs:=by
 rcases h with h | h
 ·exact .inl (h.keepI s hp fun _ _ _ z=>HO.noConfusion z)
 ·exact .inr h
theorem SqT.keepI {K:WA}{p a C dx:Addr}{H H':Hp}{xs:List V}{fs:List (Str×V)}(s:aD p H H')(hp:H p=some (.ins C dx fs))(h:SqT K H a xs):SqT K H' a xs:=by
 rcases h with h | h
 ·exact .inl (h.keepI s hp fun _ _ _ z=>HO.noConfusion z)
 ·exact .inr h
theorem fI.keepI {K:WA}{p l C dx:Addr}{H H':Hp}{ls:List Ld}{fs:List (Str×V)}(s:aD p H H')(hp:H p=some (.ins C dx fs))(h:fI K H l ls):fI K H' l ls:=by
 obtain ⟨as,a,b⟩:=h
 exact ⟨as,a.keepI s hp,b.1,fun i a x e1 e2=>(b.2 i a x e1 e2).keepI s hp⟩
structure dH (C:Addr)(H:Hp)(y kn wh:Addr)(ks:List Str)(ws:List Int)(m:Int):Prop where
 ob:∃dx,H y=some (.ins C dx [("kinds",.ref kn),("where",.ref wh),("many",.int m)])
 okn:H kn=some (.lst (ks.map V.str))
 owh:H wh=some (.lst (ws.map V.int))
theorem dH.same {C:Addr}{H H':Hp}{y kn wh:Addr}{ks:List Str}{ws:List Int}{m:Int}(h:dH C H y kn wh ks ws m)(s:av H H'):dH C H' y kn wh ks ws m:=by
 obtain ⟨⟨dx,a⟩,b,c⟩:=h
 exact ⟨⟨dx,s _ _ a⟩,s _ _ b,s _ _ c⟩
theorem dH.off {C:Addr}{H H':Hp}{p y kn wh:Addr}{ks:List Str}{ws:List Int}{m:Int}{ys:List V}(h:dH C H y kn wh ks ws m)(s:aD p H H')(hp:H p=some (.lst ys))(n1:kn≠p)(n2:wh≠p):dH C H' y kn wh ks ws m:=by
 obtain ⟨⟨dx,a⟩,b,c⟩:=h
 exact ⟨⟨dx,s _ _ (fun z=>by rw [z,hp] at a;cases a) a⟩,s _ _ n1 b,s _ _ n2 c⟩
theorem dH.put {C:Addr}{H H':Hp}{y kn wh:Addr}{ks:List Str}{ws ws':List Int}{m:Int}(h:dH C H y kn wh ks ws m)(s:aD wh H H')(n1:kn≠wh)(e:H' wh=some (.lst (ws'.map V.int))):dH C H' y kn wh ks ws' m:=by
 obtain ⟨⟨dx,a⟩,b,c⟩:=h
 exact ⟨⟨dx,s _ _ (fun z=>by rw [z,c] at a;cases a) a⟩,s _ _ n1 b,e⟩
theorem L5 {K:WA}{l:Addr}{ls:List Ld}{te:TE}{cm:List (Option Nat)}{σ:St}{H:Hp}{Q:VK}(f:Ld->V)(hL:fI K H l ls)(hn:ls.length<=sizeLine)(hcm:cV cm σ=[none,none,none])
  (he:∀x∈ls,∀N:VK,N (f x) H->te [some (.str x.1),some (.int x.2.1),some (.int x.2.2)] H N)
  (hd:∀p,H p=none->Q (.ref p) (upd H p (.lst (ls.map f)))):ux (Itl K l) (P2 K 3 (ER (eW 0) (ER (eW 1) (ER (eW 2) P1)))) yp te cm σ Q H:=by
 obtain ⟨as,hS,hlen,hT⟩:=hL
 refine wF ls.length (fun i acc H'=>H'=H/\acc=(ls.take i).map f) ⟨rfl,by simp⟩ ?_ ?_ ?_ ?_
 ·rintro i acc H' hi ⟨rfl,_⟩
  have ha:as[i]?=some as[i]:=List.getElem?_eq_getElem (by omega)
  exact ⟨_,.ref as[i],hS,by rw [List.getElem?_map,ha];rfl⟩
 ·rintro acc H' ⟨rfl,_⟩
  exact ⟨_,hS,by rw [WB];omega⟩
 ·rintro i acc H' hi ⟨rfl,rfl⟩
  have ha:as[i]?=some as[i]:=List.getElem?_eq_getElem (by omega)
  have hx:ls[i]?=some ls[i]:=List.getElem?_eq_getElem hi
  refine ⟨by rw [WB,List.length_take];omega,fun x H2 y M hM=>?_⟩
  obtain ⟨e,y⟩:=y
  subst e
  have hy:=y _ hS
  rw [List.getElem?_map,ha] at hy
  cases hy
  rw [hcm]
  refine ⟨_,_,rfl,hT i _ _ ha hx,rfl,_,_,rfl,_,_,rfl,_,_,rfl,rfl,⟨rfl,fun k v e=>?_⟩,?_⟩
  ·match k,e with
   | 0,e=>cases e
   | 1,e=>cases e
   | 2,e=>cases e
  ·unfold yp;dsimp only
   split
   ·refine he ls[i] (List.getElem_mem _) _ (hM _ _ ⟨rfl,?_⟩)
    rw [List.take_succ_eq_append_getElem hi,List.map_append];rfl
   ·rename_i z;exact absurd rfl z
 ·rintro acc H' ⟨rfl,rfl⟩ p hp
  rw [List.take_length]
  exact hd p hp
theorem Du {n:Nat}{i:Int}(h0:0<=i)(h1:i < n):ixN n i=some i.toNat:=by
 unfold ixN
 rw [if_pos h0,if_pos h1]
theorem cW {ds:List Int}{i:Nat}(h:i < ds.length):ds.getD i 0∈ds:=by
 rw [List.getD_eq_getElem?_getD,List.getElem?_eq_getElem h]
 exact List.getElem_mem h
theorem me {ds:List Int}{i:Nat}(h:i < ds.length):ds[i]?=some (ds.getD i 0):=by
 rw [List.getD_eq_getElem?_getD,List.getElem?_eq_getElem h];rfl
theorem Cg {c:Int}(h0:0<=c)(h1:c < 2):atI [V.int 10,V.int 11] c=some (.int (10+c)):=by
 rcases (by omega:c=0\/c=1) with rfl | rfl<;>rfl
theorem Kv {ws:List Int}{k:Int}{i:Nat}(hi:i < ws.length)(he:ws.getD i 0=k)(hn:∀j,j < i->ws.getD j 0≠k):ws.idxOf k=i:=by
 have hm:k∈ws:=he▸cW hi
 have hlt:ws.idxOf k < ws.length:=List.idxOf_lt_length_iff.mpr hm
 have e1:ws.getD (ws.idxOf k) 0=k:=by
  rw [List.getD_eq_getElem?_getD,List.getElem?_eq_getElem hlt]
  exact List.getElem_idxOf hlt
 rcases Nat.lt_trichotomy (ws.idxOf k) i with h | h | h
 ·exact absurd e1 (hn _ h)
 ·exact h
 ·have:=ne_of_lt_idxOf (ns:=ws) (k:=k) h (by omega)
  rw [List.getD_eq_getElem?_getD,List.getElem?_eq_getElem hi] at he
  exact absurd he (by simpa using this)
section
variable {X:Cx}
theorem Hu {tg iter elt:Expr}{ifs:List Expr}{scope:Scope}{pos spos py:Pos}{Nc:List Str}{cm:List (Option Nat)}{wi:TI}{g:TG}{tc:TT}{te:TE}{iy:Nat}{y:Str}(hN:X.N.Nodup)(hiy:X.N[iy]?=some y)(hly:X.env.scope.names.lookup y=some .local)
  (hsw:swapsWith (.ListComp elt [⟨tg,iter,ifs,0⟩] scope pos) (some (.Name y py)) spos.line X.env=pure true)
  (hc:X.calm=true) (hi:PI X tg iter wi) (hkind:scope.kind=.function) (hcell:∀y∈scope.names,y.2≠.cell) (hnames:∀y∈scope.names,y.2=.local->scope.names.lookup y.1=some .local)
  (hfree:∀y∈scope.names,y.2=.free->X.env.kindOf y.1=some .cell\/X.env.kindOf y.1=some .free) (hlen:cm.length=Nc.length)
  (hcm:∀(j:Nat) (x:Str) (i:Nat),Nc[j]?=some x->cm[j]?=some (some i)->X.N[i]?=some x/\scope.names.lookup x=some .free/\(X.env.kindOf x=some .cell\/X.env.kindOf x=some .free))
  (hg:∀C s₀ H₀ ex,PG (blk X Nc scope C s₀ H₀ ex) tg g) (ht:∀C s₀ H₀ ex,PIf (blk X Nc scope C s₀ H₀ ex) ifs tc) (he:∀C s₀ H₀ ex,PE (blk X Nc scope C s₀ H₀ ex) elt te)
  (hs:∀x,foldedSetIterable iter X.env x=pure x:=by intro _;rfl):PS X (.Assign [.Name y py] (.ListComp elt [⟨tg,iter,ifs,0⟩] scope pos) spos) (G4 (zh wi g tc te cm) (eW iy)):=by
 intro pins s σ H D0 I h
 rw [exec_Assign_Name_used _ _ _ _ hsw]
 refine wpAny_bind (wpAny_standAt (wpAny_bind ?_))
 show wpAny _ X.A (do let _ ←comprehension (.ListComp elt [⟨tg,iter,ifs,0⟩] scope pos) scope X.env _ (newList []) false (eval iter X.env) (some (assign (.Name y py) X.env))) _ _ s
 refine wpAny_bind (wpAny_mono (Q:=fun _ s'=>SP X pins D0 .next s') ?_ (fun _ s' hq=>wpAny_pure (wpAny_pure hq)) fun _ _ e=>e)
 have hfr:∀y∈scope.names,y.2=.free->∃c,X.env.cells.lookup y.1=some c:=fun y hy e=>I.ok.has y.1 (hfree y hy e)
 refine wpAny_comprehension_free (use:=some (assign (.Name y py) X.env)) (Q:=fun _ s'=>SP X pins D0 .next s') rfl hs (jd hfr) hkind hnames (thn (hi pins s σ H _ I h) fun v s1 h1=>thn h1 fun itv s2 h2=>?_)
 obtain ⟨it,fp,tn,J,H2,e,I2,T,st2,f2,W,⟨m0,w0⟩,turn⟩:=h2
 subst e
 refine wpAny_newObj_type (wpAny_newFunctionEnv hcell (by intro y hy;simp at hy) (fun h₁ hns₁ hsb₁=>?_) hkind)
 dsimp only at hns₁ hsb₁ ⊢
 have keepA:∀b u,(s2.heap.push {cls:=.type "list",dict:=none,data:=.seq ([]:List Value).toArray}).get? b=some u->h₁.get? b=some u:=fun b u q=>(hsb₁.2 b (Nat.ne_of_lt (Heap.lt_size q))).trans (Heap.get?_push_of_some _ q)
 refine wC (yo:=none) (QV:=fun x H1=>eW iy x σ H1 D0.nx) hc hkind (fun z hz e=>absurd e (hcell z hz)) (fun _ e=>by cases e) hfr hlen hcm hg ht he I2 T st2 f2 w0 turn hns₁ keepA (fun _ e=>by cases e) (fun s6 H5 acc m hm fc J qn _=>?_)
 obtain ⟨fc0,fc1,fc2,fc3,fc4,fc5⟩:=fc
 refine wpAny_assign_Name (wm (s:=s6) (v:=.ref s2.heap.objs.size) (J s6.heap ⟨rfl,fun _ _=>rfl⟩) hN hiy (.inl hly) rfl (fun s7 J9 hsa=>?_) (.inr hly))
 obtain ⟨aa,hsa,hwh⟩:=hsa
 exact ⟨m,hm.sameBut hsa (by rcases hwh with z | z;rw [z];exact fc1;exact (fc4 _ _ z).symm),fun h7 hs7=>⟨_,_,J9.turned (it:=(s2.heap.push {cls:=.type "list",dict:=none,data:=.seq ([]:List Value).toArray}).objs.size) (t':=s7.toks) (fun b o hb hu=>(hs7.2 b hb).trans hu) fc0 fc1 fc3 fc4 fc5,qn⟩⟩
end
theorem L6 {X:Cx}{tg iter elt:Expr}{ifs:List Expr}{scope:Scope}{pos spos py:Pos}(Nc:List Str)(cm:List (Option Nat)){wi:TI}{g:TG}{tc:TT}{te:TE}{iy:Nat}{y:Str}(hN:X.N.Nodup)(hiy:X.N[iy]?=some y)(hly:X.env.scope.names.lookup y=some .local)
  (hi:PI X tg iter wi) (hg:∀C s₀ H₀ ex,PG (blk X Nc scope C s₀ H₀ ex) tg g) (ht:∀C s₀ H₀ ex,PIf (blk X Nc scope C s₀ H₀ ex) ifs tc) (he:∀C s₀ H₀ ex,PE (blk X Nc scope C s₀ H₀ ex) elt te)
  (hsw:swapsWith (.ListComp elt [⟨tg,iter,ifs,0⟩] scope pos) (some (.Name y py)) spos.line X.env=pure true:=by rfl)
  (hc:X.calm=true:=by rfl) (hkind:scope.kind=.function:=by rfl) (hcell:∀y∈scope.names,y.2≠.cell:=by decide +kernel) (hnames:∀y∈scope.names,y.2=.local->scope.names.lookup y.1=some .local:=by decide +kernel)
  (hfree:Ho X scope=true:=by rfl) (hlen:cm.length=Nc.length:=by rfl) (hcm:Qw X scope Nc cm=true:=by rfl)
  (hs:∀x,foldedSetIterable iter X.env x=pure x:=by intro _;rfl):PS X (.Assign [.Name y py] (.ListComp elt [⟨tg,iter,ifs,0⟩] scope pos) spos) (G4 (zh wi g tc te cm) (eW iy)):=by
 refine Hu hN hiy hly hsw hc hi hkind hcell hnames (fun y hy e=>?_) hlen (fun j x i e1 e2=>?_) hg ht he hs
 ·have h:=List.all_eq_true.mp hfree y hy
  rw [e] at h
  simpa using h
 ·have hj:(Nc.zip cm)[j]?=some (x,some i):=by
   rw [List.getElem?_zip_eq_some];exact ⟨e1,e2⟩
  have h:=List.all_eq_true.mp hcm _ (List.mem_of_getElem? hj)
  simpa using h
theorem gH.calm {P:Program}{w:World}{K:WA}{mg:Str->Option Value}{base:Heap}{k:Nat}{f:Addr}{fd:FuncData}{ps:List Str}{sp:Sp}(F:gH P w K mg base (CXf P w) k f fd ps sp)
  (h:∀vs H Q E,sp vs H Q E->sp vs H Q E0):gH P w K mg base CX0 k f fd ps sp:=by
 refine ⟨F.len,fun A outer s H args us vs Q E hr he hb hv hs=>?_⟩
 refine codeAny_mono (F.run A outer s H args us vs Q E0 hr he hb hv (h _ _ _ _ hs)) fun r s' q=>?_
 cases r with
 | ok fl=>cases fl<;>exact q
 | error e=>
  obtain ⟨x,cls,a0,H',B,_,_,_,_,_,_,_,_,_,z⟩:=q
  exact z.elim
def dz {α:Type}(f:α->List V)(K:WA)(H:Hp)(as:List Addr)(ls:List α):Prop:=as.length=ls.length/\∀(i:Nat) a x,as[i]?=some a->ls[i]?=some x->SqT K H a (f x)
def kR {α:Type}(f:α->List V)(K:WA)(H:Hp)(l:Addr)(ls:List α):Prop:=∃as:List Addr,SqL K H l (as.map V.ref)/\dz f K H as ls
section
variable {α:Type}{f:α->List V}{K:WA}{H H':Hp}{as bs:List Addr}{ls ks:List α}{l p:Addr}
theorem dz.same (s:av H H')(h:dz f K H as ls):dz f K H' as ls:=⟨h.1,fun i a x e1 e2=>s.tup (h.2 i a x e1 e2)⟩
theorem kR.same (s:av H H')(h:kR f K H l ls):kR f K H' l ls:=by
 obtain ⟨as,a,b⟩:=h
 exact ⟨as,s.seq a,b.same s⟩
theorem dz.nil:dz f K H [] []:=⟨rfl,fun i a x e _=>by simp at e⟩
theorem dz.app (h:dz f K H as ls)(g:dz f K H bs ks):dz f K H (as++bs) (ls++ks):=by
 refine ⟨by rw [List.length_append,List.length_append,h.1,g.1],fun i a x e1 e2=>?_⟩
 by_cases hi:i < as.length
 ·rw [List.getElem?_append_left hi] at e1
  rw [List.getElem?_append_left (by rw [←h.1];exact hi)] at e2
  exact h.2 i a x e1 e2
 ·rw [List.getElem?_append_right (by omega)] at e1
  rw [List.getElem?_append_right (by rw [←h.1];omega),←h.1] at e2
  exact g.2 _ a x e1 e2
theorem dz.one {a:Addr}{x:α}(h:SqT K H a (f x)):dz f K H [a] [x]:=by
 refine ⟨rfl,fun i b y e1 e2=>?_⟩
 cases i with
 | zero=>cases e1;cases e2;exact h
 | succ i=>simp at e1
theorem dz.rew {ys:List V}{o:HO}(h:dz f K H as ls)(hl:H l=some (.lst ys)):dz f K (upd H l o) as ls:=⟨h.1,fun i a x e1 e2=>(h.2 i a x e1 e2).rew hl⟩
theorem dz.keep {ys:List V}(s:aD p H H')(hp:H p=some (.lst ys))(h:dz f K H as ls):dz f K H' as ls:=⟨h.1,fun i a x e1 e2=>(h.2 i a x e1 e2).keep s hp⟩
theorem dz.keepI {C dx:Addr}{fs:List (Str×V)}(s:aD p H H')(hp:H p=some (.ins C dx fs))(h:dz f K H as ls):dz f K H' as ls:=⟨h.1,fun i a x e1 e2=>(h.2 i a x e1 e2).keepI s hp⟩
theorem kR.keepI {C dx:Addr}{fs:List (Str×V)}(s:aD p H H')(hp:H p=some (.ins C dx fs))(h:kR f K H l ls):kR f K H' l ls:=by
 obtain ⟨as,a,b⟩:=h
 exact ⟨as,a.keepI s hp,b.keepI s hp⟩
end
noncomputable abbrev Cd:=Int×Int
noncomputable def cdV (x:Cd):List V:=[.int x.1,.int x.2]
def eX (x:Cd):Prop:=(1<=x.1/\x.1<=9)/\(1<=x.2/\x.2<=9)/\x.1≠x.2
end L2
namespace L2
open PySem PySem.Spec PyProof.Rows PySem.SeqAt
theorem yq {M:Model}{A:Around}{E:Value->Shared->Prop}{s:Shared}{β:Type}{c:β}{f:Nat->β->Sem (ForInStep β)}{Q:β->Shared->Prop}{n:Nat}(hn:n=2)
  (h:wpAny M A (f 0 c) (fun r s1=>match r with | .done b=>Q b s1 | .yield b=>wpAny M A (f 1 b) (fun r s2=>match r with | .done b=>Q b s2 | .yield b=>Q b s2) E s1) E s) :
  wpAny M A (forIn ([:n]:Std.Legacy.Range) c f) Q E s:=by
 subst hn
 rw [Std.Legacy.Range.forIn_eq_forIn_range']
 show wpAny M A (forIn [0,1] c f) Q E s
 rw [List.forIn_cons]
 refine wpAny_bind (wpAny_mono h ?_ (fun _ _ z=>z))
 intro r s1 h1
 cases r with
 | done b=>exact wpAny_pure h1
 | yield b=>
  show wpAny M A (forIn [1] b f) Q E s1
  rw [List.forIn_cons]
  refine wpAny_bind (wpAny_mono h1 ?_ (fun _ _ z=>z))
  intro r s2 h2
  cases r with
  | done b=>exact wpAny_pure h2
  | yield b=>
   show wpAny M A (forIn [] b f) Q E s2
   rw [List.forIn_nil]
   exact wpAny_pure h2
theorem Dv (l:Addr)(items:Array Value)(a b:Value)(n:Nat)(dd:Option Addr)(sl:Array (Option Value))(x:Value)(e0 e1:Bool)(he:(e0 || e1)=true)(hsz:items.size=2)(i0:items[0]?=some a)(i1:items[1]?=some b) :
  Meets (Builtin.«tuple.index» ⟨[.ref l,x],[]⟩)
   (fun A R s=>s.heap.get? l=some {cls:=.type "tuple",dict:=dd,data:=.seq items n,slots:=sl}/\EqAt A.in1 s a x e0/\EqAt A.in1 s b x e1/\R (.ok (.ret (.int (if e0=true then 0 else 1) s.toks))) {s with toks:=s.toks+1}):=
 .of_wp fun prog w A R s h=>by
  obtain ⟨hp,g,d,tk,os⟩:=s;obtain ⟨hl,h0,h1,h⟩:=h
  wp_walk using wpAny_loadPart' hl,yq (show min items.size items.size=2 by omega)
  rw [i0]
  refine wpAny_bind (h0 prog w _ _ ?_)
  cases e0 with
  | true=>
   wp_walk
   exact ⟨_,rfl,h⟩
  | false=>
   wp_walk
   rw [i1]
   refine wpAny_bind (h1 prog w _ _ ?_)
   have e1t:e1=true:=by simpa using he
   subst e1t
   wp_walk
   exact ⟨_,rfl,h⟩
section
variable {X:Cx}
noncomputable def Jo (K:WA):V->List V->Hp->VK->Prop:=fun x vs H Q=>∃(l:Addr) (a b k:V),x=.ref l/\vs=[k]/\SqT K H l [a,b]/\bU a=true/\bU b=true/\bU k=true/\(eqV a k || eqV b k)=true/\Q (.int (if eqV a k=true then 0 else 1)) H
theorem Kw:MtR X "tuple.index" (Jo X.K):=by
 intro pins s σ H x vs v us Q I rx rv h
 obtain ⟨l,a,b,k,rfl,rfl,hq,fa,fb,fk,hk,q⟩:=h
 cases rx
 obtain ⟨u,rfl,ru⟩:=rv.one
 obtain ⟨its,r,pl,hz⟩:=I.tuple hq
 obtain ⟨u1,u2,rfl,r1,r2⟩:=r.two
 obtain ⟨⟨cls,dd,data,sl⟩,ho,hc,n,hd⟩:=id pl
 simp only at hc hd
 subst hc hd
 refine call_meets PySem.F.slot_tuple_index ⟨_,ho,rfl⟩ PySem.F.entry_tuple_index (PySem.F.args_tuple_index_2 _ _)
  (Dv l _ u1 u2 n dd sl u (eqV a k) (eqV b k) hk rfl rfl rfl) ⟨ho,wA r1 ru fa fk,wA r2 ru fb fk,?_⟩
 exact ⟨.int _,H,I.tok _,⟨_,rfl⟩,q⟩
noncomputable def RV (K:WA):R2:=fun x y H Q=>∃a b xs ys,x=.ref a/\y=.ref b/\SqT K H a xs/\SqT K H b ys/\xs.all bU=true/\ys.all bU=true/\Q (.bl (!eqL xs ys)) H
theorem NS {xs ys:List V}:((List.range (min xs.length ys.length)).all (fun j=>eqV (xs.getD j .non) (ys.getD j .non)) && xs.length == ys.length)=eqL xs ys:=by
 by_cases hl:xs.length=ys.length
 ·rw [show min xs.length ys.length=xs.length by omega,yS hl,hl]
  simp
 ·have e:eqL xs ys=false:=by
   cases z:eqL xs ys with
   | false=>rfl
   | true=>exact absurd (yR z) hl
  rw [e]
  simp [hl]
theorem QG (hu:X.A.units < cLine):OpR X (compareOp .NotEq) (RV X.K):=by
 intro pins s σ H x y u v Q I rx ry h
 obtain ⟨a,b,xs,ys,rfl,rfl,ha,hb,fa,fb,q⟩:=h
 cases rx;cases ry
 obtain ⟨ia,ra,pa,za⟩:=I.tuple ha
 obtain ⟨ib,rb,pb,zb⟩:=I.tuple hb
 have la:=ra.length
 have lb:=rb.length
 refine RcNeAt.tuples (e:=fun j=>eqV (xs.getD j .non) (ys.getD j .non)) pa pb hu (fun j h1 h2=>?_) X.prog X.w _ _ ?_
 ·simp only [List.size_toArray] at h1 h2
  have hx:xs[j]?=some (xs.getD j .non):=by
   rw [List.getD_eq_getElem?_getD,List.getElem?_eq_getElem (by omega)];rfl
  have hy:ys[j]?=some (ys.getD j .non):=by
   rw [List.getD_eq_getElem?_getD,List.getElem?_eq_getElem (by omega)];rfl
  obtain ⟨u,eu,ru⟩:=ra.get hx
  obtain ⟨v,ev,rv⟩:=rb.get hy
  have e1:ia.toArray[j]=u:=by
   have:=List.getElem?_eq_some_iff.mp eu
   simpa using this.2
  have e2:ib.toArray[j]=v:=by
   have:=List.getElem?_eq_some_iff.mp ev
   simpa using this.2
  rw [e1,e2]
  exact wA ru rv (List.all_eq_true.mp fa _ (List.mem_of_getElem? hx)) (List.all_eq_true.mp fb _ (List.mem_of_getElem? hy))
 ·have e:=NS (xs:=xs) (ys:=ys)
  simp only [List.size_toArray]
  rw [←la,←lb,e]
  exact ⟨.bl (!eqL xs ys),H,I,rfl,q⟩
end
end L2
namespace L2
open PySem PySem.Spec PyProof.Rows
inductive Eng where
 | no | wait (l r:Int) | armed (l r:Int) | other (l r s:Int) | used (l r:Int)
 deriving DecidableEq
noncomputable def kS:Eng->List V
 | .no=>[.str "not rung",.non,.non,.non]
 | .wait l r=>[.str "not repeated",.int l,.int r,.non]
 | .armed l r=>[.str "armed",.int l,.int r,.int r]
 | .other l r s=>[.str "repeated otherwise",.int l,.int r,.int s]
 | .used l r=>[.str "used up",.int l,.int r,.int r]
theorem wH (e:Eng):∀x∈kS e,bU x=true:=by cases e<;>simp [kS,bU]
theorem E2 (e:Eng):(kS e).length=4:=by cases e<;>rfl
theorem aD.free {p x:Addr}{H H':Hp}(k:aD p H H')(n:x≠p)(h:H' x=none):H x=none:=by
 cases e:H x with
 | none=>rfl
 | some o=>have:=k x o n e;rw [h] at this;cases this
theorem QH {ls:List Cd}{n:Nat}:(ls.map fun _=>false).getD n false=false:=by
 rw [List.getD_eq_getElem?_getD,List.getElem?_map]
 cases ls[n]?<;>rfl
structure bM (C:Addr)(K:WA)(H:Hp)(b cs fl st:Addr)(ls:List Cd)(fs:List Bool)(e:Eng):Prop where
 ob:∃dx,H b=some (.ins C dx [("codes",.ref cs),("failed",.ref fl),("state",.ref st)])
 oc:∃as:List Addr,H cs=some (.lst (as.map V.ref))/\dz cdV K H as ls
 of:H fl=some (.lst (fs.map V.bl))
 os:SqT K H st (kS e)
 nn:cs≠fl
 ln:fs.length=ls.length
theorem bM.rows {C:Addr}{K:WA}{H:Hp}{b cs fl st:Addr}{ls:List Cd}{fs:List Bool}{e:Eng}(h:bM C K H b cs fl st ls fs e):kR cdV K H cs ls:=by
 obtain ⟨as,a,t⟩:=h.oc
 exact ⟨as,SqL.of a,t⟩
theorem bM.same {C:Addr}{K:WA}{H H':Hp}{b cs fl st:Addr}{ls:List Cd}{fs:List Bool}{e:Eng}(h:bM C K H b cs fl st ls fs e)(s:av H H'):bM C K H' b cs fl st ls fs e:=by
 obtain ⟨⟨dx,a⟩,⟨as,c,t⟩,f,g,n,l⟩:=h
 exact ⟨⟨dx,s _ _ a⟩,⟨as,s _ _ c,t.same s⟩,s _ _ f,s.tup g,n,l⟩
theorem bM.state {C:Addr}{K:WA}{H H':Hp}{b cs fl st st' dx:Addr}{ls:List Cd}{fs:List Bool}{e e':Eng}(h:bM C K H b cs fl st ls fs e)(k:aD b H H')
  (a:H' b=some (.ins C dx [("codes",.ref cs),("failed",.ref fl),("state",.ref st')])) (g:SqT K H' st' (kS e')):bM C K H' b cs fl st' ls fs e':=by
 obtain ⟨⟨dx0,a0⟩,⟨as,c,t⟩,f,_,n,l⟩:=h
 exact ⟨⟨dx,a⟩,⟨as,k _ _ (fun z=>by rw [z,a0] at c;cases c) c,t.keepI k a0⟩,k _ _ (fun z=>by rw [z,a0] at f;cases f) f,g,n,l⟩
theorem bM.fail {C:Addr}{K:WA}{H H':Hp}{b cs fl st:Addr}{ls:List Cd}{fs fs':List Bool}{e:Eng}(h:bM C K H b cs fl st ls fs e)(k:aD fl H H')(g:H' fl=some (.lst (fs'.map V.bl)))(hl:fs'.length=fs.length):bM C K H' b cs fl st ls fs' e:=by
 obtain ⟨⟨dx0,a0⟩,⟨as,c,t⟩,f,o,n,l⟩:=h
 exact ⟨⟨dx0,k _ _ (fun z=>by rw [z,f] at a0;cases a0) a0⟩,⟨as,k _ _ n c,t.keep k f⟩,g,o.keep k f,n,hl.trans l⟩
noncomputable def dI (ls:List Cd)(l:Int):Cd:=ls.getD l.toNat (0,0)
noncomputable def df (ls:List Cd)(l:Int)(k:Str):Int:=if k="men" then (dI ls l).1 else (dI ls l).2
theorem uA {K:WA}{H:Hp}{as:List Addr}{ls:List Cd}{l:Int}(t:dz cdV K H as ls)(h0:0<=l)(h1:l < ls.length):∃a,atI (as.map V.ref) l=some (.ref a)/\SqT K H a (cdV (dI ls l)):=by
 obtain ⟨n,rfl⟩:=Int.eq_ofNat_of_zero_le h0
 have hn:n < ls.length:=by omega
 have ha:as[n]?=some (as[n]'(by rw [t.1];exact hn)):=List.getElem?_eq_getElem _
 refine ⟨as[n]'(by rw [t.1];exact hn),kP (by rw [List.getElem?_map,ha];rfl),t.2 n _ _ ha ?_⟩
 rw [dI,Int.toNat_natCast,List.getD_eq_getElem?_getD,List.getElem?_eq_getElem hn];rfl
theorem jf {fs:List Bool}{l:Int}(h0:0<=l)(h1:l < fs.length):atI (fs.map V.bl) l=some (.bl (fs.getD l.toNat false)):=by
 obtain ⟨n,rfl⟩:=Int.eq_ofNat_of_zero_le h0
 have hn:n < fs.length:=by omega
 refine kP ?_
 rw [List.getElem?_map,List.getElem?_eq_getElem hn,Int.toNat_natCast,List.getD_eq_getElem?_getD,List.getElem?_eq_getElem hn];rfl
noncomputable def lvl (ds:List Int)(d:Int):Option Int:=if d∈ds then some (ds.idxOf d:Nat) else none
noncomputable def lvV:Option Int->V
 | none=>.non
 | some i=>.int i
theorem jg {ds:List Int}(h:cC ds){i:Nat}{d:Int}(hi:i < ds.length)(e:ds.getD i 0=d):lvl ds d=some (i:Int):=by
 have hm:d∈ds:=e▸cW hi
 rw [lvl,if_pos hm]
 have hlt:=List.idxOf_lt_length_iff.mpr hm
 have e2:ds.getD (ds.idxOf d) 0=d:=by
  rw [List.getD_eq_getElem?_getD,List.getElem?_eq_getElem hlt]
  exact List.getElem_idxOf hlt
 have:ds.idxOf d=i:=by
  rcases Nat.lt_trichotomy (ds.idxOf d) i with z | z | z
  ·have:=h.lt z hi;omega
  ·exact z
  ·have:=h.lt z hlt;omega
 rw [this]
theorem E3 {ds:List Int}{d:Int}(h:∀i,i < ds.length->ds.getD i 0≠d):lvl ds d=none:=by
 rw [lvl,if_neg fun hm=>?_]
 have hlt:=List.idxOf_lt_length_iff.mpr hm
 refine h _ hlt ?_
 rw [List.getD_eq_getElem?_getD,List.getElem?_eq_getElem hlt]
 exact List.getElem_idxOf hlt
noncomputable def bN (ds:List Int)(p c:Int):Option Int:=if c=0 then lvl ds p else lvl ds (cw ds - p)
inductive Stp where
 | wind (c l:Int) | load (k c:Int) | unload (k c:Int)
noncomputable def RW (lv:Option Int)(x:List Int):Stp->Option (List Int)
 | .wind _ _=>none
 | .load k c=>match lv with | none=>none | some l=>if x.getD (k.toNat+1) 0=l/\¬10+c∈x.tail then some (x.set (k.toNat+1) (10+c)) else none
 | .unload k c=>match lv with | none=>none | some l=>if x.getD (k.toNat+1) 0=10+c then some (x.set (k.toNat+1) l) else none
noncomputable def QI:Stp->Int
 | .wind c _=>c
 | .load _ c=>c
 | .unload _ c=>c
noncomputable def stK:Stp->Int
 | .wind _ _=>0
 | .load k _=>k
 | .unload k _=>k
noncomputable def after (ds dead:List Int)(x:List Int):Stp->Option (List Int)
 | .wind c l=>if l < 0\/(ds.length:Int)<=l\/l∈dead then none else some ((if c=0 then ds.getD l.toNat 0 else cw ds - ds.getD l.toNat 0)::x.tail)
 | s=>if stK s < 0\/(x.length:Int)<=stK s+1 then none else RW (bN ds (x.getD 0 0) (QI s)) x s
theorem RX {K:WA}{H:Hp}{Q:VK}{a b:Addr}{xs ys:List V}(ha:SqT K H a xs)(hb:SqT K H b ys)(n0:xs≠[])(hn:xs.length+ys.length<=1000)(q:∀p H',av H H'->SqT K H' p (xs++ys)->Q (.ref p) H'):Ph K (.ref a) (.ref b) H Q:=by
 refine ⟨a,b,xs,ys,rfl,rfl,ha,hb,n0,Nat.le_of_lt (cu hn),fun e=>?_,fun _ p hp=>q p _ ((av.refl H).lay hp) (SqT.of ag)⟩
 subst e
 exact q a H (av.refl H) (by rw [List.append_nil];exact ha)
theorem pA {K:WA}{H:Hp}{a:Addr}{xs:List Int}{n:Nat}(h:SqL K H a (xs.map V.int))(hb:xs.length<=100000):Rep K H (n+1) (.ref a) (.lst ((xs.map V.int).map Dt.flat)):=by
 refine .lst h (by rw [WB];exact hb) (by simp) fun i y d e1 e2=>?_
 rw [List.getElem?_map,e1] at e2
 cases e2
 obtain ⟨z,rfl,_⟩:=ng e1
 exact .flat rfl
theorem E4 {K:WA}{H:Hp}{a:Addr}{x y:V}{d e:Dt}{n:Nat}(h:SqL K H a [x,y])(h1:Rep K H n x d)(h2:Rep K H n y e):Rep K H (n+1) (.ref a) (.lst [d,e]):=by
 refine .lst h (by show 2<=100000;decide) rfl fun i v w e1 e2=>?_
 match i,e1,e2 with
 | 0,e1,e2=>cases e1;cases e2;exact h1
 | 1,e1,e2=>cases e1;cases e2;exact h2
 | i+2,e1,e2=>simp at e1
section
variable {X:Cx}
noncomputable def Po (K:WA):R2:=fun x y H Q=>∃a b xs ys,x=.ref a/\y=.ref b/\SqT K H a xs/\SqT K H b ys/\xs.length+ys.length<=1000/\∀p H',av H H'->SqT K H' p (xs++ys)->Q (.ref p) H'
theorem NT:OpR X (binaryOp .Add) (Po X.K):=by
 intro pins s σ H x y v u Q I rx ry h
 obtain ⟨a,b,xs,ys,rfl,rfl,ha,hb,hz,q⟩:=h
 by_cases hx:xs=[]
 ·subst hx
  cases rx
  cases ry
  obtain ⟨its,r1,p1,_⟩:=I.tuple ha
  obtain ⟨its2,r2,p2,_⟩:=I.tuple hb
  have e1:=r1.zero
  subst e1
  obtain ⟨⟨cls,dd,data,sl⟩,ho,hc,n,hd⟩:=id p1
  obtain ⟨⟨cls2,dd2,data2,sl2⟩,ho2,hc2,n2,hd2⟩:=id p2
  simp only at hc hd hc2 hd2
  subst hc hd hc2 hd2
  exact concat_meets ⟨_,ho,rfl⟩ ⟨_,ho2,rfl⟩ noFill_tuple_add seq_tuple_add PySem.F.slot_tuple_add PySem.F.entry_tuple_add (PySem.F.args_tuple_add_2 _ _)
   (tuple_addW0 a b _ its2.toArray n n2 dd dd2 sl sl2 rfl) ⟨ho,ho2,⟨.ref b,H,I,rfl,q b H (av.refl H) hb⟩⟩
 ·exact Jb pins s σ H _ _ v u Q I rx ry (RX ha hb hx hz q)
end
theorem L8:∀{xs ys:List Int},xs.Pairwise (· < ·)->ys.Pairwise (· < ·)->(∀k,k∈xs↔k∈ys)->xs=ys
 | [],[],_,_,_=>rfl
 | [],y::ys,_,_,h=>absurd ((h y).mpr List.mem_cons_self) (by simp)
 | x::xs,[],_,_,h=>absurd ((h x).mp List.mem_cons_self) (by simp)
 | x::xs,y::ys,hx,hy,h=>by
  obtain ⟨x1,x2⟩:=List.pairwise_cons.mp hx
  obtain ⟨y1,y2⟩:=List.pairwise_cons.mp hy
  have e:x=y:=by
   rcases List.mem_cons.mp ((h x).mp List.mem_cons_self) with e | e
   ·exact e
   ·rcases List.mem_cons.mp ((h y).mpr List.mem_cons_self) with e' | e'
    ·exact e'.symm
    ·have:=y1 x e
     have:=x1 y e'
     omega
  subst e
  rw [L8 x2 y2 fun k=>?_]
  constructor
  ·intro hk
   rcases List.mem_cons.mp ((h k).mp (List.mem_cons_of_mem _ hk)) with e | e
   ·have:=x1 k hk
    omega
   ·exact e
  ·intro hk
   rcases List.mem_cons.mp ((h k).mpr (List.mem_cons_of_mem _ hk)) with e | e
   ·have:=y1 k hk
    omega
   ·exact e
structure Cl where
 (B Y S K W:Addr)
structure aS where
 place:Int
 gates:List Bool
 fs:List Bool
 e:Eng
 ws:List Int
structure Cfg where
 ds:List Int
 ls:List Cd
 slow:Int
 fast:Int
 goals:List Int
 ks:List Str
 N:Addr->Prop:=fun _=>False
structure SA where
 (dx ol b cs fl st y kn wh:Addr)
structure RY (rl:Addr)(A:SA):Prop where
 r1:A.ol≠rl
 r2:A.cs≠rl
 r3:A.fl≠rl
 r4:A.kn≠rl
 r5:A.wh≠rl
 o1:A.cs≠A.ol
 o2:A.fl≠A.ol
 o3:A.kn≠A.ol
 o4:A.wh≠A.ol
 f1:A.ol≠A.fl
 f2:A.kn≠A.fl
 f3:A.wh≠A.fl
 w1:A.ol≠A.wh
 w2:A.cs≠A.wh
 w3:A.fl≠A.wh
 w4:A.kn≠A.wh
structure Off (H:Hp)(rl:Addr)(N:Addr->Prop)(A:SA):Prop where
 al:∀p,N p->∃ys,H p=some (.lst ys)
 nr:∀p,N p->rl≠p
 no:∀p,N p->A.ol≠p
 nc:∀p,N p->A.cs≠p
 nf:∀p,N p->A.fl≠p
 nk:∀p,N p->A.kn≠p
 nw:∀p,N p->A.wh≠p
theorem Off.keep {H H':Hp}{rl q:Addr}{N:Addr->Prop}{A:SA}(h:Off H rl N A)(k:aD q H H')(hq:∀p,N p->q≠p):Off H' rl N A:=⟨fun p hp=>by
 obtain ⟨ys,e⟩:=h.al p hp
 exact ⟨ys,k _ _ (hq p hp).symm e⟩,h.nr,h.no,h.nc,h.nf,h.nk,h.nw⟩
theorem Off.same {H H':Hp}{rl:Addr}{N:Addr->Prop}{A:SA}(h:Off H rl N A)(k:av H H'):Off H' rl N A:=⟨fun p hp=>by
 obtain ⟨ys,e⟩:=h.al p hp
 exact ⟨ys,k _ _ e⟩,h.nr,h.no,h.nc,h.nf,h.nk,h.nw⟩
theorem Off.keepI {H H':Hp}{rl q C dx:Addr}{fs:List (Str×V)}{N:Addr->Prop}{A:SA}(h:Off H rl N A)(k:aD q H H')(hq:H q=some (.ins C dx fs)):Off H' rl N A:=h.keep k fun p hp z=>by
 obtain ⟨ys,e⟩:=h.al p hp
 rw [←z,hq] at e
 cases e
structure bf (C:Cl)(K:WA)(H:Hp)(rl:Addr)(g:Cfg)(s:Addr)(A:SA)(n:aS):Prop where
 ob:H s=some (.ins C.S A.dx [("place",.int n.place),("opened",.ref A.ol),("bells",.ref A.b),("yard",.ref A.y)])
 go:H A.ol=some (.lst (n.gates.map V.bl))
 be:bM C.B K H A.b A.cs A.fl A.st g.ls n.fs n.e
 ya:dH C.Y H A.y A.kn A.wh g.ks n.ws g.ds.length
 ap:RY rl A
 nn:Off H rl g.N A
def eQ (C:Cl)(K:WA)(H:Hp)(rl:Addr)(g:Cfg)(s:Addr)(n:aS):Prop:=∃A,bf C K H rl g s A n
theorem bM.off {C:Addr}{K:WA}{H H':Hp}{p b cs fl st:Addr}{ls:List Cd}{fs:List Bool}{e:Eng}{ys:List V}(h:bM C K H b cs fl st ls fs e)(s:aD p H H')(hp:H p=some (.lst ys))(n1:cs≠p)(n2:fl≠p):bM C K H' b cs fl st ls fs e:=by
 obtain ⟨⟨dx,a⟩,⟨as,c,t⟩,f,g,n,l⟩:=h
 exact ⟨⟨dx,s _ _ (fun z=>by rw [z,hp] at a;cases a) a⟩,⟨as,s _ _ n1 c,t.keep s hp⟩,s _ _ n2 f,g.keep s hp,n,l⟩
theorem bM.offI {C D dp:Addr}{K:WA}{H H':Hp}{p b cs fl st:Addr}{ls:List Cd}{fs:List Bool}{e:Eng}{us:List (Str×V)}(h:bM C K H b cs fl st ls fs e)(s:aD p H H')(hp:H p=some (.ins D dp us))(n1:b≠p):bM C K H' b cs fl st ls fs e:=by
 obtain ⟨⟨dx,a⟩,⟨as,c,t⟩,f,g,n,l⟩:=h
 exact ⟨⟨dx,s _ _ n1 a⟩,⟨as,s _ _ (fun z=>by rw [z,hp] at c;cases c) c,t.keepI s hp⟩,s _ _ (fun z=>by rw [z,hp] at f;cases f) f,g.keepI s hp,n,l⟩
theorem dH.offI {C D dp:Addr}{H H':Hp}{p y kn wh:Addr}{ks:List Str}{ws:List Int}{m:Int}{us:List (Str×V)}(h:dH C H y kn wh ks ws m)(s:aD p H H')(hp:H p=some (.ins D dp us))(n1:y≠p):dH C H' y kn wh ks ws m:=by
 obtain ⟨⟨dx,a⟩,b,c⟩:=h
 exact ⟨⟨dx,s _ _ n1 a⟩,s _ _ (fun z=>by rw [z,hp] at b;cases b) b,s _ _ (fun z=>by rw [z,hp] at c;cases c) c⟩
section
variable {C:Cl}{K:WA}{H H':Hp}{rl s a w bk:Addr}{g:Cfg}{A:SA}{n n0:aS}
theorem bf.same (h:bf C K H rl g s A n)(e:av H H'):bf C K H' rl g s A n:=⟨e _ _ h.ob,e _ _ h.go,h.be.same e,h.ya.same e,h.ap,h.nn.same e⟩
theorem bf.keep {ys:List V}(h:bf C K H rl g s A n)(e:aD rl H H')(hr:H rl=some (.lst ys)):bf C K H' rl g s A n:=
 ⟨e _ _ (fun z=>by have:=h.ob;rw [z,hr] at this;cases this) h.ob,e _ _ h.ap.r1 h.go,h.be.off e hr h.ap.r2 h.ap.r3,h.ya.off e hr h.ap.r4 h.ap.r5,h.ap,h.nn.keep e h.nn.nr⟩
theorem bf.at (h:bf C K H rl g s A n):eQ C K H rl g s n:=⟨A,h⟩
theorem eQ.same (h:eQ C K H rl g s n)(e:av H H'):eQ C K H' rl g s n:=by
 obtain ⟨A,h⟩:=h
 exact ⟨A,h.same e⟩
theorem eQ.keep {ys:List V}(h:eQ C K H rl g s n)(e:aD rl H H')(hr:H rl=some (.lst ys)):eQ C K H' rl g s n:=by
 obtain ⟨A,h⟩:=h
 exact ⟨A,h.keep e hr⟩
theorem bf.gates (h:bf C K H rl g s A n)(e:aD A.ol H H'){gs:List Bool}(hg:H' A.ol=some (.lst (gs.map V.bl))):bf C K H' rl g s A {n with gates:=gs}:=
 ⟨e _ _ (fun z=>by have:=h.ob;rw [z,h.go] at this;cases this) h.ob,hg,h.be.off e h.go h.ap.o1 h.ap.o2,h.ya.off e h.go h.ap.o3 h.ap.o4,h.ap,h.nn.keep e h.nn.no⟩
structure Row where
 began:Int
 ended:Int
 deed:List V
 speed:Int
 sn:aS
def uB (C:Cl)(K:WA)(H:Hp)(rl:Addr)(g:Cfg)(a:Addr)(r:Row):Prop:=∃dd s,SqT K H a [.int r.began,.int r.ended,.ref dd,.int r.speed,.ref s]/\SqT K H dd r.deed/\eQ C K H rl g s r.sn
theorem uB.same {r:Row}(h:uB C K H rl g a r)(e:av H H'):uB C K H' rl g a r:=by
 obtain ⟨dd,s,h1,h2,h3⟩:=h
 exact ⟨dd,s,e.tup h1,e.tup h2,h3.same e⟩
theorem uB.keep {r:Row}{ys:List V}(h:uB C K H rl g a r)(e:aD rl H H')(hr:H rl=some (.lst ys)):uB C K H' rl g a r:=by
 obtain ⟨dd,s,h1,h2,h3⟩:=h
 exact ⟨dd,s,h1.keep e hr,h2.keep e hr,h3.keep e hr⟩
def wI (C:Cl)(K:WA)(H:Hp)(rl:Addr)(g:Cfg)(as:List Addr)(rs:List Row):Prop:=as.length=rs.length/\∀(i:Nat) a r,as[i]?=some a->rs[i]?=some r->uB C K H rl g a r
theorem wI.same {as:List Addr}{rs:List Row}(h:wI C K H rl g as rs)(e:av H H'):wI C K H' rl g as rs:=⟨h.1,fun i a r e1 e2=>(h.2 i a r e1 e2).same e⟩
theorem wI.keep {as:List Addr}{rs:List Row}{ys:List V}(h:wI C K H rl g as rs)(e:aD rl H H')(hr:H rl=some (.lst ys)):wI C K H' rl g as rs:=⟨h.1,fun i a r e1 e2=>(h.2 i a r e1 e2).keep e hr⟩
theorem wI.push {as:List Addr}{rs:List Row}{r:Row}(h:wI C K H rl g as rs)(hr:uB C K H rl g a r):wI C K H rl g (as++[a]) (rs++[r]):=by
 refine ⟨by rw [List.length_append,List.length_append,h.1];rfl,fun i b x e1 e2=>?_⟩
 by_cases hi:i < as.length
 ·rw [List.getElem?_append_left hi] at e1
  rw [List.getElem?_append_left (by rw [←h.1];exact hi)] at e2
  exact h.2 i b x e1 e2
 ·rw [List.getElem?_append_right (by omega)] at e1
  rw [List.getElem?_append_right (by rw [←h.1];omega),←h.1] at e2
  have hz:i - as.length=0:=by
   have:=(List.getElem?_eq_some_iff.mp e1).1
   simp at this
   omega
  rw [hz] at e1 e2
  cases e1
  cases e2
  exact hr
noncomputable def aj (n0:aS)(rs:List Row):aS:=match rs.getLast? with | none=>n0 | some r=>r.sn
noncomputable def bX (rs:List Row):Int:=match rs.getLast? with | none=>0 | some r=>r.ended
structure BAt (C:Cl)(K:WA)(H:Hp)(bk rl:Addr)(g:Cfg)(n0:aS)(rs:List Row):Prop where
 ob:∃dx f,H bk=some (.ins C.K dx [("first",.ref f),("most",.int 300),("rows",.ref rl)])/\eQ C K H rl g f n0
 ro:∃as,H rl=some (.lst (as.map V.ref))/\wI C K H rl g as rs
theorem BAt.same {rs:List Row}(h:BAt C K H bk rl g n0 rs)(e:av H H'):BAt C K H' bk rl g n0 rs:=by
 obtain ⟨⟨dx,f,h1,h2⟩,as,h3,h4⟩:=h
 exact ⟨⟨dx,f,e _ _ h1,h2.same e⟩,as,e _ _ h3,h4.same e⟩
structure WAt (C:Cl)(K:WA)(H:Hp)(w bk rl:Addr)(g:Cfg)(n0:aS)(rs:List Row):Prop where
 ob:∃dx dl gl,H w=some (.ins C.W dx [("depths",.ref dl),("slow",.int g.slow),("fast",.int g.fast),("goals",.ref gl),("log",.ref bk)])/\H dl=some (.lst (g.ds.map V.int))/\H gl=some (.lst (g.goals.map V.int))/\dl≠rl/\gl≠rl/\(∀p,g.N p->dl≠p)/\∀p,g.N p->gl≠p
 bo:BAt C K H bk rl g n0 rs
theorem WAt.same {rs:List Row}(h:WAt C K H w bk rl g n0 rs)(e:av H H'):WAt C K H' w bk rl g n0 rs:=by
 obtain ⟨⟨dx,dl,gl,h1,h2,h3,h4⟩,h5⟩:=h
 exact ⟨⟨dx,dl,gl,e _ _ h1,e _ _ h2,e _ _ h3,h4⟩,h5.same e⟩
theorem WAt.keep {rs rs':List Row}{ys:List V}(h:WAt C K H w bk rl g n0 rs)(e:aD rl H H')(hr:H rl=some (.lst ys))(hb:BAt C K H' bk rl g n0 rs'):WAt C K H' w bk rl g n0 rs':=by
 obtain ⟨⟨dx,dl,gl,h1,h2,h3,h4,h6⟩,h5⟩:=h
 exact ⟨⟨dx,dl,gl,e _ _ (fun z=>by rw [z,hr] at h1;cases h1) h1,e _ _ h4 h2,e _ _ h6.1 h3,h4,h6⟩,hb⟩
end
theorem dk {α:Type}(l:List α):l=[]\/∃l' a,l=l'++[a]:=by
 rcases List.eq_nil_or_concat l with h | ⟨l',a,h⟩
 ·exact .inl h
 ·exact .inr ⟨l',a,by rw [h,List.concat_eq_append]⟩
theorem wI.last {C:Cl}{K:WA}{H:Hp}{rl:Addr}{g:Cfg}{as:List Addr}{rs:List Row}{r:Row}(h:wI C K H rl g as (rs++[r])):∃as' a,as=as'++[a]/\wI C K H rl g as' rs/\uB C K H rl g a r:=by
 have hl:=h.1
 rw [List.length_append,List.length_singleton] at hl
 rcases dk as with rfl | ⟨as',a,rfl⟩
 ·cases hl
 ·have hl':as'.length=rs.length:=by rw [List.length_append,List.length_singleton] at hl;omega
  refine ⟨as',a,rfl,⟨hl',fun i b x e1 e2=>?_⟩,?_⟩
  ·have hi:=(List.getElem?_eq_some_iff.mp e1).1
   exact h.2 i b x (by rw [List.getElem?_append_left hi];exact e1) (by rw [List.getElem?_append_left (by omega)];exact e2)
  ·refine h.2 as'.length a r ?_ ?_
   ·rw [List.getElem?_append_right (Nat.le_refl _)];simp
   ·rw [List.getElem?_append_right (by omega),hl'];simp
theorem Ci {as:List Addr}{a:Addr}:atI ((as++[a]).map V.ref) (((as++[a]).map V.ref).length - 1:Int)=some (.ref a):=by
 rw [show ((((as++[a]).map V.ref).length:Int) - 1)=((as.length:Nat):Int) by rw [WB,List.length_append];simp]
 exact kP (by rw [List.map_append,List.getElem?_append_right (by rw [WB];exact Nat.le_refl _),WB];simp)
theorem mf (rs:List Row)(r:Row):bX (rs++[r])=r.ended:=by simp [bX]
theorem pB (n0:aS)(rs:List Row)(r:Row):aj n0 (rs++[r])=r.sn:=by simp [aj]
theorem ig {H H':Hp}{x dx:Addr}{o1 o2:HO}(hx:H x=none)(hdx:H dx=none)(kp:aD x (upd (upd H dx o1) x o2) H'):av H H':=fun b o e=>kp b o (ak e hx) (by rw [aN (ak e hx),aN (ak e hdx)];exact e)
theorem gm {H:Hp}{x dx z:Addr}{o1 o2:HO}(h:upd (upd H dx o1) x o2 z=none):H z=none:=upn (upn h)
noncomputable def E5 (ks:List Str)(ws:List Int):Bool:=(ks.zip ws).any fun p=>decide (p.1="men") && decide (p.2=10\/p.2=11)
theorem Cj {ks:List Str}{ws:List Int}{i:Nat}(h:∀j k x,j < i->ks[j]?=some k->ws[j]?=some x->(decide (k="men") && decide (x=10\/x=11))=false)(hi:ks.length<=i\/ws.length<=i):E5 ks ws=false:=by
 unfold E5
 rw [List.any_eq_false]
 intro p hp
 obtain ⟨j,hj⟩:=List.getElem?_of_mem hp
 rw [List.getElem?_zip_eq_some] at hj
 have h1:=(List.getElem?_eq_some_iff.mp hj.1).1
 have h2:=(List.getElem?_eq_some_iff.mp hj.2).1
 rw [h j p.1 p.2 (by omega) hj.1 hj.2]
 exact Bool.false_ne_true
theorem E6 {ks:List Str}{ws:List Int}{i:Nat}{k:Str}{x:Int}(h1:ks[i]?=some k)(h2:ws[i]?=some x)(hk:k="men")(hx:x=10\/x=11):E5 ks ws=true:=by
 unfold E5
 rw [List.any_eq_true]
 refine ⟨(k,x),List.mem_of_getElem? (i:=i) (by rw [List.getElem?_zip_eq_some];exact ⟨h1,h2⟩),?_⟩
 simp [hk,hx]
theorem Ck (x:Int):inV (.int x) [.int 10,.int 11]=decide (x=10\/x=11):=by
 have:=ki x [10,11]
 rw [show ([10,11]:List Int).map V.int=[V.int 10,V.int 11] from rfl] at this
 rw [this]
 simp
noncomputable def inC (ws:List Int)(c:Int):V:=if 10+c∈ws then .int (ws.idxOf (10+c):Nat) else .non
noncomputable def A3 (ws:List Int)(lv:Int)(i:Nat):List Int:=((List.range i).filter fun j=>decide (ws.getD j 0=lv)).map fun (j:Nat)=>(j:Int)
noncomputable def jh (ws:List Int)(lv:Int):List Int:=A3 ws lv ws.length
theorem Kx (ws:List Int)(lv:Int)(i:Nat):A3 ws lv (i+1)=A3 ws lv i++(if ws.getD i 0=lv then [(i:Int)] else []):=by
 unfold A3
 rw [List.range_succ,List.filter_append,List.map_append]
 by_cases h:ws.getD i 0=lv
 ·rw [if_pos h,List.filter_cons,if_pos (by simpa using h)];rfl
 ·rw [if_neg h,List.filter_cons,if_neg (by simpa using h)];rfl
theorem E7 (ws:List Int)(lv:Int)(i:Nat):(A3 ws lv i).length<=i:=by
 unfold A3
 rw [WB]
 exact Nat.le_trans (List.length_filter_le _ _) (by rw [List.length_range];exact Nat.le_refl _)
noncomputable def km (ds:List Int)(pl:Int):List Int:=((List.range ds.length).filter fun i=>decide (ds.getD i 0=pl\/ds.getD i 0=cw ds - pl)).map fun (i:Nat)=>(i:Int)
structure eA (g:Cfg):Prop where
 sh:cC g.ds
 lc:g.ls.length=g.ds.length
 gc:∀x∈g.ls,eX x
 s1:1<=g.slow
 sf:g.slow<=g.fast
 f5:g.fast<=500
 gk:g.goals.length=g.ks.length
 k30:g.ks.length<=30
noncomputable def fu (g:Cfg)(n:aS):Int:=if E5 g.ks n.ws=true then g.slow else g.fast
theorem eA.speed {g:Cfg}(h:eA g)(n:aS):1<=fu g n/\fu g n<=500:=by
 have:=h.s1;have:=h.sf;have:=h.f5
 unfold fu;split<;>omega
inductive Dd where
 | ring (l s:Int) | rept (s:Int) | opn (l:Int) | sht (l:Int) | load (k c:Int) | unload (c:Int) | wind (c l:Int) (k:Str) | fail (l:Int)
noncomputable def ddV:Dd->List V
 | .ring l s=>[.str "ring",.int l,.int s]
 | .rept s=>[.str "repeat",.int s]
 | .opn l=>[.str "open",.int l]
 | .sht l=>[.str "shut",.int l]
 | .load k c=>[.str "load",.int k,.int c]
 | .unload c=>[.str "unload",.int c]
 | .wind c l k=>[.str "wind",.int c,.int l,.str k]
 | .fail l=>[.str "fail",.int l]
theorem zk (d:Dd):∀x∈ddV d,bU x=true:=by
 cases d<;>intro x hx<;>simp only [ddV,List.mem_cons,List.not_mem_nil,or_false] at hx<;>rcases hx with h | h | h | h<;>(try subst h)<;>(try rfl)<;>simp_all [bU]
theorem Jp (d:Dd):(ddV d).length<=4:=by cases d<;>simp [ddV]
noncomputable def A4:Dd->Prop
 | .load _ c=>0<=c/\c < 2
 | .unload c=>0<=c/\c < 2
 | .wind c _ k=>(0<=c/\c < 2)/\(k="men"\/k="coal")
 | _=>True
inductive Rw where
 | lv | db | nc | nr | ch | na | ul | nt | ct | gs | ce | go
 deriving DecidableEq
def unk (l:Int)(m:Nat):Prop:=¬(0<=l/\l < m)
instance (l:Int) (m:Nat):Decidable (unk l m):=inferInstanceAs (Decidable (¬_))
noncomputable def ji (g:Cfg)(n:aS):Bool:=(km g.ds n.place).any fun x=>n.gates.getD x.toNat false
noncomputable def eU (g:Cfg)(n:aS):Dd->Option Rw
 | .ring l s=>if unk l g.ds.length then some .lv else if n.fs.getD l.toNat false=true then some .db else if s=(dI g.ls l).1\/s=(dI g.ls l).2 then none else some .nc
 | .rept s=>match n.e with | .wait _ _=>if 1<=s/\s<=9 then none else some .nc | _=>some .nr
 | .opn l=>if unk l g.ds.length then some .lv else if n.gates.getD l.toNat false=true then some .ch else none
 | .sht l=>if unk l g.ds.length then some .lv else if n.gates.getD l.toNat false=false then some .ch else none
 | .load k c=>if unk k n.ws.length then some .ul else match bN g.ds n.place c with
  | none=>some .nt
  | some l=>if n.ws.getD k.toNat 0≠l then some .nt else if 10+c∈n.ws then some .ct else if n.gates.getD l.toNat false=true then none else some .gs
 | .unload c=>if ¬10+c∈n.ws then some .ce else match bN g.ds n.place c with
  | none=>some .nt
  | some l=>if n.gates.getD l.toNat false=true then none else some .gs
 | .wind _ l k=>if unk l g.ds.length then some .lv else if ji g n=true then some .go else if n.e=.armed l (df g.ls l k) then none else some .na
 | .fail l=>if unk l g.ds.length then some .lv else if n.fs.getD l.toNat false=true then some .ch else none
noncomputable def eY (ds:List Int)(c l:Int):Int:=if c=0 then ds.getD l.toNat 0 else cw ds - ds.getD l.toNat 0
noncomputable def zl (g:Cfg)(n:aS):Dd->Eng
 | .ring l s=>.wait l s
 | .rept s=>match n.e with | .wait l r=>if s=r then .armed l r else .other l r s | e=>e
 | .wind _ l k=>.used l (df g.ls l k)
 | _=>n.e
noncomputable def c8 (g:Cfg)(n:aS)(d:Dd):aS:=
 {place:=match d with | .wind c l _=>eY g.ds c l | _=>n.place
  gates:=match d with | .opn l=>n.gates.set l.toNat true | .sht l=>n.gates.set l.toNat false | _=>n.gates
  fs:=match d with | .fail l=>n.fs.set l.toNat true | _=>n.fs
  e:=zl g n d
  ws:=match d with | .load k c=>n.ws.set k.toNat (10+c) | .unload c=>n.ws.set (n.ws.idxOf (10+c)) ((bN g.ds n.place c).getD (-1)) | _=>n.ws}
noncomputable def Ma (x:Int):Int:=if x < 0 then -x else x
noncomputable def pC (way sp:Int):Int:=(way+sp - 1) / sp
noncomputable def ir (g:Cfg)(n:aS):Dd->Int
 | .wind c l _=>pC (Ma (eY g.ds c l - n.place)) (fu g n)
 | _=>1
noncomputable def zm (g:Cfg)(n0:aS)(rs:List Row)(d:Dd):Row:=⟨bX rs,bX rs+ir g (aj n0 rs) d,ddV d,fu g (c8 g (aj n0 rs) d),c8 g (aj n0 rs) d⟩
structure cQ (g:Cfg)(n:aS):Prop where
 gl:n.gates.length=g.ds.length
 fl:n.fs.length=g.ds.length
 wl:n.ws.length=g.ks.length
 wr:∀x∈n.ws,(0<=x/\x < g.ds.length)\/x=10\/x=11
 un:∀i j,i < n.ws.length->j < n.ws.length->10<=n.ws.getD i 0->n.ws.getD i 0=n.ws.getD j 0->i=j
 st:∃c,(c=0\/c=1)/\∃l,bN g.ds n.place c=some l
 ew:∀l r,n.e=.wait l r\/n.e=.armed l r->0<=l/\l < g.ds.length/\(r=(dI g.ls l).1\/r=(dI g.ls l).2)
theorem rf (ws:List Int)(n i:Nat)(v:Int)(hi:i < ws.length):(ws.set n v).getD i 0=if n=i then v else ws.getD i 0:=by
 rw [List.getD_eq_getElem?_getD,List.getD_eq_getElem?_getD,List.getElem?_set]
 split
 ·rename_i e
  subst e
  rw [if_pos hi];rfl
 ·rfl
theorem E8 {ds:List Int}{d l:Int}(h:lvl ds d=some l):0<=l/\l < ds.length/\ds.getD l.toNat 0=d:=by
 unfold lvl at h
 split at h
 ·rename_i hm
  cases h
  have hlt:=List.idxOf_lt_length_iff.mpr hm
  refine ⟨Int.natCast_nonneg _,by omega,?_⟩
  rw [Int.toNat_natCast,List.getD_eq_getElem?_getD,List.getElem?_eq_getElem hlt]
  exact List.getElem_idxOf hlt
 ·cases h
theorem fM {ds:List Int}{p c l:Int}(h:bN ds p c=some l):0<=l/\l < ds.length/\ds.getD l.toNat 0=(if c=0 then p else cw ds - p):=by
 unfold bN at h
 split at h
 ·rename_i e;rw [if_pos e];exact E8 h
 ·rename_i e;rw [if_neg e];exact E8 h
theorem wJ {ws:List Int}{k:Int}(h:k∈ws):ws.idxOf k < ws.length/\ws.getD (ws.idxOf k) 0=k:=by
 have hlt:=List.idxOf_lt_length_iff.mpr h
 refine ⟨hlt,?_⟩
 rw [List.getD_eq_getElem?_getD,List.getElem?_eq_getElem hlt]
 exact List.getElem_idxOf hlt
theorem E9 {ws:List Int}{n:Nat}{v x:Int}(h:x∈ws.set n v):x∈ws\/x=v:=List.mem_or_eq_of_mem_set h
theorem Hv {ds:List Int}(hs:cC ds){c l:Int}(hc:0<=c/\c < 2)(hl:0<=l/\l < ds.length):bN ds (eY ds c l) c=some l:=by
 obtain ⟨k,rfl⟩:=Int.eq_ofNat_of_zero_le hl.1
 unfold bN eY
 split
 ·exact jg hs (by omega) (by rw [Int.toNat_natCast])
 ·exact jg hs (by omega) (by rw [Int.toNat_natCast];omega)
theorem ifn {c:Prop}[Decidable c]{a:Rw}{x:Option Rw}(h:(if c then some a else x)=none):¬c/\x=none:=by
 split at h
 ·cases h
 ·rename_i n;exact ⟨n,h⟩
theorem ify {c:Prop}[Decidable c]{a:Rw}(h:(if c then none else some a)=none):c:=by
 split at h
 ·assumption
 ·cases h
theorem rg {l:Int}{m:Nat}(h:¬unk l m):0<=l/\l < m:=Decidable.not_not.mp h
theorem Mb {g:Cfg}{n:aS}{l s:Int}(h:eU g n (.ring l s)=none):(0<=l/\l < g.ds.length)/\n.fs.getD l.toNat false=false/\(s=(dI g.ls l).1\/s=(dI g.ls l).2):=by
 obtain ⟨h1,h⟩:=ifn h
 obtain ⟨h2,h⟩:=ifn h
 exact ⟨rg h1,by simpa using h2,ify h⟩
theorem Fb {g:Cfg}{n:aS}{s:Int}(h:eU g n (.rept s)=none):∃l r,n.e=.wait l r/\1<=s/\s<=9:=by
 simp only [eU] at h
 split at h
 ·rename_i l r e;exact ⟨l,r,e,ify h⟩
 ·cases h
theorem NU {g:Cfg}{n:aS}{l:Int}(h:eU g n (.opn l)=none):(0<=l/\l < g.ds.length)/\n.gates.getD l.toNat false=false:=by
 obtain ⟨h1,h⟩:=ifn h
 obtain ⟨h2,h⟩:=ifn h
 exact ⟨rg h1,by simpa using h2⟩
theorem NV {g:Cfg}{n:aS}{l:Int}(h:eU g n (.sht l)=none):(0<=l/\l < g.ds.length)/\n.gates.getD l.toNat false=true:=by
 obtain ⟨h1,h⟩:=ifn h
 obtain ⟨h2,h⟩:=ifn h
 exact ⟨rg h1,by simpa using h2⟩
theorem Mc {g:Cfg}{n:aS}{l:Int}(h:eU g n (.fail l)=none):(0<=l/\l < g.ds.length)/\n.fs.getD l.toNat false=false:=by
 obtain ⟨h1,h⟩:=ifn h
 obtain ⟨h2,h⟩:=ifn h
 exact ⟨rg h1,by simpa using h2⟩
theorem Fc {g:Cfg}{n:aS}{k c:Int}(h:eU g n (.load k c)=none):(0<=k/\k < n.ws.length)/\∃l,bN g.ds n.place c=some l/\n.ws.getD k.toNat 0=l/\¬10+c∈n.ws/\n.gates.getD l.toNat false=true:=by
 obtain ⟨h1,h⟩:=ifn h
 refine ⟨rg h1,?_⟩
 cases e:bN g.ds n.place c with
 | none=>rw [e] at h;cases h
 | some l=>
  rw [e] at h
  obtain ⟨h2,h⟩:=ifn h
  obtain ⟨h3,h⟩:=ifn h
  exact ⟨l,rfl,Decidable.not_not.mp h2,h3,ify h⟩
theorem zp {g:Cfg}{n:aS}{c:Int}(h:eU g n (.unload c)=none):10+c∈n.ws/\∃l,bN g.ds n.place c=some l/\n.gates.getD l.toNat false=true:=by
 obtain ⟨h1,h⟩:=ifn h
 refine ⟨Decidable.not_not.mp h1,?_⟩
 cases e:bN g.ds n.place c with
 | none=>rw [e] at h;cases h
 | some l=>rw [e] at h;exact ⟨l,rfl,ify h⟩
theorem uC {g:Cfg}{n:aS}{c l:Int}{k:Str}(h:eU g n (.wind c l k)=none):(0<=l/\l < g.ds.length)/\ji g n=false/\n.e=.armed l (df g.ls l k):=by
 obtain ⟨h1,h⟩:=ifn h
 obtain ⟨h2,h⟩:=ifn h
 exact ⟨rg h1,by simpa using h2,ify h⟩
theorem cQ.next {g:Cfg}{n:aS}{d:Dd}(hg:eA g)(h:cQ g n)(ok:A4 d)(hr:eU g n d=none):cQ g (c8 g n d):=by
 have hds:=hg.sh.l6
 cases d with
 | ring l s=>
  obtain ⟨h1,_,h3⟩:=Mb hr
  exact ⟨h.gl,h.fl,h.wl,h.wr,h.un,h.st,fun l' r e=>by
   simp only [c8,zl] at e
   rcases e with e | e
   ·cases e;exact ⟨h1.1,h1.2,h3⟩
   ·cases e⟩
 | rept s=>
  refine ⟨h.gl,h.fl,h.wl,h.wr,h.un,h.st,fun l' r e=>?_⟩
  simp only [c8,zl] at e
  obtain ⟨l0,r0,e0,_⟩:=Fb hr
  rw [e0] at e
  simp only at e
  have:=h.ew l0 r0 (.inl e0)
  split at e
  ·rcases e with e | e
   ·cases e
   ·cases e;exact this
  ·rcases e with e | e<;>cases e
 | opn l=>exact ⟨by simp only [c8];rw [List.length_set];exact h.gl,h.fl,h.wl,h.wr,h.un,h.st,h.ew⟩
 | sht l=>exact ⟨by simp only [c8];rw [List.length_set];exact h.gl,h.fl,h.wl,h.wr,h.un,h.st,h.ew⟩
 | fail l=>exact ⟨h.gl,by simp only [c8];rw [List.length_set];exact h.fl,h.wl,h.wr,h.un,h.st,h.ew⟩
 | load k c=>
  obtain ⟨h1,l,hl,h3,h4,_⟩:=Fc hr
  have hc:0<=c/\c < 2:=ok
  refine ⟨h.gl,h.fl,by simp only [c8];rw [List.length_set];exact h.wl,fun x hx=>?_,fun i j hi hj h10 e=>?_,h.st,h.ew⟩
  ·rcases E9 hx with hx | rfl
   ·exact h.wr x hx
   ·omega
  ·simp only [c8,List.length_set] at hi hj h10 e
   rw [rf _ _ _ _ hi] at h10 e
   rw [rf _ _ _ _ hj] at e
   split at e<;>split at e
   ·omega
   ·exact absurd (e▸cW hj) h4
   ·exact absurd (e▸cW hi) h4
   ·rename_i n1 n2;rw [if_neg n1] at h10;exact h.un i j hi hj h10 e
 | unload c=>
  obtain ⟨h1,l,hl,_⟩:=zp hr
  obtain ⟨l0,l1,l2⟩:=fM hl
  refine ⟨h.gl,h.fl,by simp only [c8];rw [List.length_set];exact h.wl,fun x hx=>?_,fun i j hi hj h10 e=>?_,h.st,h.ew⟩
  ·simp only [c8,hl,Option.getD_some] at hx
   rcases E9 hx with hx | rfl
   ·exact h.wr x hx
   ·exact .inl ⟨l0,l1⟩
  ·simp only [c8,List.length_set,hl,Option.getD_some] at hi hj h10 e
   rw [rf _ _ _ _ hi] at h10 e
   rw [rf _ _ _ _ hj] at e
   split at e
   ·rename_i n1;rw [if_pos n1] at h10;omega
   ·rename_i n1
    rw [if_neg n1] at h10
    split at e
    ·omega
    ·exact h.un i j hi hj h10 e
 | wind c l k=>
  obtain ⟨h1,_⟩:=uC hr
  refine ⟨h.gl,h.fl,h.wl,h.wr,h.un,⟨c,by have:=ok.1;omega,l,Hv hg.sh ok.1 h1⟩,fun l' r e=>?_⟩
  simp only [c8,zl] at e
  rcases e with e | e<;>cases e
theorem cQ.place {g:Cfg}{n:aS}(hg:eA g)(h:cQ g n):0<=n.place/\n.place<=cw g.ds:=by
 obtain ⟨c,hc,l,hl⟩:=h.st
 obtain ⟨l0,l1,l2⟩:=fM hl
 have hm:g.ds.getD l.toNat 0∈g.ds:=cW (by omega)
 have:=hg.sh.lo _ hm
 have:=hg.sh.le_whole hm
 split at l2<;>omega
noncomputable def kT (fs:List Bool)(i:Nat):List Int:=((List.range i).filter fun j=>fs.getD j false).map fun (j:Nat)=>(j:Int)
noncomputable def c9 (fs:List Bool):List Int:=kT fs fs.length
theorem Fd (fs:List Bool)(i:Nat):kT fs (i+1)=kT fs i++(if fs.getD i false=true then [(i:Int)] else []):=by
 unfold kT
 rw [List.range_succ,List.filter_append,List.map_append]
 by_cases h:fs.getD i false=true
 ·rw [if_pos h,List.filter_cons,if_pos h];rfl
 ·rw [if_neg h,List.filter_cons,if_neg h];rfl
theorem zq (fs:List Bool)(i:Nat):(kT fs i).length<=i:=by
 unfold kT
 rw [WB]
 exact Nat.le_trans (List.length_filter_le _ _) (by rw [List.length_range];exact Nat.le_refl _)
theorem i9 {fs:List Bool}{x:Int}:x∈c9 fs↔0<=x/\x < fs.length/\fs.getD x.toNat false=true:=by
 unfold c9 kT
 rw [List.mem_map]
 constructor
 ·rintro ⟨j,hj,rfl⟩
  rw [List.mem_filter,List.mem_range] at hj
  exact ⟨Int.natCast_nonneg _,by omega,by rw [Int.toNat_natCast];exact hj.2⟩
 ·rintro ⟨h0,h1,h2⟩
  refine ⟨x.toNat,?_,by omega⟩
  rw [List.mem_filter,List.mem_range]
  exact ⟨by omega,h2⟩
theorem Fe (fs:List Bool):(c9 fs).Pairwise (· < ·):=by
 unfold c9 kT
 rw [List.pairwise_map]
 exact (List.pairwise_lt_range.sublist List.filter_sublist).imp fun h=>by omega
theorem av.keeps {H H1 H2:Hp}{p:Addr}(s:av H H1)(k:aD p H1 H2)(hp:H p=none):av H H2:=fun b o e=>k b o (ak e hp) (s b o e)
section
variable {C:Cl}{K:WA}{H H':Hp}{rl s:Addr}{g:Cfg}{A:SA}{n:aS}
theorem bf.ne_b (h:bf C K H rl g s A n):s≠A.b:=fun z=>by
 obtain ⟨dx,hb⟩:=h.be.ob
 have:=h.ob
 rw [z,hb] at this
 injection this with this
 injection this with _ _ this
 injection this with this _
 injection this with this _
 exact absurd this (by decide)
theorem bf.ne_y (h:bf C K H rl g s A n):s≠A.y:=fun z=>by
 obtain ⟨dx,hb⟩:=h.ya.ob
 have:=h.ob
 rw [z,hb] at this
 injection this with this
 injection this with _ _ this
 injection this with this _
 injection this with this _
 exact absurd this (by decide)
theorem bf.ne_by (h:bf C K H rl g s A n):A.y≠A.b:=fun z=>by
 obtain ⟨dx,hb⟩:=h.ya.ob
 obtain ⟨dx2,hb2⟩:=h.be.ob
 rw [z,hb2] at hb
 injection hb with this
 injection this with _ _ this
 injection this with this _
 injection this with this _
 exact absurd this (by decide)
theorem bf.bells {st':Addr}{e':Eng}(h:bf C K H rl g s A n)(k:aD A.b H H')(hb:bM C.B K H' A.b A.cs A.fl st' g.ls n.fs e'):bf C K H' rl g s {A with st:=st'} {n with e:=e'}:=by
 obtain ⟨dx,hb0⟩:=h.be.ob
 refine ⟨k _ _ h.ne_b h.ob,k _ _ (fun z=>?_) h.go,hb,h.ya.offI k hb0 h.ne_by,⟨h.ap.r1,h.ap.r2,h.ap.r3,h.ap.r4,h.ap.r5,h.ap.o1,h.ap.o2,h.ap.o3,h.ap.o4,h.ap.f1,h.ap.f2,h.ap.f3,h.ap.w1,h.ap.w2,h.ap.w3,h.ap.w4⟩,⟨(h.nn.keepI k hb0).al,h.nn.nr,h.nn.no,h.nn.nc,h.nn.nf,h.nn.nk,h.nn.nw⟩⟩
 have:=h.go
 rw [z,hb0] at this
 cases this
theorem bf.fail {fs':List Bool}(h:bf C K H rl g s A n)(k:aD A.fl H H')(hf:H' A.fl=some (.lst (fs'.map V.bl)))(hl:fs'.length=n.fs.length):bf C K H' rl g s A {n with fs:=fs'}:=by
 refine ⟨k _ _ (fun z=>?_) h.ob,k _ _ h.ap.f1 h.go,h.be.fail k hf hl,h.ya.off k h.be.of h.ap.f2 h.ap.f3,h.ap,h.nn.keep k h.nn.nf⟩
 have:=h.be.of
 rw [←z,h.ob] at this
 cases this
theorem bf.spots {ws':List Int}(h:bf C K H rl g s A n)(k:aD A.wh H H')(hw:H' A.wh=some (.lst (ws'.map V.int))):bf C K H' rl g s A {n with ws:=ws'}:=by
 refine ⟨k _ _ (fun z=>?_) h.ob,k _ _ h.ap.w1 h.go,h.be.off k h.ya.owh h.ap.w2 h.ap.w3,h.ya.put k h.ap.w4 hw,h.ap,h.nn.keep k h.nn.nw⟩
 have:=h.ya.owh
 rw [←z,h.ob] at this
 cases this
theorem bf.placed {pl:Int}(h:bf C K H rl g s A n)(k:aD s H H')(hp:H' s=some (.ins C.S A.dx [("place",.int pl),("opened",.ref A.ol),("bells",.ref A.b),("yard",.ref A.y)])):bf C K H' rl g s A {n with place:=pl}:=by
 refine ⟨hp,k _ _ (fun z=>?_) h.go,h.be.offI k h.ob h.ne_b.symm,h.ya.offI k h.ob h.ne_y.symm,h.ap,h.nn.keepI k h.ob⟩
 have:=h.go
 rw [z,h.ob] at this
 cases this
theorem bf.own {p:Addr}{ys:List V}(h:bf C K H rl g s A n)(hp:g.N p)(k:aD p H H')(e:H' p=some (.lst ys)):bf C K H' rl g s A n:=by
 obtain ⟨zs,hz⟩:=h.nn.al p hp
 refine ⟨k _ _ (fun z=>by have:=h.ob;rw [z,hz] at this;cases this) h.ob,k _ _ (h.nn.no p hp) h.go,h.be.off k hz (h.nn.nc p hp) (h.nn.nf p hp),h.ya.off k hz (h.nn.nk p hp) (h.nn.nw p hp),h.ap,⟨fun q hq=>?_,h.nn.nr,h.nn.no,h.nn.nc,h.nn.nf,h.nn.nk,h.nn.nw⟩⟩
 by_cases e1:q=p
 ·subst e1;exact ⟨ys,e⟩
 ·obtain ⟨us,hu⟩:=h.nn.al q hq
  exact ⟨us,k _ _ e1 hu⟩
noncomputable def Cfg.plus (g:Cfg)(p:Addr):Cfg:={g with N:=fun q=>g.N q\/q=p}
theorem bf.grow {p:Addr}{ys:List V}(h:bf C K H rl g s A n)(hr:rl≠p)(hn:H p=none)(k:av H H')(e:H' p=some (.lst ys)):bf C K H' rl (g.plus p) s A n:=by
 have h':=h.same k
 obtain ⟨_,⟨as,oc,_⟩,of,_⟩:=id h.be
 obtain ⟨_,okn,owh⟩:=id h.ya
 refine ⟨h'.ob,h'.go,h'.be,h'.ya,h'.ap,⟨fun q hq=>?_,fun q hq=>?_,fun q hq=>?_,fun q hq=>?_,fun q hq=>?_,fun q hq=>?_,fun q hq=>?_⟩⟩
 ·rcases hq with hq | rfl
  ·exact h'.nn.al q hq
  ·exact ⟨ys,e⟩
 ·rcases hq with hq | rfl
  ·exact h.nn.nr q hq
  ·exact hr
 ·rcases hq with hq | rfl
  ·exact h.nn.no q hq
  ·exact ak h.go hn
 ·rcases hq with hq | rfl
  ·exact h.nn.nc q hq
  ·exact ak oc hn
 ·rcases hq with hq | rfl
  ·exact h.nn.nf q hq
  ·exact ak of hn
 ·rcases hq with hq | rfl
  ·exact h.nn.nk q hq
  ·exact ak okn hn
 ·rcases hq with hq | rfl
  ·exact h.nn.nw q hq
  ·exact ak owh hn
end
section
variable {C:Cl}{K:WA}{H H':Hp}{rl s w bk:Addr}{g:Cfg}{n n0:aS}{rs:List Row}
theorem WAt.rows (h:WAt C K H w bk rl g n0 rs):∃as:List Addr,H rl=some (.lst (as.map V.ref)):=by
 obtain ⟨as,hr,_⟩:=h.bo.ro
 exact ⟨as,hr⟩
theorem WAt.own {p:Addr}{ys:List V}(h:WAt C K H w bk rl g n0 rs)(hp:g.N p)(k:aD p H H')(e:H' p=some (.lst ys)):WAt C K H' w bk rl g n0 rs:=by
 obtain ⟨⟨dx,dl,gl,h1,h2,h3,h4,h5,h6,h7⟩,⟨dy,f,h8,A,h9⟩,as,h10,h11⟩:=h
 obtain ⟨zs,hz⟩:=h9.nn.al p hp
 refine ⟨⟨dx,dl,gl,k _ _ (fun z=>by rw [z,hz] at h1;cases h1) h1,k _ _ (h6 p hp) h2,k _ _ (h7 p hp) h3,h4,h5,h6,h7⟩,⟨dy,f,k _ _ (fun z=>by rw [z,hz] at h8;cases h8) h8,A,h9.own hp k e⟩,as,k _ _ (h9.nn.nr p hp) h10,h11.1,fun i a r e1 e2=>?_⟩
 obtain ⟨dd,s,u1,u2,A',u3⟩:=h11.2 i a r e1 e2
 exact ⟨dd,s,u1.keep k hz,u2.keep k hz,A',u3.own hp k e⟩
theorem WAt.grow {p:Addr}{ys:List V}(h:WAt C K H w bk rl g n0 rs)(hn:H p=none)(k:av H H')(e:H' p=some (.lst ys)):WAt C K H' w bk rl (g.plus p) n0 rs:=by
 obtain ⟨⟨dx,dl,gl,h1,h2,h3,h4,h5,h6,h7⟩,⟨dy,f,h8,A,h9⟩,as,h10,h11⟩:=h
 have hr:rl≠p:=ak h10 hn
 refine ⟨⟨dx,dl,gl,k _ _ h1,k _ _ h2,k _ _ h3,h4,h5,fun q hq=>?_,fun q hq=>?_⟩,⟨dy,f,k _ _ h8,A,h9.grow hr hn k e⟩,as,k _ _ h10,h11.1,fun i a r e1 e2=>?_⟩
 ·rcases hq with hq | rfl
  ·exact h6 q hq
  ·exact ak h2 hn
 ·rcases hq with hq | rfl
  ·exact h7 q hq
  ·exact ak h3 hn
 ·obtain ⟨dd,s,u1,u2,A',u3⟩:=h11.2 i a r e1 e2
  exact ⟨dd,s,k.tup u1,k.tup u2,A',u3.grow hr hn k e⟩
end
noncomputable def ij (ds:List Int)(ls:List Cd)(slow fast:Int)(lds:List Ld)(N:Addr->Prop):Cfg:=⟨ds,ls,slow,fast,lds.map (·.2.2),lds.map (·.1),N⟩
noncomputable def iV (ds:List Int)(ls:List Cd)(lds:List Ld):aS:=⟨ds.getD 0 0,ds.map fun _=>false,ls.map fun _=>false,.no,lds.map (·.2.1)⟩
theorem bf.keepI {C:Cl}{K:WA}{H H':Hp}{rl s x D dp:Addr}{g:Cfg}{A:SA}{n:aS}{us:List (Str×V)}(h:bf C K H rl g s A n)(k:aD x H H')(hx:H x=some (.ins D dp us))(n1:s≠x)(n2:A.b≠x)(n3:A.y≠x):bf C K H' rl g s A n:=by
 refine ⟨k _ _ n1 h.ob,k _ _ (fun z=>?_) h.go,h.be.offI k hx n2,h.ya.offI k hx n3,h.ap,h.nn.keepI k hx⟩
 have:=h.go
 rw [z,hx] at this
 cases this
theorem QJ {ds:List Int}{ls:List Cd}{slow fast:Int}{lds:List Ld}{N:Addr->Prop}(h1:cC ds)(h2:ls.length=ds.length)(h3:∀x∈ls,eX x)(h4:1<=slow/\slow<=fast/\fast<=500)(h5:lds.length<=30):eA (ij ds ls slow fast lds N):=
 ⟨h1,h2,h3,h4.1,h4.2.1,h4.2.2,by simp [ij],by simpa [ij] using h5⟩
theorem NW {ds:List Int}{ls:List Cd}{slow fast:Int}{lds:List Ld}{N:Addr->Prop}(h1:cC ds)(h2:ls.length=ds.length)(h6:∀x∈lds,je ds.length x):cQ (ij ds ls slow fast lds N) (iV ds ls lds):=by
 have l2:=h1.l2
 have l6:=h1.l6
 refine ⟨by simp [ij,iV],by simp [ij,iV,h2],by simp [ij,iV],fun x hx=>?_,fun i j hi hj h10 e=>?_,⟨0,.inl rfl,0,?_⟩,fun l r e=>?_⟩
 ·simp only [iV,List.mem_map] at hx
  obtain ⟨y,hy,rfl⟩:=hx
  exact .inl (h6 y hy).1
 ·exfalso
  have hm:(iV ds ls lds).ws.getD i 0∈(iV ds ls lds).ws:=cW hi
  simp only [iV,List.mem_map] at hm
  obtain ⟨y,hy,e1⟩:=hm
  have:=(h6 y hy).1
  simp only [iV] at h10
  omega
 ·exact jg h1 (i:=0) (by omega) rfl
 ·rcases e with e | e<;>cases e
end L2
namespace PySem
open PySem.Spec PyProof.Rows
section
variable {prog:Program}{w:World}{A:Around}{E:Value->Shared->Prop}{s:Shared}
theorem Cm {it t:Addr}{items:Array Value}(hne:t≠it):∀(n i:Nat) (s:Shared) (Q:List Value->Shared->Prop),s.heap.IsListIter it t i->s.heap.IsList t items->i+n<=items.size->
  (∀h',Heap.IsListIter h' it t (i+n)->Heap.SameBut it s.heap h'->Q ((items.toList.drop i).take n) {s with heap:=h'})->wpAny (model prog w) A (draw (.ref it) n) Q E s
 | 0,i,s,Q,hit,_,_,hQ=>by
  show wpAny _ _ (pure []) Q E s
  exact wpAny_pure (by simpa using hQ s.heap hit (Heap.SameBut.refl ..))
 | n+1,i,s,Q,hit,ht,hle,hQ=>by
  have hlt:i < items.size:=by omega
  show wpAny _ _ (pyNext (.ref it) >>= _) Q E s
  refine wpAny_bind (wpAny_pyNext_list_item hit ht (x:=items[i]) (by simp [hlt]) fun h₁ hit₁ hs₁=>?_)
  refine wpAny_bind (wpAny_holding (Cm hne n (i+1) _ _ hit₁ (ht.extBut hs₁.extBut hne) (by omega) fun h₂ hit₂ hs₂=>wpAny_pure ?_))
  have hd:items.toList.drop i=items[i]::items.toList.drop (i+1):=by simp [List.drop_eq_getElem_cons,hlt]
  have:=hQ h₂ (by rw [show i+(n+1)=i+1+n by omega];exact hit₂) (hs₁.trans hs₂)
  rw [hd,List.take_succ_cons] at this
  exact this
theorem wK {t:Addr}{items:Array Value}{Q:List Value->Shared->Prop}(hh:A.handled=none)(ht:s.heap.IsList t items)
  (hQ:∀h',Heap.ExtBut s.heap.objs.size s.heap h'->Q items.toList {s with heap:=h'}):wpAny (model prog w) A (unpackItems (.ref t) items.size none) Q E s:=by
 have hlt:t≠s.heap.objs.size:=by obtain ⟨o,ho,_⟩:=ht;exact Nat.ne_of_lt (Heap.lt_size ho)
 unfold unpackItems
 refine wpAny_bind ?_
 ·unfold notIterableAtAll
  refine wpAny_bind (wpAny_specialOf ht.typeIs slot_list_iter.lookup ?_)
  refine wpAny_pure ?_
  simp only [Bool.false_eq_true,if_false]
  refine wpAny_bind (wpAny_holding (wpAny_pyIter_list ht ?_))
  refine wpAny_bind (wpAny_holding (Cm hlt items.size 0 _ _ ⟨_,Heap.get?_push_size _ rfl,rfl,rfl⟩ (ht.push _) (by omega) fun h₁ hit₁ hs₁=>?_))
  have hall:List.take items.size (List.drop 0 items.toList)=items.toList:=by
   rw [List.drop_zero];exact List.take_of_length_le (by simp)
  rw [hall]
  rw [if_neg (by simp)]
  have ht₁:Heap.IsList h₁ t items:=(ht.push _).extBut hs₁.extBut hlt
  refine wpAny_bind (wpAny_holding (wpAny_pyNext_list_end hh hit₁ ht₁ (by simp) fun h₂ he₂=>?_))
  simp only [Option.isSome_none,Bool.false_eq_true,if_false]
  refine wpAny_pure (hQ h₂ fun b o hb e=>he₂ b o hb (hs₁.extBut b o hb (Heap.get?_push_of_some _ e)))
theorem Ff {t:Addr}{items:Array Value}{targets:List (Bool×(Value->Sem Unit))}{Q:Unit->Shared->Prop}(hh:A.handled=none)(ht:s.heap.IsList t items)
  (hn:targets.length=items.size) (hstar:targets.findIdx? (·.1)=none)
  (h:∀h',Heap.ExtBut s.heap.objs.size s.heap h'->wpAny (model prog w) A (assignInOrder (targets.map (·.2)) items.toList) Q E {s with heap:=h'}) :
  wpAny (model prog w) A (unpack (.ref t) targets) Q E s:=by
 unfold unpack
 rw [hn,hstar]
 exact wpAny_bind (wpAny_holding (wK hh ht h))
theorem uD {env:Env}{elts:List Expr}{x1}{pos:Pos}{t:Addr}{items:Array Value}{Q:Unit->Shared->Prop}(hh:A.handled=none)(ht:s.heap.IsList t items)
  (hn:(assignEach elts env).length=items.size) (hstar:(assignEach elts env).findIdx? (·.1)=none)
  (h:∀h',Heap.ExtBut s.heap.objs.size s.heap h'->wpAny (model prog w) A (assignInOrder ((assignEach elts env).map (·.2)) items.toList) Q E {s with heap:=h'}) :
  wpAny (model prog w) A (assign (.Tuple elts x1 pos) env (.ref t)) Q E s:=by
 rw [assign_Tuple]
 exact wpAny_bind (wpAny_standAt (Ff hh ht hn hstar h))
end
end PySem
namespace L2
open PySem PySem.Spec PyProof.Rows PySem.SeqAt
section
variable {X:Cx}{pos:Pos}
noncomputable def Pp (K:WA)(n:Nat)(t:TGs):TG:=fun v σ H Q=>∃a xs,v=.ref a/\SqL K H a xs/\xs.length=n/\t xs σ H Q
theorem QK {es:List Expr}{k:Nat}{t:TGs}{n:Nat}(hc:X.calm=true)(h:PGs X es t)
  (hn:(assignEach es X.env).length=n:=by rfl) (hst:(assignEach es X.env).findIdx? (·.1)=none:=by rfl):PG X (.Tuple es k pos) (Pp X.K n t):=by
 intro pins s σ H v u Q I r hw
 obtain ⟨a,xs,e1,hq,hl,hw⟩:=hw
 subst e1
 cases r
 obtain ⟨its,rv,ht,hz⟩:=I.list hq
 refine uD (I.ok.hd hc) ht.isList (by simp [hn,←hl,rv.length]) hst fun h' hx=>?_
 have I1:Inv X pins σ H {s with heap:=h'}:=I.kept (t':=s.toks) fun b o e=>hx b o (Nat.ne_of_lt (Heap.lt_size e)) e
 exact h pins _ σ H xs _ Q I1 (by simpa using rv) hw
noncomputable def QL (K:WA):R2:=fun x y H Q=>∃a b xs ys,x=.ref a/\y=.ref b/\SqL K H a xs/\SqL K H b ys/\xs.all bU=true/\ys.all bU=true/\Q (.bl (!eqL xs ys)) H
theorem QM (hu:X.A.units < cLine):OpR X (compareOp .NotEq) (QL X.K):=by
 intro pins s σ H x y u v Q I rx ry h
 obtain ⟨a,b,xs,ys,rfl,rfl,ha,hb,fa,fb,q⟩:=h
 cases rx;cases ry
 obtain ⟨ia,ra,pa,za⟩:=I.list ha
 obtain ⟨ib,rb,pb,zb⟩:=I.list hb
 have la:=ra.length
 have lb:=rb.length
 by_cases hl:xs.length=ys.length
 ·refine RcNeAt.lists (e:=fun j=>eqV (xs.getD j .non) (ys.getD j .non)) pa.isList pb.isList (by simp only [List.size_toArray];omega) hu (fun j h1 h2=>?_) X.prog X.w _ _ ?_
  ·simp only [List.size_toArray] at h1 h2
   have hx:xs[j]?=some (xs.getD j .non):=by
    rw [List.getD_eq_getElem?_getD,List.getElem?_eq_getElem (by omega)];rfl
   have hy:ys[j]?=some (ys.getD j .non):=by
    rw [List.getD_eq_getElem?_getD,List.getElem?_eq_getElem (by omega)];rfl
   obtain ⟨u,eu,ru⟩:=ra.get hx
   obtain ⟨v,ev,rv⟩:=rb.get hy
   have e1:ia.toArray[j]=u:=by
    have:=List.getElem?_eq_some_iff.mp eu
    simpa using this.2
   have e2:ib.toArray[j]=v:=by
    have:=List.getElem?_eq_some_iff.mp ev
    simpa using this.2
   rw [e1,e2]
   exact wA ru rv (List.all_eq_true.mp fa _ (List.mem_of_getElem? hx)) (List.all_eq_true.mp fb _ (List.mem_of_getElem? hy))
  ·have e:(List.range ia.toArray.size).all (fun j=>eqV (xs.getD j .non) (ys.getD j .non))=eqL xs ys:=by
    rw [List.size_toArray,←la]
    exact yS hl
   rw [e]
   exact ⟨.bl (!eqL xs ys),H,I,rfl,q⟩
 ·refine RcNeAt.lists_lengths pa.isList pb.isList (by simp only [List.size_toArray,bne_iff_ne,ne_eq];omega) hu X.prog X.w _ _ ?_
  have e:eqL xs ys=false:=by
   cases he:eqL xs ys with
   | false=>rfl
   | true=>exact absurd (yR he) hl
  rw [e] at q
  exact ⟨.bl true,H,I,rfl,q⟩
end
end L2
namespace L2
open PySem PySem.Spec PyProof.Rows
inductive Run (g:Cfg)(n0:aS):List Row->Prop
 | nil:Run g n0 []
 | snoc {rs:List Row} {d:Dd} (h:Run g n0 rs) (ok:A4 d) (hr:eU g (aj n0 rs) d=none):Run g n0 (rs++[zm g n0 rs d])
theorem Fg {α:Type}{xs ys:List α}{a b:α}(h:xs++[a]=ys++[b]):xs=ys/\a=b:=by
 have:=List.append_inj' h rfl
 exact ⟨this.1,by simpa using this.2⟩
theorem Run.inv {g:Cfg}{n0:aS}{rs:List Row}{r:Row}(h:Run g n0 (rs++[r])):Run g n0 rs/\∃d,A4 d/\eU g (aj n0 rs) d=none/\r=zm g n0 rs d:=by
 generalize e:rs++[r]=rs' at h
 cases h with
 | nil=>simp at e
 | @snoc rs2 d h ok hr=>
  obtain ⟨rfl,rfl⟩:=Fg e
  exact ⟨h,d,ok,hr,rfl⟩
theorem Run.snap {g:Cfg}{n0:aS}{rs:List Row}(hg:eA g)(h0:cQ g n0)(h:Run g n0 rs):cQ g (aj n0 rs):=by
 induction h with
 | nil=>exact h0
 | snoc h ok hr ih=>
  rw [pB]
  exact ih.next hg ok hr
theorem Run.deeds {g:Cfg}{n0:aS}{rs:List Row}(h:Run g n0 rs):∀r∈rs,∃d,r.deed=ddV d:=by
 induction h with
 | nil=>intro r hr;cases hr
 | @snoc rs d h ok hr ih=>
  intro r hr
  rcases List.mem_append.mp hr with hr | hr
  ·exact ih r hr
  ·rw [List.mem_singleton] at hr
   subst hr
   exact ⟨d,rfl⟩
theorem A5 {w s:Int}(hw:0<=w)(hs:1<=s):0<=pC w s:=Int.ediv_nonneg (by omega) (by omega)
theorem xG (x:Int):0<=Ma x:=by unfold Ma;split<;>omega
theorem rJ {g:Cfg}(hg:eA g)(n:aS)(d:Dd):0<=ir g n d:=by
 cases d<;>first | (simp only [ir];exact A5 (xG _) (hg.speed n).1) | (simp only [ir];decide)
theorem Run.now {g:Cfg}{n0:aS}{rs:List Row}(hg:eA g)(h:Run g n0 rs):0<=bX rs:=by
 induction h with
 | nil=>exact Int.le_refl 0
 | @snoc rs d h ok hr ih=>
  rw [mf]
  have:=rJ hg (aj n0 rs) d
  show 0<=bX rs+_
  omega
def yT (K:WA)(H:Hp)(a:Addr)(r:Row):Prop:=∃dd,SqT K H a [.int r.began,.int r.ended,.ref dd]/\SqT K H dd r.deed
def dJ (K:WA)(H:Hp)(as:List Addr)(rs:List Row):Prop:=as.length=rs.length/\∀(i:Nat) a r,as[i]?=some a->rs[i]?=some r->yT K H a r
theorem dJ.same {K:WA}{H H':Hp}{as:List Addr}{rs:List Row}(h:dJ K H as rs)(e:av H H'):dJ K H' as rs:=⟨h.1,fun i a r e1 e2=>by
 obtain ⟨dd,h1,h2⟩:=h.2 i a r e1 e2
 exact ⟨dd,e.tup h1,e.tup h2⟩⟩
theorem dJ.keep {K:WA}{H H':Hp}{p:Addr}{ys:List V}{as:List Addr}{rs:List Row}(h:dJ K H as rs)(e:aD p H H')(hp:H p=some (.lst ys)):dJ K H' as rs:=⟨h.1,fun i a r e1 e2=>by
 obtain ⟨dd,h1,h2⟩:=h.2 i a r e1 e2
 exact ⟨dd,h1.keep e hp,h2.keep e hp⟩⟩
theorem dJ.nil {K:WA}{H:Hp}:dJ K H [] []:=⟨rfl,fun i a r e _=>by simp at e⟩
theorem dJ.push {K:WA}{H:Hp}{as:List Addr}{rs:List Row}{a:Addr}{r:Row}(h:dJ K H as rs)(hr:yT K H a r):dJ K H (as++[a]) (rs++[r]):=by
 refine ⟨by rw [List.length_append,List.length_append,h.1];rfl,fun i b x e1 e2=>?_⟩
 by_cases hi:i < as.length
 ·rw [List.getElem?_append_left hi] at e1
  rw [List.getElem?_append_left (by rw [←h.1];exact hi)] at e2
  exact h.2 i b x e1 e2
 ·rw [List.getElem?_append_right (by omega)] at e1
  rw [List.getElem?_append_right (by rw [←h.1];omega),←h.1] at e2
  have hz:i - as.length=0:=by
   have:=(List.getElem?_eq_some_iff.mp e1).1
   simp at this
   omega
  rw [hz] at e1 e2
  cases e1
  cases e2
  exact hr
theorem dJ.last {K:WA}{H:Hp}{as:List Addr}{rs:List Row}{r:Row}(h:dJ K H as (rs++[r])):∃as' a,as=as'++[a]/\dJ K H as' rs/\yT K H a r:=by
 have hl:=h.1
 rw [List.length_append,List.length_singleton] at hl
 rcases dk as with rfl | ⟨as',a,rfl⟩
 ·cases hl
 ·have hl':as'.length=rs.length:=by rw [List.length_append,List.length_singleton] at hl;omega
  refine ⟨as',a,rfl,⟨hl',fun i b x e1 e2=>?_⟩,?_⟩
  ·have hi:=(List.getElem?_eq_some_iff.mp e1).1
   exact h.2 i b x (by rw [List.getElem?_append_left hi];exact e1) (by rw [List.getElem?_append_left (by omega)];exact e2)
  ·refine h.2 as'.length a r ?_ ?_
   ·rw [List.getElem?_append_right (Nat.le_refl _)];simp
   ·rw [List.getElem?_append_right (by omega),hl'];simp
noncomputable def Pq (r:Row):Dt:=.tup [.flat (.int r.began),.flat (.int r.ended),.tup (r.deed.map Dt.flat)]
noncomputable def Pr (rs:List Row):Dt:=.lst (rs.map Pq)
theorem Ky {K:WA}{H:Hp}{a:Addr}{r:Row}{n:Nat}(h:yT K H a r)(hd:∃d,r.deed=ddV d):Rep K H (n+2) (.ref a) (Pq r):=by
 obtain ⟨dd,h1,h2⟩:=h
 obtain ⟨d,hd⟩:=hd
 refine .tup h1 (by show 3<=100000;decide) rfl fun i x y e1 e2=>?_
 match i,e1,e2 with
 | 0,e1,e2=>cases e1;cases e2;exact .flat rfl
 | 1,e1,e2=>cases e1;cases e2;exact .flat rfl
 | 2,e1,e2=>
  cases e1;cases e2
  have:=Jp d
  exact ff h2 (by rw [hd];omega) (by rw [hd];exact zk d)
 | i+3,e1,e2=>simp at e1
theorem Fh {K:WA}{H:Hp}{p:Addr}{as:List Addr}{rs:List Row}{n:Nat}(hp:SqL K H p (as.map V.ref))(h:dJ K H as rs)(hd:∀r∈rs,∃d,r.deed=ddV d)(hl:rs.length<=100000):Rep K H (n+3) (.ref p) (Pr rs):=by
 refine .lst hp (by rw [WB,h.1];exact hl) (by rw [WB,WB,h.1]) fun i x y e1 e2=>?_
 rw [List.getElem?_map] at e1 e2
 cases ea:as[i]? with
 | none=>rw [ea] at e1;cases e1
 | some a=>
  cases er:rs[i]? with
  | none=>rw [er] at e2;cases e2
  | some r=>
   rw [ea] at e1;rw [er] at e2
   cases e1;cases e2
   exact Ky (h.2 i a r ea er) (hd r (List.mem_of_getElem? er))
theorem Cn {K:WA}{H:Hp}{a:Addr}{bs:List Bool}{n:Nat}(h:SqL K H a (bs.map V.bl))(hb:bs.length<=100000):Rep K H (n+1) (.ref a) (.lst ((bs.map V.bl).map Dt.flat)):=by
 refine .lst h (by rw [WB];exact hb) (by simp) fun i x y e1 e2=>?_
 rw [List.getElem?_map,e1] at e2
 cases e2
 rw [List.getElem?_map] at e1
 cases eb:bs[i]? with
 | none=>rw [eb] at e1;cases e1
 | some b=>rw [eb] at e1;cases e1;exact .flat rfl
theorem WAt.off {C:Cl}{K:WA}{H:Hp}{w bk rl:Addr}{g:Cfg}{n0:aS}{rs:List Row}(h:WAt C K H w bk rl g n0 rs)(p:Addr)(hp:g.N p):rl≠p:=by
 obtain ⟨dx,f,_,A,hA⟩:=h.bo.ob
 exact hA.nn.nr p hp
end L2
namespace PySem
open Sem (wp)
open Builtin PySem.Spec PyProof.Rows PySem.SeqAt
theorem wL:fillsNumberSlot (.type "tuple") "mul"=pure false:=
 fillsNumberSlot_seq (id:="tuple.__mul__") (r:=some (.builtin "tuple.__rmul__")) F.slot_tuple_mul.lookup (by decide +kernel) F.slot_tuple_rmul.lookup (by decide +kernel)
theorem Dw:seqRepeat? (.type "tuple")=pure (some (.builtin "tuple.__mul__")):=by
 unfold seqRepeat?
 rw [seqSlot_of (T:="tuple") (name:="__mul__") (id:="tuple.__mul__") F.slot_tuple_mul.lookup (by decide +kernel),seqSlot_of (T:="tuple") (name:="__rmul__") (id:="tuple.__rmul__") F.slot_tuple_rmul.lookup (by decide +kernel)]
 rfl
theorem nh (a:Int)(t:Tok)(l:Addr)(items:Array Value)(n:Nat)(dd:Option Addr)(sl:Array (Option Value)) :
  Meets (Builtin.«int.__rmul__» ⟨[.int a t,.ref l],[]⟩) (fun _ R s=>s.heap.get? l=some {cls:=.type "tuple",dict:=dd,data:=.seq items n,slots:=sl}/\R (.ok (.ret Value.notImplemented)) s):=
 .of_wp fun prog w A R s h=>by obtain ⟨hp,g,d,tk,os⟩:=s;obtain ⟨hl,h⟩:=h;wp_walk;exact ⟨_,rfl,h⟩
theorem Hw (l:Addr)(items:Array Value)(n:Nat)(dd:Option Addr)(sl:Array (Option Value))(x:Int)(u:Tok)(h2:2<=x)(h3:x<=100)(hz:items.size=1) :
  Meets (Builtin.«tuple.__mul__» ⟨[.ref l,.int x u],[]⟩) (fun A R s=>s.heap.get? l=some {cls:=.type "tuple",dict:=dd,data:=.seq items n,slots:=sl}/\
   R (.ok (.ret (.ref s.heap.objs.size))) {s with heap:=s.heap.push {cls:=.type "tuple",data:=.seq ((List.replicate x.toNat items).foldl (·++·) #[])}}):=
 .of_wp fun prog w A R s h=>by
  obtain ⟨hp,g,d,tk,os⟩:=s;obtain ⟨hl,h⟩:=h
  have c1:¬(decide (x < -(2 ^ 63)) || decide (x≥2 ^ 63))=true:=by simp;omega
  have c2:¬(items.isEmpty || x == 1)=true:=by
   simp only [Array.isEmpty,Bool.or_eq_true,beq_iff_eq,decide_eq_true_eq];omega
  have c3:¬(decide (x<=0) || items.isEmpty)=true:=by
   simp only [Array.isEmpty,Bool.or_eq_true,beq_iff_eq,decide_eq_true_eq];omega
  have c4:¬((items.size:Int) * x > (2 ^ 63 - 1) / 8):=by rw [hz];omega
  have c5:¬Builtin.Tuple.tupleTooMany ((items.size:Int) * x)=true:=by
   simp only [Builtin.Tuple.tupleTooMany,decide_eq_true_eq,hz,sizeLine_eq];omega
  have c6:¬((List.foldl (fun x1 x2=>x1++x2) #[] (List.replicate x.toNat items)).size > sizeLine):=by
   have f0:∀(m:Nat) (b:Array Value),(List.foldl (fun x1 x2=>x1++x2) b (List.replicate m items)).size=b.size+m:=fun m=>by
    induction m with
    | zero=>intro b;rfl
    | succ m ih=>intro b;rw [List.replicate_succ,List.foldl_cons,ih,Array.size_append,hz];omega
   rw [f0,sizeLine_eq]
   show ¬(0+x.toNat > _)
   omega
  wp_walk using wpAny_loadPart' hl
  rw [if_neg c1]
  wp_walk using wpAny_loadPart' hl
  rw [if_neg c4]
  wp_walk using wpAny_loadPart' hl
  rw [if_neg c5]
  wp_walk using wpAny_loadPart' hl
  exact ⟨_,rfl,h⟩
theorem pD {M:Model}{A:Around}{E:Value->Shared->Prop}{s:Shared}{β:Type}{c:β}{f:Nat->β->Sem (ForInStep β)}{Q:β->Shared->Prop} :
  ∀(l:List Nat) (j:Nat) (hj:j < l.length) (hno:∀i (hi:i < l.length),i < j->∀Q',Q' (.yield c) s->wpAny M A (f l[i] c) Q' E s) (hit:wpAny M A (f l[j] c) (fun r s1=>match r with | .done b=>Q b s1 | .yield _=>False) E s),wpAny M A (forIn l c f) Q E s
 | [],j,hj,_,_=>absurd hj (Nat.not_lt_zero _)
 | x::l,0,hj,_,hit=>by
  rw [List.forIn_cons]
  refine wpAny_bind (wpAny_mono hit ?_ (fun _ _ z=>z))
  intro r s1 h1
  cases r with
  | done b=>exact wpAny_pure h1
  | yield b=>exact h1.elim
 | x::l,j+1,hj,hno,hit=>by
  rw [List.forIn_cons]
  refine wpAny_bind (hno 0 (Nat.succ_pos _) (Nat.succ_pos _) _ ?_)
  exact pD l j (by simpa using hj) (fun i hi hij=>hno (i+1) (by simpa using hi) (by omega)) hit
theorem zr {M:Model}{A:Around}{E:Value->Shared->Prop}{s:Shared}{β:Type}{c:β}{f:Nat->β->Sem (ForInStep β)}{Q:β->Shared->Prop}{n:Nat}(j:Nat)(hj:j < n)
  (h:(∀i,i < j->∀Q',Q' (.yield c) s->wpAny M A (f i c) Q' E s)/\wpAny M A (f j c) (fun r s1=>match r with | .done b=>Q b s1 | .yield _=>False) E s) :
  wpAny M A (forIn ([:n]:Std.Legacy.Range) c f) Q E s:=by
 rw [Std.Legacy.Range.forIn_eq_forIn_range']
 have hl:([:n]:Std.Legacy.Range).size=n:=by simp [Std.Legacy.Range.size]
 refine pD _ j (by simp [hl];exact hj) (fun i hi hij Q' q=>?_) ?_
 ·have:=h.1 i hij Q' q
  simpa using this
 ·have:=h.2
  simpa using this
theorem A6 (l:Addr)(items:Array Value)(n:Nat)(dd:Option Addr)(sl:Array (Option Value))(x:Value)(e:Value->Bool)(j:Nat)(hj:j < items.size)
  (hit:e items[j]=true) (hno:∀m (hm:m < items.size),m < j->e items[m]=false) :
  Meets (Builtin.«tuple.index» ⟨[.ref l,x],[]⟩)
   (fun A R s=>s.heap.get? l=some {cls:=.type "tuple",dict:=dd,data:=.seq items n,slots:=sl}/\(∀y,y∈items->EqAt A.in1 s y x (e y))/\R (.ok (.ret (.int j s.toks))) {s with toks:=s.toks+1}):=
 .of_wp fun prog w A R s h=>by
  obtain ⟨hp,g,d,tk,os⟩:=s;obtain ⟨hl,he,h⟩:=h
  wp_walk using wpAny_loadPart' hl,zr j (show j < min items.size items.size by omega)
  refine ⟨fun i hi Q' q=>?_,?_⟩
  ·have hm:i < items.size:=by omega
   simp only [getElem?_pos items i hm]
   refine wpAny_bind (he _ (Array.getElem_mem hm) prog w _ _ ?_)
   rw [hno i hm hi,if_neg Bool.false_ne_true]
   exact wpAny_pure q
  ·simp only [getElem?_pos items j hj]
   refine wpAny_bind (he _ (Array.getElem_mem hj) prog w _ _ ?_)
   rw [hit,if_pos rfl]
   wp_walk
   exact ⟨_,rfl,h⟩
section
variable {prog:Program}{w:World}{A:Around}{E:Value->Shared->Prop}{s:Shared}
theorem A7 {l:Addr}{vs:List Value}{Q:List Value->Shared->Prop}(hl:IsTup s.heap l vs.toArray)
  (h:Q vs {s with heap:=(s.heap.push (seqObj "list" #[] 0)).update s.heap.objs.size (Obj.mapSeq (·++vs.toArray))}) (hsz:vs.length<=sizeLine:=by size_fits) :
  wpAny (model prog w) A (collect (.ref l)) Q E s:=by
 obtain ⟨o,ho,hc,n,hd⟩:=id hl
 unfold collect
 refine wpAny_bind (wpAny_runValue (codeAny_builtin entry_proto_collect' ?_))
 show wpAny _ _ (do again (.builtin "list.__iadd__" ⟨[←newList [],.ref l],[]⟩)) _ _ s
 refine wpAny_bind (wpAny_newList (wpAny_pure ⟨Code.quiet_builtin _ (by decide +kernel),codeAny_builtin entry_list_iadd' ?_⟩))
 show wpAny _ _ (Builtin.List.listExtendWith (.ref s.heap.objs.size) (.ref l) (.ref s.heap.objs.size)) _ _ {s with heap:=s.heap.push (seqObj "list" #[] 0)}
 unfold Builtin.List.listExtendWith
 have ho':(s.heap.push (seqObj "list" #[] 0)).get? l=some o:=Heap.get?_push_of_some _ ho
 refine wpAny_bind (wpAny_typeOf (T:="tuple") ⟨o,ho',hc⟩ ?_)
 have ht:(Value.type "tuple" == Value.type "tuple")=true:=by rfl
 rw [if_pos (by rw [ht];simp)]
 refine wpAny_bind (listItems_at ho' hd ?_)
 refine wpAny_bind (listItems_at (xs:=#[]) (n:=0) (Heap.get?_push_size _ rfl) rfl ?_)
 rw [if_neg (by simp)]
 refine wpAny_bind (listUpdate_at (xs:=#[]) (n:=0) (Heap.get?_push_size _ rfl) rfl ?_ (Nat.zero_le _) (by show (#[]++vs.toArray).size<=sizeLine+1;simp only [Array.size_append,List.size_toArray,List.length_nil];omega))
 refine wpAny_pure ?_
 show wpAny (model prog w) A (do
   let o ←load s.heap.objs.size
   match o.data with
   | .seq xs _=>pure xs.toList
   | _=>unsupported "internal:collect") Q E {s with heap:=(s.heap.push (seqObj "list" #[] 0)).update s.heap.objs.size (Obj.mapSeq (·++vs.toArray))}
 refine wpAny_bind (wpAny_load (get?_update_seq (Heap.get?_push_size _ rfl) _) ?_)
 show wpAny _ _ (pure ((#[]:Array Value)++vs.toArray).toList) Q E _
 rw [show ((#[]:Array Value)++vs.toArray).toList=vs by simp]
 exact wpAny_pure h
theorem Dx {l:Addr}{vs:List Value}{ns:List Int}{Q:Value->Shared->Prop}(hl:IsTup s.heap l vs.toArray)(hI:IntsAre vs ns)(h64:vs.length < 64)
  (h:∀(out:Array Value) (ns':List Int),IntsAre out.toList ns'->ns'.Perm ns->ns'.Pairwise (·<=·)->Q (.ref (s.heap.objs.size+1)) {s with heap:=sortedAll s.heap vs out}) :
  wpAny (model prog w) A (call (.builtin "sorted") [.ref l]) Q E s:=by
 refine Calls.call_function_entry kind_sorted plain_sorted entry_sorted (args_sorted1 _) ?_
 unfold Builtin.«sorted»
 refine wpAny_bind (m:=checkCount "sorted" 1 1 _) (wpAny_pure ?_)
 refine wpAny_bind (A7 hl ?_ (by rw [sizeLine_eq];omega))
 refine wpAny_bind (wpAny_newList ?_)
 have hsz:((s.heap.push (seqObj "list" #[] 0)).update s.heap.objs.size (Obj.mapSeq (·++vs.toArray))).objs.size=s.heap.objs.size+1:=by
  rw [Heap.size_update,size_push']
 have hoL:(((s.heap.push (seqObj "list" #[] 0)).update s.heap.objs.size (Obj.mapSeq (·++vs.toArray))).push (seqObj "list" vs.toArray 0)).get? (s.heap.objs.size+1)=some (seqObj "list" vs.toArray 0):=by
  rw [←hsz];exact Heap.get?_push_size _ rfl
 show wpAny _ _ _ _ _ {s with heap:=((s.heap.push (seqObj "list" #[] 0)).update s.heap.objs.size (Obj.mapSeq (·++vs.toArray))).push (seqObj "list" vs.toArray 0)}
 rw [hsz]
 refine wpAny_bind (wpAny_holding (wpAny_call_entry slot_list_sort ⟨_,hoL,rfl⟩ entry_list_sort (list_sort_tree hoL hI h64 fun out ns' a1 a2 a3=>⟨_,rfl,?_⟩) (args_list_sort _)))
 exact wpAny_pure ⟨_,rfl,h out ns' a1 a2 a3⟩
end
end PySem
namespace L2
open PySem PySem.Spec PyProof.Rows PySem.SeqAt
section
variable {X:Cx}
noncomputable def Pt (K:WA):R2:=fun x y H Q=>∃l k v,x=.ref l/\y=.int k/\SqT K H l [v]/\2<=k/\k<=100/\∀p,H p=none->Q (.ref p) (upd H p (.tup (List.replicate k.toNat v)))
theorem Md {α:Type}(n:Nat)(x:α):(List.replicate n [x]).flatten=List.replicate n x:=by
 induction n with
 | zero=>rfl
 | succ n ih=>rw [List.replicate_succ,List.replicate_succ,List.flatten_cons,ih];rfl
theorem Fi {v:V}{u:Value}(r:bT v u):∀n,bF (List.replicate n v) (List.replicate n u)
 | 0=>.nil
 | n+1=>.cons r (Fi r n)
theorem NX:OpR X (binaryOp .Mult) (Pt X.K):=by
 intro pins s σ H x y v u Q I rx ry h
 obtain ⟨l,k,z,rfl,rfl,hS,h1,h2,q⟩:=h
 cases rx
 obtain ⟨t,rfl⟩:=ry
 obtain ⟨its,r,ht,hz⟩:=I.tuple hS
 obtain ⟨w,rfl,rw1⟩:=r.one
 obtain ⟨⟨cls,dd,data,sl⟩,ho,hc,n,hd⟩:=id ht
 simp only at hc hd
 subst hc hd
 have e:List.foldl (fun x1 x2=>x1++x2) #[] (List.replicate k.toNat [w].toArray)=(List.replicate k.toNat w).toArray:=by
  have:=Cb [w] k.toNat []
  rw [List.nil_append,Md] at this
  exact this
 refine wpAny_binaryOp_repeat_ref (T:="tuple") (U:="int") (by decide) ⟨_,ho,rfl⟩ (fun s'=>typeIs_int s' k t) wL F.fills_int_mul F.slot_int_rmul Dw F.slot_int_index.lookup
  (call_meets F.slot_int_rmul (typeIs_int s k t) F.entry_int_rmul (F.args_int_rmul_2 _ _) (nh k t l [w].toArray n dd sl)
   ⟨ho,rfl,⟨_,ho,rfl⟩,call_meets F.slot_tuple_mul ⟨_,ho,rfl⟩ F.entry_tuple_mul (F.args_tuple_mul_2 _ _) (Hw l [w].toArray n dd sl k t h1 h2 rfl) ⟨ho,?_⟩⟩)
 rw [e]
 refine ⟨.ref s.heap.objs.size,_,I.laid (t':=s.toks) (o:=.tup (List.replicate k.toNat z)) (fun b ob q=>Heap.get?_push_of_some _ q) (Nat.le_refl _) ?_,rfl,q _ (I.hok.fresh (Nat.le_refl _))⟩
 exact ⟨by rw [List.length_replicate,sizeLine_eq];omega,_,Fi rw1 _,jb.new _ _⟩
noncomputable def Jq:V->List V->Hp->VK->Prop:=fun x vs H Q=>∃(l:Addr) (ns:List Int) (k:Int),x=.ref l/\vs=[.int k]/\H l=some (.tup (ns.map V.int))/\k∈ns/\Q (.int (ns.idxOf k:Nat)) H
theorem Kz:MtR X "tuple.index" Jq:=by
 intro pins s σ H x vs v us Q I rx rv h
 obtain ⟨l,ns,k,rfl,rfl,hq,hk,q⟩:=h
 cases rx
 obtain ⟨u,rfl,t,rfl⟩:=rv.one
 obtain ⟨its,r,pl,hz⟩:=I.tuple (SqT.of hq)
 have hi:IntsAre its ns:=wG r
 obtain ⟨⟨cls,dd,data,sl⟩,ho,hc,n,hd⟩:=id pl
 simp only at hc hd
 subst hc hd
 have hlen:=hi.length
 have hj:ns.idxOf k < ns.length:=List.idxOf_lt_length_iff.mpr hk
 refine call_meets PySem.F.slot_tuple_index ⟨_,ho,rfl⟩ PySem.F.entry_tuple_index (PySem.F.args_tuple_index_2 _ _)
  (A6 l its.toArray n dd sl (.int k t) (isInt k) (ns.idxOf k) (by simpa [hlen] using hj) ?_ ?_) ⟨ho,fun y hy=>(eq_isInt k t hi y (by simpa using hy)).at _ _,?_⟩
 ·show isInt k its[ns.idxOf k]=true
  rw [isInt_at k hi _ (by omega) hj]
  simpa using List.getElem_idxOf hj
 ·intro j hjs hlt
  show isInt k its[j]=false
  rw [isInt_at k hi j (by simpa using hjs) (by omega)]
  exact ne_of_lt_idxOf hlt _
 ·exact ⟨.int (ns.idxOf k:Nat),H,I.tok _,⟨_,rfl⟩,q⟩
noncomputable def RZ (r:V->List V->Hp->VK->Prop)(to:TE)(t:TA):TE:=fun σ H Q=>to σ H fun x H1=>(∃a xs,x=.ref a/\H1 a=some (.tup xs))/\t σ H1 fun xs H2=>r x xs H2 Q
theorem QN {o e:Expr}{es:List Expr}{to:TE}{t:TA}{name:Str}{apos cpos:Pos}{id:String}{r:V->List V->Hp->VK->Prop}(pa:PlainAttrs "tuple")(slot:Slot "tuple" name id)(hty:typeOf (.builtin id)=pure (.type "method_descriptor"))(hm:MtR X id r)(ho:PE X o to)(ha:PA X (e::es) t)
  (hbase:attributeBase o name X.env (eval o X.env)=eval o X.env:=by rfl)
  (hfew:((backTo cpos (starEach (e::es) X.env)).all (fun x=>!x.1) && (backToKw cpos (keywordEach [] X.env)).all (fun x=>x.1.isSome)
   && decide ((e::es).length+([]:List Keyword).length+(if ([]:List Keyword).isEmpty then 0 else 1) < 30))=true:=by rfl)
  (hline:(apos.endLine == cpos.line)=true:=by rfl) (hs:starEach (e::es) X.env=(false,eval e X.env)::starEach es X.env:=by rfl) (hplain:(backTo cpos (starEach es X.env)).any (·.1)=false:=by rfl) :
  PE X (.Call (.Attribute o name apos) (e::es) [] cpos) (RZ r to t):=by
 intro pins s σ H Q I h
 refine wpAny_Call_method_late hbase hfew hline rfl (thn (ho pins s σ H _ I h) fun v s1 ⟨x,H1,I1,r1,ty,q1⟩=>?_)
 obtain ⟨a,xs,rfl,hH⟩:=ty
 cases r1
 obtain ⟨_,its,_,ob,e1,⟨c1,_⟩,d1⟩:=I1.hok a _ hH
 refine ⟨"tuple",id,pa,slot,hty,⟨ob,e1,c1⟩,fun b eb=>?_,?_⟩
 ·cases eb;exact ⟨ob,e1,d1⟩
 have hA:=ha cpos pins s1 σ H1 _ I1 q1
 rw [hs] at hA ⊢
 refine Calls.callWith_builtin (by show (false || (backTo cpos (starEach es X.env)).any (·.1))=false;rw [hplain]<;>rfl) (Calls.evalArgs_plain ?_)
 exact thn hA fun us s2 ⟨vs,H2,I2,r2,q2⟩=>hm pins s2 σ H2 (.ref a) vs (.ref a) us Q I2 rfl r2 q2
end
section
variable {X:Cx}
noncomputable def Me (K:WA):List V->Hp->VK->Prop:=fun xs H Q=>∃(a:Addr) (ns:List Int),xs=[.ref a]/\SqT K H a (ns.map V.int)/\ns.length < 64/\∀(l:Addr) (ms:List Int),H l=none->ms.Perm ns->ms.Pairwise (·<=·)->Q (.ref l) (upd H l (.lst (ms.map V.int)))
theorem Hx:dw X (.builtin "sorted") (Me X.K):=by
 intro pins s σ H xs us Q I r h
 obtain ⟨a,ns,rfl,hS,hn,q⟩:=h
 obtain ⟨u,rfl,ru⟩:=uo r
 cases ru
 obtain ⟨its,rv,pl,hz⟩:=I.tuple hS
 have hI:IntsAre its ns:=wG rv
 have hlen:its.length=ns.length:=hI.length
 refine Dx pl hI (by omega) fun out ms a1 a2 a3=>?_
 obtain ⟨c,hc⟩:=sortedAll_at s.heap its out
 have hml:ms.length=ns.length:=a2.length_eq
 have J:=I.laid (a:=s.heap.objs.size+1) (o:=.lst (ms.map V.int)) (t':=s.toks) (h':=sortedAll s.heap its out) (fun b o e=>sortedAll_old e) (Nat.le_succ _) (show fY X.prog X.w _ _ _ (.lst (ms.map V.int)) from ⟨by rw [WB,hml];exact Nat.le_of_lt (cu (by omega)),out.toList,c,Cf a1,by rw [Array.toArray_toList];exact hc⟩)
 exact ⟨.ref (s.heap.objs.size+1),_,J,rfl,q _ ms (I.hok.fresh (Nat.le_succ _)) a2 a3⟩
end
end L2
namespace L2
open PySem PySem.Spec PyProof.Rows
def dP {α:Type}(P:Addr->α->Prop)(as:List Addr)(xs:List α):Prop:=as.length=xs.length/\∀(i:Nat) a x,as[i]?=some a->xs[i]?=some x->P a x
section
variable {α:Type}{P Q:Addr->α->Prop}{as:List Addr}{xs:List α}{a:Addr}{x:α}
theorem dP.imp (h:dP P as xs)(f:∀a x,P a x->Q a x):dP Q as xs:=⟨h.1,fun i a x e1 e2=>f _ _ (h.2 i a x e1 e2)⟩
theorem dP.nil:dP P [] []:=⟨rfl,fun i a r e _=>by simp at e⟩
theorem dP.push (h:dP P as xs)(hr:P a x):dP P (as++[a]) (xs++[x]):=by
 refine ⟨by rw [List.length_append,List.length_append,h.1];rfl,fun i b y e1 e2=>?_⟩
 by_cases hi:i < as.length
 ·rw [List.getElem?_append_left hi] at e1
  rw [List.getElem?_append_left (by rw [←h.1];exact hi)] at e2
  exact h.2 i b y e1 e2
 ·rw [List.getElem?_append_right (by omega)] at e1
  rw [List.getElem?_append_right (by rw [←h.1];omega),←h.1] at e2
  have hz:i - as.length=0:=by
   have:=(List.getElem?_eq_some_iff.mp e1).1
   simp at this
   omega
  rw [hz] at e1 e2
  cases e1
  cases e2
  exact hr
theorem dP.last (h:dP P as (xs++[x])):∃as' a,as=as'++[a]/\dP P as' xs/\P a x:=by
 have hl:=h.1
 rw [List.length_append,List.length_singleton] at hl
 rcases dk as with rfl | ⟨as',a,rfl⟩
 ·cases hl
 ·have hl':as'.length=xs.length:=by rw [List.length_append,List.length_singleton] at hl;omega
  refine ⟨as',a,rfl,⟨hl',fun i b y e1 e2=>?_⟩,?_⟩
  ·have hi:=(List.getElem?_eq_some_iff.mp e1).1
   exact h.2 i b y (by rw [List.getElem?_append_left hi];exact e1) (by rw [List.getElem?_append_left (by omega)];exact e2)
  ·refine h.2 as'.length a x ?_ ?_
   ·rw [List.getElem?_append_right (Nat.le_refl _)];simp
   ·rw [List.getElem?_append_right (by omega),hl'];simp
end
def iu (K:WA)(H:Hp)(a:Addr)(x:aS×Int):Prop:=∃gt lt ht dt:Addr,SqT K H a [.int x.1.place,.ref gt,.ref lt,.ref ht,.ref dt,.int x.2]/\SqT K H gt (x.1.gates.map V.bl)/\H lt=some (.tup (x.1.ws.map V.int))/\SqT K H ht (kS x.1.e)/\SqT K H dt ((c9 x.1.fs).map V.int)
theorem iu.same {K:WA}{H H':Hp}{a:Addr}{x:aS×Int}(h:iu K H a x)(s:av H H'):iu K H' a x:=by
 obtain ⟨gt,lt,ht,dt,h1,h2,h3,h4,h5⟩:=h
 exact ⟨gt,lt,ht,dt,s.tup h1,s.tup h2,s _ _ h3,s.tup h4,s.tup h5⟩
theorem iu.keep {K:WA}{H H':Hp}{a p:Addr}{ys:List V}{x:aS×Int}(h:iu K H a x)(s:aD p H H')(hp:H p=some (.lst ys)):iu K H' a x:=by
 obtain ⟨gt,lt,ht,dt,h1,h2,h3,h4,h5⟩:=h
 exact ⟨gt,lt,ht,dt,h1.keep s hp,h2.keep s hp,s _ _ (fun z=>by rw [z,hp] at h3;cases h3) h3,h4.keep s hp,h5.keep s hp⟩
noncomputable def oF (n0:aS)(rs:List Row):List (aS×Int):=(n0,0)::rs.map fun r=>(r.sn,r.ended)
theorem td (n0:aS)(rs:List Row)(r:Row):oF n0 (rs++[r])=oF n0 rs++[(r.sn,r.ended)]:=by simp [oF]
theorem Hy (n0:aS)(rs:List Row):(oF n0 rs).getLast?=some (aj n0 rs,bX rs):=by
 rcases dk rs with rfl | ⟨rs',r,rfl⟩
 ·rfl
 ·rw [td,List.getLast?_concat,pB,mf]
theorem Co (n0:aS)(rs:List Row):(oF n0 rs).length=rs.length+1:=by simp [oF]
theorem Dy {K:WA}{H:Hp}{as:List Addr}{n0:aS}{rs:List Row}(h:dP (iu K H) as (oF n0 rs)):∃as' a,as=as'++[a]/\iu K H a (aj n0 rs,bX rs):=by
 have hl:=Hy n0 rs
 rcases dk (oF n0 rs) with e | ⟨l,x,e⟩
 ·rw [e] at hl;cases hl
 ·rw [e,List.getLast?_concat] at hl
  cases hl
  rw [e] at h
  obtain ⟨as',a,ea,_,ha⟩:=h.last
  exact ⟨as',a,ea,ha⟩
theorem ko {as:List Addr}{a:Addr}:atI ((as++[a]).map V.ref) (-1)=some (.ref a):=by
 rw [List.map_append]
 exact LA _ _
structure eI (K:WA)(H:Hp)(p dl cl ll:Addr)(g:Cfg)(lds:List Ld):Prop where
 ob:H p=some (.lst [.ref dl,.ref cl,.int g.slow,.int g.fast,.ref ll])
 od:H dl=some (.lst (g.ds.map V.int))
 oc:∃as:List Addr,H cl=some (.lst (as.map V.ref))/\dz cdV K H as g.ls
 ol:∃as:List Addr,H ll=some (.lst (as.map V.ref))/\kQ K H as lds
 ek:g.ks=lds.map (·.1)
theorem eI.same {K:WA}{H H':Hp}{p dl cl ll:Addr}{g:Cfg}{lds:List Ld}(h:eI K H p dl cl ll g lds)(s:av H H'):eI K H' p dl cl ll g lds:=by
 obtain ⟨h1,h2,⟨as,h3,h4⟩,⟨bs,h5,h6⟩,h7⟩:=h
 exact ⟨s _ _ h1,s _ _ h2,⟨as,s _ _ h3,h4.same s⟩,⟨bs,s _ _ h5,h6.same s⟩,h7⟩
def cI (a b c:Addr)(H H':Hp):Prop:=∀d o,d≠a->d≠b->d≠c->H d=some o->H' d=some o
theorem cI.of {a b c:Addr}{H H':Hp}(s:av H H'):cI a b c H H':=fun d o _ _ _ e=>s d o e
theorem cI.a {a b c:Addr}{H H':Hp}(s:aD a H H'):cI a b c H H':=fun d o n _ _ e=>s d o n e
theorem cI.b {a b c:Addr}{H H':Hp}(s:aD b H H'):cI a b c H H':=fun d o _ n _ e=>s d o n e
theorem cI.c {a b c:Addr}{H H':Hp}(s:aD c H H'):cI a b c H H':=fun d o _ _ n e=>s d o n e
theorem cI.trans {a b c:Addr}{H H1 H2:Hp}(s:cI a b c H H1)(t:cI a b c H1 H2):cI a b c H H2:=fun d o n m k e=>t d o n m k (s d o n m k e)
theorem av.keeps3 {a b c:Addr}{H H1 H2:Hp}(s:av H H1)(k:cI a b c H1 H2)(ha:H a=none)(hb:H b=none)(hc:H c=none):av H H2:=fun d o e=>k d o (ak e ha) (ak e hb) (ak e hc) (s d o e)
structure Fj (C:Cl)(K:WA)(H:Hp)(w bk rl sl wl:Addr)(g:Cfg)(n0:aS)(rs:List Row):Prop where
 wk:WAt C K H w bk rl g n0 rs
 st:∃as:List Addr,H sl=some (.lst (as.map V.ref))/\dP (iu K H) as (oF n0 rs)
 ro:∃as:List Addr,H wl=some (.lst (as.map V.ref))/\dJ K H as rs
 ns:g.N sl
 nw:g.N wl
 ne:sl≠wl
 run:Run g n0 rs
theorem Fj.same {C:Cl}{K:WA}{H H':Hp}{w bk rl sl wl:Addr}{g:Cfg}{n0:aS}{rs:List Row}(h:Fj C K H w bk rl sl wl g n0 rs)(s:av H H'):Fj C K H' w bk rl sl wl g n0 rs:=by
 obtain ⟨h1,⟨as,h2,h3⟩,⟨bs,h4,h5⟩,h6,h7,h8,h9⟩:=h
 exact ⟨h1.same s,⟨as,s _ _ h2,h3.imp fun a x q=>q.same s⟩,⟨bs,s _ _ h4,h5.same s⟩,h6,h7,h8,h9⟩
noncomputable def A8 (K:WA)(H:Hp)(n:aS)(t:Int):Dd->V->Prop
 | .rept s,v=>∃(p:Addr) (l r:Int),v=.ref p/\n.e=.wait l r/\SqT K H p [.bl (decide (s=r)),.int r,.int s]
 | _,v=>v=.int t
theorem NY {K:WA}{l:Addr}{ls:List Ld}{te:TE}{cm:List (Option Nat)}{σ:St}{H:Hp}{Q:VK}{j:Nat}(f:Ld->V)(hL:fI K H l ls)(hn:ls.length<=sizeLine)(hj:(cV cm σ)[j]?=some none)
  (he:∀a x,SqT K H a (ldV x)->∀N:VK,N (f x) H->te ((cV cm σ).set j (some (.ref a))) H N)
  (hd:∀p,H p=none->Q (.ref p) (upd H p (.lst (ls.map f)))):ux (Itl K l) (eW j) yp te cm σ Q H:=by
 obtain ⟨as,hS,hlen,hT⟩:=hL
 refine wF ls.length (fun i acc H'=>H'=H/\acc=(ls.take i).map f) ⟨rfl,by simp⟩ ?_ ?_ ?_ ?_
 ·rintro i acc H' hi ⟨rfl,_⟩
  have ha:as[i]?=some as[i]:=List.getElem?_eq_getElem (by omega)
  exact ⟨_,.ref as[i],hS,by rw [List.getElem?_map,ha];rfl⟩
 ·rintro acc H' ⟨rfl,_⟩
  exact ⟨_,hS,by rw [WB];omega⟩
 ·rintro i acc H' hi ⟨rfl,rfl⟩
  have ha:as[i]?=some as[i]:=List.getElem?_eq_getElem (by omega)
  have hx:ls[i]?=some ls[i]:=List.getElem?_eq_getElem hi
  refine ⟨by rw [WB,List.length_take];omega,fun x H2 y M hM=>?_⟩
  obtain ⟨e,y⟩:=y
  subst e
  have hy:=y _ hS
  rw [List.getElem?_map,ha] at hy
  cases hy
  refine ⟨L3 hj,?_⟩
  unfold yp;dsimp only
  split
  ·refine he as[i] ls[i] (hT i _ _ ha hx) _ (hM _ _ ⟨rfl,?_⟩)
   rw [List.take_succ_eq_append_getElem hi,List.map_append];rfl
  ·rename_i z;exact absurd rfl z
 ·rintro acc H' ⟨rfl,rfl⟩ p hp
  rw [List.take_length]
  exact hd p hp
theorem QO {n:Nat}(h:0 < n):ixN n (-1)=some (n - 1):=by
 unfold ixN
 rw [if_neg (by omega),if_pos (by omega)]
 congr 1
 omega
end L2
namespace L2
open PySem PySem.Spec PyProof.Rows PySem.SeqAt
theorem KA (fs:List Bool)(n i:Nat)(v:Bool):(fs.set n v).getD i false=if n=i/\i < fs.length then v else fs.getD i false:=by
 rw [List.getD_eq_getElem?_getD,List.getD_eq_getElem?_getD,List.getElem?_set]
 by_cases e:n=i
 ·subst e
  by_cases h:n < fs.length
  ·rw [if_pos rfl,if_pos h,if_pos ⟨rfl,h⟩];rfl
  ·rw [if_pos rfl,if_neg h,if_neg (fun z=>h z.2),List.getElem?_eq_none (by omega)]
 ·rw [if_neg e,if_neg (fun z=>e z.1)]
theorem KC {fs:List Bool}{l:Int}{ms:List Int}(h0:0<=l)(h1:l < fs.length)(h2:fs.getD l.toNat false=false)(hp:ms.Perm (c9 fs++[l]))(hs:ms.Pairwise (·<=·)):ms=c9 (fs.set l.toNat true):=by
 have hl:¬l∈c9 fs:=fun z=>by rw [(i9.mp z).2.2] at h2;cases h2
 have hnd:(c9 fs++[l]).Nodup:=by
  rw [List.nodup_append]
  refine ⟨(Fe fs).imp fun h=>by omega,by simp,fun a ha b hb e=>?_⟩
  rw [List.mem_singleton] at hb
  subst hb e
  exact hl ha
 have hn:ms.Nodup:=hp.nodup_iff.mpr hnd
 have hu:ms.Pairwise (· < ·):=(hs.and hn).imp fun ⟨x,y⟩=>by omega
 refine L8 hu (Fe _) fun k=>?_
 rw [hp.mem_iff,List.mem_append,List.mem_singleton,i9,i9,List.length_set,KA]
 constructor
 ·rintro (⟨a,b,c⟩ | rfl)
  ·refine ⟨a,b,?_⟩
   split
   ·rfl
   ·exact c
  ·exact ⟨h0,h1,by rw [if_pos ⟨rfl,by omega⟩]⟩
 ·rintro ⟨a,b,c⟩
  split at c
  ·rename_i e
   exact .inr (by omega)
  ·exact .inl ⟨a,b,c⟩
theorem wM (fs:List Bool):(c9 fs).length<=fs.length:=zq fs fs.length
theorem uE {α:Type}(f:α->V)(xs:List α)(n:Nat)(v:α):(xs.map f).set n (f v)=(xs.set n v).map f:=(List.map_set ..).symm
section
variable {X:Cx}
noncomputable def Pu:R2:=fun x y H Q=>∃a b xs ys,x=.ref a/\y=.ref b/\H a=some (.tup xs)/\H b=some (.tup ys)/\xs.length+ys.length<=1000/\∀p H',av H H'->H' p=some (.tup (xs++ys))->Q (.ref p) H'
theorem NZ:OpR X (binaryOp .Add) Pu:=by
 intro pins s σ H x y v u Q I rx ry h
 obtain ⟨a,b,xs,ys,rfl,rfl,ha,hb,hz,q⟩:=h
 by_cases hx:xs=[]
 ·subst hx
  cases rx
  cases ry
  obtain ⟨its,r1,p1,_⟩:=I.tuple (SqT.of ha)
  obtain ⟨its2,r2,p2,_⟩:=I.tuple (SqT.of hb)
  have e1:=r1.zero
  subst e1
  obtain ⟨⟨cls,dd,data,sl⟩,ho,hc,n,hd⟩:=id p1
  obtain ⟨⟨cls2,dd2,data2,sl2⟩,ho2,hc2,n2,hd2⟩:=id p2
  simp only at hc hd hc2 hd2
  subst hc hd hc2 hd2
  exact concat_meets ⟨_,ho,rfl⟩ ⟨_,ho2,rfl⟩ noFill_tuple_add seq_tuple_add PySem.F.slot_tuple_add PySem.F.entry_tuple_add (PySem.F.args_tuple_add_2 _ _)
   (tuple_addW0 a b _ its2.toArray n n2 dd dd2 sl sl2 rfl) ⟨ho,ho2,⟨.ref b,H,I,rfl,q b H (av.refl H) hb⟩⟩
 ·refine Jb pins s σ H _ _ v u Q I rx ry ⟨a,b,xs,ys,rfl,rfl,SqT.of ha,SqT.of hb,hx,by rw [sizeLine_eq];omega,fun e=>q a H (av.refl H) (by rw [e,List.append_nil];exact ha),fun _ p hp=>q p _ ((av.refl H).lay hp) ag⟩
end
end L2
namespace L2
open PySem PySem.Spec PyProof.Rows
def onI (x:V)(P:Int->Prop):Prop:=match x with | .int i=>P i | _=>False
def onB (x:V)(P:Bool->Prop):Prop:=match x with | .bl i=>P i | _=>False
def onR (x:V)(P:Addr->Prop):Prop:=match x with | .ref i=>P i | _=>False
def onO (x:Option (Option V))(P:V->Prop):Prop:=match x with | some (some v)=>P v | _=>False
def onC (xs:List V)(P:V->List V->Prop):Prop:=match xs with | v::r=>P v r | []=>False
def onN (xs:List V)(P:Prop):Prop:=match xs with | []=>P | _=>False
theorem N1 (i:Int)(P:Int->Prop):onI (.int i) P=P i:=rfl
theorem QP (i:Bool)(P:Bool->Prop):onB (.bl i) P=P i:=rfl
theorem N2 (i:Addr)(P:Addr->Prop):onR (.ref i) P=P i:=rfl
theorem Mf (v:V)(P:V->Prop):onO (some (some v)) P=P v:=rfl
theorem Mg (v:V)(r:List V)(P:V->List V->Prop):onC (v::r) P=P v r:=rfl
theorem N3 (P:Prop):onN [] P=P:=rfl
theorem Dz {x:V}{P:Int->Prop}:(∃i,x=.int i/\P i)↔onI x P:=by cases x<;>simp [onI]
theorem Jr {x:V}{P:Bool->Prop}:(∃i,x=.bl i/\P i)↔onB x P:=by cases x<;>simp [onB]
theorem DA {x:V}{P:Addr->Prop}:(∃i,x=.ref i/\P i)↔onR x P:=by cases x<;>simp [onR]
theorem gJ {x:V}{P:Addr->Prop}(h:onR x P):∃i,x=.ref i/\P i:=DA.mpr h
theorem wN {x:V}{P:Int->Prop}(h:onI x P):∃i,x=.int i/\P i:=Dz.mpr h
theorem N4 {x:Option (Option V)}{P:V->Prop}:(∃v,x=some (some v)/\P v)↔onO x P:=by
 rcases x with _ | _ | v<;>simp [onO]
theorem N5 {xs:List V}{P:V->List V->Prop}:(∃v r,xs=v::r/\P v r)↔onC xs P:=by
 cases xs with
 | nil=>exact ⟨fun ⟨_,_,e,_⟩=>(List.cons_ne_nil _ _ e.symm).elim,fun h=>False.elim h⟩
 | cons v r=>exact ⟨fun ⟨_,_,e,h⟩=>by cases e;exact h,fun h=>⟨v,r,rfl,h⟩⟩
theorem N6 {xs:List V}{P:Prop}:(xs=[]/\P)↔onN xs P:=by cases xs<;>simp [onN]
theorem Sz {α β:Type}(f:α->β)(a:α)(l:List α):List.map f (a::l)=f a::List.map f l:=rfl
theorem SD {α β:Type}(f:α->β):List.map f ([]:List α)=[]:=rfl
theorem SE {α:Type}(a:α)(l m:List α):(a::l)++m=a::(l++m):=rfl
theorem SF {α:Type}(m:List α):([]:List α)++m=m:=rfl
theorem R0 {α:Type}(a:α)(l:List α):(a::l)[0]?=some a:=rfl
theorem R1 {α:Type}(a:α)(l:List α)(n:Nat):(a::l)[n+1]?=l[n]?:=rfl
theorem R3 {α:Type}(a b:α)(l:List α):(a::l).set 0 b=b::l:=rfl
theorem R4 {α:Type}(a b:α)(l:List α)(n:Nat):(a::l).set (n+1) b=a::l.set n b:=rfl
theorem SG {α:Type}(a:α)(n:Nat):List.replicate (n+1) a=a::List.replicate n a:=rfl
theorem SH {α:Type}(a:α):List.replicate 0 a=[]:=rfl
theorem QQ (N:List Str)(vs:List V):L2.oE N vs=vs.map some++List.replicate (N.length - vs.length) none:=rfl
theorem σN (cm:List (Option Nat))(σ:St):cV (none::cm) σ=none::cV cm σ:=rfl
theorem σS (i:Nat)(cm:List (Option Nat))(σ:St):cV (some i::cm) σ=(σ[i]?).getD none::cV cm σ:=rfl
theorem σ0 (σ:St):cV [] σ=[]:=rfl
theorem R5 {α:Type}(a b:α):(some a).getD b=a:=rfl
theorem SI {α:Type}(a:α)(l:List α):(a::l).length=l.length+1:=rfl
theorem SJ {α:Type}:([]:List α).length=0:=rfl
theorem R6 {A B:Prop}:(if true=true then A else B)=A:=rfl
theorem R7 {A B:Prop}:(if false=true then A else B)=B:=rfl
theorem SK {p:Prop}[Decidable p]{A B:Prop}(h:if p then A else B):if decide p=true then A else B:=by
 by_cases e:p
 ·rw [if_pos e] at h;rw [if_pos (decide_eq_true e)];exact h
 ·rw [if_neg e] at h;rw [if_neg (by simp [e])];exact h
section
variable {α β:Type}
theorem ceq {f g:α->β->Prop}(h:∀x y,f x y↔g x y):f=g:=funext fun x=>funext fun y=>propext (h x y)
noncomputable def Mh (i:Nat):TE:=fun σ H Q=>onO σ[i]? fun v=>Q v H
theorem N7 (i:Nat):PR i=Mh i:=funext fun σ=>funext fun H=>funext fun Q=>propext N4
noncomputable def tB' (t:TE):TT:=fun σ H Q=>t σ H fun x H1=>onB x fun c=>Q c H1
theorem Pw (t:TE):tB t=tB' t:=funext fun σ=>funext fun H=>funext fun Q=>congrArg (t σ H) (ceq fun _ _=>Jr)
theorem Mi (t:TE):pf t=tB' t:=Pw t
noncomputable def Hz (g:Int->Int->V):R2:=fun x y H Q=>onI x fun i=>onI y fun j=>Q (g i j) H
theorem two_iff {x y:V}{P:Int->Int->Prop}:(∃i j,x=.int i/\y=.int j/\P i j)↔onI x fun i=>onI y fun j=>P i j:=⟨fun ⟨i,j,e,f,h⟩=>by subst e f;exact h,fun h=>let ⟨i,e,h⟩:=wN h;let ⟨j,f,h⟩:=wN h;⟨i,j,e,f,h⟩⟩
theorem zt (g:Int->Int->V):rI0 g=Hz g:=funext fun x=>funext fun y=>ceq fun _ _=>two_iff
noncomputable def rI' (C:Int->Int->Prop)(g:Int->Int->V):R2:=fun x y H Q=>onI x fun i=>onI y fun j=>C i j/\Q (g i j) H
theorem Fk (C:Int->Int->Prop)(g:Int->Int->V):rI C g=rI' C g:=funext fun x=>funext fun y=>ceq fun _ _=>two_iff
noncomputable def rU' (g:Int->V):V->Hp->VK->Prop:=fun x H Q=>onI x fun i=>Q (g i) H
theorem R8 (g:Int->V):rU g=rU' g:=funext fun x=>ceq fun _ _=>Dz
def eqP (x y:V)(P:Bool->Prop):Prop:=match x,y with
 | .int i,.int j=>P (decide (i=j))
 | .str i,.str j=>P (decide (i=j))
 | .bl i,.bl j=>P (decide (i=j))
 | x,y=>AV x y=true/\P (decide (x=y))
theorem DB {x y:V}{P:Bool->Prop}:(AV x y=true/\P (decide (x=y)))↔eqP x y P:=by
 cases x<;>cases y<;>simp [eqP,AV]
theorem N8 (i j:Int)(P:Bool->Prop):eqP (.int i) (.int j) P=P (decide (i=j)):=rfl
theorem N9 (i j:Str)(P:Bool->Prop):eqP (.str i) (.str j) P=P (decide (i=j)):=rfl
theorem QR (i j:Bool)(P:Bool->Prop):eqP (.bl i) (.bl j) P=P (decide (i=j)):=rfl
noncomputable def QS:R2:=fun x y H Q=>eqP x y fun b=>Q (.bl b) H
theorem QT:rEq=QS:=funext fun x=>funext fun y=>ceq fun H Q=>DB (P:=fun b=>Q (.bl b) H)
noncomputable def QU:R2:=fun x y H Q=>eqP x y fun b=>Q (.bl (!b)) H
theorem QW:rNe=QU:=funext fun x=>funext fun y=>ceq fun H Q=>DB (P:=fun b=>Q (.bl (!b)) H)
noncomputable def rK (p:Int->Int->Prop)[d:∀i j,Decidable (p i j)](ta tb:TE):TT:=fun σ H Q=>ta σ H fun x H1=>tb σ H1 fun y H2=>onI x fun i=>onI y fun j=>if p i j then Q true H2 else Q false H2
theorem HJ {p:Prop}[Decidable p]{Q:Bool->Prop}:Q (decide p)=if p then Q true else Q false:=by
 by_cases h:p
 ·rw [if_pos h,decide_eq_true h]
 ·rw [if_neg h,decide_eq_false h]
theorem yU (p:Int->Int->Prop)[d:∀i j,Decidable (p i j)](ta tb:TE):pf (tOp (rI0 fun i j=>.bl (decide (p i j))) ta tb)=rK p ta tb:=by
 funext σ H Q
 refine congrArg (ta σ H) (funext fun x=>funext fun H1=>congrArg (tb σ H1) (ceq fun y H2=>?_))
 cases x<;>cases y<;>simp [rI0,onI,HJ (Q:=fun b=>Q b H2)]
theorem QX (ta tb:TE):pf (tOp (rI0 fun i j=>.bl (decide (i < j))) ta tb)=rK (fun i j=>i < j) ta tb:=yU _ ta tb
theorem QY (ta tb:TE):pf (tOp (rI0 fun i j=>.bl (decide (i<=j))) ta tb)=rK (fun i j=>i<=j) ta tb:=yU _ ta tb
theorem QZ (ta tb:TE):pf (tOp (rI0 fun i j=>.bl (decide (j < i))) ta tb)=rK (fun i j=>j < i) ta tb:=yU _ ta tb
theorem Q0 (ta tb:TE):pf (tOp (rI0 fun i j=>.bl (decide (j<=i))) ta tb)=rK (fun i j=>j<=i) ta tb:=yU _ ta tb
def eqT (x y:V)(Y N:Prop):Prop:=match x,y with
 | .int i,.int j=>if i=j then Y else N
 | .str i,.str j=>if i=j then Y else N
 | .bl i,.bl j=>if i=j then Y else N
 | x,y=>AV x y=true/\if x=y then Y else N
theorem Oa (i j:Int)(Y N:Prop):eqT (.int i) (.int j) Y N=if i=j then Y else N:=rfl
theorem Ob (i j:Str)(Y N:Prop):eqT (.str i) (.str j) Y N=if i=j then Y else N:=rfl
theorem Q1 (i j:Bool)(Y N:Prop):eqT (.bl i) (.bl j) Y N=if i=j then Y else N:=rfl
theorem Js {x y:V}{Q:Bool->Prop}:(AV x y=true/\Q (decide (x=y)))↔eqT x y (Q true) (Q false):=by
 rw [HJ (Q:=Q)]
 cases x<;>cases y<;>simp [eqT,AV]
def neT (x y:V)(Y N:Prop):Prop:=match x,y with
 | .int i,.int j=>if ¬i=j then Y else N
 | .str i,.str j=>if ¬i=j then Y else N
 | .bl i,.bl j=>if ¬i=j then Y else N
 | x,y=>AV x y=true/\if ¬x=y then Y else N
theorem Oc (i j:Int)(Y N:Prop):neT (.int i) (.int j) Y N=if ¬i=j then Y else N:=rfl
theorem Od (i j:Str)(Y N:Prop):neT (.str i) (.str j) Y N=if ¬i=j then Y else N:=rfl
theorem Q2 (i j:Bool)(Y N:Prop):neT (.bl i) (.bl j) Y N=if ¬i=j then Y else N:=rfl
theorem Of {x y:V}{Y N:Prop}:eqT x y N Y↔neT x y Y N:=by
 have h:∀(p:Prop) [Decidable p],(if p then N else Y)=if ¬p then Y else N:=fun p _=>by by_cases e:p<;>simp [e]
 cases x<;>cases y<;>first | exact iff_of_eq (h _) | exact and_congr Iff.rfl (iff_of_eq (h _))
noncomputable def Q3 (ta tb:TE):TT:=fun σ H Q=>ta σ H fun x H1=>tb σ H1 fun y H2=>eqT x y (Q true H2) (Q false H2)
noncomputable def Q4 (ta tb:TE):TT:=fun σ H Q=>ta σ H fun x H1=>tb σ H1 fun y H2=>neT x y (Q true H2) (Q false H2)
theorem Og (ta tb:TE):pf (tOp rEq ta tb)=Q3 ta tb:=by
 funext σ H Q
 refine congrArg (ta σ H) (funext fun x=>funext fun H1=>congrArg (tb σ H1) (ceq fun y H2=>?_))
 refine Iff.trans ?_ (Js (Q:=fun b=>Q b H2))
 exact ⟨fun ⟨a,k,e,q⟩=>⟨a,by cases e;exact q⟩,fun ⟨a,q⟩=>⟨a,_,rfl,q⟩⟩
theorem Oh (ta tb:TE):pf (tOp rNe ta tb)=Q4 ta tb:=by
 funext σ H Q
 refine congrArg (ta σ H) (funext fun x=>funext fun H1=>congrArg (tb σ H1) (ceq fun y H2=>?_))
 refine Iff.trans (Iff.trans ?_ (Js (Q:=fun b=>Q (!b) H2))) Of
 exact ⟨fun ⟨a,k,e,q⟩=>⟨a,by cases e;exact q⟩,fun ⟨a,q⟩=>⟨a,_,rfl,q⟩⟩
noncomputable def rL (K:WA)(n:Nat)(t:TGs):TG:=fun v σ H Q=>onR v fun a=>∃xs,SqT K H a xs/\xs.length=n/\t xs σ H Q
theorem uF {x:V}{γ:Type}{P:Addr->γ->Prop}:(∃a z,x=.ref a/\P a z)↔onR x fun a=>∃z,P a z:=by cases x<;>simp [onR]
theorem Jt (K:WA)(n:Nat)(t:TGs):P2 K n t=rL K n t:=funext fun v=>funext fun σ=>ceq fun _ _=>uF
noncomputable def HK (K:WA)(n:Nat)(t:TGs):TG:=fun v σ H Q=>onR v fun a=>∃xs,SqL K H a xs/\xs.length=n/\t xs σ H Q
theorem Mj (K:WA)(n:Nat)(t:TGs):Pp K n t=HK K n t:=funext fun v=>funext fun σ=>ceq fun _ _=>uF
noncomputable def wO (t:TG)(u:TGs):TGs:=fun vs σ H Q=>onC vs fun v r=>t v σ H fun σ' H'=>u r σ' H' Q
theorem uG (t:TG)(u:TGs):ER t u=wO t u:=funext fun v=>funext fun σ=>ceq fun _ _=>N5
noncomputable def Ju:TGs:=fun vs σ H Q=>onN vs (Q σ H)
theorem Jv:P1=Ju:=funext fun v=>funext fun σ=>ceq fun _ _=>N6
noncomputable def Cp (K:WA):R2:=fun x y H Q=>onR x fun p=>onI y fun i=>∃xs,SqL K H p xs/\∃v,atI xs i=some v/\Q v H
theorem Oi (K:WA):Ql K=Cp K:=funext fun x=>funext fun y=>ceq fun H Q=>⟨fun ⟨p,xs,i,v,e,f,h1,h2,h3⟩=>by subst e f;exact ⟨xs,h1,v,h2,h3⟩,fun h=>let ⟨p,e,h⟩:=gJ h;let ⟨i,f,xs,h1,v,h2,h3⟩:=wN h;⟨p,xs,i,v,e,f,h1,h2,h3⟩⟩
noncomputable def xH (K:WA):R2:=fun x y H Q=>onR x fun p=>onI y fun i=>∃xs,SqT K H p xs/\∃v,atI xs i=some v/\Q v H
theorem Oj (K:WA):Qm K=xH K:=funext fun x=>funext fun y=>ceq fun H Q=>⟨fun ⟨p,xs,i,v,e,f,h1,h2,h3⟩=>by subst e f;exact ⟨xs,h1,v,h2,h3⟩,fun h=>let ⟨p,e,h⟩:=gJ h;let ⟨i,f,xs,h1,v,h2,h3⟩:=wN h;⟨p,xs,i,v,e,f,h1,h2,h3⟩⟩
noncomputable def HL (ta tb:TE):TE:=fun σ H Q=>ta σ H fun x H1=>onB x fun c=>if c=true then tb σ H1 Q else Q (.bl false) H1
theorem Ml (ta tb:TE):O2 ta tb=HL ta tb:=funext fun σ=>funext fun H=>funext fun Q=>congrArg (ta σ H) (ceq fun _ _=>Jr)
noncomputable def Mm (K:WA)(ta:TE)(f:Str):TE:=fun σ H Q=>ta σ H fun x H1=>onR x fun a=>∃C dx fs,H1 a=some (.ins C dx fs)/\Cls K C/\bq K C f/\∃v,fs.lookup f=some v/\Q v H1
theorem Ol (K:WA)(ta:TE)(f:Str):RF K ta f=Mm K ta f:=funext fun σ=>funext fun H=>funext fun Q=>congrArg (ta σ H) (ceq fun x H1=>by cases x<;>simp [onR])
noncomputable def Mn (K:WA)(ta tv:TE)(f:Str):TS:=fun D σ H=>tv σ H fun y H1=>ta σ H1 fun x H2=>onR x fun a=>∃C dx fs,H2 a=some (.ins C dx fs)/\Cls K C/\bq K C f/\fs.length < 1000/\D.nx σ (upd H2 a (.ins C dx (bG f y fs)))
theorem Om (K:WA)(ta tv:TE)(f:Str):RG K ta tv f=Mn K ta tv f:=funext fun D=>funext fun σ=>funext fun H=>congrArg (tv σ H) (funext fun y=>funext fun H1=>congrArg (ta σ H1) (ceq fun x H2=>by cases x<;>simp [onR]))
noncomputable def DC (C:Addr)(m:Str)(sp:Sp)(dvs:List V)(E:XK)(ta:TE)(t:TA):TE:=fun σ H Q=>ta σ H fun x H1=>onR x fun a=>∃dx fs,H1 a=some (.ins C dx fs)/\fs.lookup m=none/\t σ H1 fun vs H2=>sp (.ref a::(vs++dvs)) H2 Q E
theorem Fl (C:Addr)(m:Str)(sp:Sp)(dvs:List V)(E:XK)(ta:TE)(t:TA):EU C m sp dvs E ta t=DC C m sp dvs E ta t:=funext fun σ=>funext fun H=>funext fun Q=>congrArg (ta σ H) (ceq fun x H1=>by cases x<;>simp [onR])
noncomputable def zu:V->List V->Hp->VK->Prop:=fun x vs H Q=>onR x fun l=>onC vs fun y r=>onN r (∃xs,H l=some (.lst xs)/\xs.length < sizeLine/\Q .non (upd H l (.lst (xs++[y]))))
theorem HP:Jg=zu:=funext fun x=>funext fun vs=>ceq fun H Q=>⟨fun ⟨l,xs,y,e,f,h⟩=>by subst e f;exact ⟨xs,h⟩,fun h=>by
 obtain ⟨l,rfl,z⟩:=gJ h
 match vs,z with
 | [v],⟨xs,z⟩=>exact ⟨l,xs,v,rfl,rfl,z⟩⟩
noncomputable def HQ (t:TE):TO:=fun σ H Q=>t σ H fun x H1=>onI x fun i=>Q (some i) H1
theorem Mo (t:TE):Pg t=HQ t:=funext fun σ=>funext fun H=>funext fun Q=>congrArg (t σ H) (ceq fun _ _=>Dz)
noncomputable def HR (K:WA)(tl:TE):TI:=fun σ H R=>tl σ H fun x H1=>onR x fun a=>(∃xs,SqL K H1 a xs)/\R (Itl K a) H1
theorem Mp (K:WA)(tl:TE):O6 K tl=HR K tl:=funext fun σ=>funext fun H=>funext fun R=>congrArg (tl σ H) (ceq fun _ _=>DA)
noncomputable def HS (ta:TA):TI:=fun σ H R=>ta σ H fun vs H1=>onC vs fun v r=>onN r (onI v fun j=>-(2 ^ 62)<=j/\j < 2 ^ 62/\R (Itr 0 j.toNat) H1)
theorem Mq (ta:TA):O7 ta=HS ta:=funext fun σ=>funext fun H=>funext fun R=>congrArg (ta σ H) (ceq fun vs H1=>by
 rcases vs with _ | ⟨y,_ | ⟨z,vs⟩⟩<;>(try cases y)<;>simp [onI,onC,onN])
noncomputable def Mr (K:WA):List V->Hp->VK->Prop:=fun vs H Q=>onC vs fun v r=>onN r (onR v fun p=>∃ys,(SqL K H p ys\/SqT K H p ys)/\Q (.int ys.length) H)
theorem Oo (K:WA)(t:TA):tCB (fun xs H Q=>∃p ys,xs=[.ref p]/\(SqL K H p ys\/SqT K H p ys)/\Q (.int ys.length) H) t=tCB (Mr K) t:=by
 refine congrArg (fun r=>tCB r t) (funext fun vs=>ceq fun H Q=>?_)
 rcases vs with _ | ⟨y,_ | ⟨z,vs⟩⟩<;>(try cases y)<;>simp [Mr,onR,onC,onN]
noncomputable def yV (K:WA):List V->Hp->VK->Prop:=fun vs H Q=>onC vs fun v r=>onN r (onR v fun p=>∃ys,(SqL K H p ys\/SqT K H p ys)/\∀l,H l=none->Q (.ref l) (upd H l (.lst ys)))
theorem HU (K:WA)(t:TA):tCB (fun xs H Q=>∃p ys,xs=[.ref p]/\(SqL K H p ys\/SqT K H p ys)/\∀l,H l=none->Q (.ref l) (upd H l (.lst ys))) t=tCB (yV K) t:=by
 refine congrArg (fun r=>tCB r t) (funext fun vs=>ceq fun H Q=>?_)
 rcases vs with _ | ⟨y,_ | ⟨z,vs⟩⟩<;>(try cases y)<;>simp [yV,onR,onC,onN]
noncomputable def HW:V->V->V->Hp->(Hp->Prop)->Prop:=fun o i v H Q=>onR o fun p=>onI i fun k=>∃xs,H p=some (.lst xs)/\∃j,ixN xs.length k=some j/\Q (upd H p (.lst (xs.set j v)))
theorem Ms:Pj=HW:=funext fun o=>funext fun i=>funext fun v=>ceq fun H Q=>⟨fun ⟨p,xs,k,j,e,f,h1,h2,h3⟩=>by subst e f;exact ⟨xs,h1,j,h2,h3⟩,fun h=>let ⟨p,e,h⟩:=gJ h;let ⟨k,f,xs,h1,j,h2,h3⟩:=wN h;⟨p,xs,k,j,e,f,h1,h2,h3⟩⟩
theorem SM {p:Prop}[Decidable p]{A B:Prop}(h:if ¬p then A else B):if (!decide p)=true then A else B:=by
 by_cases e:p
 ·rw [if_neg (fun z=>z e)] at h;rw [if_neg (by simp [e])];exact h
 ·rw [if_pos e] at h;rw [if_pos (by simp [e])];exact h
noncomputable def tU1 (f:Int->V)(ta:TE):TE:=fun σ H Q=>ta σ H fun x H1=>onI x fun i=>Q (f i) H1
theorem Mt {k:Int}(hk:0 < k)(ta:TE)(g:Int->Int->V):tOp (rI (fun _ j=>0 < j) g) ta (tC (.int k))=tU1 (fun i=>g i k) ta:=funext fun σ=>funext fun H=>funext fun Q=>congrArg (ta σ H) (ceq fun x H1=>by
 cases x<;>simp [rI,tC,onI,hk])
theorem Mu {k:Int}(h1:0 < k)(h2:k < 1073741824)(ta:TE)(g:Int->Int->V):tOp (rI Lp g) ta (tC (.int k))=tU1 (fun i=>g i k) ta:=funext fun σ=>funext fun H=>funext fun Q=>congrArg (ta σ H) (ceq fun x H1=>by
 have hc:∀i,Lp i k:=fun i=>by unfold Lp;omega
 cases x<;>simp [rI,tC,onI,hc])
theorem Mv {k:Int}(h1:-4294967296 < k)(h2:k < 4294967296)(ta:TE)(g:Int->Int->V):tOp (rI y8 g) ta (tC (.int k))=tU1 (fun i=>g i k) ta:=funext fun σ=>funext fun H=>funext fun Q=>congrArg (ta σ H) (ceq fun x H1=>by
 have hc:∀i,y8 i k:=fun i=>by unfold y8;omega
 cases x<;>simp [rI,tC,onI,hc])
theorem KG {k:Int}(h1:-4294967296 < k)(h2:k < 4294967296)(tb:TE)(g:Int->Int->V):tOp (rI y8 g) (tC (.int k)) tb=tU1 (fun i=>g k i) tb:=funext fun σ=>funext fun H=>funext fun Q=>congrArg (tb σ H) (ceq fun x H1=>by
 have hc:∀i,y8 k i:=fun i=>by unfold y8;omega
 cases x<;>simp [rI,onI,hc])
noncomputable def Mw (K:WA):V->Option Int->Option Int->Hp->VK->Prop:=fun x lo hi H Q=>onR x fun a=>∃xs,SqL K H a xs/\∀p,H p=none->Q (.ref p) (upd H p (.lst (ur xs lo hi)))
theorem Oq (K:WA):RM K=Mw K:=funext fun x=>funext fun lo=>funext fun hi=>ceq fun _ _=>uF
noncomputable def Mx (K:WA):V->Option Int->Option Int->Hp->VK->Prop:=fun x lo hi H Q=>onR x fun a=>∃xs,SqT K H a xs/\¬(HT.sIx xs.length 0 lo=0/\HT.sIx xs.length xs.length hi=xs.length)/\∀p,H p=none->Q (.ref p) (upd H p (.tup (ur xs lo hi)))
theorem Ot (K:WA):RJ K=Mx K:=funext fun x=>funext fun lo=>funext fun hi=>ceq fun _ _=>uF
noncomputable def My:R2:=fun x y H Q=>onR x fun l=>onR y fun b=>∃xs,H l=some (.lst xs)/\∃zs,H b=some (.lst zs)/\xs.length+zs.length<=sizeLine/\∀p,H p=none->Q (.ref p) (upd H p (.lst (xs++zs)))
theorem Ou:RO=My:=funext fun x=>funext fun y=>ceq fun H Q=>⟨fun ⟨l,b,xs,zs,e,f,h1,h2,h3⟩=>by subst e f;exact ⟨xs,h1,zs,h2,h3⟩,fun h=>let ⟨l,e,h⟩:=gJ h;let ⟨b,f,xs,h1,zs,h2,h3⟩:=gJ h;⟨l,b,xs,zs,e,f,h1,h2,h3⟩⟩
noncomputable def HY:R2:=fun x y H Q=>onR x fun a=>onR y fun b=>∃xs,H a=some (.tup xs)/\∃ys,H b=some (.tup ys)/\xs.length+ys.length<=1000/\∀p H',av H H'->H' p=some (.tup (xs++ys))->Q (.ref p) H'
theorem Mz:Pu=HY:=funext fun x=>funext fun y=>ceq fun H Q=>⟨fun ⟨l,b,xs,zs,e,f,h1,h2,h3⟩=>by subst e f;exact ⟨xs,h1,zs,h2,h3⟩,fun h=>let ⟨l,e,h⟩:=gJ h;let ⟨b,f,xs,h1,zs,h2,h3⟩:=gJ h;⟨l,b,xs,zs,e,f,h1,h2,h3⟩⟩
noncomputable def HZ (K:WA):R2:=fun x y H Q=>onR x fun a=>onR y fun b=>∃xs,SqT K H a xs/\∃ys,SqT K H b ys/\xs.length+ys.length<=1000/\∀p H',av H H'->SqT K H' p (xs++ys)->Q (.ref p) H'
theorem MA (K:WA):Po K=HZ K:=funext fun x=>funext fun y=>ceq fun H Q=>⟨fun ⟨l,b,xs,zs,e,f,h1,h2,h3⟩=>by subst e f;exact ⟨xs,h1,zs,h2,h3⟩,fun h=>let ⟨l,e,h⟩:=gJ h;let ⟨b,f,xs,h1,zs,h2,h3⟩:=gJ h;⟨l,b,xs,zs,e,f,h1,h2,h3⟩⟩
noncomputable def Fm (K:WA)(neg:Bool):R2:=fun x y H Q=>onR y fun p=>∃xs,(SqL K H p xs\/SqT K H p xs)/\bU x=true/\xs.all bU=true/\Q (.bl (if neg=true then !inV x xs else inV x xs)) H
theorem MB (K:WA)(neg:Bool):rIn K neg=Fm K neg:=funext fun x=>funext fun y=>ceq fun H Q=>by cases y<;>simp [rIn,Fm,onR]
theorem R9 {b c:Bool}:(if true=true then b else c)=b:=rfl
theorem Sa {b c:Bool}:(if false=true then b else c)=c:=rfl
noncomputable def Ia (ta:TA):TI:=fun σ H R=>ta σ H fun vs H1=>onC vs fun v r=>onC r fun u r2=>onN r2 (onI v fun i=>onI u fun j=>(-(2 ^ 62)<=i/\i < 2 ^ 62/\-(2 ^ 62)<=j/\j < 2 ^ 62)/\R (Itr i (j - i).toNat) H1)
theorem Cq {vs:List V}{P:Int->Int->Prop}:(∃i j,vs=[.int i,.int j]/\P i j)↔onC vs fun v r=>onC r fun u r2=>onN r2 (onI v fun i=>onI u fun j=>P i j):=by
 constructor
 ·rintro ⟨i,j,rfl,h⟩;exact h
 ·intro h
  rcases vs with _ | ⟨y,_ | ⟨z,_ | ⟨u,vs⟩⟩⟩
  ·exact h.elim
  ·exact h.elim
  ·cases y<;>cases z<;>first | exact ⟨_,_,rfl,h⟩ | exact h.elim
  ·exact h.elim
theorem MC (ta:TA):O8 ta=Ia ta:=funext fun σ=>funext fun H=>funext fun R=>congrArg (ta σ H) (ceq fun vs H1=>Cq)
noncomputable def Ib (K:WA)(te:TE):TI:=fun σ H R=>te σ H fun x H1=>onR x fun a=>(∃xs,SqL K H1 a xs)/\R (Ite K a) H1
theorem MD (K:WA)(te:TE):Pn K te=Ib K te:=funext fun σ=>funext fun H=>funext fun R=>congrArg (te σ H) (ceq fun _ _=>DA)
noncomputable def ME (K:WA)(ta tb:TE):TI:=fun σ H R=>ta σ H fun x H1=>tb σ H1 fun y H2=>onR x fun a=>onR y fun b=>(∃xs,SqL K H2 a xs)/\(∃ys,SqL K H2 b ys)/\R (Itz K a b) H2
theorem Ov (K:WA)(ta tb:TE):RU K ta tb=ME K ta tb:=funext fun σ=>funext fun H=>funext fun R=>congrArg (ta σ H) (funext fun x=>funext fun H1=>congrArg (tb σ H1) (ceq fun y H2=>⟨fun ⟨a,b,e,f,h⟩=>by subst e f;exact h,fun h=>let ⟨a,e,h⟩:=gJ h;let ⟨b,f,h⟩:=gJ h;⟨a,b,e,f,h⟩⟩))
noncomputable def yW:V->List V->Hp->VK->Prop:=fun x vs H Q=>onR x fun l=>onN vs (∃xs,H l=some (.lst xs)/\Q .non (upd H l (.lst [])))
theorem KH:Hl=yW:=funext fun x=>funext fun vs=>ceq fun H Q=>by cases vs<;>cases x<;>simp [Hl,yW,onR,onN]
noncomputable def Jw:V->List V->Hp->VK->Prop:=fun x vs H Q=>onR x fun l=>onN vs (∃xs,H l=some (.lst xs)/\∃y,xs[xs.length - 1]?=some y/\Q y (upd H l (.lst xs.dropLast)))
theorem Ow:Qo=Jw:=funext fun x=>funext fun vs=>ceq fun H Q=>by cases vs<;>cases x<;>simp [Qo,Jw,onR,onN]
noncomputable def Ox:List V->Hp->VK->Prop:=fun vs H Q=>onC vs fun v r=>onN r (onI v fun i=>Q (.int (if i < 0 then -i else i)) H)
theorem Oy (t:TA):tCB (fun xs H Q=>∃i,xs=[.int i]/\Q (.int (if i < 0 then -i else i)) H) t=tCB Ox t:=by
 refine congrArg (fun r=>tCB r t) (funext fun vs=>ceq fun H Q=>?_)
 rcases vs with _ | ⟨y,_ | ⟨z,vs⟩⟩<;>(try cases y)<;>simp [Ox,onI,onC,onN]
noncomputable def MF:List V->Hp->VK->Prop:=fun vs H Q=>onC vs fun v r=>onC r fun u r2=>onN r2 (onI v fun i=>onI u fun j=>Q (.int (if j < i then j else i)) H)
theorem MG (t:TA):tCB (fun xs H Q=>∃i j,xs=[.int i,.int j]/\Q (.int (if j < i then j else i)) H) t=tCB MF t:=by
 refine congrArg (fun r=>tCB r t) (funext fun vs=>ceq fun H Q=>?_)
 exact Cq
noncomputable def DD (K:WA):List V->Hp->VK->Prop:=fun vs H Q=>onC vs fun v r=>onN r (onR v fun p=>∃ys,(SqL K H p ys/\∀l,H l=none->Q (.ref l) (upd H l (.tup ys)))\/(SqT K H p ys/\Q (.ref p) H))
theorem KJ (K:WA)(t:TA):tCB (fun xs H Q=>∃p ys,xs=[.ref p]/\((SqL K H p ys/\∀l,H l=none->Q (.ref l) (upd H l (.tup ys)))\/(SqT K H p ys/\Q (.ref p) H))) t=tCB (DD K) t:=by
 refine congrArg (fun r=>tCB r t) (funext fun vs=>ceq fun H Q=>?_)
 rcases vs with _ | ⟨y,_ | ⟨z,vs⟩⟩<;>(try cases y)<;>simp [DD,onR,onC,onN]
def Oz (v:V)(P:Int->Prop):Prop:=match v with | .int i=>P i | .bl k=>P (if k=true then 1 else 0) | _=>False
theorem MH (i:Int)(P:Int->Prop):Oz (.int i) P=P i:=rfl
theorem OA (k:Bool)(P:Int->Prop):Oz (.bl k) P=P (if k=true then 1 else 0):=rfl
noncomputable def Jx:List V->Hp->VK->Prop:=fun vs H Q=>onC vs fun v r=>onN r (Oz v fun i=>Q (.int i) H)
theorem MJ (t:TA):tCB (fun xs H Q=>(∃i,xs=[.int i]/\Q (.int i) H)\/∃k,xs=[.bl k]/\Q (.int (if k=true then 1 else 0)) H) t=tCB Jx t:=by
 refine congrArg (fun r=>tCB r t) (funext fun vs=>ceq fun H Q=>?_)
 rcases vs with _ | ⟨y,_ | ⟨z,vs⟩⟩<;>(try cases y)<;>simp [Jx,onC,onN,Oz]
noncomputable def MK (ta:TE):TT:=fun σ H Q=>ta σ H fun x H1=>if x=.non then Q true H1 else Q false H1
theorem ML (ta:TE):pf (tOp (fun x y H Q=>y=.non/\Q (.bl (decide (x=.non))) H) ta (tC .non))=MK ta:=funext fun σ=>funext fun H=>funext fun Q=>congrArg (ta σ H) (ceq fun x H1=>by
 refine Iff.trans ?_ (iff_of_eq (HJ (p:=x=.non) (Q:=fun b=>Q b H1)))
 exact ⟨fun ⟨_,k,e,q⟩=>by cases e;exact q,fun q=>⟨rfl,_,rfl,q⟩⟩)
noncomputable def Ic (ta:TE):TT:=fun σ H Q=>ta σ H fun x H1=>if ¬x=.non then Q true H1 else Q false H1
theorem OB {p:Prop}[Decidable p]{Q:Bool->Prop}:Q (!decide p)=if ¬p then Q true else Q false:=by
 by_cases h:p
 ·rw [if_neg (fun z=>z h),decide_eq_true h];rfl
 ·rw [if_pos h,decide_eq_false h];rfl
theorem KL (ta:TE):pf (tOp (fun x y H Q=>y=.non/\Q (.bl (!decide (x=.non))) H) ta (tC .non))=Ic ta:=funext fun σ=>funext fun H=>funext fun Q=>congrArg (ta σ H) (ceq fun x H1=>by
 refine Iff.trans ?_ (iff_of_eq (OB (p:=x=.non) (Q:=fun b=>Q b H1)))
 exact ⟨fun ⟨_,k,e,q⟩=>by cases e;exact q,fun q=>⟨rfl,_,rfl,q⟩⟩)
theorem wQ {K:WA}{l:Addr}{ls:List Ld}{te:TE}{cm:List (Option Nat)}{σ:St}{H:Hp}{Q:VK}(f:Ld->V)(hL:fI K H l ls)(hn:ls.length<=sizeLine)(hcm:cV cm σ=[none,none,none])
  (he:∀x∈ls,∀N:VK,N (f x) H->te [some (.str x.1),some (.int x.2.1),some (.int x.2.2)] H N)
  (hd:∀p,H p=none->Q (.ref p) (upd H p (.lst (ls.map f)))):ux (Itl K l) (rL K 3 (wO (eW 0) (wO (eW 1) (wO (eW 2) Ju)))) yp te cm σ Q H:=by
 rw [←Jt,←Jv,←uG,←uG,←uG]
 exact L5 f hL hn hcm he hd
noncomputable def Ie (K:WA):R2:=fun x y H Q=>onR x fun l=>onI y fun k=>∃v,SqT K H l [v]/\2<=k/\k<=100/\∀p,H p=none->Q (.ref p) (upd H p (.tup (List.replicate k.toNat v)))
theorem MM (K:WA):Pt K=Ie K:=funext fun x=>funext fun y=>ceq fun H Q=>⟨fun ⟨l,k,v,e,f,h⟩=>by subst e f;exact ⟨v,h⟩,fun h=>let ⟨l,e,h⟩:=gJ h;let ⟨k,f,v,h⟩:=wN h;⟨l,k,v,e,f,h⟩⟩
theorem onI.mono {x:V}{P Q:Int->Prop}(h:∀i,P i->Q i)(p:onI x P):onI x Q:=by cases x<;>first | exact h _ p | exact p
theorem onO.mono {x:Option (Option V)}{P Q:V->Prop}(h:∀i,P i->Q i)(p:onO x P):onO x Q:=by
 rcases x with _ | _ | v
 ·exact p
 ·exact p
 ·exact h _ p
end
noncomputable def MN (i j:Nat)(ta:TA):TS:=fun D σ H=>ta σ H fun vs H1=>onC vs fun v r=>onC r fun w r2=>onN r2 (D.nx ((σ.set i (some v)).set j (some w)) H1)
theorem OC {vs:List V}{P:V->V->Prop}:(∃v w,vs=[v,w]/\P v w)↔onC vs fun v r=>onC r fun w r2=>onN r2 (P v w):=by
 constructor
 ·rintro ⟨v,w,rfl,h⟩;exact h
 ·intro h
  rcases vs with _ | ⟨y,_ | ⟨z,_ | ⟨u,vs⟩⟩⟩
  ·exact h.elim
  ·exact h.elim
  ·exact ⟨_,_,rfl,h⟩
  ·exact h.elim
theorem OD (i j:Nat)(ta:TA):RA i j ta=MN i j ta:=funext fun D=>funext fun σ=>funext fun H=>congrArg (ta σ H) (ceq fun vs H1=>OC)
noncomputable def Jy (K:WA):R2:=fun x y H Q=>onR x fun a=>onR y fun b=>∃xs,SqL K H a xs/\∃ys,SqL K H b ys/\xs.all bU=true/\ys.all bU=true/\Q (.bl (!eqL xs ys)) H
theorem OE (K:WA):QL K=Jy K:=funext fun x=>funext fun y=>ceq fun H Q=>by cases x<;>cases y<;>simp [QL,Jy,onR]
noncomputable def Jz (K:WA):R2:=fun x y H Q=>onR x fun a=>onR y fun b=>∃xs,SqL K H a xs/\∃ys,SqL K H b ys/\xs.all bU=true/\ys.all bU=true/\Q (.bl (eqL xs ys)) H
theorem OF (K:WA):QC K=Jz K:=funext fun x=>funext fun y=>ceq fun H Q=>by cases x<;>cases y<;>simp [QC,Jz,onR]
theorem JA {xs:List V}:eqL xs []=decide (xs=[]):=by cases xs<;>simp [eqL]
theorem Sb {b:Bool}{A B:Prop}(h:if b=false then A else B):if (!b)=true then A else B:=by cases b<;>exact h
noncomputable def kq (fs:List Bool):List Int:=((List.range fs.length).filter fun j=>!fs.getD j false).map fun (j:Nat)=>(j:Int)
theorem KO {fs:List Bool}{x:Int}(h:x∈kq fs):0<=x/\x < fs.length/\fs.getD x.toNat false=false:=by
 unfold kq at h
 rw [List.mem_map] at h
 obtain ⟨j,hj,rfl⟩:=h
 rw [List.mem_filter,List.mem_range] at hj
 exact ⟨Int.natCast_nonneg _,by omega,by rw [Int.toNat_natCast];simpa using hj.2⟩
theorem KP {g:Cfg}{n:aS}(hs:cC g.ds)(h:∀c,c=0\/c=1->∀l,bN g.ds n.place c=some l->n.gates.getD l.toNat false=false):ji g n=false:=by
 unfold ji
 rw [List.any_eq_false]
 intro x hx
 unfold km at hx
 rw [List.mem_map] at hx
 obtain ⟨i,hi,rfl⟩:=hx
 rw [List.mem_filter,List.mem_range] at hi
 obtain ⟨h1,h2⟩:=hi
 rw [Bool.not_eq_true]
 rcases of_decide_eq_true h2 with e | e
 ·exact h 0 (.inl rfl) i (by unfold bN;rw [if_pos rfl];exact jg hs h1 e)
 ·exact h 1 (.inr rfl) i (by unfold bN;rw [if_neg (by decide)];exact jg hs h1 e)
theorem eA.cd {g:Cfg}(hg:eA g){l:Int}(h0:0<=l)(h1:l < g.ds.length):eX (dI g.ls l):=by
 have hl:=hg.lc
 have hi:l.toNat < g.ls.length:=by omega
 unfold dI
 rw [List.getD_eq_getElem?_getD,List.getElem?_eq_getElem hi]
 exact hg.gc _ (List.getElem_mem hi)
theorem cQ.code {g:Cfg}{n:aS}(hg:eA g)(hn:cQ g n){l r:Int}(h:n.e=.wait l r\/n.e=.armed l r):1<=r/\r<=9:=by
 obtain ⟨h0,h1,h2⟩:=hn.ew l r h
 obtain ⟨⟨a,b⟩,⟨c,d⟩,_⟩:=hg.cd h0 h1
 rcases h2 with rfl | rfl<;>exact ⟨by assumption,by assumption⟩
theorem JB {x y:V}{b:Bool}:atI [x,y] (if b=true then 1 else 0)=some (if b=true then y else x):=by cases b<;>rfl
theorem tf {g:Cfg}{n:aS}{l:Int}(h0:0<=l)(h1:l < g.ds.length)(h:n.gates.getD l.toNat false=false):eU g n (.opn l)=none:=(if_neg (fun z=>z ⟨h0,h1⟩)).trans (if_neg (by rw [h];decide))
theorem ni {g:Cfg}{n:aS}{l:Int}(h0:0<=l)(h1:l < g.ds.length)(h:n.gates.getD l.toNat false=true):eU g n (.sht l)=none:=(if_neg (fun z=>z ⟨h0,h1⟩)).trans (if_neg (by rw [h];decide))
theorem xI {g:Cfg}{n:aS}{l s:Int}(h0:0<=l)(h1:l < g.ds.length)(h:n.fs.getD l.toNat false=false)(hs:s=(dI g.ls l).1\/s=(dI g.ls l).2):eU g n (.ring l s)=none:=(if_neg (fun z=>z ⟨h0,h1⟩)).trans ((if_neg (by rw [h];decide)).trans (if_pos hs))
theorem Fn {g:Cfg}{n:aS}{l:Int}(h0:0<=l)(h1:l < g.ds.length)(h:n.fs.getD l.toNat false=false):eU g n (.fail l)=none:=(if_neg (fun z=>z ⟨h0,h1⟩)).trans (if_neg (by rw [h];decide))
theorem xJ {g:Cfg}{n:aS}{l r s:Int}(h:n.e=.wait l r)(h1:1<=s)(h2:s<=9):eU g n (.rept s)=none:=by
 simp only [eU,h]
 exact if_pos ⟨h1,h2⟩
theorem xK {g:Cfg}{n:aS}{c l:Int}{k:Str}(h0:0<=l)(h1:l < g.ds.length)(h:ji g n=false)(he:n.e=.armed l (df g.ls l k)):eU g n (.wind c l k)=none:=(if_neg (fun z=>z ⟨h0,h1⟩)).trans ((if_neg (by rw [h];decide)).trans (if_pos he))
theorem A9 {g:Cfg}{n:aS}{c l:Int}(h:10+c∈n.ws)(hl:bN g.ds n.place c=some l)(ho:n.gates.getD l.toNat false=true):eU g n (.unload c)=none:=by
 refine (if_neg (fun z=>z h)).trans ?_
 rw [hl]
 exact if_pos ho
theorem Fo {g:Cfg}{n:aS}{k c l:Int}(h0:0<=k)(h1:k < n.ws.length)(hl:bN g.ds n.place c=some l)(hk:n.ws.getD k.toNat 0=l)(hc:¬10+c∈n.ws)(ho:n.gates.getD l.toNat false=true):eU g n (.load k c)=none:=by
 refine (if_neg (fun z=>z ⟨h0,h1⟩)).trans ?_
 rw [hl]
 exact (if_neg (fun z=>z hk)).trans ((if_neg hc).trans (if_pos ho))
theorem Px {pl:Int}{ds:List Int}{c:Int}:(bN ds pl c).getD (-1) < 0->bN ds pl c=none:=by
 intro h
 cases e:bN ds pl c with
 | none=>rfl
 | some l=>rw [e] at h;have:=(fM e).1;simp only [Option.getD_some] at h;omega
theorem MO {pl:Int}{ds:List Int}{c:Int}:¬(bN ds pl c).getD (-1) < 0->∃l,bN ds pl c=some l/\(bN ds pl c).getD (-1)=l:=by
 intro h
 cases e:bN ds pl c with
 | none=>rw [e] at h;exact absurd (by decide) h
 | some l=>exact ⟨l,rfl,rfl⟩
theorem Sd (e:Eng):(∃l r,e=.wait l r)\/(∃l r,e=.armed l r)\/∃(w:Str) (x y z:V),kS e=[.str w,x,y,z]/\¬w="not repeated"/\¬w="armed":=by
 cases e with
 | no=>exact .inr (.inr ⟨_,_,_,_,rfl,by decide,by decide⟩)
 | wait l r=>exact .inl ⟨l,r,rfl⟩
 | armed l r=>exact .inr (.inl ⟨l,r,rfl⟩)
 | other l r s=>exact .inr (.inr ⟨_,_,_,_,rfl,by decide,by decide⟩)
 | used l r=>exact .inr (.inr ⟨_,_,_,_,rfl,by decide,by decide⟩)
theorem MP {ws:List Int}{lv x:Int}(h:x∈jh ws lv):0<=x/\x < ws.length/\ws.getD x.toNat 0=lv:=by
 unfold jh A3 at h
 rw [List.mem_map] at h
 obtain ⟨j,hj,rfl⟩:=h
 rw [List.mem_filter,List.mem_range] at hj
 exact ⟨Int.natCast_nonneg _,by omega,by rw [Int.toNat_natCast];exact of_decide_eq_true hj.2⟩
theorem iu.un {K:WA}{H:Hp}{a:Addr}{n:aS}{t:Int}(h:iu K H a (n,t)):∃gt lt ht dt:Addr,SqT K H a [.int n.place,.ref gt,.ref lt,.ref ht,.ref dt,.int t]/\SqT K H gt (n.gates.map V.bl)/\H lt=some (.tup (n.ws.map V.int))/\SqT K H ht (kS n.e)/\SqT K H dt ((c9 n.fs).map V.int):=h
structure oW (C:Cl)(K:WA)(H0 H:Hp)(p dl cl ll w bk rl sl wl:Addr)(g:Cfg)(lds:List Ld)(n0:aS)(rs:List Row):Prop where
 su:eI K H0 p dl cl ll g lds
 sa:av H0 H
 fr:H0 rl=none
 fs:H0 sl=none
 fw:H0 wl=none
 da:Fj C K H w bk rl sl wl g n0 rs
 cg:eA g
 c0:cQ g n0
section
variable {C:Cl}{K:WA}{H0 H H':Hp}{p dl cl ll w bk rl sl wl:Addr}{g:Cfg}{lds:List Ld}{n0:aS}{rs rs':List Row}
theorem oW.same (h:oW C K H0 H p dl cl ll w bk rl sl wl g lds n0 rs)(s:av H H'):oW C K H0 H' p dl cl ll w bk rl sl wl g lds n0 rs:=⟨h.su,h.sa.trans s,h.fr,h.fs,h.fw,h.da.same s,h.cg,h.c0⟩
theorem oW.setup (h:oW C K H0 H p dl cl ll w bk rl sl wl g lds n0 rs):eI K H p dl cl ll g lds:=h.su.same h.sa
theorem oW.snap (h:oW C K H0 H p dl cl ll w bk rl sl wl g lds n0 rs):cQ g (aj n0 rs):=h.da.run.snap h.cg h.c0
theorem oW.to (h:oW C K H0 H p dl cl ll w bk rl sl wl g lds n0 rs)(k:cI rl sl wl H H')(d:Fj C K H' w bk rl sl wl g n0 rs'):oW C K H0 H' p dl cl ll w bk rl sl wl g lds n0 rs':=⟨h.su,h.sa.keeps3 k h.fr h.fs h.fw,h.fr,h.fs,h.fw,d,h.cg,h.c0⟩
end
theorem JC (d:Dd):∃w:Str,atI (ddV d) 0=some (.str w)/\¬w="take back":=by
 cases d<;>exact ⟨_,rfl,by decide⟩
theorem OG {d:Dd}(h:∀s,d≠.rept s):∃w:Str,atI (ddV d) 0=some (.str w)/\¬w="repeat":=by
 cases d<;>first | exact ⟨_,rfl,by decide⟩ | exact absurd rfl (h _)
theorem A8.int {K:WA}{H:Hp}{n:aS}{t:Int}{d:Dd}{v:V}(h:A8 K H n t d v)(hr:∀s,d≠.rept s):v=.int t:=by
 cases d<;>first | exact h | exact absurd rfl (hr _)
theorem A8.same {K:WA}{H H':Hp}{n:aS}{t:Int}{d:Dd}{v:V}(h:A8 K H n t d v)(s:av H H'):A8 K H' n t d v:=by
 cases d<;>first | exact h | (obtain ⟨p,l,r,e,f,z⟩:=h;exact ⟨p,l,r,e,f,s.tup z⟩)
theorem A8.keep {K:WA}{H H':Hp}{n:aS}{t:Int}{d:Dd}{v:V}{p:Addr}{ys:List V}(h:A8 K H n t d v)(s:aD p H H')(hp:H p=some (.lst ys)):A8 K H' n t d v:=by
 cases d<;>first | exact h | (obtain ⟨p,l,r,e,f,z⟩:=h;exact ⟨p,l,r,e,f,z.keep s hp⟩)
theorem OH {as:List Addr}{a b:Addr}:atI ((as++[a]++[b]).map V.ref) (-2)=some (.ref a):=by
 have hl:((as++[a]++[b]).map V.ref).length=as.length+2:=by simp
 unfold atI ixN
 rw [hl,if_neg (by omega),if_pos (by omega)]
 rw [show ((-2:Int)+((as.length+2:Nat):Int)).toNat=as.length by omega]
 show ((as++[a]++[b]).map V.ref)[as.length]?=_
 simp
structure Fp (ds:List Int)(ls:List Cd)(slow fast:Int)(lds:List Ld):Prop where
 sh:cC ds
 ln:ls.length=ds.length
 gd:∀x∈ls,eX x
 sp:1<=slow/\slow<=fast/\fast<=500
 l30:lds.length<=30
 gl:∀x∈lds,je (ds.length:Nat) x
theorem Fp.cfg {ds:List Int}{ls:List Cd}{slow fast:Int}{lds:List Ld}(h:Fp ds ls slow fast lds)(N:Addr->Prop):eA (ij ds ls slow fast lds N):=QJ h.sh h.ln h.gd h.sp h.l30
theorem Fp.snap {ds:List Int}{ls:List Cd}{slow fast:Int}{lds:List Ld}(h:Fp ds ls slow fast lds)(N:Addr->Prop):cQ (ij ds ls slow fast lds N) (iV ds ls lds):=NW h.sh h.ln h.gl
def HV (ws:List Int)(i:Nat)(c:Int)(x:V):Prop:=(x=.non/\∀j,j < i->ws.getD j 0≠10+c)\/∃j:Nat,j < i/\x=.int (j:Int)/\ws.getD j 0=10+c
theorem HV.nil {ws:List Int}{c:Int}:HV ws 0 c .non:=.inl ⟨rfl,fun j h=>absurd h (Nat.not_lt_zero _)⟩
theorem HV.no {ws:List Int}{i:Nat}{c:Int}{x:V}(h:HV ws i c x)(n:ws.getD i 0≠10+c):HV ws (i+1) c x:=by
 rcases h with ⟨e,h⟩ | ⟨j,hj,e,h⟩
 ·exact .inl ⟨e,fun j hj=>by
   by_cases z:j=i
   ·rw [z];exact n
   ·exact h j (by omega)⟩
 ·exact .inr ⟨j,by omega,e,h⟩
theorem HV.yes {ws:List Int}{i:Nat}{c:Int}(n:ws.getD i 0=10+c):HV ws (i+1) c (.int (i:Int)):=.inr ⟨i,by omega,rfl,n⟩
theorem HV.all {g:Cfg}{n:aS}(hn:cQ g n){c:Int}{x:V}(hc:0<=c)(h:HV n.ws n.ws.length c x):x=inC n.ws c:=by
 unfold inC
 rcases h with ⟨e,h⟩ | ⟨j,hj,e,h⟩
 ·rw [if_neg,e]
  intro z
  obtain ⟨h1,h2⟩:=wJ z
  exact h _ h1 h2
 ·have hm:10+c∈n.ws:=h▸cW hj
  obtain ⟨h1,h2⟩:=wJ hm
  rw [if_pos hm,e,hn.un j _ hj h1 (by omega) (h.trans h2.symm)]
theorem uH (ws:List Int)(c:Int):bU (inC ws c)=true:=by unfold inC;split<;>rfl
def eR (H:Hp)(ws:List Int)(as:List Addr)(m:Nat):Prop:=as.length=m/\∀(j:Nat) a,as[j]?=some a->H a=some (.lst ((jh ws (j:Int)).map V.int))
theorem eR.same {H H':Hp}{ws:List Int}{as:List Addr}{m:Nat}(h:eR H ws as m)(s:av H H'):eR H' ws as m:=⟨h.1,fun j a e=>s _ _ (h.2 j a e)⟩
theorem eR.nil {H:Hp}{ws:List Int}:eR H ws [] 0:=⟨rfl,fun j a e=>by simp at e⟩
theorem eR.push {H:Hp}{ws:List Int}{as:List Addr}{m:Nat}{a:Addr}(h:eR H ws as m)(e:H a=some (.lst ((jh ws (m:Int)).map V.int))):eR H ws (as++[a]) (m+1):=by
 refine ⟨by rw [List.length_append,h.1];rfl,fun j b hb=>?_⟩
 by_cases hj:j < as.length
 ·rw [List.getElem?_append_left hj] at hb
  exact h.2 j b hb
 ·rw [List.getElem?_append_right (by omega)] at hb
  have hz:j - as.length=0:=by
   have:=(List.getElem?_eq_some_iff.mp hb).1
   simp at this
   omega
  rw [hz] at hb
  cases hb
  have:j=m:=by rw [←h.1];omega
  rw [this]
  exact e
noncomputable def Ig (ws:List Int)(m:Nat):Dt:=.lst ((List.range m).map fun (j:Nat)=>.lst (((jh ws (j:Int)).map V.int).map Dt.flat))
theorem Cr {K:WA}{H:Hp}{p:Addr}{ws:List Int}{as:List Addr}{m n:Nat}(hp:SqL K H p (as.map V.ref))(h:eR H ws as m)(hm:m<=1000)(hw:ws.length<=1000):Rep K H (n+2) (.ref p) (Ig ws m):=by
 refine .lst hp (by rw [WB,h.1];omega) (by rw [WB,WB,List.length_range,h.1]) fun i x y e1 e2=>?_
 rw [List.getElem?_map] at e1 e2
 cases ea:as[i]? with
 | none=>rw [ea] at e1;cases e1
 | some a=>
  cases er:(List.range m)[i]? with
  | none=>rw [er] at e2;cases e2
  | some r=>
   rw [ea] at e1;rw [er] at e2
   cases e1;cases e2
   have hi:=(List.getElem?_eq_some_iff.mp er).1
   rw [List.length_range] at hi
   rw [List.getElem?_range hi] at er
   cases er
   exact pA (SqL.of (h.2 i a ea)) (by have:=E7 ws (i:Int) ws.length;unfold jh;omega)
inductive mh (K:WA)(H:Hp)(n:Nat):List V->List Dt->Prop
 | nil:mh K H n [] []
 | cons {x:V} {d:Dt} {xs:List V} {ds:List Dt} (h:Rep K H n x d) (t:mh K H n xs ds):mh K H n (x::xs) (d::ds)
theorem mh.len {K:WA}{H:Hp}{n:Nat}{xs:List V}{ds:List Dt}(h:mh K H n xs ds):xs.length=ds.length:=by
 induction h with
 | nil=>rfl
 | cons h t ih=>rw [List.length_cons,List.length_cons,ih]
theorem mh.get {K:WA}{H:Hp}{n:Nat}{xs:List V}{ds:List Dt}(h:mh K H n xs ds):∀(i:Nat) x d,xs[i]?=some x->ds[i]?=some d->Rep K H n x d:=by
 induction h with
 | nil=>intro i x d e;simp at e
 | cons h t ih=>
  intro i x d e1 e2
  cases i with
  | zero=>cases e1;cases e2;exact h
  | succ i=>exact ih i x d e1 e2
theorem mh.rep {K:WA}{H:Hp}{n:Nat}{a:Addr}{xs:List V}{ds:List Dt}(h:mh K H n xs ds)(hs:SqL K H a xs)(hb:xs.length<=100000):Rep K H (n+1) (.ref a) (.lst ds):=.lst hs hb h.len h.get
theorem mh.same {K:WA}{H H':Hp}{n:Nat}{xs:List V}{ds:List Dt}(h:mh K H n xs ds)(s:av H H'):mh K H' n xs ds:=by
 induction h with
 | nil=>exact .nil
 | cons h t ih=>exact .cons (h.same s) ih
theorem mh.append {K:WA}{H:Hp}{n:Nat}{xs ys:List V}{ds es:List Dt}(h:mh K H n xs ds)(k:mh K H n ys es):mh K H n (xs++ys) (ds++es):=by
 induction h with
 | nil=>exact k
 | cons h t ih=>exact .cons h ih
theorem j4 {M:Model}{A:Around}{E:Value->Shared->Prop}{s:Shared}{scope:Scope}{globals:Addr}{closure:List (Str×Addr)}{qual:Str}{func:Option Addr}{code:Value}{outer:Env}{builtins:Addr}{yc:Str}{Q:Env->Shared->Prop}
  (hcs:∀(n:Nat) (cl:List (Str×Addr)),cellsFrom n scope.names cl=(yc,n)::cl) (hpc:∀h:Heap,pushCells h scope.names=h.push {cls:=.type "cell",data:=.cell none})
  (hQ:∀h',h'.Ns s.heap.objs.size (fun _=>none)->(∀b u,s.heap.get? b=some u->h'.get? b=some u)->h'.IsCell (s.heap.objs.size+1) none->
   Q (newEnv scope s.heap.objs.size globals ((yc,s.heap.objs.size+1)::closure) qual func code (some outer) builtins) {s with heap:=h',toks:=s.toks+([]:List (Str×Value)).length}) :
  wpAny M A (newFunctionEnv scope globals closure [] qual func code (some outer) builtins) Q E s:=by
 simp only [newFunctionEnv,Option.isSome_some,if_true]
 refine wpAny_bind (wpAny_alloc ?_)
 refine wpAny_bind (wpAny_layCells _ (fun name kind cells=>by cases hkc:kind == NameKind.cell<;>simp [hkc]) _ _ _ _ ?_)
 rw [hcs,hpc]
 rw [show ({s with heap:=s.heap.push {cls:=.type "dict",data:=.dict #[]}}:Shared).heap.objs.size=s.heap.objs.size+1 from Heap.size_push ..]
 refine wpAny_bind ?_
 rw [List.forIn_nil]
 refine wpAny_pure (wpAny_pure ?_)
 refine hQ ((s.heap.push {cls:=.type "dict",data:=.dict #[]}).push {cls:=.type "cell",data:=.cell none}) ?_ (fun b u e=>Heap.get?_push_of_some _ (Heap.get?_push_of_some _ e)) ⟨{cls:=.type "cell",data:=.cell none},?_,rfl⟩
 ·exact (Heap.Ns.new s.heap (.type "dict")).keeps fun b o e=>Heap.get?_push_of_some _ e
 ·have:=Heap.get?_push_size (s.heap.push {cls:=.type "dict",data:=.dict #[]}) (o:={cls:=.type "cell",data:=.cell none}) rfl
  rw [Heap.size_push] at this
  exact this
noncomputable def KQ (X:Cx)(Nc:List Str)(scope:Scope)(yc:Str)(C:Addr)(s₀:Shared)(H₀:Hp)(ex:List Addr):Cx:=
 {X with N:=Nc,s₀:=s₀,H₀:=H₀,env:=compEnvC scope ((yc,C+1)::jc X.env.cells scope.names []) C X.env,outer:=X.stack,ex:=ex,fn:=fun x=>x == yc,pn:=[],xe:=fun _ _=>False}
section
variable {X:Cx}
theorem Fq {tg iter elt:Expr}{ifs:List Expr}{scope:Scope}{pos spos py:Pos}{Nc:List Str}{cm:List (Option Nat)}{wi:TI}{g:TG}{tc:TT}{te:TE}{iy:Nat}{y yc:Str}(hcs:∀(n:Nat) (cl:List (Str×Addr)),cellsFrom n scope.names cl=(yc,n)::cl)(hpc:∀h:Heap,pushCells h scope.names=h.push {cls:=.type "cell",data:=.cell none})(hyc:scope.names.lookup yc=some .cell)(hN:X.N.Nodup)(hiy:X.N[iy]?=some y)(hly:X.env.scope.names.lookup y=some .local)
  (hsw:swapsWith (.ListComp elt [⟨tg,iter,ifs,0⟩] scope pos) (some (.Name y py)) spos.line X.env=pure true)
  (hc:X.calm=true) (hi:PI X tg iter wi) (hkind:scope.kind=.function) (hcell:∀z∈scope.names,z.2=.cell->z.1=yc) (hnames:∀y∈scope.names,y.2=.local->scope.names.lookup y.1=some .local)
  (hfree:∀y∈scope.names,y.2=.free->X.env.kindOf y.1=some .cell\/X.env.kindOf y.1=some .free) (hlen:cm.length=Nc.length)
  (hcm:∀(j:Nat) (x:Str) (i:Nat),Nc[j]?=some x->cm[j]?=some (some i)->X.N[i]?=some x/\scope.names.lookup x=some .free/\(X.env.kindOf x=some .cell\/X.env.kindOf x=some .free))
  (hg:∀C s₀ H₀ ex,PG (KQ X Nc scope yc C s₀ H₀ ex) tg g) (ht:∀C s₀ H₀ ex,PIf (KQ X Nc scope yc C s₀ H₀ ex) ifs tc) (he:∀C s₀ H₀ ex,PE (KQ X Nc scope yc C s₀ H₀ ex) elt te)
  (hs:∀x,foldedSetIterable iter X.env x=pure x:=by intro _;rfl):PS X (.Assign [.Name y py] (.ListComp elt [⟨tg,iter,ifs,0⟩] scope pos) spos) (G4 (zh wi g tc te cm) (eW iy)):=by
 intro pins s σ H D0 I h
 rw [exec_Assign_Name_used _ _ _ _ hsw]
 refine wpAny_bind (wpAny_standAt (wpAny_bind ?_))
 show wpAny _ X.A (do let _ ←comprehension (.ListComp elt [⟨tg,iter,ifs,0⟩] scope pos) scope X.env _ (newList []) false (eval iter X.env) (some (assign (.Name y py) X.env))) _ _ s
 refine wpAny_bind (wpAny_mono (Q:=fun _ s'=>SP X pins D0 .next s') ?_ (fun _ s' hq=>wpAny_pure (wpAny_pure hq)) fun _ _ e=>e)
 have hfr:∀y∈scope.names,y.2=.free->∃c,X.env.cells.lookup y.1=some c:=fun y hy e=>I.ok.has y.1 (hfree y hy e)
 refine wpAny_comprehension_free (use:=some (assign (.Name y py) X.env)) (Q:=fun _ s'=>SP X pins D0 .next s') rfl hs (jd hfr) hkind hnames (thn (hi pins s σ H _ I h) fun v s1 h1=>thn h1 fun itv s2 h2=>?_)
 obtain ⟨it,fp,tn,J,H2,e,I2,T,st2,f2,W,⟨m0,w0⟩,turn⟩:=h2
 subst e
 refine wpAny_newObj_type (j4 hcs hpc (fun h₁ hns₁ keepA hcl₁=>?_))
 dsimp only at hns₁ keepA hcl₁ ⊢
 refine wC (yo:=some yc) (QV:=fun x H1=>eW iy x σ H1 D0.nx) hc hkind (fun z hz e=>by rw [hcell z hz e]) (fun _ e=>by cases e;exact hyc) hfr hlen hcm hg ht he I2 T st2 f2 w0 turn hns₁ keepA (fun _ e=>by cases e;exact hcl₁) (fun s6 H5 acc m hm fc J qn _=>?_)
 obtain ⟨fc0,fc1,fc2,fc3,fc4,fc5⟩:=fc
 refine wpAny_assign_Name (wm (s:=s6) (v:=.ref s2.heap.objs.size) (J s6.heap ⟨rfl,fun _ _=>rfl⟩) hN hiy (.inl hly) rfl (fun s7 J9 hsa=>?_) (.inr hly))
 obtain ⟨aa,hsa,hwh⟩:=hsa
 exact ⟨m,hm.sameBut hsa (by rcases hwh with z | z;rw [z];exact fc1;exact (fc4 _ _ z).symm),fun h7 hs7=>⟨_,_,J9.turned (it:=(s2.heap.push {cls:=.type "list",dict:=none,data:=.seq ([]:List Value).toArray}).objs.size) (t':=s7.toks) (fun b o hb hu=>(hs7.2 b hb).trans hu) fc0 fc1 fc3 fc4 fc5,qn⟩⟩
end
theorem Q5 {X:Cx}{tg iter elt:Expr}{ifs:List Expr}{scope:Scope}{pos spos py:Pos}(Nc:List Str)(yc:Str)(cm:List (Option Nat)){wi:TI}{g:TG}{tc:TT}{te:TE}{iy:Nat}{y:Str}(hN:X.N.Nodup)(hiy:X.N[iy]?=some y)(hly:X.env.scope.names.lookup y=some .local)
  (hi:PI X tg iter wi) (hg:∀C s₀ H₀ ex,PG (KQ X Nc scope yc C s₀ H₀ ex) tg g) (ht:∀C s₀ H₀ ex,PIf (KQ X Nc scope yc C s₀ H₀ ex) ifs tc) (he:∀C s₀ H₀ ex,PE (KQ X Nc scope yc C s₀ H₀ ex) elt te)
  (hsw:swapsWith (.ListComp elt [⟨tg,iter,ifs,0⟩] scope pos) (some (.Name y py)) spos.line X.env=pure true:=by rfl)
  (hc:X.calm=true:=by rfl) (hkind:scope.kind=.function:=by rfl) (hcell:∀z∈scope.names,z.2=.cell->z.1=yc:=by decide +kernel) (hcs:∀(n:Nat) (cl:List (Str×Addr)),cellsFrom n scope.names cl=(yc,n)::cl:=by intro _ _;rfl) (hpc:∀h:Heap,pushCells h scope.names=h.push {cls:=.type "cell",data:=.cell none}:=by intro _;rfl) (hyc:scope.names.lookup yc=some .cell:=by rfl) (hnames:∀y∈scope.names,y.2=.local->scope.names.lookup y.1=some .local:=by decide +kernel)
  (hfree:Ho X scope=true:=by rfl) (hlen:cm.length=Nc.length:=by rfl) (hcm:Qw X scope Nc cm=true:=by rfl)
  (hs:∀x,foldedSetIterable iter X.env x=pure x:=by intro _;rfl):PS X (.Assign [.Name y py] (.ListComp elt [⟨tg,iter,ifs,0⟩] scope pos) spos) (G4 (zh wi g tc te cm) (eW iy)):=by
 refine Fq hcs hpc hyc hN hiy hly hsw hc hi hkind hcell hnames (fun y hy e=>?_) hlen (fun j x i e1 e2=>?_) hg ht he hs
 ·have h:=List.all_eq_true.mp hfree y hy
  rw [e] at h
  simpa using h
 ·have hj:(Nc.zip cm)[j]?=some (x,some i):=by
   rw [List.getElem?_zip_eq_some];exact ⟨e1,e2⟩
  have h:=List.all_eq_true.mp hcm _ (List.mem_of_getElem? hj)
  simpa using h
theorem gH.calm0 {P:Program}{w:World}{K:WA}{mg:Str->Option Value}{base:Heap}{k:Nat}{f:Addr}{fd:FuncData}{ps:List Str}{sp:Sp}(F:gH P w K mg base (CXf P w) k f fd ps sp):gH P w K mg base CX0 k f fd ps (fun vs H Q _=>sp vs H Q E0):=by
 refine ⟨fun vs H Q E h=>F.len vs H Q E0 h,fun A outer s H args us vs Q E hr he hb hv hs=>?_⟩
 refine codeAny_mono (F.run A outer s H args us vs Q E0 hr he hb hv hs) fun r s' q=>?_
 cases r with
 | ok fl=>cases fl<;>exact q
 | error e=>
  obtain ⟨x,cls,a0,H',B,_,_,_,_,_,_,_,_,_,z⟩:=q
  exact z.elim
def DI (K:WA)(x:Str)(st:Stmt):Prop:=∃f fd,W.nsIn K mainGlobals x=some (some (.ref f))/\Fun K x x st f fd
theorem DI.mk {K:WA}{x:Str}{st:Stmt}{f:Addr}{oc:Value}{od an:Option Addr}{osl:Array (Option Value)}{kV doc pm cdv ct:Value}(a:W.nsIn K mainGlobals x=some (some (.ref f)))(l:K.lookup f=some ⟨oc,od,.func (W.fnOf x x (eD st) (bZ st) (ai st) .none kV doc pm an cdv ct),osl⟩)
  (c:W.codeIn K cdv x=true) (k:W.keepIn K (.ref f)=true):DI K x st:=⟨f,_,a,Hm l c k⟩
def MI (K:WA)(C:Addr)(m q:Str)(st:Stmt):Prop:=∃f fd,G9 K C m f/\Fun K m q st f fd
theorem MI.mk {K:WA}{C:Addr}{m q:Str}{st:Stmt}{f:Addr}{oc:Value}{od an:Option Addr}{osl:Array (Option Value)}{kV doc pm cdv ct:Value}(a:W.findIn K (.ref C) m=some (some (.ref f)))(fn:W.isFn K (.ref f)=true)(l:K.lookup f=some ⟨oc,od,.func (W.fnOf m q (eD st) (bZ st) (ai st) .none kV doc pm an cdv ct),osl⟩)
  (c:W.codeIn K cdv q=true) (k:W.keepIn K (.ref f)=true):MI K C m q st:=⟨f,_,⟨a,fn,k⟩,Hm l c k⟩
def II (K:WA)(C:Addr)(q:Str)(st:Stmt):Prop:=∃f fd,Mk K C f/\Fun K "__init__" q st f fd
theorem II.mk {K:WA}{C:Addr}{q:Str}{st:Stmt}{f:Addr}{oc:Value}{od an:Option Addr}{osl:Array (Option Value)}{kV doc pm cdv ct:Value}(a:W.findIn K (.ref C) "__init__"=some (some (.ref f)))(fn:W.isFn K (.ref f)=true)(mk:W.makesIn K C=true)(kc:W.keepIn K (.ref C)=true)(l:K.lookup f=some ⟨oc,od,.func (W.fnOf "__init__" q (eD st) (bZ st) (ai st) .none kV doc pm an cdv ct),osl⟩)
  (c:W.codeIn K cdv q=true) (k:W.keepIn K (.ref f)=true):II K C q st:=⟨f,_,⟨mk,a,fn,kc⟩,Hm l c k⟩
def C0I (K:WA)(C0:Addr):Prop:=∃(c0 c2:Value) (dd0 d2:Option Addr) (cd0:ClassData) (sl0 sl2:Array (Option Value)) (es0:Array DictEntry) (ep0:Nat),K.lookup C0=some ⟨c0,dd0,.cls cd0,sl0⟩/\K.lookup cd0.ns=some ⟨c2,d2,.dict es0 ep0,sl2⟩/\qZ es0=true/\(quietNames.all fun n=>(nsFind es0 n).isNone)=true
theorem C0I.mk {K:WA}{C0 N0:Addr}{c0 c2:Value}{dd0 d2:Option Addr}{cd0:ClassData}{sl0 sl2:Array (Option Value)}{es0:Array DictEntry}{ep0:Nat}(l0:K.lookup C0=some ⟨c0,dd0,.cls cd0,sl0⟩)(e0:cd0.ns=N0)(lN0:K.lookup N0=some ⟨c2,d2,.dict es0 ep0,sl2⟩)(kN0:qZ es0=true)(iN0:(quietNames.all fun n=>(nsFind es0 n).isNone)=true):C0I K C0:=
 ⟨c0,c2,dd0,d2,cd0,sl0,sl2,es0,ep0,l0,e0▸lN0,kN0,iN0⟩
def XI (K:WA)(C0 C:Addr):Prop:=C0I K C0->ExI K C
theorem XI.mk {K:WA}{C N C0:Addr}{nm q:Str}{bs:List Value}{hdct:Bool}{sn:List Str}{sub:List Value}{ab:Bool}{col:Option Bool}{dd:Option Addr}{k0 k1 k2 k3 k5:Option Value}{c1:Value}{d1:Option Addr}{es:Array DictEntry}{ep:Nat}{sl1:Array (Option Value)}
  (lC:K.lookup C=some (excClassObj nm q C N bs [.ref C0,.type "ValueError",.type "Exception",.type "BaseException",.type "object"] hdct sn sub ab col dd k0 k1 k2 k3 k5 "ValueError.__new__"))
  (lN:K.lookup N=some ⟨c1,d1,.dict es ep,sl1⟩) (kN:qZ es=true) (iN:(quietNames.all fun n=>(nsFind es n).isNone)=true) (ca:W.findIn K (.ref C) "__class__"=some (some (.builtin "object.__class__"))) (mo:W.mroIn K C (.type "object")=some true):XI K C0 C:=by
 rintro ⟨c0,c2,dd0,d2,cd0,sl0,sl2,es0,ep0,l0,lN0,kN0,iN0⟩
 exact ⟨Qz lC lN kN iN l0 rfl lN0 kN0 iN0,ca,mo⟩
def NI (K:WA)(x:Str)(a:Addr):Prop:=W.nsIn K mainGlobals x=some (some (.ref a))
def KI (K:WA)(x:Str)(v:Int):Prop:=∃tk,W.nsIn K mainGlobals x=some (some (.int v tk))
theorem KI.mk {K:WA}{x:Str}{v:Int}{tk:Tok}(h:W.nsIn K mainGlobals x=some (some (.int v tk))):KI K x v:=⟨tk,h⟩
theorem KI.txt {K:WA}{h:Heap}{mg:Str->Option Value}{x:Str}{v:Int}(X:K.In h)(G:h.Ns mainGlobals mg)(k:KI K x v):∃u,mg x=some u/\bT (.int v) u:=let ⟨_,k⟩:=k;⟨_,W.mg_of X G k,⟨_,rfl⟩⟩
theorem bS {H H1:Hp}{p:Addr}{o:HO}(e:upd H p o=H1)(h:H p=none):av H H1:=e▸(av.refl H).lay h
theorem aY {H H1:Hp}{p:Addr}{o:HO}(e:upd H p o=H1):H1 p=some o:=e▸ag
theorem seg {X:Cx}{b:List Stmt}{R:TS->Prop}(j:Nat){t:TS}(h:PSs X (b.drop j) t)(k:∀t',PSs X (b.drop j) t'->t'=t->∃u,PSs X b u/\R u):∃u,PSs X b u/\R u:=k t h rfl
theorem nj {t t':TS}(e:t=t'){D:j1}{σ:St}{H:Hp}(h:t' D σ H):t D σ H:=e▸h
theorem aL {N P:List Str}{sc:Scope}(kind:sc.kind=.function:=by rfl)(co:sc.isCoroutine=false:=by rfl)(gen:sc.isGenerator=false:=by rfl)(nd:N.Nodup:=by decide +kernel)(pre:N.take P.length=P:=by rfl)(par:∀x∈P,sc.names.lookup x=some .local\/sc.names.lookup x=some .cell:=by decide +kernel)(nofree:∀y∈sc.names,y.2≠.free:=by decide +kernel):au N P sc:=⟨kind,co,gen,nd,pre,par,nofree⟩
section
variable {K:WA}{x qual:Str}{st:Stmt}{f:Addr}{fd:FuncData}{ps:List Str}
theorem Fun.b0 (F:Fun K x qual st f fd)(hl:ps.length=0:=by rfl)(h:∀(kV doc pm:Value) (an:Option Addr) (cdv ct:Value),bindArgs (W.fnOf x qual (eD st) (bZ st) (ai st) .none kV doc pm an cdv ct) ⟨[],[]⟩=pure (ps.zip []):=by intros;rfl):eP K fd ps []:=F.binds fun kV doc pm an cdv ct us e=>match us,e.trans hl with | [],_=>h kV doc pm an cdv ct
theorem Fun.b1 (F:Fun K x qual st f fd)(hl:ps.length=1:=by rfl)(h:∀(kV doc pm:Value) (an:Option Addr) (cdv ct:Value) (a0:Value), bindArgs (W.fnOf x qual (eD st) (bZ st) (ai st) .none kV doc pm an cdv ct) ⟨[a0],[]⟩=pure (ps.zip [a0]):=by intros;rfl):eP K fd ps []:=F.binds fun kV doc pm an cdv ct us e=>match us,e.trans hl with | [a0],_=>h kV doc pm an cdv ct a0
theorem Fun.b2 (F:Fun K x qual st f fd)(hl:ps.length=2:=by rfl)(h:∀(kV doc pm:Value) (an:Option Addr) (cdv ct:Value) (a0 a1:Value), bindArgs (W.fnOf x qual (eD st) (bZ st) (ai st) .none kV doc pm an cdv ct) ⟨[a0,a1],[]⟩=pure (ps.zip [a0,a1]):=by intros;rfl):eP K fd ps []:=F.binds fun kV doc pm an cdv ct us e=>match us,e.trans hl with | [a0,a1],_=>h kV doc pm an cdv ct a0 a1
theorem Fun.b3 (F:Fun K x qual st f fd)(hl:ps.length=3:=by rfl)(h:∀(kV doc pm:Value) (an:Option Addr) (cdv ct:Value) (a0 a1 a2:Value), bindArgs (W.fnOf x qual (eD st) (bZ st) (ai st) .none kV doc pm an cdv ct) ⟨[a0,a1,a2],[]⟩=pure (ps.zip [a0,a1,a2]):=by intros;rfl):eP K fd ps []:=F.binds fun kV doc pm an cdv ct us e=>match us,e.trans hl with | [a0,a1,a2],_=>h kV doc pm an cdv ct a0 a1 a2
theorem Fun.b4 (F:Fun K x qual st f fd)(hl:ps.length=4:=by rfl)(h:∀(kV doc pm:Value) (an:Option Addr) (cdv ct:Value) (a0 a1 a2 a3:Value), bindArgs (W.fnOf x qual (eD st) (bZ st) (ai st) .none kV doc pm an cdv ct) ⟨[a0,a1,a2,a3],[]⟩=pure (ps.zip [a0,a1,a2,a3]):=by intros;rfl):eP K fd ps []:=F.binds fun kV doc pm an cdv ct us e=>match us,e.trans hl with | [a0,a1,a2,a3],_=>h kV doc pm an cdv ct a0 a1 a2 a3
theorem Fun.b5 (F:Fun K x qual st f fd)(hl:ps.length=5:=by rfl)(h:∀(kV doc pm:Value) (an:Option Addr) (cdv ct:Value) (a0 a1 a2 a3 a4:Value), bindArgs (W.fnOf x qual (eD st) (bZ st) (ai st) .none kV doc pm an cdv ct) ⟨[a0,a1,a2,a3,a4],[]⟩=pure (ps.zip [a0,a1,a2,a3,a4]):=by intros;rfl):eP K fd ps []:=F.binds fun kV doc pm an cdv ct us e=>match us,e.trans hl with | [a0,a1,a2,a3,a4],_=>h kV doc pm an cdv ct a0 a1 a2 a3 a4
theorem Fun.b6 (F:Fun K x qual st f fd)(hl:ps.length=6:=by rfl)(h:∀(kV doc pm:Value) (an:Option Addr) (cdv ct:Value) (a0 a1 a2 a3 a4 a5:Value), bindArgs (W.fnOf x qual (eD st) (bZ st) (ai st) .none kV doc pm an cdv ct) ⟨[a0,a1,a2,a3,a4,a5],[]⟩=pure (ps.zip [a0,a1,a2,a3,a4,a5]):=by intros;rfl):eP K fd ps []:=F.binds fun kV doc pm an cdv ct us e=>match us,e.trans hl with | [a0,a1,a2,a3,a4,a5],_=>h kV doc pm an cdv ct a0 a1 a2 a3 a4 a5
end
theorem eC.dn {j k:Nat}{A:Around}(r:eC k A)(h:j<=k:=by decide):eC j A:=r.mono h
theorem ao {X:Cx}{a b:Expr}{ta tb:TE}{pos:Pos}{r:R2}(hr:IxR X r)(ha:PE X a ta)(hb:PE X b tb)(hs:Je b:=by intro _ _;rfl):PE X (.Subscript a b pos) (tOp r ta tb):=RK hr ha hb hs
theorem orL {α:Type}{a b:α}{p:Prop}(h:a=b:=by rfl):a=b\/p:=.inl h
noncomputable def paF (b e sp tk:Int):Int:=if e - b<=sp * tk/\b - e<=sp * tk then e else if sp * tk < e - b then b+sp * tk else b - sp * tk
theorem Q6 {b e sp tk v:Int}(h1:e - b<=sp * tk/\b - e<=sp * tk->v=e)(h2:sp * tk < e - b->v=b+sp * tk)(h3:sp * tk < b - e->v=b - sp * tk):v=paF b e sp tk:=by
 unfold paF
 generalize sp * tk=z at *
 split
 ·rename_i h;exact h1 h
 ·rename_i h
  split
  ·rename_i h';exact h2 h'
  ·rename_i h';exact h3 (by omega)
noncomputable def Fs (t:Int)(x:Int×Int)(r:Row):Int×Int:=if r.began<=t then (paF x.2 r.sn.place r.speed (t - r.began),r.sn.place) else x
noncomputable def gn (n0:aS)(rs:List Row)(t:Int):Int×Int:=rs.foldl (Fs t) (n0.place,n0.place)
noncomputable def yX (n0:aS)(rs:List Row)(t:Int):Int:=(gn n0 rs t).1
theorem DE (n0:aS)(rs:List Row)(r:Row)(t:Int):gn n0 (rs++[r]) t=Fs t (gn n0 rs t) r:=by simp [gn]
theorem DF (n0:aS)(rs:List Row)(t:Int){i:Nat}(hi:i < rs.length):gn n0 (rs.take (i+1)) t=Fs t (gn n0 (rs.take i) t) rs[i]:=by
 rw [List.take_succ_eq_append_getElem hi,DE]
theorem KR {w s:Int}(hw:0<=w)(hs:1<=s):pC w s<=w:=by
 unfold pC
 by_cases h0:w=0
 ·subst h0
  rw [Int.ediv_eq_zero_of_lt (by omega) (by omega)]
  exact Int.le_refl _
 ·refine Int.ediv_le_of_le_mul (by omega) ?_
  have:=Int.mul_nonneg (show 0<=w - 1 by omega) (show 0<=s - 1 by omega)
  rw [Int.sub_mul,Int.mul_sub,Int.mul_sub] at this
  omega
theorem MQ {g:Cfg}(hg:eA g){c l:Int}(hl:0<=l/\l < g.ds.length):0<=eY g.ds c l/\eY g.ds c l<=500:=by
 have hm:g.ds.getD l.toNat 0∈g.ds:=cW (by omega)
 have h1:=hg.sh.lo _ hm
 have h2:=hg.sh.le_whole hm
 have h3:cw g.ds<=500:=hg.sh.hi _ hg.sh.whole_mem
 unfold eY;split<;>omega
theorem KS {g:Cfg}(hg:eA g){n:aS}(hn:cQ g n){d:Dd}(hr:eU g n d=none):ir g n d<=500:=by
 cases d with
 | wind c l k=>
  obtain ⟨hl,_⟩:=uC hr
  have h1:=MQ hg (c:=c) hl
  have h2:=hn.place hg
  have h3:cw g.ds<=500:=hg.sh.hi _ hg.sh.whole_mem
  have h4:=KR (xG (eY g.ds c l - n.place)) (hg.speed n).1
  have h5:Ma (eY g.ds c l - n.place)<=500:=by unfold Ma;split<;>omega
  show pC _ _<=500
  omega
 | _=>show (1:Int)<=500;decide
theorem Run.mem {g:Cfg}{n0:aS}{rs:List Row}(hg:eA g)(h0:cQ g n0)(h:Run g n0 rs):bX rs<=500 * rs.length/\∀r∈rs,1<=r.speed/\r.speed<=500/\0<=r.began/\r.began<=r.ended/\r.ended<=bX rs:=by
 induction h with
 | nil=>exact ⟨by show (0:Int)<=_;simp,fun r hr=>by cases hr⟩
 | @snoc rs d h ok hr ih=>
  have h1:=rJ hg (aj n0 rs) d
  have h2:=KS hg (h.snap hg h0) hr
  have h3:=h.now hg
  have h4:=hg.speed (c8 g (aj n0 rs) d)
  rw [mf]
  refine ⟨?_,fun r hm=>?_⟩
  ·show bX rs+ir g (aj n0 rs) d<=_
   have:=ih.1
   rw [List.length_append,List.length_singleton]
   omega
  ·show _/\_/\_/\_/\_<=bX rs+ir g (aj n0 rs) d
   rcases List.mem_append.mp hm with hm | hm
   ·have:=ih.2 r hm
    omega
   ·rw [List.mem_singleton] at hm
    subst hm
    show 1<=fu g _/\fu g _<=500/\0<=bX rs/\bX rs<=bX rs+_/\bX rs+_<=_
    omega
termination_by rs.length
decreasing_by all_goals (subst_vars;simp)
theorem Ft {x y:V}(hx:bU x=true)(hy:bU y=true):∀z∈[x,y],bU z=true:=by
 intro z hz
 simp only [List.mem_cons,List.not_mem_nil,or_false] at hz
 rcases hz with rfl | rfl<;>assumption
theorem SN {A B:Prop}(h:B):if true=false then A else B:=by rw [if_neg (by decide)];exact h
theorem SO {A B:Prop}(h:A):if false=false then A else B:=by rw [if_pos rfl];exact h
theorem dP.app {α:Type}{P:Addr->α->Prop}{as bs:List Addr}{xs ys:List α}(h:dP P as xs)(k:dP P bs ys):dP P (as++bs) (xs++ys):=by
 refine ⟨by rw [List.length_append,List.length_append,h.1,k.1],fun i a x e1 e2=>?_⟩
 by_cases hi:i < as.length
 ·rw [List.getElem?_append_left hi] at e1
  rw [List.getElem?_append_left (by rw [←h.1];exact hi)] at e2
  exact h.2 i a x e1 e2
 ·rw [List.getElem?_append_right (by omega)] at e1
  rw [List.getElem?_append_right (by rw [←h.1];omega),←h.1] at e2
  exact k.2 _ a x e1 e2
section
variable (P:Program)(w:World)(K:WA)(mg:Str->Option Value)(base:Heap)(CX:CXT)(k:Nat)
def KD (x:Str)(sp:Sp):Prop:=∃f fd ps,mg x=some (.ref f)/\W.keepIn K (.ref f)=true/\eP K fd ps []/\gH P w K mg base CX k f fd ps sp
def KM (C:Addr)(m:Str)(sp:Sp):Prop:=∃f fd ps,Cls K C/\G9 K C m f/\eP K fd ps []/\gH P w K mg base CX k f fd ps sp
def KN (C:Addr)(sp:Sp):Prop:=∃f fd ps,Mk K C f/\eP K fd ps []/\gH P w K mg base CX k f fd ps sp
def FF (x q:Str)(st:Stmt)(ps:List Str)(sp:Sp):Prop:=∀f fd,Fun K x q st f fd->gH P w K mg base CX k f fd ps sp
end
section
variable {P:Program}{w:World}{K:WA}{mg:Str->Option Value}{base:Heap}{CX:CXT}{k:Nat}{x q m:Str}{st:Stmt}{ps N:List Str}{sp:Sp}{f C:Addr}{fd:FuncData}
theorem KD.mk (b:mg x=some (.ref f))(F:Fun K x q st f fd)(c:eP K fd ps [])(t:FF P w K mg base CX k x q st ps sp):KD P w K mg base CX k x sp:=⟨f,fd,ps,b,F.kp,c,t f fd F⟩
theorem KM.mk (d:Cls K C)(b:G9 K C m f)(F:Fun K m q st f fd)(c:eP K fd ps [])(t:FF P w K mg base CX k m q st ps sp):KM P w K mg base CX k C m sp:=⟨f,fd,ps,d,b,c,t f fd F⟩
theorem KN.mk (b:Mk K C f)(F:Fun K "__init__" q st f fd)(c:eP K fd ps [])(t:FF P w K mg base CX k "__init__" q st ps sp):KN P w K mg base CX k C sp:=⟨f,fd,ps,b,c,t f fd F⟩
theorem fk0 (S:au N ps (ai st))(h:∀vs H Q E,sp vs H Q E->vs.length=ps.length/\∀(cdv:Value) (A:Around) (outer:List Env) (s:Shared) (f:Addr),eC k (A.deeper (envOfC q (ai st) s.heap.objs.size f cdv))->
   ∃t,PSs (sZ CX0 P w K mg base N q (ai st) f cdv A outer s H E).nox (bZ st) t/\t {nx:=fun _ H'=>Q .non H',rt:=Q} (oE N vs) H):FF P w K mg base CX0 (k+1) x q st ps sp:=
 fun f _ F=>F.ok S (fun vs H Q E y=>(h vs H Q E y).1) fun cdv A outer s H vs Q E hr y=>(h vs H Q E y).2 cdv A outer s f hr
theorem fkF (S:au N ps (ai st))(h:∀vs H Q E,sp vs H Q E->vs.length=ps.length/\∀(cdv:Value) (A:Around) (outer:List Env) (s:Shared) (f:Addr),eC k (A.deeper (envOfC q (ai st) s.heap.objs.size f cdv))->
   ∃t,PSs (cxF P w K mg base N q (ai st) f cdv A outer s H E) (bZ st) t/\t {nx:=fun _ H'=>Q .non H',rt:=Q} (oE N vs) H):FF P w K mg base (CXf P w) (k+1) x q st ps sp:=
 fun f _ F=>F.okF S (fun vs H Q E y=>(h vs H Q E y).1) fun cdv A outer s H vs Q E hr y=>(h vs H Q E y).2 cdv A outer s f hr
theorem FF.calm (F:FF P w K mg base (CXf P w) k x q st ps sp)(h:∀vs H Q E,sp vs H Q E->sp vs H Q E0):FF P w K mg base CX0 k x q st ps sp:=fun f fd y=>(F f fd y).calm h
theorem KM.calm0 (D:KM P w K mg base (CXf P w) k C m sp):KM P w K mg base CX0 k C m (fun vs H Q _=>sp vs H Q E0):=let ⟨f,fd,ps,a,b,c,F⟩:=D;⟨f,fd,ps,a,b,c,F.calm0⟩
end
section
variable {X:Cx}{CX:CXT}{k:Nat}{C:Addr}{sp:Sp}{E:XK}{x m:Str}{p pos apos:Pos}{e o:Expr}{es:List Expr}{ta:TE}{t:TA}
theorem dc (D:KD X.prog X.w X.K X.mg X.base CX k x sp)(hr:eC k X.A)(hx:fZ CX X E)(ha:PA X (e::es) t)(hg:Gl X x:=by rfl)(hdb:(x == ("__debug__":Str))=false:=by decide)
  (he:starEach (e::es) X.env=(false,eval e X.env)::starEach es X.env:=by rfl) (hpl:(backTo pos (starEach es X.env)).any (·.1)=false:=by rfl):PE X (.Call (.Name x p) (e::es) [] pos) (IZ sp [] E t):=
 let ⟨_,_,_,a,b,c,F⟩:=D;NA F hr hg a b c .nil hx ha hdb he hpl
theorem dc0 (D:KD X.prog X.w X.K X.mg X.base CX0 k x sp)(hr:eC k X.A)(ha:PA X (e::es) t)(hg:Gl X x:=by rfl)(hdb:(x == ("__debug__":Str))=false:=by decide)
  (he:starEach (e::es) X.env=(false,eval e X.env)::starEach es X.env:=by rfl) (hpl:(backTo pos (starEach es X.env)).any (·.1)=false:=by rfl):PE X (.Call (.Name x p) (e::es) [] pos) (IZ sp [] E0 t):=dc D hr br ha hg hdb he hpl
theorem dm {pl:Sem Bool}(he:PE X o ta)(D:KM X.prog X.w X.K X.mg X.base CX k C m sp)(hr:eC k X.A)(hx:fZ CX X E)(ha:PA X (e::es) t)
  (hst:starEach (e::es) X.env=(false,eval e X.env)::starEach es X.env:=by rfl) (hpl:(backTo pos (starEach es X.env)).any (·.1)=false:=by rfl)
  (ht:eval (.Call (.Attribute o m apos) (e::es) [] pos) X.env=(do
   let ov ←eval o X.env
   standAt apos.atName
   let (f,first) ←holding [ov] (getMethod ov m pl)
   callWith pos f first (backTo pos (starEach (e::es) X.env)) (backToKw pos (keywordEach [] X.env))):=by rfl) :
  PE X (.Call (.Attribute o m apos) (e::es) [] pos) (EU C m sp [] E ta t):=let ⟨_,_,_,a,b,c,F⟩:=D;NB he a b F hr c .nil hx ha hst hpl ht
theorem dm0 {pl:Sem Bool}(he:PE X o ta)(D:KM X.prog X.w X.K X.mg X.base CX k C m sp)(hr:eC k X.A)(hx:fZ CX X E)
  (ht:eval (.Call (.Attribute o m apos) [] [] pos) X.env=(do
   let ov ←eval o X.env
   standAt apos.atName
   let (f,first) ←holding [ov] (getMethod ov m pl)
   callWith pos f first (backTo pos (starEach [] X.env)) (backToKw pos (keywordEach [] X.env))):=by rfl) :
  PE X (.Call (.Attribute o m apos) [] [] pos) (EU C m sp [] E ta AW):=let ⟨_,_,_,a,b,c,F⟩:=D;Lx he a b F hr c .nil hx ht
theorem dn (D:KN X.prog X.w X.K X.mg X.base CX k C sp)(hr:eC (k+1) X.A)(hm:X.mg x=some (.ref C))(hx:fZ CX X E)(ha:PA X (e::es) t)(hg:Gl X x:=by rfl)(hdb:(x == ("__debug__":Str))=false:=by decide)
  (he:starEach (e::es) X.env=(false,eval e X.env)::starEach es X.env:=by rfl) (hpl:(backTo pos (starEach es X.env)).any (·.1)=false:=by rfl):PE X (.Call (.Name x p) (e::es) [] pos) (Lw C sp [] E t):=
 let ⟨_,_,_,a,c,F⟩:=D;NC a F hr hg hm c .nil hx ha hdb he hpl
variable {pins:List (Addr×Obj)}{E':XT}
theorem dcT (D:KD X.prog X.w X.K X.mg X.base (CXf X.prog X.w) k x sp)(hr:eC k X.A)(ha:PA (Xt X pins E') (e::es) t)(hg:Gl X x:=by rfl)(hdb:(x == ("__debug__":Str))=false:=by decide)
  (he:starEach (e::es) X.env=(false,eval e X.env)::starEach es X.env:=by rfl) (hpl:(backTo pos (starEach es X.env)).any (·.1)=false:=by rfl) :
  PE (Xt X pins E') (.Call (.Name x p) (e::es) [] pos) (Hs sp [] E' t):=let ⟨_,_,_,a,b,c,F⟩:=D;LU F hr hg a b c .nil ha hdb he hpl
end
section
variable {X:Cx}{a b e o l value:Expr}{es wj:List Expr}{ta tb te tl tv:TE}{t:TA}{pos p:Pos}{tg:Expr}{f:Str}
theorem pv' (i:Nat){x:Str}{pos:Pos}(hN:X.N[i]?=some x:=by rfl)(hv:Vis X.env.scope x:=by first | exact Or.inl rfl | exact Or.inr (Or.inl rfl) | exact Or.inr (Or.inr rfl))(hd:(x == ("__debug__":Str))=false:=by decide)
  (hcd:(x == ("__classdict__":Str))=false:=by decide):PE X (.Name x pos) (Mh i):=N7 i▸pv i hN hv hd hcd
theorem aw (he:PE X e ta)(hb:attributeBase e f X.env (eval e X.env)=eval e X.env:=by rfl):PE X (.Attribute e f pos) (Mm X.K ta f):=Ol X.K ta f▸Qh he hb
theorem cj {pos':Pos}(ha:PE X o ta)(hv:PE X value tv)(hs:swapsWith value (some (.Attribute o f pos')) pos.line X.env=pure false):PS X (.Assign [.Attribute o f pos'] value pos) (Mn X.K ta tv f):=Om X.K ta tv f▸Qi ha hv hs
theorem bx:OpR X (binaryOp .Add) (Hz fun i j=>.int (i+j)):=zt _▸Qa
theorem dh:OpR X (binaryOp .Sub) (Hz fun i j=>.int (i - j)):=zt _▸Qb
theorem yY:OpR X (binaryOp .Mult) (rI' y8 fun i j=>.int (i * j)):=Fk _ _▸G6
theorem MR:OpR X (binaryOp .Mult) (rI' Pl fun i j=>.int (i * j)):=Fk _ _▸NO
theorem KU:OpR X (binaryOp .FloorDiv) (rI' Pk fun i j=>.int (i / j)):=Fk _ _▸LL
theorem uI:OpR X (binaryOp .Mod) (rI' (fun _ j=>0 < j) fun i j=>.int (i % j)):=Fk _ _▸Lq
theorem DG:OpR X (binaryOp .Pow) (rI' P9 fun i j=>.int (i ^ j.toNat)):=Fk _ _▸Qc
theorem jj:OpR X (compareOp .Eq) (QS):=QT▸O9
theorem MS:OpR X (compareOp .NotEq) (QU):=QW▸Pa
theorem Q7:OpR X (compareOp .Lt) (Hz fun i j=>.bl (decide (i < j))):=zt _▸Pb
theorem Q8:OpR X (compareOp .LtE) (Hz fun i j=>.bl (decide (i<=j))):=zt _▸Pc
theorem MT:OpR X (compareOp .GtE) (Hz fun i j=>.bl (decide (j<=i))):=zt _▸Pd
theorem gK:OpR X (compareOp .In) (Fm X.K false):=MB _ _▸Kj
theorem fC:OpR X (compareOp .NotIn) (Fm X.K true):=MB _ _▸Dm
theorem gp:OpR X (binaryOp .Add) (My):=Ou▸Qq
theorem MU:OpR X (binaryOp .Add) (HZ X.K):=MA _▸NT
theorem Fu:OpR X (binaryOp .Add) (HY):=Mz▸NZ
theorem MV:OpR X (binaryOp .Mult) (Ie X.K):=MM _▸NX
theorem OI (hu:X.A.units < cLine):OpR X (compareOp .Eq) (Jz X.K):=OF _▸QD hu
theorem JD (hu:X.A.units < cLine):OpR X (compareOp .NotEq) (Jy X.K):=OE _▸QM hu
theorem cN:UnR X (unaryOp .USub) (rU' fun i=>.int (-i)):=R8 _▸Qe
theorem ax:IxR X (Cp X.K):=Oi _▸Jf
theorem aq:IxR X (xH X.K):=Oj _▸LB
theorem MW:SlR X (Mw X.K):=Oq _▸NH
theorem JE:SlR X (Mx X.K):=Ot _▸Qk
theorem ja:P0 X HW:=Ms▸LD
theorem cK:MtM X "list.append" zu:=HP▸Kk
theorem DH:MtM X "list.pop" Jw:=Ow▸Qp
theorem Cs:MtM X "list.clear" yW:=KH▸LI
theorem cX (h:PE X e te)(he:∀cw,isTrue e X.env cw=(do let v ←cw;standAt e.pos;holding [v] (truthy v)):=by intro _;rfl):PT X e (tB' te):=Pw te▸PV h he
theorem dQ {op:CmpOp}{r:R2}(ho:OpR X (compareOp op) r)(ha:PE X a ta)(hb:PE X b tb)(hm:behindInMarks op b=false):PT X (.Compare a [op] [b] pos) (tB' (tOp r ta tb)):=Mi (tOp r ta tb)▸iX ho ha hb hm
theorem bV (ha:PE X a ta)(hb:PE X b tb)(hm:behindInMarks .Eq b=false:=by exact cE _):PT X (.Compare a [.Eq] [b] pos) (Q3 ta tb):=Og ta tb▸iX O9 ha hb hm
theorem uJ (ha:PE X a ta)(hb:PE X b tb)(hm:behindInMarks .NotEq b=false:=by exact cE _):PT X (.Compare a [.NotEq] [b] pos) (Q4 ta tb):=Oh ta tb▸iX Pa ha hb hm
theorem oG (ha:PE X a ta)(hb:PE X b tb)(hm:behindInMarks .Lt b=false:=by exact cE _):PT X (.Compare a [.Lt] [b] pos) (rK (fun i j=>i < j) ta tb):=QX ta tb▸iX Pb ha hb hm
theorem Py (ha:PE X a ta)(hb:PE X b tb)(hm:behindInMarks .LtE b=false:=by exact cE _):PT X (.Compare a [.LtE] [b] pos) (rK (fun i j=>i<=j) ta tb):=QY ta tb▸iX Pc ha hb hm
theorem Ct (ha:PE X a ta)(hb:PE X b tb)(hm:behindInMarks .Gt b=false:=by exact cE _):PT X (.Compare a [.Gt] [b] pos) (rK (fun i j=>j < i) ta tb):=QZ ta tb▸iX RD ha hb hm
theorem Fv (ha:PE X a ta)(hb:PE X b tb)(hm:behindInMarks .GtE b=false:=by exact cE _):PT X (.Compare a [.GtE] [b] pos) (rK (fun i j=>j<=i) ta tb):=Q0 ta tb▸iX Pd ha hb hm
theorem DJ (ha:PE X a ta)(hb:PE X b (tC .non))(hm:behindInMarks .Is b=false:=by exact cE _):PT X (.Compare a [.Is] [b] pos) (MK ta):=ML ta▸iX Qf ha hb hm
theorem OJ (ha:PE X a ta)(hb:PE X b (tC .non))(hm:behindInMarks .IsNot b=false:=by exact cE _):PT X (.Compare a [.IsNot] [b] pos) (Ic ta):=KL ta▸iX Nw ha hb hm
theorem cO {k:Int}(ha:PE X a ta)(hb:PE X b (tC (.int k)))(hk:0 < k:=by decide):PE X (.BinOp a .Mod b pos) (tU1 (fun i=>.int (i % k)) ta):=Mt hk ta (fun i j=>.int (i % j))▸aT Lq ha hb
theorem nq {k:Int}(ha:PE X a ta)(hb:PE X b (tC (.int k)))(h1:0 < k:=by decide)(h2:k < 1073741824:=by decide):PE X (.BinOp a .FloorDiv b pos) (tU1 (fun i=>.int (i / k)) ta):=Mu h1 h2 ta (fun i j=>.int (i / j))▸aT Nv ha hb
theorem yZ {k:Int}(ha:PE X a ta)(hb:PE X b (tC (.int k)))(h1:-4294967296 < k:=by decide)(h2:k < 4294967296:=by decide):PE X (.BinOp a .Mult b pos) (tU1 (fun i=>.int (i * k)) ta):=Mv h1 h2 ta (fun i j=>.int (i * j))▸aT G6 ha hb
theorem pE {k:Int}(ha:PE X a (tC (.int k)))(hb:PE X b tb)(h1:-4294967296 < k:=by decide)(h2:k < 4294967296:=by decide):PE X (.BinOp a .Mult b pos) (tU1 (fun i=>.int (k * i)) tb):=KG h1 h2 tb (fun i j=>.int (i * j))▸aT G6 ha hb
theorem eS {k:Nat}{t:TGs}{n:Nat}(hc:X.calm=true)(h:PGs X es t)(hn:(assignEach es X.env).length=n:=by rfl)(hst:(assignEach es X.env).findIdx? (·.1)=none:=by rfl):PG X (.Tuple es k pos) (rL X.K n t):=Jt X.K n t▸P4 hc h hn hst
theorem JF {k:Nat}{t:TGs}{n:Nat}(hc:X.calm=true)(h:PGs X es t)(hn:(assignEach es X.env).length=n:=by rfl)(hst:(assignEach es X.env).findIdx? (·.1)=none:=by rfl):PG X (.Tuple es k pos) (HK X.K n t):=Mj X.K n t▸QK hc h hn hst
theorem aI {t:TG}{u:TGs}(h1:PG X e t)(h2:PGs X es u)(hs:(assignEach (e::es) X.env).map (·.2)=assign e X.env::(assignEach es X.env).map (·.2):=by rfl):PGs X (e::es) (wO t u):=uG t u▸Lk h1 h2 hs
theorem de:PGs X [] Ju:=Jv▸Nr
theorem cJ (hl:PE X l tl):PI X tg l (HR X.K tl):=Mp X.K tl▸Nt hl
theorem bA (hg:Gl X "range")(hm:X.mg "range"=none)(ha:PA X [a] t)(hs:starEach [a] X.env=[(false,eval a X.env)]:=by rfl):PI X tg (.Call (.Name "range" p) [a] [] pos) (HS t):=Mq t▸J4 hg hm ha hs
theorem tj (hg:Gl X "range")(hm:X.mg "range"=none)(ha:PA X [a,b] t)(hs:starEach [a,b] X.env=[(false,eval a X.env),(false,eval b X.env)]:=by rfl)(hs2:starEach [b] X.env=[(false,eval b X.env)]:=by rfl):PI X tg (.Call (.Name "range" p) [a,b] [] pos) (Ia t):=MC t▸Ka hg hm ha hs hs2
theorem zw {tpos:Pos}{elts:List Expr}{x1:Nat}(hg:Gl X "enumerate")(hm:X.mg "enumerate"=none)(hb:bootBuiltins "enumerate"=some (.type "enumerate"))(he:PE X a te)(hs:starEach [a] X.env=[(false,eval a X.env)]:=by rfl):PI X (.Tuple elts x1 tpos) (.Call (.Name "enumerate" p) [a] [] pos) (Ib X.K te):=MD X.K te▸NR hg hm hb he hs
theorem OK {tpos:Pos}{elts:List Expr}{x1:Nat}(hg:Gl X "zip")(hm:X.mg "zip"=none)(hb:bootBuiltins "zip"=some (.type "zip"))(ha:PE X a ta)(hb2:PE X b tb)(hs:starEach [a,b] X.env=[(false,eval a X.env),(false,eval b X.env)]:=by rfl)(hs2:starEach [b] X.env=[(false,eval b X.env)]:=by rfl):PI X (.Tuple elts x1 tpos) (.Call (.Name "zip" p) [a,b] [] pos) (ME X.K ta tb):=Ov X.K ta tb▸QE hg hm hb ha hb2 hs hs2
theorem y3 (ha:PE X a ta)(hb:PE X (.BoolOp .And (b::wj) pos) tb):PE X (.BoolOp .And (a::b::wj) pos) (HL ta tb):=Ml ta tb▸PX ha hb
theorem uK (h:PE X e te):PO X (some e) (HQ te):=Mo te▸NG h
theorem wR {r r':List V->Hp->VK->Prop}(h:∀t,tCB r t=tCB r' t):r=r':=funext fun vs=>funext fun H=>funext fun Q=>congrFun (congrFun (congrFun (h fun σ H Q=>Q vs H) []) H) Q
theorem az:dw X (.builtin "len") (Mr X.K):=wR (Oo X.K)▸Dn
theorem bH:dw X (.type "list") (yV X.K):=wR (HU X.K)▸Dp
theorem wU:dw X (.builtin "abs") Ox:=wR Oy▸Ls
theorem nu (hc:X.calm=true):dw X (.builtin "min") MF:=wR MG▸Ke hc
theorem pF:dw X (.type "tuple") (DD X.K):=wR (KJ X.K)▸AY
theorem dS:dw X (.type "int") Jx:=wR MJ▸Kf
theorem dm' {CX:CXT}{k:Nat}{C:Addr}{sp:Sp}{E:XK}{m:Str}{apos:Pos}{pl:Sem Bool}(he:PE X o ta)(D:KM X.prog X.w X.K X.mg X.base CX k C m sp)(hr:eC k X.A)(hx:fZ CX X E)(ha:PA X (e::es) t)
  (hst:starEach (e::es) X.env=(false,eval e X.env)::starEach es X.env:=by rfl) (hpl:(backTo pos (starEach es X.env)).any (·.1)=false:=by rfl)
  (ht:eval (.Call (.Attribute o m apos) (e::es) [] pos) X.env=(do
   let ov ←eval o X.env
   standAt apos.atName
   let (f,first) ←holding [ov] (getMethod ov m pl)
   callWith pos f first (backTo pos (starEach (e::es) X.env)) (backToKw pos (keywordEach [] X.env))):=by rfl) :
  PE X (.Call (.Attribute o m apos) (e::es) [] pos) (DC C m sp [] E ta t):=Fl C m sp [] E ta t▸dm he D hr hx ha hst hpl ht
theorem dR {CX:CXT}{k:Nat}{C:Addr}{sp:Sp}{E:XK}{m:Str}{apos:Pos}{pl:Sem Bool}(he:PE X o ta)(D:KM X.prog X.w X.K X.mg X.base CX k C m sp)(hr:eC k X.A)(hx:fZ CX X E)
  (ht:eval (.Call (.Attribute o m apos) [] [] pos) X.env=(do
   let ov ←eval o X.env
   standAt apos.atName
   let (f,first) ←holding [ov] (getMethod ov m pl)
   callWith pos f first (backTo pos (starEach [] X.env)) (backToKw pos (keywordEach [] X.env))):=by rfl) :
  PE X (.Call (.Attribute o m apos) [] [] pos) (DC C m sp [] E ta AW):=Fl C m sp [] E ta AW▸dm0 he D hr hx ht
theorem OL {i j:Nat}{x y:Str}{px py pt:Pos}{kt k2 pt2}(hc:X.calm=true)(hN:X.N.Nodup)(hi:X.N[i]?=some x)(hj:X.N[j]?=some y)(hij:i≠j)
  (hx:X.env.scope.names.lookup x=some .local) (hy:X.env.scope.names.lookup y=some .local) (ha:PA X [a,b] t)
  (hw:swappedStores [.Tuple [.Name x px,.Name y py] kt pt] (.Tuple [a,b] k2 pt2) X.env=pure (some [x,y]))
  (hs:swapsWithSole [.Tuple [.Name x px,.Name y py] kt pt] (.Tuple [a,b] k2 pt2) pos.line X.env=pure false:=by rfl) :
  PS X (.Assign [.Tuple [.Name x px,.Name y py] kt pt] (.Tuple [a,b] k2 pt2) pos) (MN i j t):=OD i j t▸P6 hc hN hi hj hij hx hy ha hw hs
variable {e1 e2 e3 e4:Expr}{t1 t2 t3 t4:TE}
theorem pa1 (h1:PE X e1 t1)(s1:starEach [e1] X.env=(false,eval e1 X.env)::starEach [] X.env:=by rfl):PA X [e1] (oC t1 AW):=dY h1 il s1
theorem pa2 (h1:PE X e1 t1)(h2:PE X e2 t2)(s1:starEach [e1,e2] X.env=(false,eval e1 X.env)::starEach [e2] X.env:=by rfl)(s2:starEach [e2] X.env=(false,eval e2 X.env)::starEach [] X.env:=by rfl):PA X [e1,e2] (oC t1 (oC t2 AW)):=dY h1 (pa1 h2 s2) s1
theorem pa3 (h1:PE X e1 t1)(h2:PE X e2 t2)(h3:PE X e3 t3)(s1:starEach [e1,e2,e3] X.env=(false,eval e1 X.env)::starEach [e2,e3] X.env:=by rfl)(s2:starEach [e2,e3] X.env=(false,eval e2 X.env)::starEach [e3] X.env:=by rfl)(s3:starEach [e3] X.env=(false,eval e3 X.env)::starEach [] X.env:=by rfl):PA X [e1,e2,e3] (oC t1 (oC t2 (oC t3 AW))):=dY h1 (pa2 h2 h3 s2 s3) s1
theorem pa4 (h1:PE X e1 t1)(h2:PE X e2 t2)(h3:PE X e3 t3)(h4:PE X e4 t4)(s1:starEach [e1,e2,e3,e4] X.env=(false,eval e1 X.env)::starEach [e2,e3,e4] X.env:=by rfl)(s2:starEach [e2,e3,e4] X.env=(false,eval e2 X.env)::starEach [e3,e4] X.env:=by rfl)(s3:starEach [e3,e4] X.env=(false,eval e3 X.env)::starEach [e4] X.env:=by rfl)(s4:starEach [e4] X.env=(false,eval e4 X.env)::starEach [] X.env:=by rfl):PA X [e1,e2,e3,e4] (oC t1 (oC t2 (oC t3 (oC t4 AW)))):=dY h1 (pa3 h2 h3 h4 s2 s3 s4) s1
end
abbrev Xm (K:WA)(a b:Addr)(v:Bool):Prop:=W.exmOne K (.ref a) (.ref b)=some v
abbrev Kt (K:WA)(a b:Addr)(v:Bool):Prop:=W.kitOne K (.ref a) (.ref b)=some v
theorem fgo {K:WA}{H:Hp}{a:Addr}{f:Str}{C:Addr}{dx:Addr}{fs:List (Str×V)}{v:V}{q:V->Prop}(h:H a=some (.ins C dx fs))(c:Cls K C)(n:bq K C f)(l:fs.lookup f=some v)(k:q v) :
  ∃C dx fs,H a=some (.ins C dx fs)/\Cls K C/\bq K C f/\∃v,fs.lookup f=some v/\q v:=⟨_,_,_,h,c,n,_,l,k⟩
theorem mgo {H:Hp}{a C:Addr}{m:Str}{dx:Addr}{fs:List (Str×V)}{q:Prop}(h:H a=some (.ins C dx fs))(l:fs.lookup m=none)(k:q) :
  ∃dx fs,H a=some (.ins C dx fs)/\fs.lookup m=none/\q:=⟨_,_,h,l,k⟩
theorem hfA {p q:Prop}(h:p\/q:=by first | exact .inl rfl | exact .inr rfl | assumption):p\/q:=h
end L2
namespace K39
open PySem L2
noncomputable abbrev zx:List Str:=["number","many"]
noncomputable abbrev rM:List Str:=["level","many"]
noncomputable abbrev uL:List Str:=["number","many"]
noncomputable abbrev rN:List Str:=["loads","many"]
noncomputable abbrev xM:List Str:=["self","loads","many"]
noncomputable abbrev xN:List Str:=["self","number","cage"]
noncomputable abbrev zy:List Str:=["self","cage","level"]
noncomputable abbrev uM:List Str:=["self"]
noncomputable abbrev pG:List Str:=["self","cage"]
noncomputable abbrev oH:List Str:=["self","level"]
noncomputable abbrev kr:List Str:=["self"]
noncomputable abbrev xO:List Str:=["self"]
noncomputable abbrev rO:List Str:=["number"]
noncomputable abbrev rP:List Str:=["codes","many"]
noncomputable abbrev uN:List Str:=["self","codes"]
noncomputable abbrev uO:List Str:=["self","level","strokes"]
noncomputable abbrev pH:List Str:=["self","strokes"]
noncomputable abbrev pI:List Str:=["self"]
noncomputable abbrev uP:List Str:=["self","level"]
noncomputable abbrev uQ:List Str:=["self"]
noncomputable abbrev xP:List Str:=["self","level","kind"]
noncomputable abbrev uR:List Str:=["self"]
noncomputable abbrev pJ:List Str:=["depths"]
noncomputable abbrev uS:List Str:=["depths"]
noncomputable abbrev rQ:List Str:=["depths","place"]
noncomputable abbrev zz:List Str:=["depths","depth"]
noncomputable abbrev rR:List Str:=["depths","cage","level"]
noncomputable abbrev xQ:List Str:=["depths"]
noncomputable abbrev zB:List Str:=["depths","place"]
noncomputable abbrev pK:List Str:=["slow","fast"]
noncomputable abbrev uT:List Str:=["way","speed"]
noncomputable abbrev rS:List Str:=["begin","end","speed","ticks"]
noncomputable abbrev oI:List Str:=["self","place","opened","bells","yard"]
noncomputable abbrev oJ:List Str:=["self"]
noncomputable abbrev xR:List Str:=["self","first","most"]
noncomputable abbrev uU:List Str:=["self","deed","ticks","speed","standing"]
noncomputable abbrev rT:List Str:=["self"]
noncomputable abbrev zC:List Str:=["self"]
noncomputable abbrev rV:List Str:=["self"]
noncomputable abbrev xS:List Str:=["self"]
noncomputable abbrev oK:List Str:=["self","tick"]
noncomputable abbrev jk:List Str:=["self","tick"]
noncomputable abbrev uV:List Str:=["depths","many"]
noncomputable abbrev xT:List Str:=["levels","many"]
noncomputable abbrev rW:List Str:=["depths","dead","stand","step"]
noncomputable abbrev rX:List Str:=["depths","dead","stand","step"]
noncomputable abbrev oM:List Str:=["levels","stand","step"]
noncomputable abbrev xU:List Str:=["stand","k","spot"]
noncomputable abbrev rY:List Str:=["depths","stop"]
noncomputable abbrev mi:List Str:=["depths"]
noncomputable abbrev mj:List Str:=["levels","stand"]
noncomputable abbrev pL:List Str:=["depths","dead","goals"]
noncomputable abbrev uW:List Str:=["depths","dead"]
noncomputable abbrev rZ:List Str:=["table","levels","stands","winds"]
noncomputable abbrev gI:List Str:=["levels","live","reached"]
noncomputable abbrev pM:List Str:=["depths","dead","stand","goals"]
noncomputable abbrev uX:List Str:=["depths","dead","table","came","reached"]
noncomputable abbrev uY:List Str:=["levels","came","stands"]
noncomputable abbrev zD:List Str:=["came","end"]
noncomputable abbrev pN:List Str:=["step","row"]
noncomputable abbrev uZ:List Str:=["self","depths","codes","slow","fast","loads"]
noncomputable abbrev u5:List Str:=["self","level","strokes"]
noncomputable abbrev pO:List Str:=["self","strokes"]
noncomputable abbrev u6:List Str:=["self","level"]
noncomputable abbrev ku:List Str:=["self","level"]
noncomputable abbrev kv:List Str:=["self","level"]
noncomputable abbrev ky:List Str:=["self","word","level","wanted"]
noncomputable abbrev u7:List Str:=["self","number","cage"]
noncomputable abbrev pP:List Str:=["self","cage"]
noncomputable abbrev u9:List Str:=["self","cage","level","kind"]
noncomputable abbrev kz:List Str:=["self"]
noncomputable abbrev r6:List Str:=["self","deed","ticks","standing"]
noncomputable abbrev jl:List Str:=["self","standing"]
noncomputable abbrev ml:List Str:=["self","cage"]
noncomputable abbrev fD:List Str:=["self","level"]
noncomputable abbrev xV:List Str:=["self"]
noncomputable abbrev va:List Str:=["self"]
noncomputable abbrev pQ:List Str:=["self"]
noncomputable abbrev vb:List Str:=["self"]
noncomputable abbrev r8:List Str:=["self"]
noncomputable abbrev r9:List Str:=["self"]
noncomputable abbrev mm:List Str:=["self","tick"]
noncomputable abbrev iW:List Str:=["self","place"]
noncomputable abbrev sd:List Str:=["self"]
noncomputable abbrev oN:List Str:=["self","cage"]
noncomputable abbrev mn:List Str:=["self","level"]
noncomputable abbrev pR:List Str:=["self","row"]
noncomputable abbrev mq:List Str:=["self","row"]
noncomputable abbrev kA:List Str:=["self","row"]
noncomputable abbrev MX:List Str:=["_law_script","_law_k"]
noncomputable abbrev Fw:List Str:=["_law_cell","_law_k","_law_span"]
noncomputable abbrev Cu:List Str:=["_law_script","_law_k"]
noncomputable abbrev vc:List Str:=["_law_found","_law_due"]
noncomputable abbrev zE:List Str:=["_law_cell"]
noncomputable abbrev Cv:List Str:=["_law_cell","_law_many"]
noncomputable abbrev Cw:List Str:=["_law_cell","_law_many","_law_most"]
noncomputable abbrev Cy:List Str:=["_law_script"]
noncomputable abbrev Cz:List Str:=["_law_script","_law_most"]
noncomputable abbrev Fx:List Str:=["_law_setup_here"]
noncomputable abbrev MY:List Str:=["_law_depths_here","_law_cage","_law_place"]
noncomputable abbrev Fy:List Str:=["_law_row","_law_k","_law_value"]
noncomputable abbrev CA:List Str:=["_law_way","_law_speed_here"]
noncomputable abbrev CB:List Str:=["_law_setup_here","_law_lying"]
noncomputable abbrev CC:List Str:=["_law_setup_here"]
noncomputable abbrev CD:List Str:=["_law_heard_here","_law_deed"]
noncomputable abbrev Fz:List Str:=["_law_setup_here","_law_state","_law_deed"]
noncomputable abbrev FA:List Str:=["_law_works","_law_deed"]
noncomputable abbrev FC:List Str:=["_law_works","_law_setup_here","_law_states","_law_rows"]
noncomputable abbrev mr:List Str:=["_law_setup_here","_law_state","_law_rest"]
noncomputable abbrev mv:List Str:=["_law_setup_here","_law_state","_law_rest"]
noncomputable abbrev se:List Str:=["_law_setup_here","_law_states","_law_cell"]
noncomputable abbrev FD:List Str:=["_law_works","_law_setup_here","_law_states","_law_rows","_law_deed"]
noncomputable abbrev JG:List Str:=["_law_works","_law_deed"]
noncomputable abbrev xW:List Str:=["_law_works","_law_deed"]
noncomputable abbrev sg:List Str:=["_law_setup_here","_law_state"]
noncomputable abbrev si:List Str:=["_law_setup_here","_law_state"]
noncomputable abbrev MZ:List Str:=["_law_script"]
noncomputable def top (i:Nat):Stmt:=PySem.Challenge.pw_cagebells_k39_whole_refused_changes_noth.main.body.getD i (.Pass ⟨0,0,0,0⟩)
noncomputable abbrev tu:Stmt:=top 24
theorem FE:au ["number","many"] zx (ai tu):=aL
noncomputable abbrev kU:Stmt:=top 25
theorem zF:au ["level","many"] rM (ai kU):=aL
noncomputable abbrev nv:Stmt:=top 26
theorem Ba:au ["number","many"] uL (ai nv):=aL
noncomputable abbrev kW:Stmt:=top 31
theorem gq:au ["loads","many","kind","level","goal"] rN (ai kW):=aL
noncomputable abbrev pS:Stmt:=aR (top 32) 0
theorem DK:au ["self","loads","many"] xM (ai pS):=aL
noncomputable abbrev pT:Stmt:=aR (top 32) 1
theorem DL:au ["self","number","cage"] xN (ai pT):=aL
noncomputable abbrev tw:Stmt:=aR (top 32) 2
theorem xX:au ["self","cage","level","number"] zy (ai tw):=aL
noncomputable abbrev ny:Stmt:=aR (top 32) 3
theorem Bb:au ["self"] uM (ai ny):=aL
noncomputable abbrev jm:Stmt:=aR (top 32) 4
theorem iw:au ["self","cage","number","spot"] pG (ai jm):=aL
noncomputable abbrev iz:Stmt:=aR (top 32) 5
theorem wV:au ["self","level"] oH (ai iz):=aL
noncomputable abbrev gu:Stmt:=aR (top 32) 6
theorem fN:au ["self","kind","spot"] kr (ai gu):=aL
noncomputable abbrev pU:Stmt:=aR (top 32) 7
theorem vd:au ["self","other"] xO (ai pU):=aL
noncomputable abbrev kX:Stmt:=top 36
theorem zG:au ["number"] rO (ai kX):=aL
noncomputable abbrev kY:Stmt:=top 37
theorem jn:au ["codes","many","men","coal"] rP (ai kY):=aL
noncomputable abbrev nA:Stmt:=aR (top 38) 0
theorem Bc:au ["self","codes"] uN (ai nA):=aL
noncomputable abbrev nB:Stmt:=aR (top 38) 1
theorem Be:au ["self","level","strokes"] uO (ai nB):=aL
noncomputable abbrev jo:Stmt:=aR (top 38) 2
theorem fJ:au ["self","strokes","level","rung","alike"] pH (ai jo):=aL
noncomputable abbrev jq:Stmt:=aR (top 38) 3
theorem yr:au ["self"] pI (ai jq):=aL
noncomputable abbrev nC:Stmt:=aR (top 38) 4
theorem Bf:au ["self","level"] uP (ai nC):=aL
noncomputable abbrev nD:Stmt:=aR (top 38) 5
theorem Bg:au ["self"] uQ (ai nD):=aL
noncomputable abbrev pV:Stmt:=aR (top 38) 6
theorem ve:au ["self","level","kind","code"] xP (ai pV):=aL
noncomputable abbrev nE:Stmt:=aR (top 38) 7
theorem sj:au ["self","other"] uR (ai nE):=aL
noncomputable abbrev jr:Stmt:=top 44
theorem iA:au ["depths","depth","level"] pJ (ai jr):=aL
noncomputable abbrev nF:Stmt:=top 45
theorem Bh:au ["depths"] uS (ai nF):=aL
noncomputable abbrev kZ:Stmt:=top 46
theorem zH:au ["depths","place"] rQ (ai kZ):=aL
noncomputable abbrev tx:Stmt:=top 47
theorem xY:au ["depths","depth","level"] zz (ai tx):=aL
noncomputable abbrev k7:Stmt:=top 48
theorem zI:au ["depths","cage","level"] rR (ai k7):=aL
noncomputable abbrev pW:Stmt:=top 49
theorem DM:au ["depths","places","level"] xQ (ai pW):=aL
noncomputable abbrev tD:Stmt:=top 50
theorem xZ:au ["depths","place","stands"] zB (ai tD):=aL
noncomputable abbrev js:Stmt:=top 53
theorem yt:au ["slow","fast"] pK (ai js):=aL
noncomputable abbrev nG:Stmt:=top 54
theorem Bi:au ["way","speed"] uT (ai nG):=aL
noncomputable abbrev lg:Stmt:=top 55
theorem pX:au ["begin","end","speed","ticks","gone"] rS (ai lg):=aL
noncomputable abbrev iB:Stmt:=aR (top 57) 0
theorem wW:au ["self","place","opened","bells","yard"] oI (ai iB):=aL
noncomputable abbrev iC:Stmt:=aR (top 57) 1
theorem wX:au ["self"] oJ (ai iC):=aL
noncomputable abbrev pY:Stmt:=aR (top 58) 0
theorem DN:au ["self","first","most"] xR (ai pY):=aL
noncomputable abbrev nH:Stmt:=aR (top 58) 1
theorem sk:au ["self","deed","ticks","speed","standing","began"] uU (ai nH):=aL
noncomputable abbrev lh:Stmt:=aR (top 58) 2
theorem zJ:au ["self"] rT (ai lh):=aL
noncomputable abbrev tE:Stmt:=aR (top 58) 3
theorem FG:au ["self"] zC (ai tE):=aL
noncomputable abbrev lj:Stmt:=aR (top 58) 4
theorem zK:au ["self"] rV (ai lj):=aL
noncomputable abbrev pZ:Stmt:=aR (top 58) 5
theorem DO:au ["self"] xS (ai pZ):=aL
noncomputable abbrev iD:Stmt:=aR (top 58) 6
theorem bP:au ["self","tick","place","ahead","began","ended","deed","speed","standing"] oK (ai iD):=aL
noncomputable abbrev fO:Stmt:=aR (top 58) 8
theorem rm:au ["self","tick"] jk (ai fO):=aL
noncomputable abbrev nI:Stmt:=top 62
theorem Bj:au ["depths","many","rows","stands","stop"] uV (ai nI):=aL
noncomputable abbrev p6:Stmt:=top 63
theorem DP:au ["levels","many","choices","rows","load","longer","row"] xT (ai p6):=aL
noncomputable abbrev lp:Stmt:=top 64
theorem zL:au ["depths","dead","stand","step"] rW (ai lp):=aL
noncomputable abbrev lq:Stmt:=top 65
theorem zM:au ["depths","dead","stand","step","cage","level"] rX (ai lq):=aL
noncomputable abbrev iE:Stmt:=top 66
theorem wY:au ["levels","stand","step","word","k","cage","spots"] oM (ai iE):=aL
noncomputable abbrev p7:Stmt:=top 67
theorem DQ:au ["stand","k","spot"] xU (ai p7):=aL
noncomputable abbrev lr:Stmt:=top 68
theorem zN:au ["depths","stop"] rY (ai lr):=aL
noncomputable abbrev gL:Stmt:=top 69
theorem vf:au ["depths","levels","stop"] mi (ai gL):=aL
noncomputable abbrev gM:Stmt:=top 70
theorem vg:au ["levels","stand","found","k","word","cage","step","after"] mj (ai gM):=aL
noncomputable abbrev jt:Stmt:=top 71
theorem yu:au ["depths","dead","goals","table","stand","levels","live","stands","winds","reached"] pL (ai jt):=aL
noncomputable abbrev nJ:Stmt:=top 72
theorem Bk:au ["depths","dead","stops","level"] uW (ai nJ):=aL
noncomputable abbrev lu:Stmt:=top 73
theorem zO:au ["table","levels","stands","winds","waiting","reached","stand"] rZ (ai lu):=aL
noncomputable abbrev eN:Stmt:=top 74
theorem nK:au ["levels","live","reached","rows","stand","stands","spots"] gI (ai eN):=aL
noncomputable abbrev ju:Stmt:=top 75
theorem yv:au ["depths","dead","stand","goals","table","winds","levels","came","reached","done","arrived"] pM (ai ju):=aL
noncomputable abbrev nL:Stmt:=top 76
theorem Bl:au ["depths","dead","table","came","reached","level","cage","step","arrived","stand","after"] uX (ai nL):=aL
noncomputable abbrev nM:Stmt:=top 77
theorem Bm:au ["levels","came","stands","found","at","stand","step","after"] uY (ai nM):=aL
noncomputable abbrev tF:Stmt:=top 78
theorem FH:au ["came","end","steps","stand"] zD (ai tF):=aL
noncomputable abbrev jv:Stmt:=top 81
theorem yw:au ["step","row"] pN (ai jv):=aL
noncomputable abbrev nN:Stmt:=aR (top 82) 0
theorem ly:au ["self","depths","codes","slow","fast","loads","shut","first"] uZ (ai nN):=aL
noncomputable abbrev nO:Stmt:=aR (top 82) 1
theorem so:au ["self","level","strokes","standing"] u5 (ai nO):=aL
noncomputable abbrev jw:Stmt:=aR (top 82) 2
theorem iF:au ["self","strokes","standing","answer"] pO (ai jw):=aL
noncomputable abbrev nP:Stmt:=aR (top 82) 3
theorem sq:au ["self","level","standing"] u6 (ai nP):=aL
noncomputable abbrev gv:Stmt:=aR (top 82) 4
theorem tG:au ["self","level"] ku (ai gv):=aL
noncomputable abbrev gw:Stmt:=aR (top 82) 5
theorem tH:au ["self","level"] kv (ai gw):=aL
noncomputable abbrev gx:Stmt:=aR (top 82) 6
theorem jx:au ["self","word","level","wanted","standing"] ky (ai gx):=aL
noncomputable abbrev nQ:Stmt:=aR (top 82) 7
theorem lz:au ["self","number","cage","standing","level"] u7 (ai nQ):=aL
noncomputable abbrev jy:Stmt:=aR (top 82) 8
theorem iG:au ["self","cage","standing","level"] pP (ai jy):=aL
noncomputable abbrev nR:Stmt:=aR (top 82) 9
theorem fE:au ["self","cage","level","kind","standing","gate","end","ticks"] u9 (ai nR):=aL
noncomputable abbrev gy:Stmt:=aR (top 82) 10
theorem tI:au ["self"] kz (ai gy):=aL
noncomputable abbrev lA:Stmt:=aR (top 82) 11
theorem zP:au ["self","deed","ticks","standing"] r6 (ai lA):=aL
noncomputable abbrev fP:Stmt:=aR (top 82) 12
theorem rn:au ["self","standing"] jl (ai fP):=aL
noncomputable abbrev gN:Stmt:=aR (top 82) 13
theorem vh:au ["self","cage"] ml (ai gN):=aL
noncomputable abbrev dU:Stmt:=aR (top 82) 14
theorem j5:au ["self","level"] fD (ai dU):=aL
noncomputable abbrev p8:Stmt:=aR (top 82) 15
theorem DR:au ["self"] xV (ai p8):=aL
noncomputable abbrev nS:Stmt:=aR (top 82) 16
theorem Bn:au ["self"] va (ai nS):=aL
noncomputable abbrev jz:Stmt:=aR (top 82) 18
theorem yx:au ["self"] pQ (ai jz):=aL
noncomputable abbrev nT:Stmt:=aR (top 82) 19
theorem Bo:au ["self"] vb (ai nT):=aL
noncomputable abbrev lB:Stmt:=aR (top 82) 20
theorem zQ:au ["self"] r8 (ai lB):=aL
noncomputable abbrev lD:Stmt:=aR (top 82) 21
theorem zR:au ["self"] r9 (ai lD):=aL
noncomputable abbrev gO:Stmt:=aR (top 82) 22
theorem vi:au ["self","tick"] mm (ai gO):=aL
noncomputable abbrev fv:Stmt:=aR (top 82) 23
theorem p9:au ["self","place"] iW (ai fv):=aL
noncomputable abbrev lE:Stmt:=aR (top 82) 24
theorem zS:au ["self"] sd (ai lE):=aL
noncomputable abbrev iH:Stmt:=aR (top 82) 26
theorem wZ:au ["self","cage"] oN (ai iH):=aL
noncomputable abbrev gP:Stmt:=aR (top 82) 27
theorem vj:au ["self","level"] mn (ai gP):=aL
noncomputable abbrev jA:Stmt:=aR (top 82) 28
theorem yy:au ["self","row","spots","stand","found"] pR (ai jA):=aL
noncomputable abbrev gQ:Stmt:=aR (top 82) 30
theorem vk:au ["self","row"] mq (ai gQ):=aL
noncomputable abbrev gz:Stmt:=aR (top 82) 31
theorem jB:au ["self","row","number","cage","aboard"] kA (ai gz):=aL
noncomputable abbrev Ih:Stmt:=top 84
theorem OM:au ["_law_script","_law_k"] MX (ai Ih):=aL
noncomputable abbrev zT:Stmt:=top 85
theorem my:au ["_law_cell","_law_k","_law_span","_law_rest","_law_turn","_law_one"] Fw (ai zT):=aL
noncomputable abbrev w6:Stmt:=top 86
theorem tJ:au ["_law_script","_law_k","_law_cell","_law_one"] Cu (ai w6):=aL
noncomputable abbrev qa:Stmt:=top 87
theorem w8:au ["_law_found","_law_due","_law_alike","_law_k"] vc (ai qa):=aL
noncomputable abbrev tK:Stmt:=top 88
theorem dq:au ["_law_cell","_law_many","_law_shape","_law_gap","_law_made_here","_law_last","_law_k","_law_span"] zE (ai tK):=aL
noncomputable abbrev w9:Stmt:=top 89
theorem nU:au ["_law_cell","_law_many","_law_made_here","_law_k","_law_men"] Cv (ai w9):=aL
noncomputable abbrev xa:Stmt:=top 90
theorem jC:au ["_law_cell","_law_many","_law_most","_law_made_here","_law_count","_law_k","_law_kind"] Cw (ai xa):=aL
noncomputable abbrev mz:Stmt:=top 91
theorem fQ:au ["_law_script","_law_depths_here","_law_codes_here","_law_cell","_law_slow","_law_fast"] Cy (ai mz):=aL
noncomputable abbrev xb:Stmt:=top 92
theorem jD:au ["_law_script","_law_most","_law_depths_here","_law_codes_here","_law_slow","_law_fast"] Cz (ai xb):=aL
noncomputable abbrev zU:Stmt:=top 93
theorem fX:au ["_law_setup_here","_law_depths_here","_law_codes_here","_law_slow","_law_fast","_law_loads_here","_law_handed","_law_works"] Fx (ai zU):=aL
noncomputable abbrev Ii:Stmt:=top 94
theorem DS:au ["_law_depths_here","_law_cage","_law_place","_law_deep","_law_k"] MY (ai Ii):=aL
noncomputable abbrev zV:Stmt:=top 95
theorem KW:au ["_law_row","_law_k","_law_value"] Fy (ai zV):=aL
noncomputable abbrev xc:Stmt:=top 96
theorem tL:au ["_law_way","_law_speed_here","_law_ticks"] CA (ai xc):=aL
noncomputable abbrev xf:Stmt:=top 97
theorem zW:au ["_law_setup_here","_law_lying","_law_k"] CB (ai xf):=aL
noncomputable abbrev xg:Stmt:=top 98
theorem tM:au ["_law_setup_here","_law_many","_law_lying"] CC (ai xg):=aL
noncomputable abbrev xh:Stmt:=top 99
theorem zX:au ["_law_heard_here","_law_deed","_law_word"] CD (ai xh):=aL
noncomputable abbrev zY:Stmt:=top 100
theorem cv:au ["_law_setup_here","_law_state","_law_deed","_law_place","_law_gates","_law_lying","_law_heard_here","_law_dead","_law_clock","_law_ended","_law_level","_law_deep","_law_goal"] Fz (ai zY):=aL
noncomputable abbrev zZ:Stmt:=top 101
theorem KY:au ["_law_works","_law_deed"] FA (ai zZ):=aL
noncomputable abbrev jE:Stmt:=top 102
theorem dN:au ["_law_works","_law_setup_here","_law_states","_law_rows","_law_place","_law_gates","_law_lying","_law_heard_here","_law_dead","_law_clock","_law_held","_law_k","_law_waits","_law_due","_law_found"] FC (ai jE):=aL
noncomputable abbrev gR:Stmt:=top 103
theorem ck:au ["_law_setup_here","_law_state","_law_rest","_law_depths_here","_law_codes_here","_law_heard_here","_law_live","_law_level","_law_cage","_law_kind"] mr (ai gR):=aL
noncomputable abbrev ez:Stmt:=top 104
theorem cY:au ["_law_setup_here","_law_state","_law_rest","_law_cage","_law_level","_law_waits"] mv (ai ez):=aL
noncomputable abbrev cy:Stmt:=top 105
theorem gA:au ["_law_setup_here","_law_states","_law_cell","_law_state","_law_rest","_law_level"] se (ai cy):=aL
noncomputable abbrev Aa:Stmt:=top 106
theorem xi:au ["_law_works","_law_setup_here","_law_states","_law_rows","_law_deed","_law_told","_law_heard_here"] FD (ai Aa):=aL
noncomputable abbrev DT:Stmt:=top 107
theorem M0:au ["_law_works","_law_deed"] JG (ai DT):=aL
noncomputable abbrev qc:Stmt:=top 108
theorem fg:au ["_law_works","_law_deed","_law_hit","e"] xW (ai qc):=aL
noncomputable abbrev lF:Stmt:=top 109
theorem cF:au ["_law_setup_here","_law_state","_law_made_here","_law_far","_law_level","_law_strokes"] sg (ai lF):=aL
noncomputable abbrev lG:Stmt:=top 110
theorem dA:au ["_law_setup_here","_law_state","_law_made_here","_law_number","_law_cage","_law_level"] si (ai lG):=aL
noncomputable abbrev Ab:Stmt:=top 111
theorem lH:au ["_law_script","_law_setup_here","_law_works","_law_states","_law_rows","_law_last","_law_k","_law_due","_law_deed"] MZ (ai Ab):=aL
structure Adr where
 ay:Addr
 aH:Addr
 dB:Addr
 aV:Addr
 cG:Addr
 aP:Addr
 dC:Addr
 aW:Addr
 bB:Addr
 aJ:Addr
 aU:Addr
 cR:Addr
 cL:Addr
 cM:Addr
 cS:Addr
 bW:Addr
 bD:Addr
 dD:Addr
 cT:Addr
 gS:Addr
 bE:Addr
 fh:Addr
 bR:Addr
 eM:Addr
 oX:Addr
 bw:Addr
 DU:Addr
 vm:Addr
 JH:Addr
structure Txt (P:Program)(w:World)(K:WA)(mg:Str->Option Value)(base:Heap)(Z:Adr):Prop where
 bY:mg "len"=none
 eO:mg "list"=none
 qd:mg "enumerate"=none
 Se:mg "zip"=none
 cB:mg "range"=none
 M3:mg "sorted"=none
 SS:mg "set"=none
 JI:mg "min"=none
 M4:mg "abs"=none
 vn:mg "tuple"=none
 bt:mg "isinstance"=none
 oO:mg "int"=none
 Pz:mg "str"=none
 M5:mg "bool"=none
 Sf:mg "max"=none
 DV:∃u,mg "MOST_LOADS"=some u/\bT (.int 30) u
 xj:∃u,mg "FEWEST_STROKES"=some u/\bT (.int 1) u
 Ac:∃u,mg "MOST_STROKES"=some u/\bT (.int 9) u
 yz:∃u,mg "FEWEST_LEVELS"=some u/\bT (.int 2) u
 Bp:∃u,mg "MOST_LEVELS"=some u/\bT (.int 6) u
 xk:∃u,mg "GREATEST_DEPTH"=some u/\bT (.int 500) u
 xl:∃u,mg "GREATEST_SPEED"=some u/\bT (.int 500) u
 M6:∃u,mg "MOST_PLANNED"=some u/\bT (.int 3) u
 DW:∃u,mg "MOST_DEEDS"=some u/\bT (.int 300) u
 ON:∃u,mg "KINDS"=some u/\bT (.ref Z.DU) u
 OO:∀H,SqT K H Z.DU [.str "men",.str "coal"]
 OP:∃o,K.lookup Z.DU=some o/\o.cls=.type "tuple"/\o.dict=none
 iY:∃u,mg "CAGE_SPOTS"=some u/\bT (.ref Z.vm) u
 iZ:∀H,SqT K H Z.vm [.int 10,.int 11]
 Sr:∃u,mg "CAGES"=some u/\bT (.ref Z.JH) u
 Ss:∀H,SqT K H Z.JH [.int 0,.int 1]
 qf:mg "UnknownLevel"=some (.ref Z.ay)
 sr:mg "UnknownLoad"=some (.ref Z.aH)
 Ad:mg "BadLoads"=some (.ref Z.dB)
 nV:mg "NotThere"=some (.ref Z.aV)
 FI:mg "CageTaken"=some (.ref Z.cG)
 qg:mg "CageEmpty"=some (.ref Z.aP)
 tN:mg "BadCodes"=some (.ref Z.dC)
 Ae:mg "DeadBell"=some (.ref Z.aW)
 Af:mg "NoCode"=some (.ref Z.bB)
 sv:mg "NothingRung"=some (.ref Z.aJ)
 tO:mg "NoChange"=some (.ref Z.aU)
 Ij:mg "NotArmed"=some (.ref Z.cR)
 qh:mg "BadDepths"=some (.ref Z.cL)
 FJ:mg "BadSpeeds"=some (.ref Z.cM)
 Ik:mg "BookFull"=some (.ref Z.cS)
 Bq:mg "NothingDone"=some (.ref Z.bW)
 FK:mg "NoTick"=some (.ref Z.bD)
 Il:mg "GateOpen"=some (.ref Z.dD)
 Im:mg "GateShut"=some (.ref Z.cT)
 Sg:mg "BadRow"=some (.ref Z.gS)
 FL:mg "CageError"=some (.ref Z.bE)
 M7:mg "Yard"=some (.ref Z.fh)
 JJ:mg "Bells"=some (.ref Z.bR)
 Ag:mg "Standing"=some (.ref Z.eM)
 Q9:mg "Book"=some (.ref Z.oX)
 OQ:mg "Works"=some (.ref Z.bw)
 di:Cls K Z.fh
 g0:bq K Z.fh "kinds"
 cz:bq K Z.fh "where"
 i3:bq K Z.fh "many"
 bL:Cls K Z.bR
 dE:bq K Z.bR "codes"
 cZ:bq K Z.bR "failed"
 bO:bq K Z.bR "state"
 aO:Cls K Z.eM
 bI:bq K Z.eM "place"
 cD:bq K Z.eM "opened"
 cq:bq K Z.eM "bells"
 bQ:bq K Z.eM "yard"
 dj:Cls K Z.oX
 g8:bq K Z.oX "first"
 vo:bq K Z.oX "most"
 cb:bq K Z.oX "rows"
 aZ:Cls K Z.bw
 c7:bq K Z.bw "depths"
 sJ:bq K Z.bw "slow"
 sL:bq K Z.bw "fast"
 jF:bq K Z.bw "goals"
 aX:bq K Z.bw "log"
 Ah:ExC K Z.ay
 Ai:ExI K Z.ay
 lI:Xm K Z.ay Z.bE true
 i4:Kt K Z.ay Z.ay true
 oY:Kt K Z.ay Z.bB false
 mB:Kt K Z.ay Z.aW false
 mD:Kt K Z.ay Z.aU false
 jG:Kt K Z.ay Z.aJ false
 jH:Kt K Z.ay Z.aH false
 mE:Kt K Z.ay Z.aV false
 lJ:Kt K Z.ay Z.aP false
 oZ:Kt K Z.ay Z.bD false
 Br:ExC K Z.aH
 Bs:ExI K Z.aH
 mF:Xm K Z.aH Z.bE true
 jI:Kt K Z.aH Z.ay false
 qi:Kt K Z.aH Z.bB false
 nW:Kt K Z.aH Z.aW false
 nX:Kt K Z.aH Z.aU false
 j6:Kt K Z.aH Z.aJ false
 j7:Kt K Z.aH Z.aH true
 nY:Kt K Z.aH Z.aV false
 mG:Kt K Z.aH Z.aP false
 qj:Kt K Z.aH Z.bD false
 Aj:ExC K Z.dB
 Ra:ExI K Z.dB
 FN:Xm K Z.dB Z.bE true
 CF:Kt K Z.dB Z.ay false
 JK:Kt K Z.dB Z.bB false
 GJ:Kt K Z.dB Z.aW false
 GK:Kt K Z.dB Z.aU false
 DY:Kt K Z.dB Z.aJ false
 DZ:Kt K Z.dB Z.aH false
 GL:Kt K Z.dB Z.aV false
 FO:Kt K Z.dB Z.aP false
 JL:Kt K Z.dB Z.bD false
 tP:ExC K Z.aV
 Io:ExI K Z.aV
 qk:Xm K Z.aV Z.bE true
 mH:Kt K Z.aV Z.ay false
 vp:Kt K Z.aV Z.bB false
 rp:Kt K Z.aV Z.aW false
 rq:Kt K Z.aV Z.aU false
 nZ:Kt K Z.aV Z.aJ false
 n6:Kt K Z.aV Z.aH false
 rz:Kt K Z.aV Z.aV true
 qm:Kt K Z.aV Z.aP false
 vq:Kt K Z.aV Z.bD false
 FP:ExC K Z.cG
 PB:ExI K Z.cG
 EH:Xm K Z.cG Z.bE true
 Bt:Kt K Z.cG Z.ay false
 Ip:Kt K Z.cG Z.bB false
 FQ:Kt K Z.cG Z.aW false
 FR:Kt K Z.cG Z.aU false
 CG:Kt K Z.cG Z.aJ false
 CH:Kt K Z.cG Z.aH false
 FT:Kt K Z.cG Z.aV false
 EI:Kt K Z.cG Z.aP false
 Iq:Kt K Z.cG Z.bD false
 yb:ExC K Z.aP
 FU:ExI K Z.aP
 o6:Xm K Z.aP Z.bE true
 lK:Kt K Z.aP Z.ay false
 tQ:Kt K Z.aP Z.bB false
 qo:Kt K Z.aP Z.aW false
 qp:Kt K Z.aP Z.aU false
 mI:Kt K Z.aP Z.aJ false
 mJ:Kt K Z.aP Z.aH false
 qr:Kt K Z.aP Z.aV false
 o7:Kt K Z.aP Z.aP true
 tR:Kt K Z.aP Z.bD false
 tS:ExC K Z.dC
 Rc:ExI K Z.dC
 FV:Xm K Z.dC Z.bE true
 CI:Kt K Z.dC Z.ay false
 JM:Kt K Z.dC Z.bB false
 GN:Kt K Z.dC Z.aW false
 GO:Kt K Z.dC Z.aU false
 Ea:Kt K Z.dC Z.aJ false
 Eb:Kt K Z.dC Z.aH false
 GP:Kt K Z.dC Z.aV false
 FW:Kt K Z.dC Z.aP false
 JN:Kt K Z.dC Z.bD false
 Ir:ExC K Z.aW
 Iu:ExI K Z.aW
 qs:Xm K Z.aW Z.bE true
 mK:Kt K Z.aW Z.ay false
 vt:Kt K Z.aW Z.bB false
 rA:Kt K Z.aW Z.aW true
 rB:Kt K Z.aW Z.aU false
 n8:Kt K Z.aW Z.aJ false
 n9:Kt K Z.aW Z.aH false
 rC:Kt K Z.aW Z.aV false
 qt:Kt K Z.aW Z.aP false
 vv:Kt K Z.aW Z.bD false
 FX:ExC K Z.bB
 M8:ExI K Z.bB
 tT:Xm K Z.bB Z.bE true
 o8:Kt K Z.bB Z.ay false
 yA:Kt K Z.bB Z.bB true
 vw:Kt K Z.bB Z.aW false
 vx:Kt K Z.bB Z.aU false
 qu:Kt K Z.bB Z.aJ false
 qv:Kt K Z.bB Z.aH false
 vy:Kt K Z.bB Z.aV false
 tU:Kt K Z.bB Z.aP false
 yB:Kt K Z.bB Z.bD false
 Bu:ExC K Z.aJ
 Bv:ExI K Z.aJ
 mL:Xm K Z.aJ Z.bE true
 jJ:Kt K Z.aJ Z.ay false
 qw:Kt K Z.aJ Z.bB false
 oa:Kt K Z.aJ Z.aW false
 og:Kt K Z.aJ Z.aU false
 j8:Kt K Z.aJ Z.aJ true
 j9:Kt K Z.aJ Z.aH false
 oh:Kt K Z.aJ Z.aV false
 mM:Kt K Z.aJ Z.aP false
 qx:Kt K Z.aJ Z.bD false
 Ak:ExC K Z.aU
 Iv:ExI K Z.aU
 qy:Xm K Z.aU Z.bE true
 mO:Kt K Z.aU Z.ay false
 vz:Kt K Z.aU Z.bB false
 rD:Kt K Z.aU Z.aW false
 rE:Kt K Z.aU Z.aU true
 oi:Kt K Z.aU Z.aJ false
 oj:Kt K Z.aU Z.aH false
 rF:Kt K Z.aU Z.aV false
 qz:Kt K Z.aU Z.aP false
 vA:Kt K Z.aU Z.bD false
 Iw:ExC K Z.cR
 Rf:ExI K Z.cR
 FY:Xm K Z.cR Z.bE true
 CJ:Kt K Z.cR Z.ay false
 JO:Kt K Z.cR Z.bB false
 GQ:Kt K Z.cR Z.aW false
 GR:Kt K Z.cR Z.aU false
 Ec:Kt K Z.cR Z.aJ false
 Ed:Kt K Z.cR Z.aH false
 GS:Kt K Z.cR Z.aV false
 FZ:Kt K Z.cR Z.aP false
 JP:Kt K Z.cR Z.bD false
 qA:ExC K Z.cL
 PD:ExI K Z.cL
 EJ:Xm K Z.cL Z.bE true
 Bw:Kt K Z.cL Z.ay false
 Iy:Kt K Z.cL Z.bB false
 Ga:Kt K Z.cL Z.aW false
 Gb:Kt K Z.cL Z.aU false
 CK:Kt K Z.cL Z.aJ false
 CL:Kt K Z.cL Z.aH false
 Gc:Kt K Z.cL Z.aV false
 EK:Kt K Z.cL Z.aP false
 Iz:Kt K Z.cL Z.bD false
 Gd:ExC K Z.cM
 PF:ExI K Z.cM
 EL:Xm K Z.cM Z.bE true
 Bx:Kt K Z.cM Z.ay false
 IA:Kt K Z.cM Z.bB false
 Ge:Kt K Z.cM Z.aW false
 Gf:Kt K Z.cM Z.aU false
 CM:Kt K Z.cM Z.aJ false
 CN:Kt K Z.cM Z.aH false
 Gg:Kt K Z.cM Z.aV false
 EM:Kt K Z.cM Z.aP false
 IB:Kt K Z.cM Z.bD false
 IC:ExC K Z.cS
 Rg:ExI K Z.cS
 Gh:Xm K Z.cS Z.bE true
 CO:Kt K Z.cS Z.ay false
 JQ:Kt K Z.cS Z.bB false
 GU:Kt K Z.cS Z.aW false
 GV:Kt K Z.cS Z.aU false
 Ee:Kt K Z.cS Z.aJ false
 Ef:Kt K Z.cS Z.aH false
 GW:Kt K Z.cS Z.aV false
 Gi:Kt K Z.cS Z.aP false
 JR:Kt K Z.cS Z.bD false
 By:ExC K Z.bW
 Nm:ExI K Z.bW
 CP:Xm K Z.bW Z.bE true
 Al:Kt K Z.bW Z.ay false
 Gj:Kt K Z.bW Z.bB false
 Eg:Kt K Z.bW Z.aW false
 Eh:Kt K Z.bW Z.aU false
 AR:Kt K Z.bW Z.aJ false
 AS:Kt K Z.bW Z.aH false
 Ei:Kt K Z.bW Z.aV false
 CQ:Kt K Z.bW Z.aP false
 Gk:Kt K Z.bW Z.bD false
 M9:ExC K Z.bD
 Na:ExI K Z.bD
 tV:Xm K Z.bD Z.bE true
 o9:Kt K Z.bD Z.ay false
 yC:Kt K Z.bD Z.bB false
 vB:Kt K Z.bD Z.aW false
 vC:Kt K Z.bD Z.aU false
 qB:Kt K Z.bD Z.aJ false
 qC:Kt K Z.bD Z.aH false
 vD:Kt K Z.bD Z.aV false
 tW:Kt K Z.bD Z.aP false
 yD:Kt K Z.bD Z.bD true
 ID:ExC K Z.dD
 Rh:ExI K Z.dD
 Gm:Xm K Z.dD Z.bE true
 CS:Kt K Z.dD Z.ay false
 JS:Kt K Z.dD Z.bB false
 GX:Kt K Z.dD Z.aW false
 GY:Kt K Z.dD Z.aU false
 Ej:Kt K Z.dD Z.aJ false
 Ek:Kt K Z.dD Z.aH false
 GZ:Kt K Z.dD Z.aV false
 Gn:Kt K Z.dD Z.aP false
 JT:Kt K Z.dD Z.bD false
 IE:ExC K Z.cT
 Ri:ExI K Z.cT
 Gp:Xm K Z.cT Z.bE true
 CT:Kt K Z.cT Z.ay false
 JU:Kt K Z.cT Z.bB false
 G0:Kt K Z.cT Z.aW false
 G1:Kt K Z.cT Z.aU false
 El:Kt K Z.cT Z.aJ false
 Em:Kt K Z.cT Z.aH false
 G2:Kt K Z.cT Z.aV false
 Gq:Kt K Z.cT Z.aP false
 JV:Kt K Z.cT Z.bD false
 Sh:ExC K Z.gS
 Si:ExI K Z.gS
 IF:Xm K Z.gS Z.bE true
 EN:Kt K Z.gS Z.ay false
 Lg:Kt K Z.gS Z.bB false
 JW:Kt K Z.gS Z.aW false
 JX:Kt K Z.gS Z.aU false
 Gr:Kt K Z.gS Z.aJ false
 Gs:Kt K Z.gS Z.aH false
 JY:Kt K Z.gS Z.aV false
 IG:Kt K Z.gS Z.aP false
 Lh:Kt K Z.gS Z.bD false
structure PH (K:WA)(C0 C1 C2 C3 C4 C5 C6 C7 C8 C9 C10 C11 C12 C13 C14 C15 C16 C17 C18 C19 C20 C21 C22 C23 C24 C25:Addr)(ta_KINDS:Addr)(tk_KINDS_0 tk_KINDS_1:Tok)(tn_KINDS:Nat)(ts_KINDS:Array (Option Value))(ta_CAGE_SPOTS:Addr)(tk_CAGE_SPOTS_0 tk_CAGE_SPOTS_1:Tok)(to_CAGE_SPOTS:Option Addr)(tn_CAGE_SPOTS:Nat)(ts_CAGE_SPOTS:Array (Option Value))(ta_CAGES:Addr)(tk_CAGES_0 tk_CAGES_1:Tok)(to_CAGES:Option Addr)(tn_CAGES:Nat)(ts_CAGES:Array (Option Value)):Prop where
 z_len:W.nsIn K mainGlobals "len"=some none
 z_list:W.nsIn K mainGlobals "list"=some none
 z_enumerate:W.nsIn K mainGlobals "enumerate"=some none
 z_zip:W.nsIn K mainGlobals "zip"=some none
 z_range:W.nsIn K mainGlobals "range"=some none
 z_sorted:W.nsIn K mainGlobals "sorted"=some none
 z_set:W.nsIn K mainGlobals "set"=some none
 z_min:W.nsIn K mainGlobals "min"=some none
 z_abs:W.nsIn K mainGlobals "abs"=some none
 z_tuple:W.nsIn K mainGlobals "tuple"=some none
 z_isinstance:W.nsIn K mainGlobals "isinstance"=some none
 z_int:W.nsIn K mainGlobals "int"=some none
 z_str:W.nsIn K mainGlobals "str"=some none
 z_bool:W.nsIn K mainGlobals "bool"=some none
 z_max:W.nsIn K mainGlobals "max"=some none
 m0:NI K "UnknownLevel" C0
 m1:NI K "UnknownLoad" C1
 m2:NI K "BadLoads" C2
 m3:NI K "NotThere" C3
 m4:NI K "CageTaken" C4
 m5:NI K "CageEmpty" C5
 m6:NI K "BadCodes" C6
 m7:NI K "DeadBell" C7
 m8:NI K "NoCode" C8
 m9:NI K "NothingRung" C9
 m10:NI K "NoChange" C10
 m11:NI K "NotArmed" C11
 m12:NI K "BadDepths" C12
 m13:NI K "BadSpeeds" C13
 m14:NI K "BookFull" C14
 m15:NI K "NothingDone" C15
 m16:NI K "NoTick" C16
 m17:NI K "GateOpen" C17
 m18:NI K "GateShut" C18
 m19:NI K "BadRow" C19
 m20:NI K "CageError" C20
 m21:NI K "Yard" C21
 m22:NI K "Bells" C22
 m23:NI K "Standing" C23
 m24:NI K "Book" C24
 m25:NI K "Works" C25
 n_MOST_LOADS:KI K "MOST_LOADS" 30
 n_FEWEST_STROKES:KI K "FEWEST_STROKES" 1
 n_MOST_STROKES:KI K "MOST_STROKES" 9
 n_FEWEST_LEVELS:KI K "FEWEST_LEVELS" 2
 n_MOST_LEVELS:KI K "MOST_LEVELS" 6
 n_GREATEST_DEPTH:KI K "GREATEST_DEPTH" 500
 n_GREATEST_SPEED:KI K "GREATEST_SPEED" 500
 n_MOST_PLANNED:KI K "MOST_PLANNED" 3
 n_MOST_DEEDS:KI K "MOST_DEEDS" 300
 n_KINDS:W.nsIn K mainGlobals "KINDS"=some (some (.ref ta_KINDS))
 lt_KINDS:K.lookup ta_KINDS=some ⟨.type "tuple",none,.seq #[.str "men" tk_KINDS_0,.str "coal" tk_KINDS_1] tn_KINDS,ts_KINDS⟩
 n_CAGE_SPOTS:W.nsIn K mainGlobals "CAGE_SPOTS"=some (some (.ref ta_CAGE_SPOTS))
 lt_CAGE_SPOTS:K.lookup ta_CAGE_SPOTS=some ⟨.type "tuple",to_CAGE_SPOTS,.seq #[.int 10 tk_CAGE_SPOTS_0,.int 11 tk_CAGE_SPOTS_1] tn_CAGE_SPOTS,ts_CAGE_SPOTS⟩
 n_CAGES:W.nsIn K mainGlobals "CAGES"=some (some (.ref ta_CAGES))
 lt_CAGES:K.lookup ta_CAGES=some ⟨.type "tuple",to_CAGES,.seq #[.int 0 tk_CAGES_0,.int 1 tk_CAGES_1] tn_CAGES,ts_CAGES⟩
 cl21:Cls K C21
 na21_kinds:bq K C21 "kinds"
 na21_where:bq K C21 "where"
 na21_many:bq K C21 "many"
 cl22:Cls K C22
 na22_codes:bq K C22 "codes"
 na22_failed:bq K C22 "failed"
 na22_state:bq K C22 "state"
 cl23:Cls K C23
 na23_place:bq K C23 "place"
 na23_opened:bq K C23 "opened"
 na23_bells:bq K C23 "bells"
 na23_yard:bq K C23 "yard"
 cl24:Cls K C24
 na24_first:bq K C24 "first"
 na24_most:bq K C24 "most"
 na24_rows:bq K C24 "rows"
 cl25:Cls K C25
 na25_depths:bq K C25 "depths"
 na25_slow:bq K C25 "slow"
 na25_fast:bq K C25 "fast"
 na25_goals:bq K C25 "goals"
 na25_log:bq K C25 "log"
 l0:C0I K C20
 x0:XI K C20 C0
 x1:XI K C20 C1
 x2:XI K C20 C2
 x3:XI K C20 C3
 x4:XI K C20 C4
 x5:XI K C20 C5
 x6:XI K C20 C6
 x7:XI K C20 C7
 x8:XI K C20 C8
 x9:XI K C20 C9
 x10:XI K C20 C10
 x11:XI K C20 C11
 x12:XI K C20 C12
 x13:XI K C20 C13
 x14:XI K C20 C14
 x15:XI K C20 C15
 x16:XI K C20 C16
 x17:XI K C20 C17
 x18:XI K C20 C18
 x19:XI K C20 C19
 e0_CageError:Xm K C0 C20 true
 k0_UnknownLevel:Kt K C0 C0 true
 k0_NoCode:Kt K C0 C8 false
 k0_DeadBell:Kt K C0 C7 false
 k0_NoChange:Kt K C0 C10 false
 k0_NothingRung:Kt K C0 C9 false
 k0_UnknownLoad:Kt K C0 C1 false
 k0_NotThere:Kt K C0 C3 false
 k0_CageEmpty:Kt K C0 C5 false
 k0_NoTick:Kt K C0 C16 false
 e1_CageError:Xm K C1 C20 true
 k1_UnknownLevel:Kt K C1 C0 false
 k1_NoCode:Kt K C1 C8 false
 k1_DeadBell:Kt K C1 C7 false
 k1_NoChange:Kt K C1 C10 false
 k1_NothingRung:Kt K C1 C9 false
 k1_UnknownLoad:Kt K C1 C1 true
 k1_NotThere:Kt K C1 C3 false
 k1_CageEmpty:Kt K C1 C5 false
 k1_NoTick:Kt K C1 C16 false
 e2_CageError:Xm K C2 C20 true
 k2_UnknownLevel:Kt K C2 C0 false
 k2_NoCode:Kt K C2 C8 false
 k2_DeadBell:Kt K C2 C7 false
 k2_NoChange:Kt K C2 C10 false
 k2_NothingRung:Kt K C2 C9 false
 k2_UnknownLoad:Kt K C2 C1 false
 k2_NotThere:Kt K C2 C3 false
 k2_CageEmpty:Kt K C2 C5 false
 k2_NoTick:Kt K C2 C16 false
 e3_CageError:Xm K C3 C20 true
 k3_UnknownLevel:Kt K C3 C0 false
 k3_NoCode:Kt K C3 C8 false
 k3_DeadBell:Kt K C3 C7 false
 k3_NoChange:Kt K C3 C10 false
 k3_NothingRung:Kt K C3 C9 false
 k3_UnknownLoad:Kt K C3 C1 false
 k3_NotThere:Kt K C3 C3 true
 k3_CageEmpty:Kt K C3 C5 false
 k3_NoTick:Kt K C3 C16 false
 e4_CageError:Xm K C4 C20 true
 k4_UnknownLevel:Kt K C4 C0 false
 k4_NoCode:Kt K C4 C8 false
 k4_DeadBell:Kt K C4 C7 false
 k4_NoChange:Kt K C4 C10 false
 k4_NothingRung:Kt K C4 C9 false
 k4_UnknownLoad:Kt K C4 C1 false
 k4_NotThere:Kt K C4 C3 false
 k4_CageEmpty:Kt K C4 C5 false
 k4_NoTick:Kt K C4 C16 false
 e5_CageError:Xm K C5 C20 true
 k5_UnknownLevel:Kt K C5 C0 false
 k5_NoCode:Kt K C5 C8 false
 k5_DeadBell:Kt K C5 C7 false
 k5_NoChange:Kt K C5 C10 false
 k5_NothingRung:Kt K C5 C9 false
 k5_UnknownLoad:Kt K C5 C1 false
 k5_NotThere:Kt K C5 C3 false
 k5_CageEmpty:Kt K C5 C5 true
 k5_NoTick:Kt K C5 C16 false
 e6_CageError:Xm K C6 C20 true
 k6_UnknownLevel:Kt K C6 C0 false
 k6_NoCode:Kt K C6 C8 false
 k6_DeadBell:Kt K C6 C7 false
 k6_NoChange:Kt K C6 C10 false
 k6_NothingRung:Kt K C6 C9 false
 k6_UnknownLoad:Kt K C6 C1 false
 k6_NotThere:Kt K C6 C3 false
 k6_CageEmpty:Kt K C6 C5 false
 k6_NoTick:Kt K C6 C16 false
 e7_CageError:Xm K C7 C20 true
 k7_UnknownLevel:Kt K C7 C0 false
 k7_NoCode:Kt K C7 C8 false
 k7_DeadBell:Kt K C7 C7 true
 k7_NoChange:Kt K C7 C10 false
 k7_NothingRung:Kt K C7 C9 false
 k7_UnknownLoad:Kt K C7 C1 false
 k7_NotThere:Kt K C7 C3 false
 k7_CageEmpty:Kt K C7 C5 false
 k7_NoTick:Kt K C7 C16 false
 e8_CageError:Xm K C8 C20 true
 k8_UnknownLevel:Kt K C8 C0 false
 k8_NoCode:Kt K C8 C8 true
 k8_DeadBell:Kt K C8 C7 false
 k8_NoChange:Kt K C8 C10 false
 k8_NothingRung:Kt K C8 C9 false
 k8_UnknownLoad:Kt K C8 C1 false
 k8_NotThere:Kt K C8 C3 false
 k8_CageEmpty:Kt K C8 C5 false
 k8_NoTick:Kt K C8 C16 false
 e9_CageError:Xm K C9 C20 true
 k9_UnknownLevel:Kt K C9 C0 false
 k9_NoCode:Kt K C9 C8 false
 k9_DeadBell:Kt K C9 C7 false
 k9_NoChange:Kt K C9 C10 false
 k9_NothingRung:Kt K C9 C9 true
 k9_UnknownLoad:Kt K C9 C1 false
 k9_NotThere:Kt K C9 C3 false
 k9_CageEmpty:Kt K C9 C5 false
 k9_NoTick:Kt K C9 C16 false
 e10_CageError:Xm K C10 C20 true
 k10_UnknownLevel:Kt K C10 C0 false
 k10_NoCode:Kt K C10 C8 false
 k10_DeadBell:Kt K C10 C7 false
 k10_NoChange:Kt K C10 C10 true
 k10_NothingRung:Kt K C10 C9 false
 k10_UnknownLoad:Kt K C10 C1 false
 k10_NotThere:Kt K C10 C3 false
 k10_CageEmpty:Kt K C10 C5 false
 k10_NoTick:Kt K C10 C16 false
 e11_CageError:Xm K C11 C20 true
 k11_UnknownLevel:Kt K C11 C0 false
 k11_NoCode:Kt K C11 C8 false
 k11_DeadBell:Kt K C11 C7 false
 k11_NoChange:Kt K C11 C10 false
 k11_NothingRung:Kt K C11 C9 false
 k11_UnknownLoad:Kt K C11 C1 false
 k11_NotThere:Kt K C11 C3 false
 k11_CageEmpty:Kt K C11 C5 false
 k11_NoTick:Kt K C11 C16 false
 e12_CageError:Xm K C12 C20 true
 k12_UnknownLevel:Kt K C12 C0 false
 k12_NoCode:Kt K C12 C8 false
 k12_DeadBell:Kt K C12 C7 false
 k12_NoChange:Kt K C12 C10 false
 k12_NothingRung:Kt K C12 C9 false
 k12_UnknownLoad:Kt K C12 C1 false
 k12_NotThere:Kt K C12 C3 false
 k12_CageEmpty:Kt K C12 C5 false
 k12_NoTick:Kt K C12 C16 false
 e13_CageError:Xm K C13 C20 true
 k13_UnknownLevel:Kt K C13 C0 false
 k13_NoCode:Kt K C13 C8 false
 k13_DeadBell:Kt K C13 C7 false
 k13_NoChange:Kt K C13 C10 false
 k13_NothingRung:Kt K C13 C9 false
 k13_UnknownLoad:Kt K C13 C1 false
 k13_NotThere:Kt K C13 C3 false
 k13_CageEmpty:Kt K C13 C5 false
 k13_NoTick:Kt K C13 C16 false
 e14_CageError:Xm K C14 C20 true
 k14_UnknownLevel:Kt K C14 C0 false
 k14_NoCode:Kt K C14 C8 false
 k14_DeadBell:Kt K C14 C7 false
 k14_NoChange:Kt K C14 C10 false
 k14_NothingRung:Kt K C14 C9 false
 k14_UnknownLoad:Kt K C14 C1 false
 k14_NotThere:Kt K C14 C3 false
 k14_CageEmpty:Kt K C14 C5 false
 k14_NoTick:Kt K C14 C16 false
 e15_CageError:Xm K C15 C20 true
 k15_UnknownLevel:Kt K C15 C0 false
 k15_NoCode:Kt K C15 C8 false
 k15_DeadBell:Kt K C15 C7 false
 k15_NoChange:Kt K C15 C10 false
 k15_NothingRung:Kt K C15 C9 false
 k15_UnknownLoad:Kt K C15 C1 false
 k15_NotThere:Kt K C15 C3 false
 k15_CageEmpty:Kt K C15 C5 false
 k15_NoTick:Kt K C15 C16 false
 e16_CageError:Xm K C16 C20 true
 k16_UnknownLevel:Kt K C16 C0 false
 k16_NoCode:Kt K C16 C8 false
 k16_DeadBell:Kt K C16 C7 false
 k16_NoChange:Kt K C16 C10 false
 k16_NothingRung:Kt K C16 C9 false
 k16_UnknownLoad:Kt K C16 C1 false
 k16_NotThere:Kt K C16 C3 false
 k16_CageEmpty:Kt K C16 C5 false
 k16_NoTick:Kt K C16 C16 true
 e17_CageError:Xm K C17 C20 true
 k17_UnknownLevel:Kt K C17 C0 false
 k17_NoCode:Kt K C17 C8 false
 k17_DeadBell:Kt K C17 C7 false
 k17_NoChange:Kt K C17 C10 false
 k17_NothingRung:Kt K C17 C9 false
 k17_UnknownLoad:Kt K C17 C1 false
 k17_NotThere:Kt K C17 C3 false
 k17_CageEmpty:Kt K C17 C5 false
 k17_NoTick:Kt K C17 C16 false
 e18_CageError:Xm K C18 C20 true
 k18_UnknownLevel:Kt K C18 C0 false
 k18_NoCode:Kt K C18 C8 false
 k18_DeadBell:Kt K C18 C7 false
 k18_NoChange:Kt K C18 C10 false
 k18_NothingRung:Kt K C18 C9 false
 k18_UnknownLoad:Kt K C18 C1 false
 k18_NotThere:Kt K C18 C3 false
 k18_CageEmpty:Kt K C18 C5 false
 k18_NoTick:Kt K C18 C16 false
 e19_CageError:Xm K C19 C20 true
 k19_UnknownLevel:Kt K C19 C0 false
 k19_NoCode:Kt K C19 C8 false
 k19_DeadBell:Kt K C19 C7 false
 k19_NoChange:Kt K C19 C10 false
 k19_NothingRung:Kt K C19 C9 false
 k19_UnknownLoad:Kt K C19 C1 false
 k19_NotThere:Kt K C19 C3 false
 k19_CageEmpty:Kt K C19 C5 false
 k19_NoTick:Kt K C19 C16 false
 d0:DI K "is_known" tu
 d1:DI K "check_level" kU
 d2:DI K "check_load" nv
 d3:DI K "check_loads" kW
 d4:II K C21 "Yard.__init__" pS
 d5:MI K C21 "into" "Yard.into" pT
 d6:MI K C21 "out" "Yard.out" tw
 d7:MI K C21 "spots" "Yard.spots" ny
 d8:MI K C21 "in_cage" "Yard.in_cage" jm
 d9:MI K C21 "at_level" "Yard.at_level" iz
 d10:MI K C21 "men_aboard" "Yard.men_aboard" gu
 d11:MI K C21 "twin" "Yard.twin" pU
 d12:DI K "are_strokes" kX
 d13:DI K "check_codes" kY
 d14:II K C22 "Bells.__init__" nA
 d15:MI K C22 "ring" "Bells.ring" nB
 d16:MI K C22 "repeat" "Bells.repeat" jo
 d17:MI K C22 "engine" "Bells.engine" jq
 d18:MI K C22 "fail" "Bells.fail" nC
 d19:MI K C22 "dead" "Bells.dead" nD
 d20:MI K C22 "use" "Bells.use" pV
 d21:MI K C22 "twin" "Bells.twin" nE
 d22:DI K "check_depths" jr
 d23:DI K "drum_whole" nF
 d24:DI K "other_place" kZ
 d25:DI K "level_at" tx
 d26:DI K "wound_place" k7
 d27:DI K "all_stops" pW
 d28:DI K "gates_by" tD
 d29:DI K "check_speeds" js
 d30:DI K "wind_ticks" nG
 d31:DI K "place_after" lg
 d32:II K C23 "Standing.__init__" iB
 d33:MI K C23 "twin" "Standing.twin" iC
 d34:II K C24 "Book.__init__" pY
 d35:MI K C24 "write" "Book.write" nH
 d36:MI K C24 "strike" "Book.strike" lh
 d37:MI K C24 "now" "Book.now" tE
 d38:MI K C24 "latest" "Book.latest" lj
 d39:MI K C24 "told" "Book.told" pZ
 d40:MI K C24 "place_at" "Book.place_at" iD
 d41:MI K C24 "refuse_tick" "Book.refuse_tick" fO
 d42:DI K "all_stands" nI
 d43:DI K "spot_rows" p6
 d44:DI K "stand_after" lp
 d45:DI K "stand_wound" lq
 d46:DI K "stand_handled" iE
 d47:DI K "with_spot" p7
 d48:DI K "cage_levels" lr
 d49:DI K "levels_by_stop" gL
 d50:DI K "stands_handled" gM
 d51:DI K "fewest_table" jt
 d52:DI K "live_stops" nJ
 d53:DI K "mark_stands" lu
 d54:DI K "stands_a_wind_ahead" eN
 d55:DI K "fewest_winds" ju
 d56:DI K "wind_first" nL
 d57:DI K "spread_out" nM
 d58:DI K "steps_to" tF
 d59:DI K "with_numbers" jv
 d60:II K C25 "Works.__init__" nN
 d61:MI K C25 "ring" "Works.ring" nO
 d62:MI K C25 "repeat" "Works.repeat" jw
 d63:MI K C25 "fail" "Works.fail" nP
 d64:MI K C25 "open_gate" "Works.open_gate" gv
 d65:MI K C25 "shut_gate" "Works.shut_gate" gw
 d66:MI K C25 "turn_gate" "Works.turn_gate" gx
 d67:MI K C25 "load" "Works.load" nQ
 d68:MI K C25 "unload" "Works.unload" jy
 d69:MI K C25 "wind" "Works.wind" nR
 d70:MI K C25 "take_back" "Works.take_back" gy
 d71:MI K C25 "write" "Works.write" lA
 d72:MI K C25 "speed_with" "Works.speed_with" fP
 d73:MI K C25 "level_of" "Works.level_of" gN
 d74:MI K C25 "refuse_shut_gate" "Works.refuse_shut_gate" dU
 d75:MI K C25 "now" "Works.now" p8
 d76:MI K C25 "book" "Works.book" nS
 d77:MI K C25 "engine" "Works.engine" jz
 d78:MI K C25 "dead" "Works.dead" nT
 d79:MI K C25 "gates" "Works.gates" lB
 d80:MI K C25 "cages" "Works.cages" lD
 d81:MI K C25 "cages_at" "Works.cages_at" gO
 d82:MI K C25 "both_places" "Works.both_places" fv
 d83:MI K C25 "spots" "Works.spots" lE
 d84:MI K C25 "in_cage" "Works.in_cage" iH
 d85:MI K C25 "at_level" "Works.at_level" gP
 d86:MI K C25 "fewest" "Works.fewest" jA
 d87:MI K C25 "goals_of" "Works.goals_of" gQ
 d88:MI K C25 "check_row" "Works.check_row" gz
 d89:DI K "_law_at" Ih
 d90:DI K "_law_draw" zT
 d91:DI K "_law_mixed" w6
 d92:DI K "_law_same" qa
 d93:DI K "_law_depths" tK
 d94:DI K "_law_codes" w9
 d95:DI K "_law_loads" xa
 d96:DI K "_law_shaft" mz
 d97:DI K "_law_setup" xb
 d98:DI K "_law_made" zU
 d99:DI K "_law_by" Ii
 d100:DI K "_law_swap" zV
 d101:DI K "_law_lasts" xc
 d102:DI K "_law_speed" xf
 d103:DI K "_law_first" xg
 d104:DI K "_law_heard" xh
 d105:DI K "_law_next" zY
 d106:DI K "_law_call" zZ
 d107:DI K "_law_view" jE
 d108:DI K "_law_towards_wind" gR
 d109:DI K "_law_towards_load" ez
 d110:DI K "_law_good_deed" cy
 d111:DI K "_law_done" Aa
 d112:DI K "_law_ask" DT
 d113:DI K "_law_refused" qc
 d114:DI K "_law_bad_bells" lF
 d115:DI K "_law_bad_loads" lG
 d116:DI K "law" Ab
set_option hygiene false in
local macro_rules | `(tactic| walk_at "r0") => `(tactic| ((try dsimp only [Rv, Ry, tB', tOp, tUn, Mh, tCB, oC, AW, IZ, Hz, rI', rU', QS, QU, Rx, tC, O3, O4, G4, eW, rL, HK, wO, Ju, Cp, xH, Rt, tOr, Ru, HL, tIf, RI, RH, tBM, RZ, zu, tSl, I8, HQ, Mw, Mx, My, HS, Ia, HR, NM, LP, Fm, yp, LR, RR, Hs, Jz, Jy, Ie, HY, Jq, Me, Mm, Mn, DC, Lw, Ib, ME, Jw, HZ, QF, Jo, RV, RN, yW, Rz, HW, rK, Q3, Q4, tU1, MK, Ic, Mr, yV, Ox, MF, DD, Jx, MN, N1, QP, N2, Mf, Mg, N3, N8, N9, QR, Oa, Ob, Q1, Oc, Od, Q2, MH, OA, Sz, SD, SE, SF, R0, R1, R3, R4, SG, SH, QQ, σN, σS, σ0, R5, SI, SJ, R6, R7, R9, Sa, Qx, Lp, y8, P9, Nat.reduceAdd, Nat.reduceSub, Int.reducePow, Int.reduceToNat, Nat.reducePow, Int.reduceNeg, Bool.not_true, Bool.not_false]); (try first | refine L2.SK ?_ | refine L2.SM ?_ | refine L2.Sb ?_)))
set_option hygiene false in
local macro_rules | `(tactic| k_upd) => `(tactic| (repeat ((first | with_reducible refine L2.SN ?_ | with_reducible refine L2.SO ?_ | with_reducible refine L2.nj ze1 ?_ | with_reducible refine L2.nj ze2 ?_ | with_reducible refine L2.nj ze3 ?_ | with_reducible refine L2.nj ze4 ?_ | with_reducible refine L2.nj ze5 ?_ | with_reducible refine L2.nj ze6 ?_ | with_reducible refine L2.nj ze7 ?_ | with_reducible refine L2.nj ze8 ?_ | with_reducible refine L2.nj ze9 ?_ | with_reducible refine L2.nj ze10 ?_ | with_reducible refine L2.nj ze11 ?_ | with_reducible refine L2.nj ze12 ?_ | with_reducible refine L2.nj ze13 ?_ | with_reducible refine L2.nj ze14 ?_ | with_reducible refine L2.nj ze15 ?_ | with_reducible refine L2.nj ze16 ?_ | with_reducible refine L2.nj ze17 ?_ | with_reducible refine L2.nj ze18 ?_ | with_reducible refine L2.nj ze19 ?_); walk_at "r0")))
set_option hygiene false in
local macro_rules | `(tactic| k_mem) => `(tactic| (walk_at "r0"; k_upd))
set_option hygiene false in
local macro_rules | `(tactic| k_all) => `(tactic| refine ⟨rfl, fun zv zA zo zs zf hr => ?_⟩)
section
variable {P:Program}{w:World}{K:WA}{mg:Str->Option Value}{base:Heap}{Z:Adr}
variable (T:Txt P w K mg base Z)
inductive qD (K:WA)(Z:Adr)(vs:List V)(H:Hp)(Q:VK)(E:XK):Prop | mk (n m:Int):vs=[.int n,.int m]->(Q (.bl (decide (0<=n/\n < m))) H)->qD K Z vs H Q E
include T in
theorem Gu:FF P w K mg base CX0 1 "is_known" "is_known" tu zx (qD K Z):=fk0 FE fun vs H Q E h=>by
 obtain ⟨n,m,rfl,q⟩:=h
 k_all
 refine ⟨_,@ah _ _ _ (aA (y3 (dF MT (pv' 0) af (cE _)) (G3 (dF Q7 (pv' 0) (pv' 1) (cE _))))),?_⟩
 k_mem
 split
 ·rename_i h0
  rw [show decide (0<=n/\n < m)=decide (n < m) by simp [h0]] at q
  k_upd
  exact q
 ·rename_i h0
  rw [show decide (0<=n/\n < m)=false by simp;omega] at q
  k_upd
  exact q
variable (eJ:KD P w K mg base CX0 1 "is_known" (qD K Z))
inductive om (K:WA)(Z:Adr)(vs:List V)(H:Hp)(Q:VK)(E:XK):Prop | mk (x dx l:Addr) (ls:List Ld) (m:Int):vs=[.ref x,.ref l,.int m]->H x=some (.ins Z.fh dx [])->fI K H l ls->ls.length<=1000->(∀(kn wh:Addr) (H':Hp),H kn=none->H wh=none->kn≠wh->aD x H H'->dH Z.fh H' x kn wh (ls.map (·.1)) (ls.map (·.2.1)) m->Q .non H')->om K Z vs H Q E
include T in
theorem En:FF P w K mg base CX0 1 "__init__" "Yard.__init__" pS xM (om K Z):=fk0 DK fun vs H Q E h=>by
 obtain ⟨x,dx,l,ls,m,rfl,hx,hL,hn,q⟩:=h
 k_all
 refine ⟨_,@ae _ _ _ _ _ (cj (pv' 0) (kh ["kind","level","goal"] [none,none,none] (cJ (pv' 1)) (fun _ _ _ _=>(show PG _ _ (rL K 3 _) from eS (n:=3) rfl (aI (aE (i:=0) (show (["kind","level","goal"]:List Str).Nodup by decide +kernel) rfl orL) (aI (aE (i:=1) (show (["kind","level","goal"]:List Str).Nodup by decide +kernel) rfl orL) (aI (aE (i:=2) (show (["kind","level","goal"]:List Str).Nodup by decide +kernel) rfl orL) de))))) (fun _ _ _ _=>gf) (fun _ _ _ _=>(pv' 0))) rfl) (@ae _ _ _ _ _ (cj (pv' 0) (kh ["kind","level","goal"] [none,none,none] (cJ (pv' 1)) (fun _ _ _ _=>(show PG _ _ (rL K 3 _) from eS (n:=3) rfl (aI (aE (i:=0) (show (["kind","level","goal"]:List Str).Nodup by decide +kernel) rfl orL) (aI (aE (i:=1) (show (["kind","level","goal"]:List Str).Nodup by decide +kernel) rfl orL) (aI (aE (i:=2) (show (["kind","level","goal"]:List Str).Nodup by decide +kernel) rfl orL) de))))) (fun _ _ _ _=>gf) (fun _ _ _ _=>(pv' 1))) rfl) (@ah _ _ _ (cj (pv' 0) (pv' 2) rfl))),?_⟩
 k_mem
 obtain ⟨as,hS,hT⟩:=id hL
 refine ⟨⟨_,hS⟩,?_⟩
 refine wQ (fun x=>V.str x.1) hL (by rw [sizeLine_eq];omega) rfl (fun x hx N hN=>by k_mem;exact hN) fun kn hkn=>?_
 k_mem
 have k1:L2.aD x H (upd (upd H kn (HO.lst (ls.map fun x=>V.str x.1))) x (HO.ins Z.fh dx (bG "kinds" (.ref kn) []))):=(aD.of ((av.refl H).lay hkn)).put
 have hx1:upd (upd H kn (HO.lst (ls.map fun x=>V.str x.1))) x (HO.ins Z.fh dx (bG "kinds" (.ref kn) [])) x=some (HO.ins Z.fh dx [("kinds",.ref kn)]):=ag
 have nx:kn≠x:=fun z=>by rw [z,hx] at hkn;cases hkn
 have hk1:upd (upd H kn (HO.lst (ls.map fun x=>V.str x.1))) x (HO.ins Z.fh dx (bG "kinds" (.ref kn) [])) kn=some (HO.lst (ls.map fun x=>V.str x.1)):=by rw [aN nx,ag]
 refine ⟨_,_,_,upo hx hkn,T.di,T.g0,by decide,⟨_,hS.keepI k1 hx⟩,?_⟩
 generalize upd (upd H kn (HO.lst (ls.map fun x=>V.str x.1))) x (HO.ins Z.fh dx (bG "kinds" (.ref kn) []))=H1 at *
 refine wQ (fun x=>V.int x.2.1) (hL.keepI k1 hx) (by rw [sizeLine_eq];omega) rfl (fun x hx N hN=>by k_mem;exact hN) fun wh hwh=>?_
 have nxw:wh≠x:=fun z=>by rw [z,hx1] at hwh;cases hwh
 have nkw:kn≠wh:=fun z=>by rw [z,hwh] at hk1;cases hk1
 refine ⟨_,_,_,upo hx1 hwh,T.di,T.cz,by show 1 < 1000;decide,_,_,_,ag,T.di,T.i3,Nat.lt_of_le_of_lt (pj _ _ _) (by show 2 < 1000;decide),?_⟩
 refine q kn wh _ hkn ?_ nkw (((k1.trans (aD.of ((av.refl H1).lay hwh))).put).put) ⟨⟨dx,?_⟩,?_,?_⟩
 ·cases e:H wh with
  | none=>rfl
  | some o=>have:=k1 wh o nxw e;rw [hwh] at this;cases this
 ·rw [ag];rfl
 ·rw [aN nx,aN nx,aN nkw,hk1,List.map_map];rfl
 ·rw [aN nxw,aN nxw,ag,List.map_map];rfl
variable (kB:KN P w K mg base CX0 1 Z.fh (om K Z))
inductive lL (K:WA)(Z:Adr)(vs:List V)(H:Hp)(Q:VK)(E:XK):Prop | mk (y kn wh:Addr) (ks:List Str) (ws:List Int) (m:Int):vs=[.ref y]->dH Z.fh H y kn wh ks ws m->(∀p,H p=none->Q (.ref p) (upd H p (.lst (ws.map V.int))))->lL K Z vs H Q E
include T in
theorem Bz:FF P w K mg base CX0 1 "spots" "Yard.spots" ny uM (lL K Z):=fk0 Bb fun vs H Q E h=>by
 obtain ⟨y,kn,wh,ks,ws,m,rfl,hy,q⟩:=h
 k_all
 refine ⟨_,@ah _ _ _ (aA (bg bH (by rfl) T.eO dG (pa1 (aw (pv' 0))))),?_⟩
 obtain ⟨⟨dx,hob⟩,hkn,hwh⟩:=id hy
 k_mem
 refine fgo hob T.di T.cz rfl ?_
 k_mem
 exact ⟨_,.inl (SqL.of hwh),q⟩
variable (i5:KM P w K mg base CX0 1 Z.fh "spots" (lL K Z))
def OR (y:Addr)(c:Int)(ws:List Int)(H:Hp)(i:Nat)(σ:St)(H':Hp):Prop:=av H H'/\(∃t u,σ=[some (.ref y),some (.int c),t,u])/\∀j,j < i->ws.getD j 0≠10+c
inductive iI (K:WA)(Z:Adr)(vs:List V)(H:Hp)(Q:VK)(E:XK):Prop | mk (y kn wh:Addr) (ks:List Str) (ws:List Int) (m c:Int):vs=[.ref y,.int c]->dH Z.fh H y kn wh ks ws m->0<=c->c < 2->(∀H',av H H'->Q (inC ws c) H')->iI K Z vs H Q E
include T in
theorem yE:FF P w K mg base CX0 1 "in_cage" "Yard.in_cage" jm pG (iI K Z):=fk0 iw fun vs H Q E h=>by
 obtain ⟨y,kn,wh,ks,ws,m,c,rfl,hy,h0,h1,q⟩:=h
 k_all
 refine @seg _ _ _ 1 _ (@ah _ _ _ (aA eV)) fun zt1 zh1 ze1=>?_
 refine ⟨_,@ae _ _ _ _ _ (cH PassesOwn.never rfl (zw (by rfl) T.qd mY (aw (pv' 0))) (eS rfl (aI (aE (i:=2) iw.nd rfl orL) (aI (aE (i:=3) iw.nd rfl orL) de))) (@ah _ _ _ (aQ (bV (pv' 3) (ao aq (eo (by rfl) T.iY) (pv' 1))) (@ah _ _ _ (aA (pv' 2))) (aC)))) zh1,?_⟩
 obtain ⟨⟨dx,hob⟩,hkn,hwh⟩:=id hy
 k_mem
 refine fgo hob T.di T.cz rfl ?_
 k_mem
 refine ⟨⟨_,SqL.of hwh⟩,?_⟩
 k_upd
 refine E1 ws.length (OR y c ws H) ⟨av.refl H,⟨_,_,rfl⟩,fun j hj=>absurd hj (Nat.not_lt_zero _)⟩ ?_ ?_ ?_ ?_
 ·rintro i σ H' hi ⟨s1,_,_⟩
  k_upd
  exact ⟨_,_,s1.seq (SqL.of hwh),by rw [List.getElem?_map,me hi];rfl⟩
 ·rintro σ H' ⟨s1,_,_⟩
  k_upd
  exact ⟨_,s1.seq (SqL.of hwh),by rw [WB];exact Nat.le_refl _⟩
 ·rintro i σ H' hi ⟨s1,⟨t,u,rfl⟩,hj⟩ x H2 ⟨tp,z,rfl,htp,rfl,hz⟩
  have e:=hz _ (s1.seq (SqL.of hwh))
  rw [List.getElem?_map,me hi] at e
  cases e
  k_mem
  refine ⟨_,SqT.of ag,rfl,?_⟩
  k_mem
  refine ⟨_,T.iZ _,_,Cg h0 h1,?_⟩
  k_mem
  split
  ·rename_i h
   have e:=Kv hi h hj
   have q':=q _ (s1.lay (o:=HO.tup [V.int ↑i,V.int (ws.getD i 0)]) htp)
   rw [inC,if_pos (h▸cW hi),e] at q'
   k_upd
   exact q'
  ·rename_i h
   k_upd
   refine ⟨s1.lay htp,⟨_,_,rfl⟩,fun j hj'=>?_⟩
   by_cases e:j=i
   ·rw [e];exact h
   ·exact hj j (by omega)
 ·rintro σ H' ⟨s1,⟨t,u,rfl⟩,hj⟩
  k_mem
  have q':=q _ s1
  rw [inC,if_neg] at q'
  ·k_upd
   exact q'
  ·intro hm
   have hlt:=List.idxOf_lt_length_iff.mpr hm
   refine hj _ hlt ?_
   rw [List.getD_eq_getElem?_getD,List.getElem?_eq_getElem hlt]
   exact List.getElem_idxOf hlt
variable (cU:KM P w K mg base CX0 1 Z.fh "in_cage" (iI K Z))
def Nb (y:Addr)(ks:List Str)(ws:List Int)(H:Hp)(i:Nat)(σ:St)(H':Hp):Prop:=av H H'/\(∃t u,σ=[some (.ref y),t,u])/\∀j k x,j < i->ks[j]?=some k->ws[j]?=some x->(decide (k="men") && decide (x=10\/x=11))=false
inductive fR (K:WA)(Z:Adr)(vs:List V)(H:Hp)(Q:VK)(E:XK):Prop | mk (y kn wh:Addr) (ks:List Str) (ws:List Int) (m:Int):vs=[.ref y]->dH Z.fh H y kn wh ks ws m->ks.length=ws.length->(∀H',av H H'->Q (.bl (E5 ks ws)) H')->fR K Z vs H Q E
include T in
theorem tX:FF P w K mg base CX0 1 "men_aboard" "Yard.men_aboard" gu kr (fR K Z):=fk0 fN fun vs H Q E h=>by
 obtain ⟨y,kn,wh,ks,ws,m,rfl,hy,hlen,q⟩:=h
 k_all
 refine @seg _ _ _ 1 _ (@ah _ _ _ (aA iS)) fun zt1 zh1 ze1=>?_
 refine ⟨_,@ae _ _ _ _ _ (cH PassesOwn.never rfl (OK (by rfl) T.Se Qv (aw (pv' 0)) (aw (pv' 0))) (eS rfl (aI (aE (i:=1) fN.nd rfl orL) (aI (aE (i:=2) fN.nd rfl orL) de))) (@ah _ _ _ (aQ (mV (bV (pv' 1) aB) (kb (dQ gK (pv' 2) (eo (by rfl) T.iY) (by rfl)))).pt (@ah _ _ _ (aA iS)) (aC)))) zh1,?_⟩
 obtain ⟨⟨dx,hob⟩,hkn,hwh⟩:=id hy
 k_mem
 refine fgo hob T.di T.g0 rfl (fgo hob T.di T.cz rfl ?_)
 k_mem
 refine ⟨⟨_,SqL.of hkn⟩,⟨_,SqL.of hwh⟩,?_⟩
 k_upd
 refine E1 ws.length (Nb y ks ws H) ⟨av.refl H,⟨_,_,rfl⟩,fun j _ _ hj=>absurd hj (Nat.not_lt_zero _)⟩ ?_ ?_ ?_ ?_
 ·rintro i σ H' hi ⟨s1,_,_⟩
  have hk:ks[i]?=some ks[i]:=List.getElem?_eq_getElem (by omega)
  k_upd
  exact ⟨_,_,_,_,s1.seq (SqL.of hkn),s1.seq (SqL.of hwh),by rw [List.getElem?_map,hk];rfl,by rw [List.getElem?_map,me hi];rfl⟩
 ·rintro σ H' ⟨s1,_,_⟩
  k_upd
  exact ⟨_,_,s1.seq (SqL.of hkn),s1.seq (SqL.of hwh),.inr (by rw [WB];exact Nat.le_refl _)⟩
 ·rintro i σ H' hi ⟨s1,⟨t,u,rfl⟩,hj⟩ x H2 ⟨tp,z1,z2,rfl,htp,rfl,hz1,hz2⟩
  have hk:ks[i]?=some ks[i]:=List.getElem?_eq_getElem (by omega)
  have hw:ws[i]?=some ws[i]:=List.getElem?_eq_getElem hi
  have e:=hz1 _ (s1.seq (SqL.of hkn))
  rw [List.getElem?_map,hk] at e
  cases e
  have e:=hz2 _ (s1.seq (SqL.of hwh))
  rw [List.getElem?_map,hw] at e
  cases e
  k_mem
  refine ⟨_,SqT.of ag,rfl,?_⟩
  k_mem
  have no:(decide (ks[i]=Str.ofString "men") && decide (ws[i]=10\/ws[i]=11))=false->Nb y ks ws H (i+1) [some (V.ref y),some (V.str ks[i]),some (V.int ws[i])] (upd H' tp (HO.tup [V.str ks[i],V.int ws[i]])):=fun hn=>by
   refine ⟨s1.lay htp,⟨_,_,rfl⟩,fun j k x hj' e1 e2=>?_⟩
   by_cases e:j=i
   ·subst e
    rw [hk] at e1;rw [hw] at e2
    cases e1;cases e2
    exact hn
   ·exact hj j k x (by omega) e1 e2
  k_upd
  split
  ·rename_i h1
   k_upd
   refine ⟨_,.inr (T.iZ _),rfl,rfl,?_⟩
   rw [Ck]
   k_mem
   split
   ·rename_i h2
    have q':=q _ (s1.lay (o:=HO.tup [V.str ks[i],V.int ws[i]]) htp)
    rw [E6 hk hw h1 h2] at q'
    k_upd
    exact q'
   ·rename_i h2
    exact no (by simp [h2])
  ·rename_i h1
   exact no (by simp [h1])
 ·rintro σ H' ⟨s1,⟨t,u,rfl⟩,hj⟩
  k_mem
  have q':=q _ s1
  rw [Cj hj (.inr (Nat.le_refl _))] at q'
  k_upd
  exact q'
variable (kC:KM P w K mg base CX0 1 Z.fh "men_aboard" (fR K Z))
inductive jK (K:WA)(Z:Adr)(vs:List V)(H:Hp)(Q:VK)(E:XK):Prop | mk (n:Int):vs=[.int n]->(Q (.bl (decide (1<=n/\n<=9))) H)->jK K Z vs H Q E
include T in
theorem Am:FF P w K mg base CX0 1 "are_strokes" "are_strokes" kX rO (jK K Z):=fk0 zG fun vs H Q E h=>by
 obtain ⟨n,rfl,q⟩:=h
 k_all
 refine ⟨_,@ah _ _ _ (aA (y3 (dF MT (pv' 0) (eo (by rfl) T.xj) (cE _)) (G3 (dF Q8 (pv' 0) (eo (by rfl) T.Ac) (cE _))))),?_⟩
 k_mem
 split
 ·rename_i h0
  rw [show decide (1<=n/\n<=9)=decide (n<=9) by simp [h0]] at q
  k_upd
  exact q
 ·rename_i h0
  rw [show decide (1<=n/\n<=9)=false by simp;omega] at q
  k_upd
  exact q
variable (fF:KD P w K mg base CX0 1 "are_strokes" (jK K Z))
inductive lM (K:WA)(Z:Adr)(vs:List V)(H:Hp)(Q:VK)(E:XK):Prop | mk (x dx l:Addr) (ls:List Cd):vs=[.ref x,.ref l]->H x=some (.ins Z.bR dx [])->kR cdV K H l ls->ls.length<=1000->(∀(cs fl st:Addr) (H':Hp),H cs=none->H fl=none->aD x H H'->bM Z.bR K H' x cs fl st ls (ls.map fun _=>false) .no->Q .non H')->lM K Z vs H Q E
include T in
theorem BA:FF P w K mg base CX0 1 "__init__" "Bells.__init__" nA uN (lM K Z):=fk0 Bc fun vs H Q E h=>by
 obtain ⟨x,dx,l,ls,rfl,hx,hL,hn,q⟩:=h
 k_all
 refine @seg _ _ _ 2 _ (@ah _ _ _ (cj (pv' 0) (aK (pa4 aB eV eV eV)) rfl)) fun zt2 zh2 ze2=>?_
 refine @seg _ _ _ 1 _ (@ae _ _ _ _ _ (cj (pv' 0) (kh ["code"] [none] (cJ (pv' 1)) (fun _ _ _ _=>(aE (i:=0) (show (["code"]:List Str).Nodup by decide +kernel) rfl orL)) (fun _ _ _ _=>gf) (fun _ _ _ _=>iS)) rfl) zh2) fun zt1 zh1 ze1=>?_
 refine ⟨_,@ae _ _ _ _ _ (cj (pv' 0) (bg bH (by rfl) T.eO dG (pa1 (pv' 1))) rfl) zh1,?_⟩
 obtain ⟨as,hS,hT⟩:=id hL
 k_mem
 refine ⟨_,.inl hS,fun cs hcs=>?_⟩
 k_upd
 refine ⟨_,_,_,upo hx hcs,T.bL,T.dE,by decide,?_⟩
 have nx:cs≠x:=fun z=>by rw [z,hx] at hcs;cases hcs
 have k1:L2.aD x H (upd (upd H cs (HO.lst (as.map V.ref))) x (HO.ins Z.bR dx (bG "codes" (.ref cs) []))):=(aD.of ((av.refl H).lay hcs)).put
 have hx1:upd (upd H cs (HO.lst (as.map V.ref))) x (HO.ins Z.bR dx (bG "codes" (.ref cs) [])) x=some (HO.ins Z.bR dx [("codes",.ref cs)]):=ag
 have hc1:upd (upd H cs (HO.lst (as.map V.ref))) x (HO.ins Z.bR dx (bG "codes" (.ref cs) [])) cs=some (HO.lst (as.map V.ref)):=by rw [aN nx,ag]
 generalize upd (upd H cs (HO.lst (as.map V.ref))) x (HO.ins Z.bR dx (bG "codes" (.ref cs) []))=H1 at *
 k_upd
 refine ⟨⟨_,hS.keepI k1 hx⟩,?_⟩
 refine xF (fun _=>true) (fun _=>V.bl false) (hS.keepI k1 hx) (by rw [WB,hT.1,sizeLine_eq];omega) rfl (fun y _ N hN=>by k_mem;exact hN) (fun y _ _ N hN=>by k_mem;exact hN) fun fl hfl=>?_
 k_mem
 have ef:((as.map V.ref).filter fun _=>true).map (fun _=>V.bl false)=(ls.map fun _=>false).map V.bl:=by
  rw [List.filter_eq_self.mpr (by simp),List.map_map,List.map_map]
  refine List.ext_getElem (by simp [hT.1]) fun i h1 h2=>by simp
 rw [ef]
 have nfx:fl≠x:=fun z=>by rw [z,hx1] at hfl;cases hfl
 have nfc:cs≠fl:=fun z=>by rw [←z,hc1] at hfl;cases hfl
 k_upd
 refine ⟨_,_,_,upo hx1 hfl,T.bL,T.cZ,by show 1 < 1000;decide,?_⟩
 have k2:L2.aD x H1 (upd (upd H1 fl (HO.lst ((ls.map fun _=>false).map V.bl))) x (HO.ins Z.bR dx (bG "failed" (.ref fl) [("codes",.ref cs)]))):=(aD.of ((av.refl H1).lay hfl)).put
 have hx2:upd (upd H1 fl (HO.lst ((ls.map fun _=>false).map V.bl))) x (HO.ins Z.bR dx (bG "failed" (.ref fl) [("codes",.ref cs)])) x=some (HO.ins Z.bR dx [("codes",.ref cs),("failed",.ref fl)]):=by rw [ag];rfl
 have hf2:upd (upd H1 fl (HO.lst ((ls.map fun _=>false).map V.bl))) x (HO.ins Z.bR dx (bG "failed" (.ref fl) [("codes",.ref cs)])) fl=some (HO.lst ((ls.map fun _=>false).map V.bl)):=by rw [aN nfx,ag]
 generalize upd (upd H1 fl (HO.lst ((ls.map fun _=>false).map V.bl))) x (HO.ins Z.bR dx (bG "failed" (.ref fl) [("codes",.ref cs)]))=H2 at *
 k_upd
 refine ⟨by decide,fun st hst=>⟨_,_,_,upo hx2 hst,T.bL,T.bO,by show 2 < 1000;decide,?_⟩⟩
 have nsx:st≠x:=fun z=>by rw [z,hx2] at hst;cases hst
 have k3:L2.aD x H2 (upd (upd H2 st (HO.tup [V.str (Str.ofString "not rung"),V.non,V.non,V.non])) x (HO.ins Z.bR dx (bG "state" (.ref st) [("codes",.ref cs),("failed",.ref fl)]))):=(aD.of ((av.refl H2).lay hst)).put
 refine q cs fl st _ hcs (k1.free nfx hfl) ((k1.trans k2).trans k3) ⟨⟨dx,by rw [ag];rfl⟩,⟨as,k3 _ _ nx (k2 _ _ nx hc1),?_⟩,k3 _ _ nfx hf2,SqT.of (by rw [aN nsx,ag];rfl),nfc,by rw [WB]⟩
 exact hT.keepI ((k1.trans k2).trans k3) hx
variable (i6:KN P w K mg base CX0 1 Z.bR (lM K Z))
inductive iJ (K:WA)(Z:Adr)(vs:List V)(H:Hp)(Q:VK)(E:XK):Prop | mk (b cs fl st:Addr) (ls:List Cd) (fs:List Bool) (e:Eng):vs=[.ref b]->bM Z.bR K H b cs fl st ls fs e->Q (.ref st) H->iJ K Z vs H Q E
include T in
theorem yF:FF P w K mg base CX0 1 "engine" "Bells.engine" jq pI (iJ K Z):=fk0 yr fun vs H Q E h=>by
 obtain ⟨b,cs,fl,st,ls,fs,e,rfl,hB,q⟩:=h
 k_all
 refine ⟨_,@ah _ _ _ (aA (aw (pv' 0))),?_⟩
 obtain ⟨⟨dx,hob⟩,⟨as,hcs,hT⟩,hfl,hst,nn,ln⟩:=id hB
 k_mem
 exact fgo hob T.bL T.bO rfl q
variable (qF:KM P w K mg base CX0 1 Z.bR "engine" (iJ K Z))
inductive lO (K:WA)(Z:Adr)(vs:List V)(H:Hp)(Q:VK)(E:XK):Prop | mk (b cs fl st:Addr) (ls:List Cd) (fs:List Bool) (e:Eng):vs=[.ref b]->bM Z.bR K H b cs fl st ls fs e->fs.length<=1000->(∀p H',H p=none->av H H'->H' p=some (.lst ((c9 fs).map V.int))->Q (.ref p) H')->lO K Z vs H Q E
include T in
theorem BB:FF P w K mg base CX0 1 "dead" "Bells.dead" nD uQ (lO K Z):=fk0 Bg fun vs H Q E h=>by
 obtain ⟨b,cs,fl,st,ls,fs,e,rfl,hB,hlen,q⟩:=h
 k_all
 refine ⟨_,@ah _ _ _ (aA (kh ["level","failed"] [none,none] (zw (by rfl) T.qd mY (aw (pv' 0))) (fun _ _ _ _=>(show PG _ _ (rL K 2 _) from eS (n:=2) rfl (aI (aE (i:=0) (show (["level","failed"]:List Str).Nodup by decide +kernel) rfl orL) (aI (aE (i:=1) (show (["level","failed"]:List Str).Nodup by decide +kernel) rfl orL) de)))) (fun _ _ _ _=>(mX (cX (pv' 1)))) (fun _ _ _ _=>(pv' 0)))),?_⟩
 obtain ⟨⟨dx,hob⟩,⟨as,hcs,hT⟩,hfl,hst,nn,ln⟩:=id hB
 k_mem
 refine fgo hob T.bL T.cZ rfl ?_
 k_mem
 refine ⟨⟨_,SqL.of hfl⟩,?_⟩
 have gi:∀i,i < fs.length->(fs.map V.bl)[i]?=some (V.bl (fs.getD i false)):=fun i hi=>by
  rw [List.getElem?_map,List.getD_eq_getElem?_getD,List.getElem?_eq_getElem hi];rfl
 refine wF fs.length (fun i acc H'=>av H H'/\acc=(kT fs i).map V.int) ⟨av.refl H,rfl⟩ ?_ ?_ ?_ ?_
 ·rintro i acc H' hi ⟨s1,_⟩
  k_upd
  exact ⟨_,_,s1.seq (SqL.of hfl),gi i hi⟩
 ·rintro acc H' ⟨s1,_⟩
  k_upd
  exact ⟨_,s1.seq (SqL.of hfl),by rw [WB];exact Nat.le_refl _⟩
 ·rintro i acc H' hi ⟨s1,rfl⟩
  k_upd
  refine ⟨by have:=zq fs i;rw [WB,sizeLine_eq];omega,?_⟩
  rintro x H2 ⟨tp,z,rfl,htp,rfl,hz⟩ M hM
  have e:=hz _ (s1.seq (SqL.of hfl))
  rw [gi i hi] at e
  cases e
  k_mem
  refine ⟨_,SqT.of ag,rfl,?_⟩
  k_mem
  refine ⟨⟨rfl,fun k v e=>?_⟩,?_⟩
  ·match k,e with
   | 0,e=>cases e
   | 1,e=>cases e
   | k+2,e=>simp at e
  ·have gs:=Fd fs i
   k_upd
   split
   ·rename_i h
    refine hM _ _ ⟨s1.lay htp,?_⟩
    rw [gs,if_pos h,List.map_append];rfl
   ·rename_i h
    refine hM _ _ ⟨s1.lay htp,?_⟩
    rw [gs,if_neg h,List.append_nil]
 ·rintro acc H' ⟨s1,rfl⟩ p hp
  k_upd
  exact q p _ (s1.free hp) (s1.lay hp) ag
variable (vE:KM P w K mg base CX0 1 Z.bR "dead" (lO K Z))
def Rj (a:Addr)(ds:List Int)(H:Hp)(i:Nat)(σ:St)(H':Hp):Prop:=H'=H/\(∃t,σ=[some (.ref a),t,none])/\∀j,j < i->0<=ds.getD j 0/\ds.getD j 0<=500
def Rk (a:Addr)(ds:List Int)(H:Hp)(i:Nat)(σ:St)(H':Hp):Prop:=H'=H/\(∃t u,σ=[some (.ref a),t,u])/\∀j,j < i->ds.getD j 0 < ds.getD (j+1) 0
inductive iK (K:WA)(Z:Adr)(vs:List V)(H:Hp)(Q:VK)(E:XK):Prop | mk (a:Addr) (ds:List Int):vs=[.ref a]->SqL K H a (ds.map V.int)->ds.length<=100000->((cC ds->Q .non H))->((¬cC ds->E (.ref Z.cL) none H))->iK K Z vs H Q E
include T in
theorem yG:FF P w K mg base (CXf P w) 1 "check_depths" "check_depths" jr pJ (iK K Z):=fkF iA fun vs H Q E h=>by
 obtain ⟨a,ds,rfl,hS,hl,q1,q2⟩:=h
 k_all
 refine @seg _ _ _ 2 _ (@ah _ _ _ (cH A2 rfl (tj (by rfl) T.cB (pa2 af (aF az (by rfl) T.bY bu (pa1 (pv' 0))))) (aE (i:=2) iA.nd rfl orL) (@ah _ _ _ (aQ (Py (ao ax (pv' 0) (pv' 2)) (ao ax (pv' 0) (aT dh (pv' 2) af))) (@ah _ _ _ (bz T.qA (by rfl) T.qh (pa1 aB))) (aC))))) fun zt2 zh2 ze2=>?_
 refine @seg _ _ _ 1 _ (@ae _ _ _ _ _ (cH A2 rfl (cJ (pv' 0)) (aE (i:=1) iA.nd rfl orL) (@ah _ _ _ (aQ (pe (oG (pv' 1) af) (kM (Ct (pv' 1) (eo (by rfl) T.xk)))).pt (@ah _ _ _ (bz T.qA (by rfl) T.qh (pa1 aB))) (aC)))) zh2) fun zt1 zh1 ze1=>?_
 refine ⟨_,@ae _ _ _ _ _ (aQ (pe (oG (aF az (by rfl) T.bY bu (pa1 (pv' 0))) (eo (by rfl) T.yz)) (kM (Ct (aF az (by rfl) T.bY bu (pa1 (pv' 0))) (eo (by rfl) T.Bp)))).pt (@ah _ _ _ (bz T.qA (by rfl) T.qh (pa1 aB))) (aC)) zh1,?_⟩
 k_mem
 refine ⟨_,.inl hS,?_⟩
 rw [WB]
 k_upd
 split
 ·k_upd
  exact ⟨by decide,q2 fun h=>by have:=h.l2;omega⟩
 ·k_upd
  refine ⟨_,.inl hS,?_⟩
  rw [WB]
  k_upd
  split
  ·k_upd
   exact ⟨by decide,q2 fun h=>by have:=h.l6;omega⟩
  ·k_upd
   refine ⟨⟨_,hS⟩,?_⟩
   k_upd
   refine en (ds.map V.int) (Rj a ds H) ⟨rfl,⟨_,rfl⟩,fun j h=>absurd h (Nat.not_lt_zero _)⟩ (fun i σ H' _ ⟨e,_⟩=>by rw [e];exact hS) ?_ ?_
   ·rintro i x σ H' hx ⟨rfl,⟨t,rfl⟩,hj⟩
    obtain ⟨d,rfl,hd,hmem⟩:=ng hx
    have hi:i < ds.length:=(List.getElem?_eq_some_iff.mp hd).1
    have hdg:ds.getD i 0=d:=by rw [List.getD_eq_getElem?_getD,hd];rfl
    k_mem
    split
    ·k_upd
     exact ⟨by decide,q2 fun h=>by have:=h.lo d hmem;omega⟩
    ·split
     ·k_upd
      exact ⟨by decide,q2 fun h=>by have:=h.hi d hmem;omega⟩
     ·k_upd
      refine ⟨rfl,⟨_,rfl⟩,fun j hj'=>?_⟩
      by_cases e:j=i
      ·rw [e,hdg];omega
      ·exact hj j (by omega)
   ·rintro σ H' ⟨rfl,⟨t,rfl⟩,hb⟩
    rw [WB] at hb
    k_mem
    refine ⟨_,.inl hS,⟨by decide,by decide,by rw [WB];omega,by rw [WB];omega⟩,?_⟩
    k_upd
    refine cf (Rk a ds H') ⟨rfl,⟨_,_,rfl⟩,fun j h=>absurd h (Nat.not_lt_zero _)⟩ ?_ ?_
    ·rintro i σ H' hi ⟨rfl,⟨t,u,rfl⟩,hj⟩
     rw [WB] at hi
     k_mem
     refine ⟨_,hS,_,dZ (by omega) (by omega),_,hS,_,dZ (by omega) (by omega),?_⟩
     k_mem
     rw [show (1+(i:Int)).toNat=i+1 by omega,show (1+(i:Int) - 1).toNat=i by omega]
     k_upd
     split
     ·k_upd
      refine ⟨by decide,q2 fun h=>?_⟩
      have:=h.lt (i:=i) (j:=i+1) (by omega) (by omega)
      omega
     ·k_upd
      refine ⟨rfl,⟨_,_,rfl⟩,fun j hj'=>?_⟩
      by_cases e:j=i
      ·rw [e];omega
      ·exact hj j (by omega)
    ·rintro σ H' ⟨rfl,⟨t,u,rfl⟩,hu⟩
     rw [WB] at hu
     k_mem
     exact q1 (cC.of (by omega) (by omega) hb fun i hi=>hu i (by omega))
variable (qG:KD P w K mg base (CXf P w) 1 "check_depths" (iK K Z))
inductive lP (K:WA)(Z:Adr)(vs:List V)(H:Hp)(Q:VK)(E:XK):Prop | mk (a:Addr) (ds:List Int):vs=[.ref a]->SqL K H a (ds.map V.int)->0 < ds.length->Q (.int (cw ds)) H->lP K Z vs H Q E
include T in
theorem BC:FF P w K mg base CX0 1 "drum_whole" "drum_whole" nF uS (lP K Z):=fk0 Bh fun vs H Q E h=>by
 obtain ⟨a,ds,rfl,hS,hl,q⟩:=h
 k_all
 refine ⟨_,@ah _ _ _ (aA (ao ax (pv' 0) (aT dh (aF az (by rfl) T.bY bu (pa1 (pv' 0))) af))),?_⟩
 k_mem
 refine ⟨_,.inl hS,_,hS,_,dZ (by rw [WB];omega) (by rw [WB];omega),?_⟩
 rw [WB,show ((ds.length:Int) - 1).toNat=ds.length - 1 by omega]
 k_upd
 exact q
variable (vF:KD P w K mg base CX0 1 "drum_whole" (lP K Z))
def Nd (a:Addr)(ds:List Int)(d:Int)(H:Hp)(i:Nat)(σ:St)(H':Hp):Prop:=H'=H/\(∃t,σ=[some (.ref a),some (.int d),t])/\∀j,j < i->ds.getD j 0≠d
inductive qH (K:WA)(Z:Adr)(vs:List V)(H:Hp)(Q:VK)(E:XK):Prop | mk (a:Addr) (ds:List Int) (d:Int):vs=[.ref a,.int d]->SqL K H a (ds.map V.int)->ds.length<=100000->((∀i:Nat,i < ds.length->ds.getD i 0=d->Q (.int i) H))->(((∀i,i < ds.length->ds.getD i 0≠d)->Q .non H))->qH K Z vs H Q E
include T in
theorem Gv:FF P w K mg base CX0 1 "level_at" "level_at" tx zz (qH K Z):=fk0 xY fun vs H Q E h=>by
 obtain ⟨a,ds,d,rfl,hS,hl,q1,q2⟩:=h
 k_all
 refine @seg _ _ _ 1 _ (@ah _ _ _ (aA eV)) fun zt1 zh1 ze1=>?_
 refine ⟨_,@ae _ _ _ _ _ (cH PassesOwn.never rfl (bA (by rfl) T.cB (pa1 (aF az (by rfl) T.bY bu (pa1 (pv' 0))))) (aE (i:=2) xY.nd rfl orL) (@ah _ _ _ (aQ (bV (ao ax (pv' 0) (pv' 2)) (pv' 1)) (@ah _ _ _ (aA (pv' 2))) (aC)))) zh1,?_⟩
 k_mem
 refine ⟨_,.inl hS,by omega,by rw [WB];omega,cf (Nd a ds d H) ⟨rfl,⟨_,rfl⟩,fun _ h=>absurd h (Nat.not_lt_zero _)⟩ ?_ ?_⟩
 ·rintro i σ H' hi ⟨rfl,⟨t,rfl⟩,hj⟩
  rw [WB] at hi
  have hi':i < ds.length:=by omega
  k_mem
  refine ⟨_,hS,_,by rw [Int.zero_add];exact gg hi',?_⟩
  k_mem
  split
  ·rename_i he
   rw [Int.zero_add]
   k_upd
   exact q1 i hi' he
  ·rename_i he
   k_upd
   refine ⟨rfl,⟨_,rfl⟩,fun j hj'=>?_⟩
   by_cases e:j=i
   ·rw [e];exact he
   ·exact hj j (by omega)
 ·rintro σ H' ⟨rfl,⟨t,rfl⟩,hj⟩
  k_mem
  refine q2 fun i hi=>hj i ?_
  rw [WB]
  omega
variable (tY:KD P w K mg base CX0 1 "level_at" (qH K Z))
inductive iL (K:WA)(Z:Adr)(vs:List V)(H:Hp)(Q:VK)(E:XK):Prop | mk (sl fa:Int):vs=[.int sl,.int fa]->(if 1<=sl/\sl<=fa/\fa<=500 then Q .non H else E (.ref Z.cM) none H)->iL K Z vs H Q E
include T in
theorem yH:FF P w K mg base (CXf P w) 1 "check_speeds" "check_speeds" js pK (iL K Z):=fkF yt fun vs H Q E h=>by
 obtain ⟨sl,fa,rfl,q⟩:=h
 k_all
 refine ⟨_,@ah _ _ _ (aQ (pe (oG (pv' 0) af) (pe (oG (pv' 1) (pv' 0)) (kM (Ct (pv' 1) (eo (by rfl) T.xl))))).pt (@ah _ _ _ (bz T.Gd (by rfl) T.FJ (pa1 aB))) (aC)),?_⟩
 k_mem
 split
 ·rw [if_neg (by omega)] at q
  k_upd
  exact ⟨by decide,q⟩
 ·split
  ·rw [if_neg (by omega)] at q
   k_upd
   exact ⟨by decide,q⟩
  ·split
   ·rw [if_neg (by omega)] at q
    k_upd
    exact ⟨by decide,q⟩
   ·rw [if_pos (by omega)] at q
    k_upd
    exact q
variable (qI:KD P w K mg base (CXf P w) 1 "check_speeds" (iL K Z))
inductive lQ (K:WA)(Z:Adr)(vs:List V)(H:Hp)(Q:VK)(E:XK):Prop | mk (wy sp:Int):vs=[.int wy,.int sp]->0 < sp->sp < 2 ^ 200->Q (.int ((wy+sp - 1) / sp)) H->lQ K Z vs H Q E
include T in
theorem BD:FF P w K mg base CX0 1 "wind_ticks" "wind_ticks" nG uT (lQ K Z):=fk0 Bi fun vs H Q E h=>by
 obtain ⟨wy,sp,rfl,h0,h1,q⟩:=h
 k_all
 refine ⟨_,@ah _ _ _ (aA (aT KU (aT dh (aT bx (pv' 0) (pv' 1)) af) (pv' 1))),?_⟩
 k_mem
 exact ⟨⟨h0,h1⟩,q⟩
variable (vG:KD P w K mg base CX0 1 "wind_ticks" (lQ K Z))
inductive jL (K:WA)(Z:Adr)(vs:List V)(H:Hp)(Q:VK)(E:XK):Prop | mk (b e sp tk:Int):vs=[.int b,.int e,.int sp,.int tk]->sp.natAbs < 2 ^ 300->tk.natAbs < 2 ^ 300->0<=sp * tk->(∀v:Int,(e - b<=sp * tk/\b - e<=sp * tk->v=e)->(sp * tk < e - b->v=b+sp * tk)->(sp * tk < b - e->v=b - sp * tk)->Q (.int v) H)->jL K Z vs H Q E
include T in
theorem An:FF P w K mg base CX0 1 "place_after" "place_after" lg rS (jL K Z):=fk0 pX fun vs H Q E h=>by
 obtain ⟨b,e,sp,tk,rfl,h0,h1,h2,q⟩:=h
 k_all
 refine @seg _ _ _ 2 _ (@ah _ _ _ (aA (aT bx (pv' 0) (pv' 4)))) fun zt2 zh2 ze2=>?_
 refine @seg _ _ _ 1 _ (@ae _ _ _ _ _ (aQ (oG (pv' 1) (pv' 0)) (@ah _ _ _ (aA (aT dh (pv' 0) (pv' 4)))) (aC)) zh2) fun zt1 zh1 ze1=>?_
 refine ⟨_,@ae _ _ _ _ _ (@aG _ _ 4 _ _ _ _ pX.nd rfl orL (aF (nu rfl) (by rfl) T.JI Dq (pa2 (aT MR (pv' 2) (pv' 3)) (aF wU (by rfl) T.M4 Hn (pa1 (aT dh (pv' 1) (pv' 0)))))) (by rfl) hfA) zh1,?_⟩
 k_mem
 refine ⟨⟨h0,h1⟩,?_⟩
 generalize sp * tk=pr at *
 k_upd
 split
 ·refine q _ ?_ ?_ ?_<;>intro z<;>(repeat' split)<;>omega
 ·k_upd
  refine q _ ?_ ?_ ?_<;>intro z<;>(repeat' split)<;>omega
variable (sN:KD P w K mg base CX0 1 "place_after" (jL K Z))
noncomputable abbrev clZ (Z:Adr):Cl:=⟨Z.bR,Z.fh,Z.eM,Z.oX,Z.bw⟩
inductive gT (K:WA)(Z:Adr)(vs:List V)(H:Hp)(Q:VK)(E:XK):Prop | mk (x dx o b y:Addr) (pl:Int) (gs:List Bool):vs=[.ref x,.int pl,.ref o,.ref b,.ref y]->H x=some (.ins Z.eM dx [])->SqL K H o (gs.map V.bl)->(∀(ol:Addr) (H':Hp),H ol=none->aD x H H'->H' x=some (.ins Z.eM dx [("place",.int pl),("opened",.ref ol),("bells",.ref b),("yard",.ref y)])->H' ol=some (.lst (gs.map V.bl))->Q .non H')->gT K Z vs H Q E
include T in
theorem xm:FF P w K mg base CX0 1 "__init__" "Standing.__init__" iB oI (gT K Z):=fk0 wW fun vs H Q E h=>by
 obtain ⟨x,dx,o,b,y,pl,gs,rfl,hx,hO,q⟩:=h
 k_all
 refine ⟨_,@ae _ _ _ _ _ (cj (pv' 0) (pv' 1) rfl) (@ae _ _ _ _ _ (cj (pv' 0) (bg bH (by rfl) T.eO dG (pa1 (pv' 2))) rfl) (@ae _ _ _ _ _ (cj (pv' 0) (pv' 3) rfl) (@ah _ _ _ (cj (pv' 0) (pv' 4) rfl)))),?_⟩
 k_mem
 refine ⟨_,_,_,hx,T.aO,T.bI,by decide,?_⟩
 have k1:L2.aD x H (upd H x (HO.ins Z.eM dx (bG "place" (.int pl) []))):=(aD.of (av.refl H)).put
 refine ⟨_,.inl (hO.keepI k1 hx),fun ol hol=>?_⟩
 have nol:ol≠x:=fun z=>by rw [z,ag] at hol;cases hol
 refine ⟨_,_,_,upo ag hol,T.aO,T.cD,by show 1 < 1000;decide,_,_,_,ag,T.aO,T.cq,by show 2 < 1000;decide,_,_,_,ag,T.aO,T.bQ,by show 3 < 1000;decide,?_⟩
 refine q ol _ (k1.free nol hol) (((k1.trans (aD.of ((av.refl _).lay hol))).put).put.put) ?_ ?_
 ·rw [ag];rfl
 ·rw [aN nol,aN nol,aN nol,ag]
variable (fK:KN P w K mg base CX0 1 Z.eM (gT K Z))
inductive oo (K:WA)(Z:Adr)(vs:List V)(H:Hp)(Q:VK)(E:XK):Prop | mk (x dx f:Addr):vs=[.ref x,.ref f,.int 300]->H x=some (.ins Z.oX dx [])->(∀(rl:Addr) (H':Hp),H rl=none->aD x H H'->H' x=some (.ins Z.oX dx [("first",.ref f),("most",.int 300),("rows",.ref rl)])->H' rl=some (.lst [])->Q .non H')->oo K Z vs H Q E
include T in
theorem Eo:FF P w K mg base CX0 1 "__init__" "Book.__init__" pY xR (oo K Z):=fk0 DN fun vs H Q E h=>by
 obtain ⟨x,dx,f0,rfl,hx,q⟩:=h
 k_all
 refine ⟨_,@ae _ _ _ _ _ (cj (pv' 0) (pv' 1) rfl) (@ae _ _ _ _ _ (cj (pv' 0) (pv' 2) rfl) (@ah _ _ _ (cj (pv' 0) (bh il) rfl))),?_⟩
 k_mem
 refine ⟨_,_,_,hx,T.dj,T.g8,by decide,_,_,_,ag,T.dj,T.vo,by show 1 < 1000;decide,by decide,fun rl hrl=>?_⟩
 have k1:L2.aD x H (upd (upd H x (HO.ins Z.oX dx (bG "first" (.ref f0) []))) x (HO.ins Z.oX dx (bG "most" (.int 300) (bG "first" (.ref f0) [])))):=((aD.of (av.refl H)).put).put
 have nrl:rl≠x:=fun z=>by rw [z,ag] at hrl;cases hrl
 refine ⟨_,_,_,upo ag hrl,T.dj,T.cb,by show 2 < 1000;decide,?_⟩
 refine q rl _ (k1.free nrl hrl) ((k1.trans (aD.of ((av.refl _).lay hrl))).put) ?_ ?_
 ·rw [ag];rfl
 ·rw [aN nrl,ag]
variable (yd:KN P w K mg base CX0 1 Z.oX (oo K Z))
inductive jM (K:WA)(Z:Adr)(vs:List V)(H:Hp)(Q:VK)(E:XK):Prop | mk (bk rl:Addr) (g:Cfg) (n0:aS) (rs:List Row):vs=[.ref bk]->BAt (clZ Z) K H bk rl g n0 rs->((rs=[]->E (.ref Z.bW) none H))->((∀rs' r,rs=rs'++[r]->∀p H',aD rl H H'->BAt (clZ Z) K H' bk rl g n0 rs'->SqT K H' p r.deed->Q (.ref p) H'))->jM K Z vs H Q E
include T in
theorem Ao:FF P w K mg base (CXf P w) 1 "strike" "Book.strike" lh rT (jM K Z):=fkF zJ fun vs H Q E h=>by
 obtain ⟨bk,rl,g,n0,rs,rfl,hB,q1,q2⟩:=h
 k_all
 refine @seg _ _ _ 1 _ (@ah _ _ _ (aA (ao aq (zg PySem.F.plainAttrs_list PySem.F.slot_list_pop PySem.F.type_list_pop DH (aw (pv' 0))) af))) fun zt1 zh1 ze1=>?_
 refine ⟨_,@ae _ _ _ _ _ (aQ (ft (zc (aw (pv' 0)) (fun _=>rfl))) (@ah _ _ _ (bz T.By (by rfl) T.Bq (pa1 aB))) (aC)) zh1,?_⟩
 obtain ⟨⟨dx,f0,hob,hF⟩,as,hrl,hR⟩:=id hB
 k_mem
 refine fgo hob T.dj T.cb rfl ⟨_,.inl ⟨_,SqL.of hrl,rfl⟩,?_⟩
 rcases dk rs with rfl | ⟨rs',r,rfl⟩
 ·have e:as=[]:=List.length_eq_zero_iff.mp hR.1
  subst e
  k_upd
  exact ⟨by decide,q1 rfl⟩
 ·obtain ⟨as',a,rfl,hR',dd,s,hra,hdd,hs⟩:=hR.last
  k_upd
  rw [if_neg (by simp)]
  k_upd
  refine fgo hob T.dj T.cb rfl ?_
  k_mem
  refine ⟨.inl ⟨rfl,_,SqL.of hrl⟩,_,hrl,.ref a,by simp,?_⟩
  have k1:L2.aD rl H (upd H rl (HO.lst ((as'++[a]).map V.ref).dropLast)):=(aD.of (av.refl H)).put
  k_mem
  refine ⟨_,hra.keep k1 hrl,_,rfl,?_⟩
  refine q2 rs' r rfl dd _ k1 ⟨⟨dx,f0,k1 _ _ (fun z=>by rw [z,hrl] at hob;cases hob) hob,hF.keep k1 hrl⟩,as',by rw [ag];simp,hR'.keep k1 hrl⟩ (hdd.keep k1 hrl)
variable (sO:KM P w K mg base (CXf P w) 1 Z.oX "strike" (jM K Z))
inductive qJ (K:WA)(Z:Adr)(vs:List V)(H:Hp)(Q:VK)(E:XK):Prop | mk (bk rl:Addr) (g:Cfg) (n0:aS) (rs:List Row):vs=[.ref bk]->BAt (clZ Z) K H bk rl g n0 rs->Q (.int (bX rs)) H->qJ K Z vs H Q E
include T in
theorem Gw:FF P w K mg base CX0 1 "now" "Book.now" tE zC (qJ K Z):=fk0 FG fun vs H Q E h=>by
 obtain ⟨bk,rl,g,n0,rs,rfl,hB,q⟩:=h
 k_all
 refine @seg _ _ _ 1 _ (@ah _ _ _ (aA (ao aq (ao ax (aw (pv' 0)) (aT dh (aF az (by rfl) T.bY bu (pa1 (aw (pv' 0)))) af)) af))) fun zt1 zh1 ze1=>?_
 refine ⟨_,@ae _ _ _ _ _ (aQ (ft (zc (aw (pv' 0)) (fun _=>rfl))) (@ah _ _ _ (aA af)) (aC)) zh1,?_⟩
 obtain ⟨⟨dx,f0,hob,hF⟩,as,hrl,hR⟩:=id hB
 k_mem
 refine fgo hob T.dj T.cb rfl ⟨_,.inl ⟨_,SqL.of hrl,rfl⟩,?_⟩
 rcases dk rs with rfl | ⟨rs',r,rfl⟩
 ·have e:as=[]:=List.length_eq_zero_iff.mp hR.1
  subst e
  k_upd
  exact q
 ·obtain ⟨as',a,rfl,hR',dd,s,hra,_,_⟩:=hR.last
  k_upd
  rw [if_neg (by simp)]
  k_upd
  refine fgo hob T.dj T.cb rfl ?_
  k_mem
  refine fgo hob T.dj T.cb rfl ?_
  k_mem
  refine ⟨_,.inl (SqL.of hrl),_,SqL.of hrl,_,Ci,?_⟩
  k_mem
  refine ⟨_,hra,_,rfl,?_⟩
  rw [mf] at q
  k_upd
  exact q
variable (gU:KM P w K mg base CX0 1 Z.oX "now" (qJ K Z))
inductive jN (K:WA)(Z:Adr)(vs:List V)(H:Hp)(Q:VK)(E:XK):Prop | mk (bk rl:Addr) (g:Cfg) (n0:aS) (rs:List Row):vs=[.ref bk]->BAt (clZ Z) K H bk rl g n0 rs->(∀s,eQ (clZ Z) K H rl g s (aj n0 rs)->Q (.ref s) H)->jN K Z vs H Q E
include T in
theorem Ap:FF P w K mg base CX0 1 "latest" "Book.latest" lj rV (jN K Z):=fk0 zK fun vs H Q E h=>by
 obtain ⟨bk,rl,g,n0,rs,rfl,hB,q⟩:=h
 k_all
 refine @seg _ _ _ 1 _ (@ah _ _ _ (aA (ao aq (ao ax (aw (pv' 0)) (aT dh (aF az (by rfl) T.bY bu (pa1 (aw (pv' 0)))) af)) af))) fun zt1 zh1 ze1=>?_
 refine ⟨_,@ae _ _ _ _ _ (aQ (ft (zc (aw (pv' 0)) (fun _=>rfl))) (@ah _ _ _ (aA (aw (pv' 0)))) (aC)) zh1,?_⟩
 obtain ⟨⟨dx,f0,hob,hF⟩,as,hrl,hR⟩:=id hB
 k_mem
 refine fgo hob T.dj T.cb rfl ⟨_,.inl ⟨_,SqL.of hrl,rfl⟩,?_⟩
 rcases dk rs with rfl | ⟨rs',r,rfl⟩
 ·have e:as=[]:=List.length_eq_zero_iff.mp hR.1
  subst e
  k_upd
  exact fgo hob T.dj T.g8 rfl (q f0 hF)
 ·obtain ⟨as',a,rfl,hR',dd,s,hra,_,hs⟩:=hR.last
  k_upd
  rw [if_neg (by simp)]
  k_upd
  refine fgo hob T.dj T.cb rfl ?_
  k_mem
  refine fgo hob T.dj T.cb rfl ?_
  k_mem
  refine ⟨_,.inl (SqL.of hrl),_,SqL.of hrl,_,Ci,?_⟩
  k_mem
  refine ⟨_,hra,_,rfl,?_⟩
  rw [pB] at q
  k_upd
  exact q s hs
variable (aM:KM P w K mg base CX0 1 Z.oX "latest" (jN K Z))
inductive oq (K:WA)(Z:Adr)(vs:List V)(H:Hp)(Q:VK)(E:XK):Prop | mk (bk rl:Addr) (g:Cfg) (n0:aS) (rs:List Row):vs=[.ref bk]->BAt (clZ Z) K H bk rl g n0 rs->rs.length<=1000->(∀(p:Addr) (as:List Addr) (H':Hp),H p=none->av H H'->H' p=some (.lst (as.map V.ref))->dJ K H' as rs->Q (.ref p) H')->oq K Z vs H Q E
include T in
theorem Ep:FF P w K mg base CX0 1 "told" "Book.told" pZ xS (oq K Z):=fk0 DO fun vs H Q E h=>by
 obtain ⟨bk,rl,g,n0,rs,rfl,hB,hn,q⟩:=h
 k_all
 refine ⟨_,@ah _ _ _ (aA (kh ["began","ended","deed","speed","standing"] [none,none,none,none,none] (cJ (aw (pv' 0))) (fun _ _ _ _=>(show PG _ _ (rL K 5 _) from eS (n:=5) rfl (aI (aE (i:=0) (show (["began","ended","deed","speed","standing"]:List Str).Nodup by decide +kernel) rfl orL) (aI (aE (i:=1) (show (["began","ended","deed","speed","standing"]:List Str).Nodup by decide +kernel) rfl orL) (aI (aE (i:=2) (show (["began","ended","deed","speed","standing"]:List Str).Nodup by decide +kernel) rfl orL) (aI (aE (i:=3) (show (["began","ended","deed","speed","standing"]:List Str).Nodup by decide +kernel) rfl orL) (aI (aE (i:=4) (show (["began","ended","deed","speed","standing"]:List Str).Nodup by decide +kernel) rfl orL) de))))))) (fun _ _ _ _=>gf) (fun _ _ _ _=>(aK (pa3 (pv' 0) (pv' 1) (pv' 2)))))),?_⟩
 obtain ⟨⟨dx,f0,hob,hF⟩,as,hrl,hR⟩:=id hB
 have hl:=hR.1
 k_mem
 refine fgo hob T.dj T.cb rfl ?_
 k_mem
 refine ⟨⟨_,SqL.of hrl⟩,?_⟩
 refine wF rs.length (fun i acc H'=>av H H'/\∃bs:List Addr,acc=bs.map V.ref/\dJ K H' bs (rs.take i)) ⟨av.refl H,[],rfl,rfl,fun i a r e _=>by simp at e⟩ ?_ ?_ ?_ ?_
 ·rintro i acc H' hi ⟨s1,_⟩
  have hi':i < as.length:=by omega
  k_upd
  exact ⟨_,.ref as[i],SqL.of (s1 _ _ hrl),by rw [List.getElem?_map,List.getElem?_eq_getElem hi'];rfl⟩
 ·rintro acc H' ⟨s1,_⟩
  k_upd
  exact ⟨_,SqL.of (s1 _ _ hrl),by rw [WB];omega⟩
 ·rintro i acc H1 hi ⟨s1,bs,rfl,hb⟩
  have hi':i < as.length:=by omega
  have hbl:=hb.1
  rw [List.length_take] at hbl
  k_upd
  refine ⟨cu (by rw [WB];omega),?_⟩
  rintro x H2 ⟨e2,y⟩ M hM
  subst e2
  have hy:=y _ (SqL.of (s1 _ _ hrl))
  rw [List.getElem?_map,List.getElem?_eq_getElem hi'] at hy
  cases hy
  obtain ⟨dd,s,hra,hdd,_⟩:=hR.2 i _ _ (List.getElem?_eq_getElem hi') (List.getElem?_eq_getElem hi)
  k_mem
  refine ⟨_,s1.tup hra,rfl,?_⟩
  k_mem
  refine ⟨⟨rfl,fun k v e=>?_⟩,?_⟩
  ·match k,e with
   | 0,e=>cases e
   | 1,e=>cases e
   | 2,e=>cases e
   | 3,e=>cases e
   | 4,e=>cases e
   | k+5,e=>simp at e
  ·k_upd
   refine ⟨by decide,fun p hp=>hM _ _ ⟨s1.lay hp,bs++[p],by rw [List.map_append];rfl,?_⟩⟩
   rw [List.take_succ_eq_append_getElem hi]
   exact (hb.same ((av.refl _).lay hp)).push ⟨dd,SqT.of ag,(s1.lay hp).tup hdd⟩
 ·rintro acc H1 ⟨s1,bs,rfl,hb⟩ p hp
  rw [List.take_length] at hb
  k_upd
  exact q p bs _ (s1.free hp) (s1.lay hp) ag (hb.same ((av.refl H1).lay hp))
variable (ye:KM P w K mg base CX0 1 Z.oX "told" (oq K Z))
noncomputable def vH (K:WA)(Z:Adr):Sp:=fun vs H Q E=>False
include T in
theorem Es:FF P w K mg base CX0 1 "spot_rows" "spot_rows" p6 xT (vH K Z):=fk0 DP fun vs H Q E h=>False.elim h
variable (Gx:KD P w K mg base CX0 1 "spot_rows" (vH K Z))
noncomputable def vI (K:WA)(Z:Adr):Sp:=fun vs H Q E=>False
include T in
theorem Et:FF P w K mg base CX0 1 "with_spot" "with_spot" p7 xU (vI K Z):=fk0 DQ fun vs H Q E h=>False.elim h
variable (Gy:KD P w K mg base CX0 1 "with_spot" (vI K Z))
noncomputable def gB (K:WA)(Z:Adr):Sp:=fun vs H Q E=>False
include T in
theorem ot:FF P w K mg base CX0 1 "stands_a_wind_ahead" "stands_a_wind_ahead" eN gI (gB K Z):=fk0 nK fun vs H Q E h=>False.elim h
variable (pd:KD P w K mg base CX0 1 "stands_a_wind_ahead" (gB K Z))
noncomputable def yf (K:WA)(Z:Adr):Sp:=fun vs H Q E=>False
include T in
theorem Gz:FF P w K mg base CX0 1 "steps_to" "steps_to" tF zD (yf K Z):=fk0 FH fun vs H Q E h=>False.elim h
variable (IH:KD P w K mg base CX0 1 "steps_to" (yf K Z))
noncomputable def oP (K:WA)(Z:Adr):Sp:=fun vs H Q E=>False
include T in
theorem yI:FF P w K mg base CX0 1 "with_numbers" "with_numbers" jv pN (oP K Z):=fk0 yw fun vs H Q E h=>False.elim h
variable (Aq:KD P w K mg base CX0 1 "with_numbers" (oP K Z))
noncomputable def kD (K:WA)(Z:Adr):Sp:=fun vs H Q E=>False
include T in
theorem vJ:FF P w K mg base CX0 1 "goals_of" "Works.goals_of" gQ mq (kD K Z):=fk0 vk fun vs H Q E h=>False.elim h
variable (xn:KM P w K mg base CX0 1 Z.bw "goals_of" (kD K Z))
inductive Eu (K:WA)(Z:Adr)(vs:List V)(H:Hp)(Q:VK)(E:XK):Prop | mk (a:Addr) (ns:List Int) (k:Int):vs=[.ref a,.int k]->SqL K H a (ns.map V.int)->0<=k->Q (.int (ns.getD k.toNat 0)) H->Eu K Z vs H Q E
include T in
theorem OS:FF P w K mg base CX0 1 "_law_at" "_law_at" Ih MX (Eu K Z):=fk0 OM fun vs H Q E h=>by
 obtain ⟨a,ns,k,rfl,hS,hk,q⟩:=h
 k_all
 refine @seg _ _ _ 1 _ (@ah _ _ _ (aA af)) fun zt1 zh1 ze1=>?_
 refine ⟨_,@ae _ _ _ _ _ (aQ (oG (pv' 1) (aF az (by rfl) T.bY bu (pa1 (pv' 0)))) (@ah _ _ _ (aA (ao ax (pv' 0) (pv' 1)))) (aC)) zh1,?_⟩
 k_mem
 refine ⟨_,.inl hS,?_⟩
 rw [WB]
 k_upd
 split
 ·rename_i hlt
  k_upd
  exact ⟨_,hS,_,dZ hk hlt,q⟩
 ·rename_i hlt
  rw [LO (by omega)] at q
  k_upd
  exact q
variable (xo:KD P w K mg base CX0 1 "_law_at" (Eu K Z))
def OT (c k n:Int)(H:Hp)(_:Nat)(σ:St)(H':Hp):Prop:=H'=H/\∃r t,σ=[some (.int c),some (.int k),some (.int n),some (.int r),t,none]
inductive xp (K:WA)(Z:Adr)(vs:List V)(H:Hp)(Q:VK)(E:XK):Prop | mk (c k n:Int):vs=[.int c,.int k,.int n]->0<=k->k<=100000->0 < n->(∀r:Int,0<=r->r < n->Q (.int r) H)->xp K Z vs H Q E
include T in
theorem KZ:FF P w K mg base CX0 1 "_law_draw" "_law_draw" zT Fw (xp K Z):=fk0 my fun vs H Q E h=>by
 obtain ⟨c,k,n,rfl,hk0,hk1,hn,q⟩:=h
 k_all
 refine @seg _ _ _ 2 _ (@ah _ _ _ (aA (aT uI (nq (cO (aT yY (pv' 5) (aT bx (pv' 5) af)) af) af) (pv' 2)))) fun zt2 zh2 ze2=>?_
 refine @seg _ _ _ 1 _ (@ae _ _ _ _ _ (@aG _ _ 5 _ _ _ _ my.nd rfl orL (cO (aT bx (aT bx (yZ (pv' 0) af) (yZ (pv' 1) af)) af) af) (by rfl) hfA) zh2) fun zt1 zh1 ze1=>?_
 refine ⟨_,@ae _ _ _ _ _ (aQ (bV (cO (pv' 0) af) af) (@ae _ _ _ _ _ (@aG _ _ 3 _ _ _ _ my.nd rfl orL (nq (pv' 0) af) (by rfl) hfA) (@ae _ _ _ _ _ (cH PassesOwn.never rfl (bA (by rfl) T.cB (pa1 (pv' 1))) (aE (i:=4) my.nd rfl orL) (@ah _ _ _ (@aG _ _ 3 _ _ _ _ my.nd rfl orL (nq (pv' 3) af) (by rfl) hfA))) (@ah _ _ _ (aA (aT uI (cO (pv' 3) af) (pv' 2)))))) (aC)) zh1,?_⟩
 k_mem
 split
 ·k_upd
  refine ⟨by omega,by omega,cf (OT c k n H) ⟨rfl,_,_,rfl⟩ ?_ ?_⟩
  ·rintro i σ H' hi ⟨rfl,r,t,rfl⟩
   k_mem
   exact ⟨rfl,_,_,rfl⟩
  ·rintro σ H' ⟨rfl,r,t,rfl⟩
   k_mem
   exact ⟨hn,q _ (Int.emod_nonneg _ (by omega)) (Int.emod_lt_of_pos _ hn)⟩
 ·k_upd
  refine ⟨.inl ⟨by omega,by omega⟩,hn,q _ (Int.emod_nonneg _ (by omega)) (Int.emod_lt_of_pos _ hn)⟩
variable (cA:KD P w K mg base CX0 1 "_law_draw" (xp K Z))
inductive tZ (K:WA)(Z:Adr)(vs:List V)(H:Hp)(Q:VK)(E:XK):Prop | mk (a:Addr) (ns:List Int) (k:Int):vs=[.ref a,.int k]->SqL K H a (ns.map V.int)->0<=k->k < ns.length->(∀n:Int,Q (.int n) H)->tZ K Z vs H Q E
include T in
theorem IJ:FF P w K mg base CX0 1 "_law_mixed" "_law_mixed" w6 Cu (tZ K Z):=fk0 tJ fun vs H Q E h=>by
 obtain ⟨a,ns,k,rfl,hS,hk0,hk1,q⟩:=h
 k_all
 refine ⟨_,@ae _ _ _ _ _ (@aG _ _ 2 _ _ _ _ tJ.nd rfl orL (ao ax (pv' 0) (pv' 1)) (by rfl) hfA) (@ae _ _ _ _ _ (aQ (bV (cO (ao ax (pv' 0) af) af) af) (@ah _ _ _ (aA (pv' 2))) (aC)) (@ae _ _ _ _ _ (@aG _ _ 3 _ _ _ _ tJ.nd rfl orL (cO (aT bx (aT bx (yZ (pv' 2) af) (yZ (pv' 1) af)) af) af) (by rfl) hfA) (@ah _ _ _ (aA (cO (aT yY (pv' 3) (aT bx (pv' 3) af)) af))))),?_⟩
 k_mem
 refine ⟨_,hS,_,dZ hk0 hk1,_,hS,_,dZ (ns:=ns) (k:=0) (by omega) (by omega),?_⟩
 k_mem
 split
 ·exact q _
 ·exact ⟨.inl ⟨by omega,by omega⟩,q _⟩
variable (rh:KD P w K mg base CX0 1 "_law_mixed" (tZ K Z))
def Sj (a:Addr)(c pl:Int)(dp:Int)(ds:List Int)(H:Hp)(i:Nat)(σ:St)(H':Hp):Prop:=H'=H/\(∃t,σ=[some (.ref a),some (.int c),some (.int pl),some (.int dp),t])/\∀j,j < i->ds.getD j 0≠dp
theorem two_deep {p q c:Int}(h0:0<=c)(h1:c < 2):atI [V.int p,V.int q] c=some (.int (if c=0 then p else q)):=by
 rcases (by omega:c=0\/c=1) with rfl | rfl<;>rfl
inductive Ew (K:WA)(Z:Adr)(vs:List V)(H:Hp)(Q:VK)(E:XK):Prop | mk (a:Addr) (ds:List Int) (c pl:Int):vs=[.ref a,.int c,.int pl]->SqL K H a (ds.map V.int)->cC ds->0<=c->c < 2->(∀H',av H H'->Q (.int ((bN ds pl c).getD (-1))) H')->Ew K Z vs H Q E
include T in
theorem OU:FF P w K mg base CX0 1 "_law_by" "_law_by" Ii MY (Ew K Z):=fk0 DS fun vs H Q E h=>by
 obtain ⟨a,ds,c,pl,rfl,hS,hsh,h0,h1,q⟩:=h
 k_all
 refine @seg _ _ _ 2 _ (@ah _ _ _ (aA (fB cN af))) fun zt2 zh2 ze2=>?_
 refine @seg _ _ _ 1 _ (@ae _ _ _ _ _ (cH PassesOwn.never rfl (bA (by rfl) T.cB (pa1 (aF az (by rfl) T.bY bu (pa1 (pv' 0))))) (aE (i:=4) DS.nd rfl orL) (@ah _ _ _ (aQ (bV (ao ax (pv' 0) (pv' 4)) (pv' 3)) (@ah _ _ _ (aA (pv' 4))) (aC)))) zh2) fun zt1 zh1 ze1=>?_
 refine ⟨_,@ae _ _ _ _ _ (@aG _ _ 3 _ _ _ _ DS.nd rfl orL (ao ax (bh (pa2 (pv' 2) (aT dh (ao ax (pv' 0) (fB cN af)) (pv' 2)))) (pv' 1)) (by rfl) hfA) zh1,?_⟩
 have l6:=hsh.l6
 have l2:=hsh.l2
 k_mem
 refine ⟨_,hS,_,Hq (by omega),?_⟩
 k_mem
 refine ⟨by decide,fun p hp=>⟨_,SqL.of ag,_,two_deep h0 h1,?_⟩⟩
 have s1:=(av.refl H).lay (o:=HO.lst [V.int pl,V.int (cw ds - pl)]) hp
 generalize upd H p (HO.lst [V.int pl,V.int (cw ds - pl)])=H1 at *
 have ec:bN ds pl c=lvl ds (if c=0 then pl else cw ds - pl):=by unfold bN;split<;>rfl
 generalize (if c=0 then pl else cw ds - pl)=dp at *
 k_mem
 refine ⟨_,.inl (s1.seq hS),by omega,by rw [WB];omega,?_⟩
 k_upd
 refine cf (Sj a c pl dp ds H1) ⟨rfl,⟨_,rfl⟩,fun _ h=>absurd h (Nat.not_lt_zero _)⟩ ?_ ?_
 ·rintro i σ H' hi ⟨rfl,⟨t,rfl⟩,hj⟩
  rw [WB] at hi
  have hi':i < ds.length:=by omega
  k_mem
  refine ⟨_,s1.seq hS,_,by rw [Int.zero_add];exact gg hi',?_⟩
  k_mem
  split
  ·rename_i he
   rw [Int.zero_add]
   have q':=q _ s1
   rw [ec,jg hsh hi' he] at q'
   k_upd
   exact q'
  ·rename_i he
   k_upd
   refine ⟨rfl,⟨_,rfl⟩,fun j hj'=>?_⟩
   by_cases e:j=i
   ·rw [e];exact he
   ·exact hj j (by omega)
 ·rintro σ H' ⟨rfl,⟨t,rfl⟩,hj⟩
  k_mem
  have q':=q _ s1
  rw [ec,E3 (fun i hi=>hj i (by rw [WB];omega))] at q'
  k_upd
  exact q'
variable (ou:KD P w K mg base CX0 1 "_law_by" (Ew K Z))
theorem OV (x:List V)(k:Nat)(h:k < x.length):ur x none (some (k:Int))=x.take k/\¬(HT.sIx x.length 0 none=0/\HT.sIx x.length x.length (some (k:Int))=x.length):=by
 have e:HT.sIx x.length x.length (some (k:Int))=k:=by simp only [HT.sIx];split<;>omega
 refine ⟨?_,fun z=>by rw [e] at z;omega⟩
 unfold ur
 rw [e]
 simp [HT.sIx]
theorem OW (x:List V)(k:Nat)(h0:0 < k)(h:k<=x.length):ur x (some (k:Int)) none=x.drop k/\¬(HT.sIx x.length 0 (some (k:Int))=0/\HT.sIx x.length x.length none=x.length):=by
 have e:HT.sIx x.length 0 (some (k:Int))=k:=by simp only [HT.sIx];split<;>omega
 refine ⟨?_,fun z=>by rw [e] at z;omega⟩
 unfold ur
 rw [e]
 simp only [HT.sIx]
 exact List.take_of_length_le (by simp)
theorem Nf (x:List V)(k:Nat)(v:V)(h:k < x.length):x.take k++[v]++x.drop (k+1)=x.set k v:=by
 rw [List.set_eq_take_append_cons_drop,if_pos h,List.append_assoc];rfl
inductive xq (K:WA)(Z:Adr)(vs:List V)(H:Hp)(Q:VK)(E:XK):Prop | mk (t:Addr) (x:List V) (k:Int) (s:V):vs=[.ref t,.int k,s]->SqT K H t x->0<=k->k < x.length->x.length<=100->(∀p H',av H H'->H' p=some (.tup (x.set k.toNat s))->Q (.ref p) H')->xq K Z vs H Q E
include T in
theorem K0:FF P w K mg base CX0 1 "_law_swap" "_law_swap" zV Fy (xq K Z):=fk0 KW fun vs H Q E h=>by
 obtain ⟨t,x,k,s,rfl,hT,h0,h1,hl,q⟩:=h
 k_all
 refine ⟨_,@ah _ _ _ (aA (aT Fu (aT Fu (ze JE (pv' 0) I9 (uK (pv' 1))) (aK (pa1 (pv' 2)))) (ze JE (pv' 0) (uK (aT bx (pv' 1) af)) I9))),?_⟩
 obtain ⟨k,rfl⟩:=Int.eq_ofNat_of_zero_le h0
 rw [Int.toNat_natCast,←Nf x k s (by omega)] at q
 obtain ⟨c1,n1⟩:=OV x k (by omega)
 obtain ⟨c2,n2⟩:=OW x (k+1) (by omega) (by omega)
 k_mem
 rw [show ((k:Int)+1)=((k+1:Nat):Int) from rfl]
 k_upd
 refine ⟨_,hT,n1,?_⟩
 rw [c1]
 refine fun p1 h1'=>⟨by decide,fun p2 h2'=>⟨_,upo ag h2',_,ag,(by rw [List.length_take];show _+1<=1000;omega),fun p3 H3 s3 t3=>?_⟩⟩
 have s2:=(((av.refl H).lay h1').lay h2').trans s3
 k_upd
 refine ⟨_,s2.tup hT,n2,?_⟩
 rw [c2]
 refine fun p4 h4=>⟨_,upo t3 h4,_,ag,(by simp only [List.length_append,List.length_take,List.length_drop,List.length_singleton];omega),fun p5 H5 s5 t5=>?_⟩
 k_upd
 exact q p5 H5 ((s2.lay h4).trans s5) t5
variable (vK:KD P w K mg base CX0 1 "_law_swap" (xq K Z))
theorem K1 {w s t:Int}(hs:1<=s)(h1:w<=t * s)(h2:t=0\/(t - 1) * s < w)(h0:0<=t)(hw:0<=w):t=pC w s:=by
 have c:=Hr (w:=w) (s:=s) hw (by omega)
 unfold pC
 generalize (w+s - 1) / s=u at *
 obtain ⟨u0,u1,u2,_⟩:=c
 rcases Int.lt_trichotomy t u with h | h | h
 ·exfalso
  have:t<=u - 1:=by omega
  have:=Int.mul_le_mul_of_nonneg_right this (show 0<=s by omega)
  omega
 ·exact h
 ·exfalso
  rcases h2 with rfl | h2
  ·omega
  ·have:u<=t - 1:=by omega
   have:=Int.mul_le_mul_of_nonneg_right this (show 0<=s by omega)
   omega
inductive t9 (K:WA)(Z:Adr)(vs:List V)(H:Hp)(Q:VK)(E:XK):Prop | mk (wy sp:Int):vs=[.int wy,.int sp]->0<=wy->wy<=100000->1<=sp->sp<=100000->Q (.int (pC wy sp)) H->t9 K Z vs H Q E
include T in
theorem IK:FF P w K mg base CX0 1 "_law_lasts" "_law_lasts" xc CA (t9 K Z):=fk0 tL fun vs H Q E h=>by
 obtain ⟨wy,sp,rfl,h0,h1,h2,h3,q⟩:=h
 k_all
 refine @seg _ _ _ 2 _ (@ah _ _ _ (aA (pv' 2))) fun zt2 zh2 ze2=>?_
 refine @seg _ _ _ 1 _ (@ae _ _ _ _ _ (Lm PassesOwn.never (oG (aT yY (pv' 2) (pv' 1)) (pv' 0)) (@ah _ _ _ (@aG _ _ 2 _ _ _ _ tL.nd rfl orL (aT bx (pv' 2) af) (by rfl) hfA))) zh2) fun zt1 zh1 ze1=>?_
 refine ⟨_,@ae _ _ _ _ _ (@aG _ _ 2 _ _ _ _ tL.nd rfl orL af (by rfl) hfA) zh1,?_⟩
 k_mem
 refine Lo (fun σ H'=>H'=H/\∃t:Int,σ=[some (.int wy),some (.int sp),some (.int t)]/\0<=t/\t<=wy/\(t=0\/(t - 1) * sp < wy)) (fun σ H'=>match σ with | [_,_,some (.int t)]=>(wy - t).toNat | _=>0) ⟨rfl,0,rfl,by omega,by omega,.inl rfl⟩ ?_ ?_
 ·rintro σ H' ⟨rfl,t,rfl,t0,t1,t2⟩
  k_mem
  have tm:t * 1<=t * sp:=Int.mul_le_mul_of_nonneg_left h2 t0
  k_upd
  refine ⟨.inl ⟨by omega,by omega⟩,?_⟩
  k_upd
  split
  ·rename_i hlt
   k_upd
   refine ⟨⟨rfl,t+1,rfl,by omega,by omega,.inr (by rw [Int.add_sub_cancel];exact hlt)⟩,?_⟩
   show (wy - (t+1)).toNat < (wy - t).toNat
   omega
  ·rename_i hge
   rw [←K1 h2 (by omega) t2 t0 h0] at q
   k_upd
   exact q
 ·intro σ H' R R' hq h
  exact onO.mono (fun v=>onO.mono fun v1=>onI.mono fun i=>onI.mono fun j=>And.imp_right (onO.mono fun v2=>onI.mono fun j2=>onI.mono fun j3 z=>by split at z<;>rename_i c<;>(first | rw [if_pos c] | rw [if_neg c])<;>exact hq _ _ z)) h
variable (CU:KD P w K mg base CX0 1 "_law_lasts" (t9 K Z))
def GA (p lt:Addr)(ks:List Str)(ws:List Int)(H:Hp)(i:Nat)(σ:St)(H':Hp):Prop:=H'=H/\(∃t,σ=[some (.ref p),some (.ref lt),t])/\∀j k x,j < i->ks[j]?=some k->ws[j]?=some x->(decide (k="men") && decide (x=10\/x=11))=false
inductive ua (K:WA)(Z:Adr)(vs:List V)(H:Hp)(Q:VK)(E:XK):Prop | mk (p dl cl ll lt:Addr) (g:Cfg) (lds:List Ld) (ws:List Int):vs=[.ref p,.ref lt]->eI K H p dl cl ll g lds->SqT K H lt (ws.map V.int)->ws.length=lds.length->ws.length<=30->((∀x∈ws,x < 10\/x=10\/x=11))->Q (.int (if E5 g.ks ws=true then g.slow else g.fast)) H->ua K Z vs H Q E
include T in
theorem IL:FF P w K mg base CX0 1 "_law_speed" "_law_speed" xf CB (ua K Z):=fk0 zW fun vs H Q E h=>by
 obtain ⟨p,dl,cl,ll,lt,g,lds,ws,rfl,hP,hL,hlen,h30,hwr,q⟩:=h
 k_all
 refine @seg _ _ _ 1 _ (@ah _ _ _ (aA (ao ax (pv' 0) af))) fun zt1 zh1 ze1=>?_
 refine ⟨_,@ae _ _ _ _ _ (cH PassesOwn.never rfl (bA (by rfl) T.cB (pa1 (aF az (by rfl) T.bY bu (pa1 (pv' 1))))) (aE (i:=2) zW.nd rfl orL) (@ah _ _ _ (aQ (mV (Fv (ao aq (pv' 1) (pv' 2)) af) (kb (bV (ao aq (ao ax (ao ax (pv' 0) af) (pv' 2)) af) aB))).pt (@ah _ _ _ (aA (ao ax (pv' 0) af))) (aC)))) zh1,?_⟩
 obtain ⟨hp,_,_,⟨bs,hll,hT2⟩,ek⟩:=id hP
 have hbl:=hT2.1
 k_mem
 refine ⟨_,.inr hL,by omega,by rw [WB];omega,?_⟩
 rw [WB]
 k_upd
 refine cf (GA p lt g.ks ws H) ⟨rfl,⟨_,rfl⟩,fun j _ _ hj=>absurd hj (Nat.not_lt_zero _)⟩ ?_ ?_
 ·rintro i σ H' hi ⟨rfl,⟨t,rfl⟩,hj⟩
  have hi':i < ws.length:=by omega
  have hw:ws[i]?=some (ws.getD i 0):=me hi'
  have hx:=hwr _ (cW hi')
  have ha:bs[i]?=some (bs[i]'(by omega)):=List.getElem?_eq_getElem (by omega)
  have hld:lds[i]?=some (lds[i]'(by omega)):=List.getElem?_eq_getElem (by omega)
  have hrow:=hT2.2 i _ _ ha hld
  have hk:g.ks[i]?=some (lds[i]'(by omega)).1:=by rw [ek,List.getElem?_map,hld];rfl
  have no:(decide ((lds[i]'(by omega)).1="men") && decide (ws.getD i 0=10\/ws.getD i 0=11))=false->GA p lt g.ks ws H' (i+1) [some (V.ref p),some (V.ref lt),some (V.int (0+(i:Int)))] H':=fun hn=>by
   refine ⟨rfl,⟨_,rfl⟩,fun j k x hj' e1 e2=>?_⟩
   by_cases e:j=i
   ·subst e
    rw [hk] at e1;rw [hw] at e2
    cases e1;cases e2
    exact hn
   ·exact hj j k x (by omega) e1 e2
  k_mem
  refine ⟨_,hL,_,by rw [Int.zero_add];exact gg hi',?_⟩
  k_mem
  split
  ·rename_i h10
   k_upd
   refine ⟨_,SqL.of hp,_,rfl,?_⟩
   k_mem
   refine ⟨_,SqL.of hll,_,by rw [Int.zero_add];exact kP (by rw [List.getElem?_map,ha];rfl),?_⟩
   k_mem
   refine ⟨_,hrow,_,rfl,?_⟩
   k_mem
   split
   ·rename_i hm
    have hm':(lds[i]'(by omega)).1="men":=hm
    rw [E6 hk hw hm' (by omega),if_pos rfl] at q
    k_upd
    exact ⟨_,SqL.of hp,_,rfl,q⟩
   ·rename_i hm
    exact no (by rw [decide_eq_false hm];rfl)
  ·rename_i h10
   exact no (by rw [decide_eq_false (p:=ws.getD i 0=10\/ws.getD i 0=11) (by omega),Bool.and_false])
 ·rintro σ H' ⟨rfl,⟨t,rfl⟩,hj⟩
  k_mem
  rw [Cj hj (.inr (by omega)),if_neg Bool.false_ne_true] at q
  k_upd
  exact ⟨_,SqL.of hp,_,rfl,q⟩
variable (CV:KD P w K mg base CX0 1 "_law_speed" (ua K Z))
theorem K2 (ls:List Cd):c9 (ls.map fun _=>false)=[]:=by
 unfold c9 kT
 rw [List.filter_eq_nil_iff.mpr]
 ·rfl
 ·intro j _
  rw [QH]
  exact Bool.false_ne_true
inductive ub (K:WA)(Z:Adr)(vs:List V)(H:Hp)(Q:VK)(E:XK):Prop | mk (p dl cl ll:Addr) (ds:List Int) (ls:List Cd) (slow fast:Int) (lds:List Ld) (N0:Addr->Prop):vs=[.ref p]->eI K H p dl cl ll (ij ds ls slow fast lds N0) lds->2<=ds.length->ds.length<=6->lds.length<=30->(∀a H',av H H'->iu K H' a (iV ds ls lds,0)->Q (.ref a) H')->ub K Z vs H Q E
include T in
theorem IM:FF P w K mg base CX0 1 "_law_first" "_law_first" xg CC (ub K Z):=fk0 tM fun vs H Q E h=>by
 obtain ⟨p,dl,cl,ll,ds,ls,slow,fast,lds,N0,rfl,hP,l2,l6,h30,q⟩:=h
 k_all
 refine @seg _ _ _ 2 _ (@ah _ _ _ (aA (aK (dY (ao ax (ao ax (pv' 0) af) af) (dY (aT MV (aK (pa1 iS)) (pv' 1)) (pa4 (pv' 2) (aK (pa4 aB eV eV eV)) (aK il) af)))))) fun zt2 zh2 ze2=>?_
 refine @seg _ _ _ 1 _ (@ae _ _ _ _ _ (@aG _ _ 2 _ _ _ _ tM.nd rfl orL (bg pF (by rfl) T.vn pz (pa1 (kh ["_law_one"] [none] (cJ (ao ax (pv' 0) af)) (fun _ _ _ _=>(aE (i:=0) (show (["_law_one"]:List Str).Nodup by decide +kernel) rfl orL)) (fun _ _ _ _=>gf) (fun _ _ _ _=>(ao (show IxR _ (xH K) from aq) (pv' 0) af))))) (by rfl) hfA) zh2) fun zt1 zh1 ze1=>?_
 refine ⟨_,@ae _ _ _ _ _ (@aG _ _ 1 _ _ _ _ tM.nd rfl orL (aF az (by rfl) T.bY bu (pa1 (ao ax (pv' 0) af))) (by rfl) hfA) zh1,?_⟩
 obtain ⟨hp,hdl,_,⟨bs,hll,hT2⟩,_⟩:=id hP
 replace hdl:H dl=some (HO.lst (ds.map V.int)):=hdl
 replace hp:H p=some (HO.lst [V.ref dl,V.ref cl,V.int slow,V.int fast,V.ref ll]):=hp
 have hbl:=hT2.1
 k_mem
 refine ⟨_,SqL.of hp,_,rfl,?_⟩
 k_mem
 refine ⟨_,.inl (SqL.of hdl),?_⟩
 rw [WB]
 k_upd
 refine ⟨_,SqL.of hp,_,rfl,?_⟩
 k_mem
 refine ⟨⟨_,SqL.of hll⟩,?_⟩
 refine NY (fun x=>.int x.2.1) ⟨bs,SqL.of hll,hT2⟩ (by rw [sizeLine_eq];omega) rfl (fun b x hb N hN=>by k_mem;exact ⟨_,hb,_,rfl,hN⟩) fun l1 hl1=>?_
 have s1:=(av.refl H).lay (o:=HO.lst (lds.map fun x=>V.int x.2.1)) hl1
 k_mem
 refine ⟨_,.inl ⟨SqL.of ag,fun lt hlt=>?_⟩⟩
 have s2:=s1.lay (o:=HO.tup (lds.map fun x=>V.int x.2.1)) hlt
 have ht2:upd (upd H l1 (HO.lst (lds.map fun x=>V.int x.2.1))) lt (HO.tup (lds.map fun x=>V.int x.2.1)) lt=some (HO.tup ((lds.map (·.2.1)).map V.int)):=by rw [ag,List.map_map];rfl
 generalize upd (upd H l1 (HO.lst (lds.map fun x=>V.int x.2.1))) lt (HO.tup (lds.map fun x=>V.int x.2.1))=H2 at *
 k_upd
 refine ⟨_,SqL.of (s2 _ _ hp),_,rfl,?_⟩
 k_mem
 refine ⟨_,SqL.of (s2 _ _ hdl),_,dZ (k:=0) (by omega) (by omega),by decide,fun p1 hp1=>⟨_,SqT.of ag,by omega,by omega,fun gt hgt=>⟨by decide,fun ht hht=>⟨by decide,fun dt hdt=>⟨by decide,fun a ha=>?_⟩⟩⟩⟩⟩
 have eg:List.replicate ((ds.length:Nat):Int).toNat (V.bl false)=(ds.map fun _=>false).map V.bl:=by
  rw [List.map_map,Int.toNat_natCast]
  exact (List.map_const' (l:=ds) (b:=V.bl false)).symm
 refine q a _ (((((s2.lay hp1).lay hgt).lay hht).lay hdt).lay ha) ⟨gt,lt,ht,dt,SqT.of ag,SqT.of ?_,upo (upo (upo (upo (upo ht2 hp1) hgt) hht) hdt) ha,SqT.of (upo (upo ag hdt) ha),SqT.of ?_⟩
 ·rw [upo (upo (upo ag hht) hdt) ha,eg];rfl
 ·rw [upo ag ha]
  show _=some (HO.tup ((c9 (ls.map fun _=>false)).map V.int))
  rw [K2];rfl
variable (rj:KD P w K mg base CX0 1 "_law_first" (ub K Z))
inductive uc (K:WA)(Z:Adr)(vs:List V)(H:Hp)(Q:VK)(E:XK):Prop | mk (ht dd:Addr) (g:Cfg) (n:aS) (d:Dd):vs=[.ref ht,.ref dd]->SqT K H ht (kS n.e)->SqT K H dd (ddV d)->eU g n d=none->(∀h H',av H H'->SqT K H' h (kS (zl g n d))->Q (.ref h) H')->uc K Z vs H Q E
include T in
theorem IP:FF P w K mg base CX0 1 "_law_heard" "_law_heard" xh CD (uc K Z):=fk0 zX fun vs H Q E h=>by
 obtain ⟨ht,dd,g,n,d,rfl,hH,hD,hr,q⟩:=h
 k_all
 refine @seg _ _ _ 3 _ (@ah _ _ _ (aA (pv' 0))) fun zt3 zh3 ze3=>?_
 refine @seg _ _ _ 2 _ (@ae _ _ _ _ _ (aQ (bV (ao aq (pv' 1) af) aB) (@ah _ _ _ (aA (aK (pa4 aB (ao aq (pv' 0) af) (ao aq (pv' 0) af) (ao aq (pv' 0) af))))) (aC)) zh3) fun zt2 zh2 ze2=>?_
 refine @seg _ _ _ 1 _ (@ae _ _ _ _ _ (aQ (bV (ao aq (pv' 1) af) aB) (@ae _ _ _ _ _ (@aG _ _ 2 _ _ _ _ zX.nd rfl orL (ao ax (bh (pa2 aB aB)) (bg dS (by rfl) T.oO iq (pa1 (dF jj (ao aq (pv' 1) af) (ao aq (pv' 0) af) (cE _))))) (by rfl) hfA) (@ah _ _ _ (aA (aK (pa4 (pv' 2) (ao aq (pv' 0) af) (ao aq (pv' 0) af) (ao aq (pv' 1) af)))))) (aC)) zh2) fun zt1 zh1 ze1=>?_
 refine ⟨_,@ae _ _ _ _ _ (aQ (bV (ao aq (pv' 1) af) aB) (@ah _ _ _ (aA (aK (pa4 aB (ao aq (pv' 1) af) (ao aq (pv' 1) af) eV)))) (aC)) zh1,?_⟩
 have q0:zl g n d=n.e->Q (.ref ht) H:=fun e=>q ht H (av.refl H) (by rw [e];exact hH)
 cases d with
 | ring l s=>
  k_mem
  refine ⟨_,hD,_,rfl,?_⟩
  k_mem
  rw [if_pos rfl]
  k_upd
  refine ⟨_,hD,_,rfl,_,hD,_,rfl,by decide,fun p hp=>?_⟩
  k_upd
  exact q p _ ((av.refl H).lay hp) (SqT.of ag)
 | rept s=>
  obtain ⟨l,r,e,_⟩:=Fb hr
  have ee:zl g n (.rept s)=if s=r then .armed l r else .other l r s:=by simp only [zl,e]
  rw [e] at hH
  rw [ee] at q
  k_mem
  refine ⟨_,hD,_,rfl,?_⟩
  k_mem
  rw [if_neg (by decide)]
  k_upd
  refine ⟨_,hD,_,rfl,?_⟩
  k_mem
  rw [if_pos rfl]
  k_upd
  refine ⟨by decide,fun p1 hp1=>⟨_,((av.refl H).lay hp1).tup hD,_,rfl,_,((av.refl H).lay hp1).tup hH,_,rfl,?_⟩⟩
  k_mem
  have s1:=(av.refl H).lay (o:=HO.lst [V.str (Str.ofString "repeated otherwise"),V.str (Str.ofString "armed")]) hp1
  k_upd
  refine ⟨_,SqL.of ag,.str (if s=r then "armed" else "repeated otherwise"),?_,_,s1.tup hH,_,rfl,_,s1.tup hH,_,rfl,_,s1.tup hD,_,rfl,by decide,fun p hp=>?_⟩
  ·by_cases h:s=r
   ·simp only [h,decide_true,if_true];rfl
   ·simp only [h,decide_false,if_false,Bool.false_eq_true];rfl
  ·refine q p _ (s1.lay hp) (SqT.of ?_)
   rw [ag]
   by_cases h:s=r
   ·subst h;simp only [if_true];rfl
   ·rw [if_neg h,if_neg h];rfl
 | wind c l k=>
  obtain ⟨_,_,e⟩:=uC hr
  rw [e] at hH
  k_mem
  refine ⟨_,hD,_,rfl,?_⟩
  k_mem
  rw [if_neg (by decide)]
  k_upd
  refine ⟨_,hD,_,rfl,?_⟩
  k_mem
  rw [if_neg (by decide)]
  k_upd
  refine ⟨_,hD,_,rfl,?_⟩
  k_mem
  rw [if_pos rfl]
  k_upd
  refine ⟨_,hH,_,rfl,_,hH,_,rfl,_,hH,_,rfl,by decide,fun p hp=>?_⟩
  k_upd
  exact q p _ ((av.refl H).lay hp) (SqT.of ag)
 | _=>
  k_mem
  refine ⟨_,hD,_,rfl,?_⟩
  k_mem
  rw [if_neg (by decide)]
  k_upd
  refine ⟨_,hD,_,rfl,?_⟩
  k_mem
  rw [if_neg (by decide)]
  k_upd
  refine ⟨_,hD,_,rfl,?_⟩
  k_mem
  rw [if_neg (by decide)]
  k_upd
  exact q0 rfl
variable (CW:KD P w K mg base CX0 1 "_law_heard" (uc K Z))
inductive Qd where | dd (d:Dd) | lvl (l:Int) | tick (t:Int) | few (k:Int)
noncomputable def qdV:Qd->List V
 | .dd d=>ddV d
 | .lvl l=>[.str "at",.int l]
 | .tick t=>[.str "cages",.int t]
 | .few k=>[.str "fewest",.int k]
noncomputable def qOk:Qd->Prop
 | .dd d=>A4 d
 | _=>True
noncomputable def Rl:Rw->Nat
 | .lv=>0
 | .nc=>1
 | .db=>2
 | .ch=>3
 | .nr=>4
 | .ul=>5
 | .nt=>6
 | .ce=>7
 | _=>9
noncomputable def BE (g:Cfg)(n:aS)(now:Int):Qd->Nat->Prop
 | .dd d,i=>∃r,eU g n d=some r/\i=Rl r
 | .lvl l,i=>¬(0<=l/\l < g.ds.length)/\i=0
 | .tick t,i=>¬(0<=t/\t<=now)/\i=8
 | .few k,i=>¬(0<=k/\k < (g.ks.length:Nat))/\i=5
def dW (K:WA)(H:Hp)(as:List Addr)(xs:List (Nat×Qd)):Prop:=dP (fun a x=>∃b,H a=some (.tup [.int (x.1:Int),.ref b])/\SqT K H b (qdV x.2)) as xs
def ow (g:Cfg)(n:aS)(t:Int)(xs:List (Nat×Qd)):Prop:=∀x∈xs,qOk x.2/\BE g n t x.2 x.1/\x.1 < 9
theorem dW.same {K:WA}{H H':Hp}{as:List Addr}{xs:List (Nat×Qd)}(h:dW K H as xs)(s:av H H'):dW K H' as xs:=h.imp fun a x ⟨b,e,z⟩=>⟨b,s _ _ e,s.tup z⟩
theorem dW.add {K:WA}{H:Hp}{a b:Addr}{as:List Addr}{xs:List (Nat×Qd)}{i:Nat}{d:Qd}(L:dW K H as xs)(ea:H a=some (.tup [.int (i:Int),.ref b]))(eb:SqT K H b (qdV d)):dW K H (as++[a]) (xs++[(i,d)]):=dP.push L ⟨b,ea,eb⟩
theorem ow.add {g:Cfg}{n:aS}{t:Int}{xs:List (Nat×Qd)}{i:Nat}{d:Qd}(h:ow g n t xs)(h1:qOk d)(h2:BE g n t d i)(h3:i < 9):ow g n t (xs++[(i,d)]):=fun x hx=>by
 rcases List.mem_append.mp hx with hx | hx
 ·exact h x hx
 ·rw [List.mem_singleton.mp hx];exact ⟨h1,h2,h3⟩
theorem dW.push {K:WA}{H H':Hp}{p a b:Addr}{as:List Addr}{xs:List (Nat×Qd)}{i:Nat}{d:Qd}(L:dW K H as xs)(s:av H H')(e:H p=some (.lst (as.map V.ref)))(ea:H' a=some (.tup [.int (i:Int),.ref b]))(eb:SqT K H' b (qdV d)):dW K (upd H' p (.lst (as.map V.ref++[.ref a]))) (as++[a]) (xs++[(i,d)]):=by
 have e':=s _ _ e
 have tn:∀{c:Addr} {ys:List V},H' c=some (.tup ys)->c≠p:=fun h z=>by rw [z,e'] at h;cases h
 exact dP.push ((L.same s).imp fun a x ⟨b,h,z⟩=>⟨b,by rw [aN (tn h)];exact h,z.rew e'⟩) ⟨b,by rw [aN (tn ea)];exact ea,eb.rew e'⟩
theorem GB {K:WA}{H H':Hp}{p q1 q2 q3:Addr}{as:List Addr}{xs:List (Nat×Qd)}{i:Nat}{d:Qd}{o1:HO}(L:dW K H as xs)(e:H p=some (.lst (as.map V.ref)))(h1:H q1=none)(h2:upd H q1 o1 q2=none)(h3:upd (upd H q1 o1) q2 (.tup (qdV d)) q3=none)(hE:upd (upd (upd (upd H q1 o1) q2 (.tup (qdV d))) q3 (.tup [.int (i:Int),.ref q2])) p (.lst (as.map V.ref++[.ref q3]))=H'):dW K H' (as++[q3]) (xs++[(i,d)])/\H' p=some (.lst ((as++[q3]).map V.ref))/\∀B,av B H->B p=none->av B H':=by
 have s:=(((av.refl H).lay (o:=o1) h1).lay (o:=.tup (qdV d)) h2).lay (o:=.tup [.int (i:Int),.ref q2]) h3
 rw [←hE]
 exact ⟨L.push s e ag (SqT.of (upo ag h3)),by rw [ag,List.map_append];rfl,fun B sB hB=>(sB.trans s).rewr hB⟩
theorem CY {K:WA}{H H':Hp}{p q2 q3:Addr}{as:List Addr}{xs:List (Nat×Qd)}{i:Nat}{d:Qd}(L:dW K H as xs)(e:H p=some (.lst (as.map V.ref)))(h2:H q2=none)(h3:upd H q2 (.tup (qdV d)) q3=none)(hE:upd (upd (upd H q2 (.tup (qdV d))) q3 (.tup [.int (i:Int),.ref q2])) p (.lst (as.map V.ref++[.ref q3]))=H'):dW K H' (as++[q3]) (xs++[(i,d)])/\H' p=some (.lst ((as++[q3]).map V.ref))/\∀B,av B H->B p=none->av B H':=by
 have s:=((av.refl H).lay (o:=.tup (qdV d)) h2).lay (o:=.tup [.int (i:Int),.ref q2]) h3
 rw [←hE]
 exact ⟨L.push s e ag (SqT.of (upo ag h3)),by rw [ag,List.map_append];rfl,fun B sB hB=>(sB.trans s).rewr hB⟩
theorem GC {K:WA}{H H':Hp}{p q1 q2 q3 q4:Addr}{as:List Addr}{xs:List (Nat×Qd)}{i:Nat}{d1 d2:Qd}{b:Bool}{o:HO}(L:dW K H as xs)(e:H p=some (.lst (as.map V.ref)))(h1:H q1=none)(h2:upd H q1 (.tup (qdV d1)) q2=none)(h3:upd (upd H q1 (.tup (qdV d1))) q2 (.tup (qdV d2)) q3=none)(h4:upd (upd (upd H q1 (.tup (qdV d1))) q2 (.tup (qdV d2))) q3 o q4=none)(hE:upd (upd (upd (upd (upd H q1 (.tup (qdV d1))) q2 (.tup (qdV d2))) q3 o) q4 (.tup [.int (i:Int),.ref (if b=true then q2 else q1)])) p (.lst (as.map V.ref++[.ref q4]))=H'):dW K H' (as++[q4]) (xs++[(i,if b=true then d2 else d1)])/\H' p=some (.lst ((as++[q4]).map V.ref))/\∀B,av B H->B p=none->av B H':=by
 have s:=((((av.refl H).lay (o:=.tup (qdV d1)) h1).lay (o:=.tup (qdV d2)) h2).lay (o:=o) h3).lay (o:=.tup [.int (i:Int),.ref (if b=true then q2 else q1)]) h4
 rw [←hE]
 refine ⟨L.push s e ag ?_,by rw [ag,List.map_append];rfl,fun B sB hB=>(sB.trans s).rewr hB⟩
 cases b
 ·exact SqT.of (upo (upo (upo ag h2) h3) h4)
 ·exact SqT.of (upo (upo ag h3) h4)
theorem two39 {b:Bool}{q1 q2:Addr}:atI [V.ref q1,V.ref q2] (if b=true then 1 else 0)=some (.ref (if b=true then q2 else q1)):=by cases b<;>rfl
structure eZ (K:WA)(H0 H:Hp)(p:Addr)(as:List Addr)(xs:List (Nat×Qd))(g:Cfg)(n:aS)(t:Int):Prop where
 fr:H0 p=none
 sa:av H0 H
 ob:H p=some (.lst (as.map V.ref))
 ba:dW K H as xs
 go:ow g n t xs
theorem CZ (xs:List Int):(xs.map V.int).all bU=true:=by simp [List.all_map,bU]
theorem twoI39 {b:Bool}{x y:Nat}:atI [V.int (y:Int),V.int (x:Int)] (if b=true then 1 else 0)=some (.int ((if b=true then x else y:Nat):Int)):=by cases b<;>rfl
theorem Sk {g:Cfg}{n:aS}(h:n.fs.length=g.ds.length)(i:Nat)(hi:i < g.ds.length):inV (V.int (i:Int)) ((c9 n.fs).map V.int)=n.fs.getD i false:=by
 rw [ki,Bool.eq_iff_iff,decide_eq_true_eq,i9]
 exact ⟨fun z=>z.2.2,fun z=>⟨by omega,by omega,z⟩⟩
inductive jO (K:WA)(Z:Adr)(vs:List V)(H:Hp)(Q:VK)(E:XK):Prop | mk (p dl cl ll a:Addr) (g:Cfg) (lds:List Ld) (n:aS) (t:Int):vs=[.ref p,.ref a]->eI K H p dl cl ll g lds->eA g->cQ g n->iu K H a (n,t)->(∀(q:Addr) (as:List Addr) (xs:List (Nat×Qd)) (H':Hp),av H H'->H' q=some (.lst (as.map V.ref))->dW K H' as xs->xs.length<=1000->ow g n t xs->Q (.ref q) H')->jO K Z vs H Q E
include T in
theorem Ar:FF P w K mg base CX0 1 "_law_bad_bells" "_law_bad_bells" lF sg (jO K Z):=fk0 cF fun vs H Q E h=>by
 obtain ⟨p,dl,cl,ll,a,g,lds,n,t,rfl,hP,hg,hn,hSt,q⟩:=h
 k_all
 refine @seg _ _ _ 4 _ (@ah _ _ _ (aA (pv' 2))) fun zt4 zh4 ze4=>?_
 refine @seg _ _ _ 3 _ (@ae _ _ _ _ _ (cH PassesOwn.never rfl (cJ (ao ax (bh (pa2 (bh (pa4 af af (fB cN af) (aT DG af af))) (bg (A1 rfl) (by rfl) T.eO dG (pa1 (bg EX (by rfl) T.cB LN (pa1 af)))))) (bg dS (by rfl) T.oO iq (pa1 (dF MS (ao aq (ao aq (pv' 1) af) af) aB (cE _)))))) (aE (i:=5) cF.nd rfl orL) (@ah _ _ _ (@bb _ _ _ _ (kg PySem.F.plainAttrs_list PySem.F.slot_list_append PySem.F.type_list_append cK (pv' 2) (pa1 (aK (pa2 (ao ax (bh (pa2 af af)) (bg dS (by rfl) T.oO iq (pa1 (dF MS (ao aq (ao aq (pv' 1) af) af) aB (cE _))))) (aK (pa2 aB (pv' 5))))))) (by rfl)))) zh4) fun zt3 zh3 ze3=>?_
 refine @seg _ _ _ 2 _ (@ae _ _ _ _ _ (cH PassesOwn.never rfl (bA (by rfl) T.cB (pa1 (aF az (by rfl) T.bY bu (pa1 (ao ax (pv' 0) af))))) (aE (i:=4) cF.nd rfl (Or.inr rfl)) (@ae _ _ _ _ _ (cH PassesOwn.never rfl (cJ (kh ["_law_k","_law_setup_here","_law_level"] [none,some 0,some 4] (tj (by rfl) T.cB (pa2 (fB cN af) af)) (fun _ _ _ _=>(aE (i:=0) (show (["_law_k","_law_setup_here","_law_level"]:List Str).Nodup by decide +kernel) rfl orL)) (fun _ _ _ _=>(mX (dQ (show OpR _ _ (Fm K true) from fC) (pv' 0) (ao (show IxR _ (Cp K) from ax) (ao (show IxR _ (Cp K) from ax) (pv' 1) af) (pv' 2)) (by rfl)))) (fun _ _ _ _=>(pv' 0)))) (aE (i:=5) cF.nd rfl orL) (@ah _ _ _ (@bb _ _ _ _ (kg PySem.F.plainAttrs_list PySem.F.slot_list_append PySem.F.type_list_append cK (pv' 2) (pa1 (aK (pa2 (ao ax (bh (pa2 af af)) (bg dS (by rfl) T.oO iq (pa1 (dF gK (pv' 4) (ao aq (pv' 1) af) (by rfl))))) (aK (pa3 aB (pv' 4) (pv' 5))))))) (by rfl)))) (@ae _ _ _ _ _ (aQ (dQ gK (pv' 4) (ao aq (pv' 1) af) (by rfl)) (@ah _ _ _ (@aG _ _ 2 _ _ _ _ cF.nd rfl orL (aT gp (pv' 2) (bh (pa2 (aK (pa2 af (aK (pa3 aB (pv' 4) (ao aq (ao ax (ao ax (pv' 0) af) (pv' 4)) af))))) (aK (pa2 af (aK (pa2 aB (pv' 4)))))))) (by rfl) hfA)) (aC)) (@ah _ _ _ (@bb _ _ _ _ (kg PySem.F.plainAttrs_list PySem.F.slot_list_append PySem.F.type_list_append cK (pv' 2) (pa1 (aK (pa2 af (ao ax (bh (pa2 (aK (pa2 aB (pv' 4))) (aK (pa2 aB (pv' 4))))) (bg dS (by rfl) T.oO iq (pa1 (ao aq (ao aq (pv' 1) af) (pv' 4))))))))) (by rfl)))))) zh3) fun zt2 zh2 ze2=>?_
 refine @seg _ _ _ 1 _ (@ae _ _ _ _ _ (cH PassesOwn.never rfl (cJ (bh (pa3 (fB cN af) (aF az (by rfl) T.bY bu (pa1 (ao ax (pv' 0) af))) (aT DG af af)))) (aE (i:=3) cF.nd rfl orL) (@ae _ _ _ _ _ (@aG _ _ 2 _ _ _ _ cF.nd rfl orL (aT gp (pv' 2) (bh (pa3 (aK (pa2 af (aK (pa3 aB (pv' 3) af)))) (aK (pa2 af (aK (pa2 aB (pv' 3))))) (aK (pa2 af (aK (pa2 aB (pv' 3)))))))) (by rfl) hfA) (@ah _ _ _ (@aG _ _ 2 _ _ _ _ cF.nd rfl orL (aT gp (pv' 2) (bh (pa3 (aK (pa2 af (aK (pa2 aB (pv' 3))))) (aK (pa2 af (aK (pa4 aB af (pv' 3) aB)))) (aK (pa2 af (aK (pa2 aB (pv' 3)))))))) (by rfl) hfA)))) zh2) fun zt1 zh1 ze1=>?_
 refine ⟨_,@ae _ _ _ _ _ (@aG _ _ 2 _ _ _ _ cF.nd rfl orL (bh il) (by rfl) hfA) zh1,?_⟩
 have l2:=hg.sh.l2
 have l6:=hg.sh.l6
 have lc:=hg.lc
 obtain ⟨hp,hdl,⟨as0,hcl,hT⟩,_,_⟩:=id hP
 obtain ⟨gt,lt,ht,dt,hs0,hs1,hs2,hs3,hs4⟩:=id hSt
 have hs0:SqT K H a [.int n.place,.ref gt,.ref lt,.ref ht,.ref dt,.int t]:=hs0
 have hs1:SqT K H gt (n.gates.map V.bl):=hs1
 have hs3:SqT K H ht (kS n.e):=hs3
 have hs4:SqT K H dt ((c9 n.fs).map V.int):=hs4
 have hed:=Sk hn.fl
 have gl:=hn.gl
 k_mem
 refine ⟨by decide,fun m hm=>?_⟩
 (generalize hE:upd H m _=H1 at *;have s1:=bS hE hm;have em:=aY hE;clear hE)
 have hm1:eZ K H H1 m [] [] g n t:=⟨hm,s1,em,dP.nil,fun x hx=>by cases hx⟩
 k_mem
 refine ⟨_,SqL.of (s1 _ _ hp),_,rfl,?_⟩
 k_upd
 refine ⟨_,.inl (SqL.of (s1 _ _ hdl)),⟨by decide,by decide,by decide⟩,by decide,fun f hf=>?_⟩
 (generalize hE:upd H1 f _=H2 at *;have s2:=bS hE hf;have ef:=aY hE;clear hE)
 have hm2:eZ K H H2 m [] [] g n t:=⟨hm,s1.trans s2,s2 _ _ em,dP.nil,fun x hx=>by cases hx⟩
 k_upd
 refine ⟨⟨_,SqL.of ef⟩,?_⟩
 rw [WB] at ef
 k_upd
 refine en _ (fun i σ H'=>av H2 H'/\∃(m:Addr) (as:List Addr) (xs:List (Nat×Qd)) (t3:Option V),σ=[some (.ref p),some (.ref a),some (.ref m),t3,none,none]/\eZ K H H' m as xs g n t/\xs.length<=6 * i) ⟨av.refl _,m,[],[],_,rfl,hm2,Nat.le_refl _⟩ (fun i σ H' _ h=>SqL.of (h.1 _ _ ef)) ?_ ?_
 ·rintro i x σ H3 hx ⟨s3,m,as,xs,t3,rfl,hM,hl⟩
  have hi:i < 3:=(List.getElem?_eq_some_iff.mp hx).1
  obtain ⟨far,rfl,hfar⟩:∃far,x=.int far/\¬(0<=far/\far < (g.ds.length:Nat)):=by
   rcases (by omega:i=0\/i=1\/i=2) with rfl | rfl | rfl<;>cases hx
   ·k_upd
    exact ⟨_,rfl,by omega⟩
   ·k_upd
    exact ⟨_,rfl,by omega⟩
   ·k_upd
    exact ⟨_,rfl,by omega⟩
  clear hx
  have asl:=hM.ba.1
  k_mem
  refine ⟨by decide,fun b1 hb1=>?_⟩
  (generalize hE:upd H3 b1 _=B1 at *;have tb1:=bS hE hb1;have gb1:=aY hE;clear hE)
  k_upd
  refine ⟨by decide,fun b2 hb2=>?_⟩
  (generalize hE:upd B1 b2 _=B2 at *;have tb2:=bS hE hb2;have gb2:=aY hE;clear hE)
  k_upd
  refine ⟨by decide,fun b3 hb3=>?_⟩
  (generalize hE:upd B2 b3 _=B3 at *;have tb3:=bS hE hb3;have gb3:=aY hE;clear hE)
  k_upd
  refine ⟨by decide,fun b4 hb4=>?_⟩
  (generalize hE:upd B3 b4 _=B4 at *;have tb4:=bS hE hb4;have gb4:=aY hE;clear hE)
  k_upd
  refine ⟨by decide,fun b5 hb5=>?_⟩
  (generalize hE:upd B4 b5 _=B5 at *;have tb5:=bS hE hb5;have gb5:=aY hE;clear hE)
  k_upd
  refine ⟨by decide,fun b6 hb6=>?_⟩
  (generalize hE:upd B5 b6 _=B6 at *;have tb6:=bS hE hb6;have gb6:=aY hE;clear hE)
  k_upd
  refine ⟨by decide,fun b7 hb7=>?_⟩
  (generalize hE:upd B6 b7 _=B7 at *;have tb7:=bS hE hb7;have gb7:=aY hE;clear hE)
  have Tb:=((((((tb1.trans tb2).trans tb3).trans tb4).trans tb5).trans tb6).trans tb7)
  k_upd
  refine ⟨_,Tb _ _ hM.ob,_,gb7,by rw [sizeLine_eq];simp;omega,fun m2 nm2=>?_⟩
  have fm2:=(hM.sa.trans Tb).free nm2
  (generalize hE:upd B7 m2 _=H4 at *;have tm2:=bS hE nm2;have em2:=aY hE;clear hE)
  have hm2:eZ K H H4 m2 _ _ g n t:=⟨fm2,(hM.sa.trans Tb).trans tm2,by rw [em2];simp only [List.map_append];simp,((((hM.ba.same (Tb.trans tm2)).add (i:=0) (d:=.dd (.ring far 1)) ((((((tb3.trans tb4).trans tb5).trans tb6).trans tb7).trans tm2) _ _ gb2) (SqT.of (((((((tb2.trans tb3).trans tb4).trans tb5).trans tb6).trans tb7).trans tm2) _ _ gb1))).add (i:=0) (d:=.dd (.opn far)) ((((tb5.trans tb6).trans tb7).trans tm2) _ _ gb4) (SqT.of (((((tb4.trans tb5).trans tb6).trans tb7).trans tm2) _ _ gb3))).add (i:=0) (d:=.dd (.sht far)) ((tb7.trans tm2) _ _ gb6) (SqT.of (((tb6.trans tb7).trans tm2) _ _ gb5))),(((hM.go.add (i:=0) (d:=.dd (.ring far 1)) trivial ⟨.lv,if_pos hfar,rfl⟩ (by decide)).add (i:=0) (d:=.dd (.opn far)) trivial ⟨.lv,if_pos hfar,rfl⟩ (by decide)).add (i:=0) (d:=.dd (.sht far)) trivial ⟨.lv,if_pos hfar,rfl⟩ (by decide))⟩
  have sm2:=Tb.trans tm2
  k_mem
  refine ⟨by decide,fun d1 hd1=>?_⟩
  (generalize hE:upd H4 d1 _=D1 at *;have td1:=bS hE hd1;have gd1:=aY hE;clear hE)
  k_upd
  refine ⟨by decide,fun d2 hd2=>?_⟩
  (generalize hE:upd D1 d2 _=D2 at *;have td2:=bS hE hd2;have gd2:=aY hE;clear hE)
  k_upd
  refine ⟨by decide,fun d3 hd3=>?_⟩
  (generalize hE:upd D2 d3 _=D3 at *;have td3:=bS hE hd3;have gd3:=aY hE;clear hE)
  k_upd
  refine ⟨by decide,fun d4 hd4=>?_⟩
  (generalize hE:upd D3 d4 _=D4 at *;have td4:=bS hE hd4;have gd4:=aY hE;clear hE)
  k_upd
  refine ⟨by decide,fun d5 hd5=>?_⟩
  (generalize hE:upd D4 d5 _=D5 at *;have td5:=bS hE hd5;have gd5:=aY hE;clear hE)
  k_upd
  refine ⟨by decide,fun d6 hd6=>?_⟩
  (generalize hE:upd D5 d6 _=D6 at *;have td6:=bS hE hd6;have gd6:=aY hE;clear hE)
  k_upd
  refine ⟨by decide,fun d7 hd7=>?_⟩
  (generalize hE:upd D6 d7 _=D7 at *;have td7:=bS hE hd7;have gd7:=aY hE;clear hE)
  have Td:=((((((td1.trans td2).trans td3).trans td4).trans td5).trans td6).trans td7)
  k_upd
  refine ⟨_,Td _ _ hm2.ob,_,gd7,by rw [sizeLine_eq];simp;omega,fun m3 nm3=>?_⟩
  have fm3:=(hm2.sa.trans Td).free nm3
  (generalize hE:upd D7 m3 _=H5 at *;have tm3:=bS hE nm3;have em3:=aY hE;clear hE)
  have hm3:eZ K H H5 m3 _ _ g n t:=⟨fm3,(hm2.sa.trans Td).trans tm3,by rw [em3];simp only [List.map_append];simp,((((hm2.ba.same (Td.trans tm3)).add (i:=0) (d:=.dd (.fail far)) ((((((td3.trans td4).trans td5).trans td6).trans td7).trans tm3) _ _ gd2) (SqT.of (((((((td2.trans td3).trans td4).trans td5).trans td6).trans td7).trans tm3) _ _ gd1))).add (i:=0) (d:=.dd (.wind 0 far "men")) ((((td5.trans td6).trans td7).trans tm3) _ _ gd4) (SqT.of (((((td4.trans td5).trans td6).trans td7).trans tm3) _ _ gd3))).add (i:=0) (d:=.lvl far) ((td7.trans tm3) _ _ gd6) (SqT.of (((td6.trans td7).trans tm3) _ _ gd5))),(((hm2.go.add (i:=0) (d:=.dd (.fail far)) trivial ⟨.lv,if_pos hfar,rfl⟩ (by decide)).add (i:=0) (d:=.dd (.wind 0 far "men")) ⟨⟨by decide,by decide⟩,.inl rfl⟩ ⟨.lv,if_pos hfar,rfl⟩ (by decide)).add (i:=0) (d:=.lvl far) trivial ⟨hfar,rfl⟩ (by decide))⟩
  have sm3:=Td.trans tm3
  k_mem
  exact ⟨(s3.trans sm2).trans sm3,m3,_,_,_,rfl,hm3,by simp;omega⟩
 ·rintro σ H3 ⟨s3,m,as,xs,t3,rfl,hM,hl⟩
  replace hl:xs.length<=18:=hl
  have s03:av H H3:=hM.sa
  clear ef s3 hm2 hm1 em s1 s2 hm
  have hp3:=s03 _ _ hp
  have hdl3:=s03 _ _ hdl
  k_mem
  refine ⟨_,SqL.of hp3,_,rfl,?_⟩
  k_upd
  refine ⟨_,.inl (SqL.of hdl3),by rw [WB];omega,by rw [WB];omega,?_⟩
  rw [WB,Int.toNat_natCast]
  k_upd
  refine cf (n:=g.ds.length) (fun i σ H'=>∃(m:Addr) (as:List Addr) (xs:List (Nat×Qd)) (t3 t4 t5:Option V),σ=[some (.ref p),some (.ref a),some (.ref m),t3,t4,t5]/\eZ K H H' m as xs g n t/\xs.length<=18+15 * i) ⟨m,as,xs,_,_,_,rfl,hM,hl⟩ ?_ ?_
  ·clear hM hl hp3 hdl3 s03
   rintro i σ H4 hi ⟨m,as,xs,t3,t4,t5,rfl,hM,hl⟩
   have s04:av H H4:=hM.sa
   have hp4:=s04 _ _ hp
   have hcl4:=s04 _ _ hcl
   have hx:g.ls[i]?=some (dI g.ls (i:Int)):=by unfold dI;rw [Int.toNat_natCast,List.getD_eq_getElem?_getD,List.getElem?_eq_getElem (by omega)];rfl
   obtain ⟨ca,hca⟩:∃ca,as0[i]?=some ca:=⟨_,List.getElem?_eq_getElem (by rw [hT.1];omega)⟩
   have hcd:=hT.2 _ _ _ hca hx
   k_mem
   refine ⟨⟨by decide,by decide,by decide,by decide⟩,?_⟩
   refine eL (n:=12) (fun j=>!inV (.int (-1+(j:Int))) (cdV (dI g.ls (i:Int)))) (fun (j:Nat)=>.int (-1+(j:Int))) (by decide) rfl (fun j hj N hN=>?_) (fun j hj _ N hN=>?_) fun kl hkl=>?_
   ·k_mem
    k_upd
    refine ⟨_,SqL.of hp4,_,rfl,_,SqL.of hcl4,_,by rw [Int.zero_add];exact kP (by rw [List.getElem?_map,hca];rfl),?_⟩
    k_upd
    refine ⟨_,.inr (s04.tup hcd),rfl,rfl,?_⟩
    exact hN
   ·k_mem
    exact hN
   obtain ⟨ks,eks,hks⟩:∃ks:List Int,((List.range 12).filter fun (j:Nat)=>!inV (.int (-1+(j:Int))) (cdV (dI g.ls (i:Int)))).map (fun (j:Nat)=>V.int (-1+(j:Int)))=ks.map V.int/\ks.length<=12/\∀s∈ks,¬(s=(dI g.ls (i:Int)).1\/s=(dI g.ls (i:Int)).2):=by
    refine ⟨((List.range 12).filter fun (j:Nat)=>!inV (.int (-1+(j:Int))) (cdV (dI g.ls (i:Int)))).map fun (j:Nat)=>-1+(j:Int),by rw [List.map_map];rfl,?_,fun s hs=>?_⟩
    ·rw [WB];exact Nat.le_trans (List.length_filter_le _ _) (by rw [List.length_range];exact Nat.le_refl _)
    ·obtain ⟨j,hj,rfl⟩:=List.mem_map.mp hs
     have h2:=(List.mem_filter.mp hj).2
     have h3:=ki (-1+(j:Int)) [(dI g.ls (i:Int)).1,(dI g.ls (i:Int)).2]
     have h2:(!inV (.int (-1+(j:Int))) (cdV (dI g.ls (i:Int))))=true:=h2
     rw [show cdV (dI g.ls (i:Int))=[(dI g.ls (i:Int)).1,(dI g.ls (i:Int)).2].map V.int from rfl,h3] at h2
     simpa using h2
   rw [eks]
   obtain ⟨hk12,hkc⟩:=hks
   clear eks
   (generalize hE:upd H4 kl _=H5 at *;have s5:=bS hE hkl;have ek:=aY hE;clear hE)
   have hM5:eZ K H H5 m as xs g n t:=⟨hM.fr,s04.trans s5,s5 _ _ hM.ob,hM.ba.same s5,hM.go⟩
   have nkm:kl≠m:=(ak hM.ob hkl).symm
   clear hM
   k_mem
   refine ⟨⟨_,SqL.of ek⟩,?_⟩
   k_upd
   refine en _ (fun j σ H'=>∃(as:List Addr) (xs:List (Nat×Qd)) (t5:Option V),σ=[some (.ref p),some (.ref a),some (.ref m),t3,some (.int (0+(i:Int))),t5]/\eZ K H H' m as xs g n t/\xs.length<=18+15 * i+j/\H' kl=some (.lst (ks.map V.int))) ⟨as,xs,_,rfl,hM5,by omega,ek⟩ (fun j σ H' _ ⟨_,_,_,_,_,_,h⟩=>SqL.of h) ?_ ?_
   ·clear hM5 ek
    rintro j x σ H6 hx ⟨as,xs,t5,rfl,hM,hl6,ek⟩
    have hj:=(List.getElem?_eq_some_iff.mp hx).1
    rw [WB] at hj
    rw [List.getElem?_map] at hx
    obtain ⟨s,es,rfl⟩:=Option.map_eq_some_iff.mp hx
    have hsc:=hkc s (List.mem_of_getElem? es)
    have s06:av H H6:=hM.sa
    k_mem
    refine ⟨.inl ⟨rfl,_,SqL.of hM.ob⟩,by decide,fun a1 h1=>?_⟩
    rw [Int.zero_add]
    k_upd
    refine ⟨_,(s06.lay h1).tup hs0,_,rfl,?_⟩
    k_upd
    refine ⟨_,.inr ((s06.lay h1).tup hs4),rfl,CZ _,?_⟩
    rw [hed i hi]
    have asl:=hM.ba.1
    k_upd
    refine ⟨_,SqL.of ag,_,twoI39 (x:=2) (y:=1),by decide,fun a2 h2=>⟨by decide,fun a3 h3=>⟨_,upo (upo (upo hM.ob h1) h2) h3,cu (by rw [WB];omega),?_⟩⟩⟩
    generalize hE:upd _ m _=H7
    obtain ⟨L7,e7,S7⟩:=GB (i:=if n.fs.getD i false=true then 2 else 1) (d:=.dd (.ring (i:Int) s)) hM.ba hM.ob h1 h2 h3 hE
    have hbad:BE g n t (.dd (.ring (i:Int) s)) (if n.fs.getD i false=true then 2 else 1):=by
     have hi0:(0:Int)<=(i:Int):=by omega
     have hi1:(i:Int) < (g.ds.length:Nat):=by omega
     cases hf:n.fs.getD i false with
     | true=>exact ⟨.db,(if_neg (fun z=>z ⟨hi0,hi1⟩)).trans (if_pos hf),rfl⟩
     | false=>exact ⟨.nc,(if_neg (fun z=>z ⟨hi0,hi1⟩)).trans ((if_neg (by rw [Int.toNat_natCast,hf];decide)).trans (if_neg hsc)),rfl⟩
    k_upd
    exact ⟨_,_,_,rfl,⟨hM.fr,S7 H s06 hM.fr,e7,L7,hM.go.add trivial hbad (by split<;>decide)⟩,by rw [List.length_append];show _+1<=_;omega,by rw [←hE,aN nkm];exact upo (upo (upo ek h1) h2) h3⟩
   ·clear hM5 ek
    rintro σ H6 ⟨as,xs,t5,rfl,hM,hl6,_⟩
    rw [WB] at hl6
    have s06:av H H6:=hM.sa
    have asl:=hM.ba.1
    have hi0:(0:Int)<=(i:Int):=by omega
    have hi1:(i:Int) < (g.ds.length:Nat):=by omega
    k_mem
    rw [Int.zero_add]
    k_upd
    refine ⟨_,s06.tup hs0,_,rfl,?_⟩
    k_upd
    refine ⟨_,.inr (s06.tup hs4),rfl,CZ _,?_⟩
    rw [hed i hi]
    by_cases hf:n.fs.getD i false=true
    ·rw [if_pos hf]
     k_upd
     refine ⟨_,SqL.of (s06 _ _ hp),_,rfl,?_⟩
     k_upd
     refine ⟨_,SqL.of (s06 _ _ hcl),_,kP (by rw [List.getElem?_map,hca];rfl),?_⟩
     k_upd
     refine ⟨_,s06.tup hcd,_,rfl,?_⟩
     k_upd
     refine ⟨by decide,fun b1 hb1=>?_⟩
     (generalize hE:upd H6 b1 _=B1 at *;have tb1:=bS hE hb1;have gb1:=aY hE;clear hE)
     k_upd
     refine ⟨by decide,fun b2 hb2=>?_⟩
     (generalize hE:upd B1 b2 _=B2 at *;have tb2:=bS hE hb2;have gb2:=aY hE;clear hE)
     k_upd
     refine ⟨by decide,fun b3 hb3=>?_⟩
     (generalize hE:upd B2 b3 _=B3 at *;have tb3:=bS hE hb3;have gb3:=aY hE;clear hE)
     k_upd
     refine ⟨by decide,fun b4 hb4=>?_⟩
     (generalize hE:upd B3 b4 _=B4 at *;have tb4:=bS hE hb4;have gb4:=aY hE;clear hE)
     k_upd
     refine ⟨by decide,fun b5 hb5=>?_⟩
     (generalize hE:upd B4 b5 _=B5 at *;have tb5:=bS hE hb5;have gb5:=aY hE;clear hE)
     have Tb:=((((tb1.trans tb2).trans tb3).trans tb4).trans tb5)
     k_upd
     refine ⟨_,Tb _ _ hM.ob,_,gb5,by rw [sizeLine_eq];simp;omega,fun m2 nm2=>?_⟩
     have fm2:=(hM.sa.trans Tb).free nm2
     (generalize hE:upd B5 m2 _=H7 at *;have tm2:=bS hE nm2;have em2:=aY hE;clear hE)
     have hm2:eZ K H H7 m2 _ _ g n t:=⟨fm2,(hM.sa.trans Tb).trans tm2,by rw [em2];simp only [List.map_append];simp,(((hM.ba.same (Tb.trans tm2)).add (i:=2) (d:=.dd (.ring (i:Int) (dI g.ls (i:Int)).1)) ((((tb3.trans tb4).trans tb5).trans tm2) _ _ gb2) (SqT.of (((((tb2.trans tb3).trans tb4).trans tb5).trans tm2) _ _ gb1))).add (i:=3) (d:=.dd (.fail (i:Int))) ((tb5.trans tm2) _ _ gb4) (SqT.of (((tb4.trans tb5).trans tm2) _ _ gb3))),((hM.go.add (i:=2) (d:=.dd (.ring (i:Int) (dI g.ls (i:Int)).1)) trivial ⟨.db,(if_neg (fun z=>z ⟨hi0,hi1⟩)).trans (if_pos hf),rfl⟩ (by decide)).add (i:=3) (d:=.dd (.fail (i:Int))) trivial ⟨.ch,(if_neg (fun z=>z ⟨hi0,hi1⟩)).trans (if_pos hf),rfl⟩ (by decide))⟩
     have sm2:=Tb.trans tm2
     have s07:av H H7:=hm2.sa
     have asl7:=hm2.ba.1
     have hl7:(xs++[(2,Qd.dd (.ring (i:Int) (dI g.ls (i:Int)).1))]++[(3,Qd.dd (.fail (i:Int)))]).length<=18+15 * i+14:=by first | omega | (simp;omega)
     k_mem
     refine ⟨.inl ⟨rfl,_,SqL.of hm2.ob⟩,by decide,fun a1 h1=>⟨by decide,fun a2 h2=>⟨by decide,fun a3 h3=>?_⟩⟩⟩
     k_upd
     refine ⟨_,(((s07.lay h1).lay h2).lay h3).tup hs0,_,rfl,?_⟩
     k_upd
     refine ⟨_,(((s07.lay h1).lay h2).lay h3).tup hs1,_,jf hi0 (by omega),?_⟩
     k_upd
     refine ⟨_,SqL.of ag,_,two39,by decide,fun a4 h4=>⟨_,upo (upo (upo (upo hm2.ob h1) h2) h3) h4,cu (by first | (rw [WB];omega) | (simp;omega)),?_⟩⟩
     generalize hE:upd _ m2 _=H9
     obtain ⟨L9,e9,S9⟩:=GC (i:=3) (d1:=.dd (.sht (i:Int))) (d2:=.dd (.opn (i:Int))) hm2.ba hm2.ob h1 h2 h3 h4 hE
     have hbad:BE g n t (if n.gates.getD (i:Int).toNat false=true then Qd.dd (.opn (i:Int)) else Qd.dd (.sht (i:Int))) 3:=by
      cases hg3:n.gates.getD (i:Int).toNat false with
      | true=>exact ⟨.ch,(if_neg (fun z=>z ⟨hi0,hi1⟩)).trans (if_pos hg3),rfl⟩
      | false=>exact ⟨.ch,(if_neg (fun z=>z ⟨hi0,hi1⟩)).trans (if_pos hg3),rfl⟩
     k_upd
     exact ⟨_,_,_,_,_,_,rfl,⟨hm2.fr,S9 H s07 hm2.fr,e9,L9,hm2.go.add (by split<;>trivial) hbad (by decide)⟩,by rw [List.length_append];show _+1<=_;omega⟩
    ·rw [if_neg hf]
     have s07:av H H6:=hM.sa
     have asl7:=hM.ba.1
     have hl7:xs.length<=18+15 * i+14:=by first | omega | (simp;omega)
     k_mem
     refine ⟨.inl ⟨rfl,_,SqL.of hM.ob⟩,by decide,fun a1 h1=>⟨by decide,fun a2 h2=>⟨by decide,fun a3 h3=>?_⟩⟩⟩
     k_upd
     refine ⟨_,(((s07.lay h1).lay h2).lay h3).tup hs0,_,rfl,?_⟩
     k_upd
     refine ⟨_,(((s07.lay h1).lay h2).lay h3).tup hs1,_,jf hi0 (by omega),?_⟩
     k_upd
     refine ⟨_,SqL.of ag,_,two39,by decide,fun a4 h4=>⟨_,upo (upo (upo (upo hM.ob h1) h2) h3) h4,cu (by first | (rw [WB];omega) | (simp;omega)),?_⟩⟩
     generalize hE:upd _ m _=H9
     obtain ⟨L9,e9,S9⟩:=GC (i:=3) (d1:=.dd (.sht (i:Int))) (d2:=.dd (.opn (i:Int))) hM.ba hM.ob h1 h2 h3 h4 hE
     have hbad:BE g n t (if n.gates.getD (i:Int).toNat false=true then Qd.dd (.opn (i:Int)) else Qd.dd (.sht (i:Int))) 3:=by
      cases hg3:n.gates.getD (i:Int).toNat false with
      | true=>exact ⟨.ch,(if_neg (fun z=>z ⟨hi0,hi1⟩)).trans (if_pos hg3),rfl⟩
      | false=>exact ⟨.ch,(if_neg (fun z=>z ⟨hi0,hi1⟩)).trans (if_pos hg3),rfl⟩
     k_upd
     exact ⟨_,_,_,_,_,_,rfl,⟨hM.fr,S9 H s07 hM.fr,e9,L9,hM.go.add (by split<;>trivial) hbad (by decide)⟩,by rw [List.length_append];show _+1<=_;omega⟩
  ·clear hM hl hp3 hdl3 s03
   rintro σ H4 ⟨m,as,xs,t3,t4,t5,rfl,hM,hl⟩
   have s04:av H H4:=hM.sa
   k_mem
   refine ⟨⟨by decide,by decide,by decide⟩,by decide,fun l1 n1=>?_⟩
   (generalize hE:upd H4 l1 _=H5 at *;have u1:=bS hE n1;have v1:=aY hE;clear hE)
   k_upd
   refine ⟨_,rfl,fun l2 n2=>⟨l2,11,rfl,ag,by decide,?_⟩⟩
   (generalize hE:upd H5 l2 _=H6 at *;have u2:=bS hE n2;have v2:=aY hE;clear hE)
   refine fun l3 n3=>?_
   (generalize hE:upd H6 l3 _=H7 at *;have u3:=bS hE n3;have v3:=aY hE;clear hE)
   k_upd
   refine ⟨by decide,fun l4 n4=>?_⟩
   (generalize hE:upd H7 l4 _=H8 at *;have u4:=bS hE n4;have v4:=aY hE;clear hE)
   have u48:=((u1.trans u2).trans u3).trans u4
   have s08:=s04.trans u48
   obtain ⟨hw,ew⟩:∃hw:Str,atI (kS n.e) 0=some (.str hw)/\(hw="not repeated"↔∃l r,n.e=.wait l r):=by
    cases n.e with
    | no=>exact ⟨_,rfl,fun z=>absurd z (by decide),fun ⟨_,_,z⟩=>by cases z⟩
    | wait l r=>exact ⟨_,rfl,fun _=>⟨l,r,rfl⟩,fun _=>rfl⟩
    | armed l r=>exact ⟨_,rfl,fun z=>absurd z (by decide),fun ⟨_,_,z⟩=>by cases z⟩
    | other l r s=>exact ⟨_,rfl,fun z=>absurd z (by decide),fun ⟨_,_,z⟩=>by cases z⟩
    | used l r=>exact ⟨_,rfl,fun z=>absurd z (by decide),fun ⟨_,_,z⟩=>by cases z⟩
   obtain ⟨ew,ewt⟩:=ew
   k_upd
   refine ⟨_,s08.tup hs0,_,rfl,?_⟩
   k_upd
   refine ⟨_,s08.tup hs3,_,ew,?_⟩
   show ∃xs,SqL K H8 l4 xs/\∃v,atI xs (if (!decide (hw="not repeated"))=true then 1 else 0)=some v/\_
   have nm:∀{q:Addr} {B:Hp},B m=some (.lst (as.map V.ref))->B q=none->q≠m:=fun h z e=>by rw [e,h] at z;cases z
   have eb1:=(((u2.trans u3).trans u4) _ _ v1)
   have eb3:=(u4 _ _ v3)
   obtain ⟨la,ks,ix,ea,ela,ekl,hks,hix,eix,nla⟩:∃(la:Addr) (ks:List Int) (ix:Nat),atI [V.ref l1,V.ref l3] (if (!decide (hw="not repeated"))=true then 1 else 0)=some (.ref la)/\H8 la=some (.lst (ks.map V.int))/\ks.length<=11/\(∀s∈ks,BE g n t (.dd (.rept s)) ix)/\ix < 9/\atI [V.int 1,V.int 4] (if (!decide (hw="not repeated"))=true then 1 else 0)=some (.int (ix:Int))/\la≠m:=by
    by_cases hc:hw="not repeated"
    ·obtain ⟨l,r,he⟩:=ewt.mp hc
     rw [decide_eq_true hc]
     k_upd
     refine ⟨l1,[0,10,-1,1000000000000000000000000000000],1,rfl,eb1,by decide,fun s hs=>⟨.nc,?_,rfl⟩,by decide,rfl,nm hM.ob n1⟩
     simp only [eU,he]
     refine if_neg ?_
     simp only [List.mem_cons,List.not_mem_nil,or_false] at hs
     omega
    ·rw [decide_eq_false hc]
     k_upd
     refine ⟨l3,(List.range 11).map fun (j:Nat)=>(j:Int),4,rfl,by rw [eb3,List.map_map];rfl,by decide,fun s hs=>⟨.nr,?_,rfl⟩,by decide,rfl,nm ((u1.trans u2) _ _ hM.ob) n3⟩
     cases he:n.e with
     | wait l r=>exact absurd (ewt.mpr ⟨l,r,he⟩) hc
     | _=>simp only [eU,he]
   k_upd
   refine ⟨_,SqL.of v4,_,ea,?_⟩
   have hM8:eZ K H H8 m as xs g n t:=⟨hM.fr,s08,u48 _ _ hM.ob,hM.ba.same u48,hM.go⟩
   clear hM v1 v2 v3 v4 eb1 eb3 u48 nm ea
   k_upd
   refine ⟨⟨_,SqL.of ela⟩,?_⟩
   k_upd
   refine en _ (fun j σ H'=>∃(as:List Addr) (xs:List (Nat×Qd)) (t5:Option V),σ=[some (.ref p),some (.ref a),some (.ref m),t3,t4,t5]/\eZ K H H' m as xs g n t/\xs.length<=18+15 * g.ds.length+j/\H' la=some (.lst (ks.map V.int))) ⟨as,xs,_,rfl,hM8,by omega,ela⟩ (fun j σ H' _ ⟨_,_,_,_,_,_,h⟩=>SqL.of h) ?_ ?_
   ·clear hM8 ela
    rintro j x σ H9 hx ⟨as,xs,t5,rfl,hM,hl6,ela⟩
    have hj:=(List.getElem?_eq_some_iff.mp hx).1
    rw [WB] at hj
    rw [List.getElem?_map] at hx
    obtain ⟨s,es,rfl⟩:=Option.map_eq_some_iff.mp hx
    have hsb:=hks s (List.mem_of_getElem? es)
    have s09:av H H9:=hM.sa
    have asl:=hM.ba.1
    k_mem
    refine ⟨.inl ⟨rfl,_,SqL.of hM.ob⟩,by decide,fun a1 h1=>?_⟩
    k_upd
    refine ⟨_,(s09.lay h1).tup hs0,_,rfl,?_⟩
    k_upd
    refine ⟨_,(s09.lay h1).tup hs3,_,ew,?_⟩
    show ∃xs,SqL K (upd H9 a1 (HO.lst [V.int 1,V.int 4])) a1 xs/\∃v,atI xs (if (!decide (hw="not repeated"))=true then 1 else 0)=some v/\_
    k_upd
    refine ⟨_,SqL.of ag,_,eix,by decide,fun a2 h2=>⟨by decide,fun a3 h3=>⟨_,upo (upo (upo hM.ob h1) h2) h3,cu (by rw [WB];omega),?_⟩⟩⟩
    generalize hE:upd _ m _=HX
    obtain ⟨L7,e7,S7⟩:=GB (i:=ix) (d:=.dd (.rept s)) hM.ba hM.ob h1 h2 h3 hE
    k_upd
    exact ⟨_,_,_,rfl,⟨hM.fr,S7 H s09 hM.fr,e7,L7,hM.go.add trivial hsb hix⟩,by rw [List.length_append];show _+1<=_;omega,by rw [←hE,aN nla];exact upo (upo (upo ela h1) h2) h3⟩
   ·clear hM8 ela
    rintro σ H9 ⟨as,xs,t5,rfl,hM,hl6,_⟩
    rw [WB] at hl6
    k_mem
    exact q m as xs H9 hM.sa hM.ob hM.ba (by omega) hM.go
variable (g9:KD P w K mg base CX0 1 "_law_bad_bells" (jO K Z))
inductive jP (K:WA)(Z:Adr)(vs:List V)(H:Hp)(Q:VK)(E:XK):Prop | mk (lv m:Int):vs=[.int lv,.int m]->((0<=lv/\lv < m->Q .non H)/\(¬(0<=lv/\lv < m)->E (.ref Z.ay) none H))->jP K Z vs H Q E
include T eJ in
theorem As:FF P w K mg base (CXf P w) 2 "check_level" "check_level" kU rM (jP K Z):=fkF zF fun vs H Q E h=>by
 obtain ⟨lv,m,rfl,q1,q2⟩:=h
 k_all
 refine ⟨_,@ah _ _ _ (aQ (ft (cX (dc0 eJ hr.dn (pa2 (pv' 0) (pv' 1))))) (@ah _ _ _ (bz T.Ah (by rfl) T.qf (pa1 aB))) (aC)),?_⟩
 k_mem
 refine ⟨_,_,rfl,?_⟩
 k_mem
 split
 ·rename_i h
  k_upd
  exact ⟨by decide,q2 h⟩
 ·rename_i h
  k_upd
  exact q1 (by simpa using h)
variable (bJ:KD P w K mg base (CXf P w) 2 "check_level" (jP K Z))
inductive lR (K:WA)(Z:Adr)(vs:List V)(H:Hp)(Q:VK)(E:XK):Prop | mk (n m:Int):vs=[.int n,.int m]->((0<=n/\n < m->Q .non H)/\(¬(0<=n/\n < m)->E (.ref Z.aH) none H))->lR K Z vs H Q E
include T eJ in
theorem BF:FF P w K mg base (CXf P w) 2 "check_load" "check_load" nv uL (lR K Z):=fkF Ba fun vs H Q E h=>by
 obtain ⟨n,m,rfl,q1,q2⟩:=h
 k_all
 refine ⟨_,@ah _ _ _ (aQ (ft (cX (dc0 eJ hr.dn (pa2 (pv' 0) (pv' 1))))) (@ah _ _ _ (bz T.Br (by rfl) T.sr (pa1 aB))) (aC)),?_⟩
 k_mem
 refine ⟨_,_,rfl,?_⟩
 k_mem
 split
 ·rename_i h
  k_upd
  exact ⟨by decide,q2 h⟩
 ·rename_i h
  k_upd
  exact q1 (by simpa using h)
variable (fi:KD P w K mg base (CXf P w) 2 "check_load" (lR K Z))
def Sl (l:Addr)(m:Int)(ls:List Ld)(H:Hp)(i:Nat)(σ:St)(H':Hp):Prop:=H'=H/\(∃t u v,σ=[some (.ref l),some (.int m),t,u,v])/\∀(j:Nat) x,j < i->ls[j]?=some x->je m x
inductive jQ (K:WA)(Z:Adr)(vs:List V)(H:Hp)(Q:VK)(E:XK):Prop | mk (l:Addr) (ls:List Ld) (m:Int):vs=[.ref l,.int m]->fI K H l ls->(((ls.length<=30/\∀x∈ls,je m x)->Q .non H))->((¬(ls.length<=30/\∀x∈ls,je m x)->E (.ref Z.dB) none H))->jQ K Z vs H Q E
include T eJ in
theorem Au:FF P w K mg base (CXf P w) 2 "check_loads" "check_loads" kW rN (jQ K Z):=fkF gq fun vs H Q E h=>by
 obtain ⟨l,ls,m,rfl,hL,q1,q2⟩:=h
 k_all
 refine @seg _ _ _ 1 _ (@ah _ _ _ (cH A2 rfl (cJ (pv' 0)) (eS rfl (aI (aE (i:=2) gq.nd rfl orL) (aI (aE (i:=3) gq.nd rfl orL) (aI (aE (i:=4) gq.nd rfl orL) de)))) (@ah _ _ _ (aQ (pe (ft (cX (dc0 eJ hr.dn (pa2 (pv' 3) (pv' 1))))) (kM (ft (cX (dc0 eJ hr.dn (pa2 (pv' 4) (pv' 1))))))).pt (@ah _ _ _ (bz T.Aj (by rfl) T.Ad (pa1 aB))) (aC))))) fun zt1 zh1 ze1=>?_
 refine ⟨_,@ae _ _ _ _ _ (aQ (Ct (aF az (by rfl) T.bY bu (pa1 (pv' 0))) (eo (by rfl) T.DV)) (@ah _ _ _ (bz T.Aj (by rfl) T.Ad (pa1 aB))) (aC)) zh1,?_⟩
 obtain ⟨as,hS,hlen,hT⟩:=id hL
 k_mem
 refine ⟨_,.inl hS,?_⟩
 rw [WB]
 k_upd
 split
 ·k_upd
  exact ⟨by decide,q2 fun h=>by omega⟩
 ·k_upd
  refine ⟨⟨_,hS⟩,?_⟩
  k_upd
  refine en (as.map V.ref) (Sl l m ls H) ⟨rfl,⟨_,_,_,rfl⟩,fun j x h=>absurd h (Nat.not_lt_zero _)⟩ (fun i σ H' _ ⟨e,_⟩=>by rw [e];exact hS) ?_ ?_
  ·rintro i x σ H' hx ⟨rfl,⟨t,u,v,rfl⟩,hj⟩
   rw [List.getElem?_map] at hx
   obtain ⟨a,ea,rfl⟩:=Option.map_eq_some_iff.mp hx
   have hi:i < as.length:=(List.getElem?_eq_some_iff.mp ea).1
   have el:ls[i]?=some ls[i]:=List.getElem?_eq_getElem (by omega)
   have hm:ls[i]∈ls:=List.getElem_mem _
   k_mem
   refine ⟨_,hT i a _ ea el,rfl,?_⟩
   k_mem
   refine ⟨_,_,rfl,?_⟩
   k_mem
   split
   ·rename_i h1
    k_upd
    exact ⟨by decide,q2 fun h=>h1 (h.2 _ hm).1⟩
   ·rename_i h1
    k_upd
    refine ⟨_,_,rfl,?_⟩
    k_mem
    split
    ·rename_i h2
     k_upd
     exact ⟨by decide,q2 fun h=>h2 (h.2 _ hm).2⟩
    ·rename_i h2
     k_upd
     refine ⟨rfl,⟨_,_,_,rfl⟩,fun j x hj' hx=>?_⟩
     by_cases e:j=i
     ·rw [e,el] at hx
      cases hx
      k_upd
      exact ⟨by omega,by omega⟩
     ·exact hj j x (by omega) hx
  ·rintro σ H' ⟨rfl,⟨t,u,v,rfl⟩,hj⟩
   k_mem
   refine q1 ⟨by omega,fun x hx=>?_⟩
   obtain ⟨j,hj1,rfl⟩:=List.getElem_of_mem hx
   rw [WB] at hj
   exact hj j _ (by omega) (List.getElem?_eq_getElem hj1)
variable (sP:KD P w K mg base (CXf P w) 2 "check_loads" (jQ K Z))
def Sm (l:Addr)(m:Int)(ls:List Cd)(H:Hp)(i:Nat)(σ:St)(H':Hp):Prop:=H'=H/\(∃t u,σ=[some (.ref l),some (.int m),t,u])/\∀(j:Nat) x,j < i->ls[j]?=some x->eX x
inductive jR (K:WA)(Z:Adr)(vs:List V)(H:Hp)(Q:VK)(E:XK):Prop | mk (l:Addr) (ls:List Cd) (m:Int):vs=[.ref l,.int m]->kR cdV K H l ls->((((ls.length:Int)=m/\∀x∈ls,eX x)->Q .non H))->((¬((ls.length:Int)=m/\∀x∈ls,eX x)->E (.ref Z.dC) none H))->jR K Z vs H Q E
include T fF in
theorem Av:FF P w K mg base (CXf P w) 2 "check_codes" "check_codes" kY rP (jR K Z):=fkF jn fun vs H Q E h=>by
 obtain ⟨l,ls,m,rfl,hL,q1,q2⟩:=h
 k_all
 refine @seg _ _ _ 1 _ (@ah _ _ _ (cH A2 rfl (cJ (pv' 0)) (eS rfl (aI (aE (i:=2) jn.nd rfl orL) (aI (aE (i:=3) jn.nd rfl orL) de))) (@ae _ _ _ _ _ (aQ (pe (ft (cX (dc0 fF hr.dn (pa1 (pv' 2))))) (kM (ft (cX (dc0 fF hr.dn (pa1 (pv' 3))))))).pt (@ah _ _ _ (bz T.tS (by rfl) T.tN (pa1 aB))) (aC)) (@ah _ _ _ (aQ (bV (pv' 2) (pv' 3)) (@ah _ _ _ (bz T.tS (by rfl) T.tN (pa1 aB))) (aC)))))) fun zt1 zh1 ze1=>?_
 refine ⟨_,@ae _ _ _ _ _ (aQ (uJ (aF az (by rfl) T.bY bu (pa1 (pv' 0))) (pv' 1)) (@ah _ _ _ (bz T.tS (by rfl) T.tN (pa1 aB))) (aC)) zh1,?_⟩
 obtain ⟨as,hS,hlen,hT⟩:=id hL
 k_mem
 refine ⟨_,.inl hS,?_⟩
 rw [WB]
 k_upd
 split
 ·k_upd
  exact ⟨by decide,q2 fun h=>by omega⟩
 ·k_upd
  refine ⟨⟨_,hS⟩,?_⟩
  k_upd
  refine en (as.map V.ref) (Sm l m ls H) ⟨rfl,⟨_,_,rfl⟩,fun j x h=>absurd h (Nat.not_lt_zero _)⟩ (fun i σ H' _ ⟨e,_⟩=>by rw [e];exact hS) ?_ ?_
  ·rintro i x σ H' hx ⟨rfl,⟨t,u,rfl⟩,hj⟩
   rw [List.getElem?_map] at hx
   obtain ⟨a,ea,rfl⟩:=Option.map_eq_some_iff.mp hx
   have hi:i < as.length:=(List.getElem?_eq_some_iff.mp ea).1
   have el:ls[i]?=some ls[i]:=List.getElem?_eq_getElem (by omega)
   have hm:ls[i]∈ls:=List.getElem_mem _
   k_mem
   refine ⟨_,hT i a _ ea el,rfl,?_⟩
   k_mem
   refine ⟨_,rfl,?_⟩
   k_mem
   split
   ·rename_i h1
    k_upd
    exact ⟨by decide,q2 fun h=>h1 (h.2 _ hm).1⟩
   ·rename_i h1
    k_upd
    refine ⟨_,rfl,?_⟩
    k_mem
    split
    ·rename_i h2
     k_upd
     exact ⟨by decide,q2 fun h=>h2 (h.2 _ hm).2.1⟩
    ·rename_i h2
     k_upd
     split
     ·rename_i h3
      k_upd
      exact ⟨by decide,q2 fun h=>(h.2 _ hm).2.2 h3⟩
     ·rename_i h3
      k_upd
      refine ⟨rfl,⟨_,_,rfl⟩,fun j x hj' hx=>?_⟩
      by_cases e:j=i
      ·rw [e,el] at hx
       cases hx
       k_upd
       exact ⟨by omega,by omega,h3⟩
      ·exact hj j x (by omega) hx
  ·rintro σ H' ⟨rfl,⟨t,u,rfl⟩,hj⟩
   k_mem
   refine q1 ⟨by omega,fun x hx=>?_⟩
   obtain ⟨j,hj1,rfl⟩:=List.getElem_of_mem hx
   exact hj j _ (by rw [WB];omega) (List.getElem?_eq_getElem hj1)
variable (sQ:KD P w K mg base (CXf P w) 2 "check_codes" (jR K Z))
inductive iM (K:WA)(Z:Adr)(vs:List V)(H:Hp)(Q:VK)(E:XK):Prop | mk (b cs fl st:Addr) (ls:List Cd) (fs:List Bool) (e:Eng) (s:Int):vs=[.ref b,.int s]->bM Z.bR K H b cs fl st ls fs e->(((∀l r,e≠.wait l r)->E (.ref Z.aJ) none H))->((∀l r,e=.wait l r->¬(1<=s/\s<=9)->E (.ref Z.bB) none H))->((∀l r,e=.wait l r->(1<=s/\s<=9)->∀st' p H',H p=none->aD b H H'->bM Z.bR K H' b cs fl st' ls fs (if s=r then .armed l r else .other l r s)->SqT K H' p [.bl (decide (s=r)),.int r,.int s]->Q (.ref p) H'))->iM K Z vs H Q E
include T fF in
theorem yJ:FF P w K mg base (CXf P w) 2 "repeat" "Bells.repeat" jo pH (iM K Z):=fkF fJ fun vs H Q E h=>by
 obtain ⟨b,cs,fl,st,ls,fs,e,s,rfl,hB,q1,q2,q3⟩:=h
 k_all
 refine ⟨_,@ae _ _ _ _ _ (aQ (uJ (ao aq (aw (pv' 0)) af) aB) (@ah _ _ _ (bz T.Bu (by rfl) T.sv (pa1 aB))) (aC)) (@ae _ _ _ _ _ (aQ (ft (cX (dc0 fF hr.dn (pa1 (pv' 1))))) (@ah _ _ _ (bz T.FX (by rfl) T.Af (pa1 aB))) (aC)) (@ae _ _ _ _ _ (@aG _ _ 2 _ _ _ _ fJ.nd rfl orL (ao aq (aw (pv' 0)) af) (by rfl) hfA) (@ae _ _ _ _ _ (@aG _ _ 3 _ _ _ _ fJ.nd rfl orL (ao aq (aw (pv' 0)) af) (by rfl) hfA) (@ae _ _ _ _ _ (@aG _ _ 4 _ _ _ _ fJ.nd rfl orL (dF jj (pv' 1) (pv' 3) (cE _)) (by rfl) hfA) (@ae _ _ _ _ _ (cj (pv' 0) (aK (pa4 (EO (cX (pv' 4)) aB aB) (pv' 2) (pv' 3) (pv' 1))) rfl) (@ah _ _ _ (aA (aK (pa3 (pv' 4) (pv' 3) (pv' 1)))))))))),?_⟩
 obtain ⟨⟨dx,hob⟩,⟨as,hcs,hT⟩,hfl,hst,nn,ln⟩:=id hB
 k_mem
 refine fgo hob T.bL T.bO rfl ?_
 k_mem
 cases e with
 | wait l r=>
  refine ⟨_,hst,_,rfl,?_⟩
  k_mem
  refine ⟨_,rfl,?_⟩
  k_mem
  split
  ·rename_i h
   exact ⟨by decide,q2 l r rfl h⟩
  ·rename_i h
   have hs:1<=s/\s<=9:=by simpa using h
   refine fgo hob T.bL T.bO rfl ?_
   k_mem
   refine ⟨_,hst,_,rfl,?_⟩
   k_mem
   refine fgo hob T.bL T.bO rfl ?_
   k_mem
   refine ⟨_,hst,_,rfl,?_⟩
   k_mem
   split
   ·rename_i hr
    refine ⟨by decide,fun st' hst'=>⟨_,_,_,upo hob hst',T.bL,T.bO,by show 3 < 1000;decide,by decide,fun p hp=>?_⟩⟩
    have nsx:st'≠b:=fun z=>by rw [z,hob] at hst';cases hst'
    have hpn:=upn (aD.free (H':=upd (upd H st' (HO.tup [V.str (Str.ofString "armed"),V.int l,V.int r,V.int s])) b (HO.ins Z.bR dx (bG "state" (.ref st') [("codes",V.ref cs),("failed",V.ref fl),("state",V.ref st)]))) (p:=b) ((aD.of (av.refl _)).put) (fun z=>by rw [z,ag] at hp;cases hp) hp)
    have k:=((aD.of ((av.refl H).lay (o:=HO.tup [V.str (Str.ofString "armed"),V.int l,V.int r,V.int s]) hst')).put (o:=HO.ins Z.bR dx (bG "state" (.ref st') [("codes",V.ref cs),("failed",V.ref fl),("state",V.ref st)])) (p:=b))
    refine q3 l r rfl hs st' p _ hpn (k.trans (aD.of ((av.refl _).lay hp))) ?_ (SqT.of ?_)
    ·refine (hB.state k (dx:=dx) (by rw [ag];rfl) (SqT.of (xs:=kS (if s=r then .armed l r else .other l r s)) ?_)).same ((av.refl _).lay hp)
     rw [aN nsx,ag,if_pos hr,hr];rfl
    ·rw [ag]
   ·rename_i hr
    refine ⟨by decide,fun st' hst'=>⟨_,_,_,upo hob hst',T.bL,T.bO,by show 3 < 1000;decide,by decide,fun p hp=>?_⟩⟩
    have nsx:st'≠b:=fun z=>by rw [z,hob] at hst';cases hst'
    have hpn:=upn (aD.free (H':=upd (upd H st' (HO.tup [V.str (Str.ofString "repeated otherwise"),V.int l,V.int r,V.int s])) b (HO.ins Z.bR dx (bG "state" (.ref st') [("codes",V.ref cs),("failed",V.ref fl),("state",V.ref st)]))) (p:=b) ((aD.of (av.refl _)).put) (fun z=>by rw [z,ag] at hp;cases hp) hp)
    have k:=((aD.of ((av.refl H).lay (o:=HO.tup [V.str (Str.ofString "repeated otherwise"),V.int l,V.int r,V.int s]) hst')).put (o:=HO.ins Z.bR dx (bG "state" (.ref st') [("codes",V.ref cs),("failed",V.ref fl),("state",V.ref st)])) (p:=b))
    refine q3 l r rfl hs st' p _ hpn (k.trans (aD.of ((av.refl _).lay hp))) ?_ (SqT.of ?_)
    ·refine (hB.state k (dx:=dx) (by rw [ag];rfl) (SqT.of (xs:=kS (if s=r then .armed l r else .other l r s)) ?_)).same ((av.refl _).lay hp)
     rw [aN nsx,ag,if_neg hr];rfl
    ·rw [ag]
 | _=>
  refine ⟨_,hst,_,rfl,?_⟩
  k_mem
  first
  | rw [if_pos (by decide)]
  | skip
  exact ⟨by decide,q1 fun l r z=>Eng.noConfusion z⟩
variable (qK:KM P w K mg base (CXf P w) 2 Z.bR "repeat" (iM K Z))
inductive jS (K:WA)(Z:Adr)(vs:List V)(H:Hp)(Q:VK)(E:XK):Prop | mk (a:Addr) (ds:List Int) (p:Int):vs=[.ref a,.int p]->SqL K H a (ds.map V.int)->0 < ds.length->Q (.int (cw ds - p)) H->jS K Z vs H Q E
include T vF in
theorem Aw:FF P w K mg base CX0 2 "other_place" "other_place" kZ rQ (jS K Z):=fk0 zH fun vs H Q E h=>by
 obtain ⟨a,ds,p,rfl,hS,hl,q⟩:=h
 k_all
 refine ⟨_,@ah _ _ _ (aA (aT dh (dc0 vF hr.dn (pa1 (pv' 0))) (pv' 1))),?_⟩
 k_mem
 refine ⟨a,ds,rfl,hS,hl,?_⟩
 k_mem
 exact q
variable (dX:KD P w K mg base CX0 2 "other_place" (jS K Z))
inductive lS (K:WA)(Z:Adr)(vs:List V)(H:Hp)(Q:VK)(E:XK):Prop | mk (bk rl dd s:Addr) (g:Cfg) (n0 n:aS) (rs:List Row) (tk sp:Int) (dv:List V):vs=[.ref bk,.ref dd,.int tk,.int sp,.ref s]->BAt (clZ Z) K H bk rl g n0 rs->SqT K H dd dv->eQ (clZ Z) K H rl g s n->((300<=rs.length->E (.ref Z.cS) none H))->((rs.length < 300->∀H',aD rl H H'->BAt (clZ Z) K H' bk rl g n0 (rs++[⟨bX rs,bX rs+tk,dv,sp,n⟩])->Q .non H'))->lS K Z vs H Q E
include T gU in
theorem BG:FF P w K mg base (CXf P w) 2 "write" "Book.write" nH uU (lS K Z):=fkF sk fun vs H Q E h=>by
 obtain ⟨bk,rl,dd,s0,g,n0,n,rs,tk,sp,dv,rfl,hB,hD,hS,q1,q2⟩:=h
 k_all
 refine @seg _ _ _ 2 _ (@ah _ _ _ (@bb _ _ _ _ (kg PySem.F.plainAttrs_list PySem.F.slot_list_append PySem.F.type_list_append cK (aw (pv' 0)) (pa1 (aK (dY (pv' 5) (pa4 (aT bx (pv' 5) (pv' 2)) (pv' 1) (pv' 3) (pv' 4)))))) (by rfl))) fun zt2 zh2 ze2=>?_
 refine @seg _ _ _ 1 _ (@ae _ _ _ _ _ (@aG _ _ 5 _ _ _ _ sk.nd rfl orL (dR (pv' 0) gU hr.dn br) (by rfl) hfA) zh2) fun zt1 zh1 ze1=>?_
 refine ⟨_,@ae _ _ _ _ _ (aQ (Fv (aF az (by rfl) T.bY bu (pa1 (aw (pv' 0)))) (aw (pv' 0))) (@ah _ _ _ (bz T.IC (by rfl) T.Ik (pa1 aB))) (aC)) zh1,?_⟩
 obtain ⟨⟨dx,f0,hob,hF⟩,as,hrl,hR⟩:=id hB
 have hl:=hR.1
 k_mem
 refine fgo hob T.dj T.cb rfl ?_
 k_mem
 refine ⟨_,.inl (SqL.of hrl),_,_,_,hob,T.dj,T.vo,_,rfl,?_⟩
 k_mem
 rw [WB]
 k_upd
 split
 ·k_upd
  exact ⟨by decide,q1 (by omega)⟩
 ·rename_i hlt
  k_upd
  refine mgo hob rfl ⟨_,_,_,_,_,rfl,hB,?_⟩
  k_mem
  refine fgo hob T.dj T.cb rfl ?_
  k_mem
  refine ⟨.inl ⟨rfl,_,SqL.of hrl⟩,by decide,fun p hp=>⟨_,upo hrl hp,cu (by rw [WB];omega),?_⟩⟩
  have s1:=(av.refl H).lay (o:=HO.tup [V.int (bX rs),V.int (bX rs+tk),V.ref dd,V.int sp,V.ref s0]) hp
  have hrl1:=upo (o:=HO.tup [V.int (bX rs),V.int (bX rs+tk),V.ref dd,V.int sp,V.ref s0]) hrl hp
  have k1:L2.aD rl H (upd (upd H p (HO.tup [V.int (bX rs),V.int (bX rs+tk),V.ref dd,V.int sp,V.ref s0])) rl (HO.lst (as.map V.ref++[V.ref p]))):=(aD.of s1).put
  refine q2 (by omega) _ k1 ⟨⟨dx,f0,k1 _ _ (fun z=>by rw [z,hrl] at hob;cases hob) hob,hF.keep k1 hrl⟩,as++[p],by rw [ag,List.map_append];rfl,?_⟩
  exact (hR.keep k1 hrl).push ⟨dd,s0,(SqT.of ag).rew hrl1,hD.keep k1 hrl,hS.keep k1 hrl⟩
variable (vL:KM P w K mg base (CXf P w) 2 Z.oX "write" (lS K Z))
inductive fz (K:WA)(Z:Adr)(vs:List V)(H:Hp)(Q:VK)(E:XK):Prop | mk (bk rl:Addr) (g:Cfg) (n0:aS) (rs:List Row) (t:Int):vs=[.ref bk,.int t]->BAt (clZ Z) K H bk rl g n0 rs->((0<=t/\t<=bX rs->Q .non H))->((¬(0<=t/\t<=bX rs)->E (.ref Z.bD) none H))->fz K Z vs H Q E
include T gU in
theorem rG:FF P w K mg base (CXf P w) 2 "refuse_tick" "Book.refuse_tick" fO jk (fz K Z):=fkF rm fun vs H Q E h=>by
 obtain ⟨bk,rl,g,n0,rs,t,rfl,hB,q1,q2⟩:=h
 k_all
 refine ⟨_,@ah _ _ _ (aQ (pe (oG (pv' 1) af) (kM (Ct (pv' 1) (dR (pv' 0) gU hr.dn br)))).pt (@ah _ _ _ (bz T.M9 (by rfl) T.FK (pa1 aB))) (aC)),?_⟩
 obtain ⟨⟨dx,f0,hob,hF⟩,as,hrl,hR⟩:=id hB
 k_mem
 split
 ·rename_i h
  k_upd
  exact ⟨by decide,q2 (by omega)⟩
 ·rename_i h
  k_upd
  refine mgo hob rfl ⟨_,_,_,_,_,rfl,hB,?_⟩
  k_mem
  split
  ·rename_i h2
   k_upd
   exact ⟨by decide,q2 (by omega)⟩
  ·rename_i h2
   k_upd
   exact q1 (by omega)
variable (jT:KM P w K mg base (CXf P w) 2 Z.oX "refuse_tick" (fz K Z))
noncomputable def mP (K:WA)(Z:Adr):Sp:=fun vs H Q E=>False
include T Gy in
theorem xr:FF P w K mg base CX0 2 "stand_handled" "stand_handled" iE oM (mP K Z):=fk0 wY fun vs H Q E h=>False.elim h
variable (oQ:KD P w K mg base CX0 2 "stand_handled" (mP K Z))
inductive fS (K:WA)(Z:Adr)(vs:List V)(H:Hp)(Q:VK)(E:XK):Prop | mk (w bk rl:Addr) (g:Cfg) (n0:aS) (rs:List Row):vs=[.ref w]->WAt (clZ Z) K H w bk rl g n0 rs->((rs=[]->E (.ref Z.bW) none H))->((∀rs' r,rs=rs'++[r]->∀p H',aD rl H H'->WAt (clZ Z) K H' w bk rl g n0 rs'->SqT K H' p r.deed->Q (.ref p) H'))->fS K Z vs H Q E
include T sO in
theorem ud:FF P w K mg base (CXf P w) 2 "take_back" "Works.take_back" gy kz (fS K Z):=fkF tI fun vs H Q E h=>by
 obtain ⟨w,bk,rl,g,n0,rs,rfl,hW,q1,q2⟩:=h
 k_all
 refine ⟨_,@ah _ _ _ (aA (dR (aw (pv' 0)) sO hr.dn bC)),?_⟩
 obtain ⟨⟨dx,dl,gl,hob,hdl,hgl,n1,n2⟩,hB⟩:=id hW
 obtain ⟨⟨db,f0,hbo,hF⟩,as,hrl,hR⟩:=id hB
 k_mem
 refine fgo hob T.aZ T.aX rfl ?_
 k_mem
 exact mgo hbo rfl ⟨_,_,_,_,_,rfl,hB,q1,fun rs2 r e p H' k hB2 hp=>q2 rs2 r e p H' k (hW.keep k hrl hB2) hp⟩
variable (kE:KM P w K mg base (CXf P w) 2 Z.bw "take_back" (fS K Z))
inductive fA (K:WA)(Z:Adr)(vs:List V)(H:Hp)(Q:VK)(E:XK):Prop | mk (w bk rl:Addr) (g:Cfg) (n0:aS) (rs:List Row) (s:Addr) (n:aS):vs=[.ref w,.ref s]->WAt (clZ Z) K H w bk rl g n0 rs->eQ (clZ Z) K H rl g s n->g.ks.length=n.ws.length->(∀H',av H H'->Q (.int (fu g n)) H')->fA K Z vs H Q E
include T kC in
theorem rH:FF P w K mg base CX0 2 "speed_with" "Works.speed_with" fP jl (fA K Z):=fk0 rn fun vs H Q E h=>by
 obtain ⟨w,bk,rl,g,n0,rs,s0,n,rfl,hW,hS,hl,q⟩:=h
 k_all
 refine ⟨_,@ah _ _ _ (aA (EO (cX (dR (aw (pv' 1)) kC hr.dn br)) (aw (pv' 0)) (aw (pv' 0)))),?_⟩
 obtain ⟨⟨dx,dl,gl,hob,hdl,hgl,n1,n2⟩,hB⟩:=id hW
 obtain ⟨⟨db,f0,hbo,hF⟩,as,hrl,hR⟩:=id hB
 k_mem
 obtain ⟨A,hA⟩:=id hS
 k_upd
 refine fgo hA.ob T.aO T.bQ rfl ?_
 k_mem
 obtain ⟨dy,hyb⟩:=hA.ya.ob
 k_upd
 refine ⟨_,_,hyb,rfl,_,_,_,_,_,_,rfl,hA.ya,hl,fun H' s1=>?_⟩
 k_mem
 have q':=q H' s1
 unfold fu at q'
 k_upd
 split
 ·rename_i h
  k_upd
  rw [if_pos h] at q'
  k_upd
  exact fgo (s1 _ _ hob) T.aZ T.sJ rfl q'
 ·rename_i h
  k_upd
  rw [if_neg h] at q'
  k_upd
  exact fgo (s1 _ _ hob) T.aZ T.sL rfl q'
variable (eK:KM P w K mg base CX0 2 Z.bw "speed_with" (fA K Z))
inductive dM (K:WA)(Z:Adr)(vs:List V)(H:Hp)(Q:VK)(E:XK):Prop | mk (w bk rl:Addr) (g:Cfg) (n0:aS) (rs:List Row) (lv:Int):vs=[.ref w,.int lv]->WAt (clZ Z) K H w bk rl g n0 rs->0<=lv->lv < (aj n0 rs).gates.length->(((aj n0 rs).gates.getD lv.toNat false=true->Q .non H))->(((aj n0 rs).gates.getD lv.toNat false=false->E (.ref Z.cT) none H))->dM K Z vs H Q E
include T aM in
theorem ka:FF P w K mg base (CXf P w) 2 "refuse_shut_gate" "Works.refuse_shut_gate" dU fD (dM K Z):=fkF j5 fun vs H Q E h=>by
 obtain ⟨w,bk,rl,g,n0,rs,lv,rfl,hW,h0,h1,q1,q2⟩:=h
 k_all
 refine ⟨_,@ah _ _ _ (aQ (ft (cX (ao ax (aw (dR (aw (pv' 0)) aM hr.dn br)) (pv' 1)))) (@ah _ _ _ (bz T.IE (by rfl) T.Im (pa1 aB))) (aC)),?_⟩
 obtain ⟨⟨dx,dl,gl,hob,hdl,hgl,n1,n2⟩,hB⟩:=id hW
 obtain ⟨⟨db,f0,hbo,hF⟩,as,hrl,hR⟩:=id hB
 k_mem
 refine fgo hob T.aZ T.aX rfl ?_
 k_mem
 refine mgo hbo rfl ⟨_,_,_,_,_,rfl,hB,fun s0 ⟨A,hA⟩=>?_⟩
 k_mem
 refine fgo hA.ob T.aO T.cD rfl ?_
 k_mem
 refine ⟨_,SqL.of hA.go,_,jf h0 h1,?_⟩
 k_mem
 split
 ·rename_i h
  k_upd
  exact ⟨by decide,q2 (by simpa using h)⟩
 ·rename_i h
  k_upd
  exact q1 (by simpa using h)
variable (cP:KM P w K mg base (CXf P w) 2 Z.bw "refuse_shut_gate" (dM K Z))
inductive ox (K:WA)(Z:Adr)(vs:List V)(H:Hp)(Q:VK)(E:XK):Prop | mk (w bk rl:Addr) (g:Cfg) (n0:aS) (rs:List Row):vs=[.ref w]->WAt (clZ Z) K H w bk rl g n0 rs->Q (.int (bX rs)) H->ox K Z vs H Q E
include T gU in
theorem Ex:FF P w K mg base CX0 2 "now" "Works.now" p8 xV (ox K Z):=fk0 DR fun vs H Q E h=>by
 obtain ⟨w,bk,rl,g,n0,rs,rfl,hW,q⟩:=h
 k_all
 refine ⟨_,@ah _ _ _ (aA (dR (aw (pv' 0)) gU hr.dn br)),?_⟩
 obtain ⟨⟨dx,dl,gl,hob,hdl,hgl,n1,n2⟩,hB⟩:=id hW
 obtain ⟨⟨db,f0,hbo,hF⟩,as,hrl,hR⟩:=id hB
 k_mem
 refine fgo hob T.aZ T.aX rfl ?_
 k_mem
 exact mgo hbo rfl ⟨_,_,_,_,_,rfl,hB,q⟩
variable (kF:KM P w K mg base CX0 2 Z.bw "now" (ox K Z))
inductive lT (K:WA)(Z:Adr)(vs:List V)(H:Hp)(Q:VK)(E:XK):Prop | mk (w bk rl:Addr) (g:Cfg) (n0:aS) (rs:List Row):vs=[.ref w]->WAt (clZ Z) K H w bk rl g n0 rs->rs.length<=1000->(∀(p:Addr) (as:List Addr) (H':Hp),H p=none->av H H'->H' p=some (.lst (as.map V.ref))->dJ K H' as rs->Q (.ref p) H')->lT K Z vs H Q E
include T ye in
theorem BH:FF P w K mg base CX0 2 "book" "Works.book" nS va (lT K Z):=fk0 Bn fun vs H Q E h=>by
 obtain ⟨w,bk,rl,g,n0,rs,rfl,hW,hn,q⟩:=h
 k_all
 refine ⟨_,@ah _ _ _ (aA (dR (aw (pv' 0)) ye hr.dn br)),?_⟩
 obtain ⟨⟨dx,dl,gl,hob,hdl,hgl,n1,n2⟩,hB⟩:=id hW
 obtain ⟨⟨db,f0,hbo,hF⟩,as,hrl,hR⟩:=id hB
 k_mem
 refine fgo hob T.aZ T.aX rfl ?_
 k_mem
 exact mgo hbo rfl ⟨_,_,_,_,_,rfl,hB,hn,q⟩
variable (vM:KM P w K mg base CX0 2 Z.bw "book" (lT K Z))
inductive iO (K:WA)(Z:Adr)(vs:List V)(H:Hp)(Q:VK)(E:XK):Prop | mk (w bk rl:Addr) (g:Cfg) (n0:aS) (rs:List Row):vs=[.ref w]->WAt (clZ Z) K H w bk rl g n0 rs->(∀st,SqT K H st (kS (aj n0 rs).e)->Q (.ref st) H)->iO K Z vs H Q E
include T qF aM in
theorem yK:FF P w K mg base CX0 2 "engine" "Works.engine" jz pQ (iO K Z):=fk0 yx fun vs H Q E h=>by
 obtain ⟨w,bk,rl,g,n0,rs,rfl,hW,q⟩:=h
 k_all
 refine ⟨_,@ah _ _ _ (aA (dR (aw (dR (aw (pv' 0)) aM hr.dn br)) qF hr.dn br)),?_⟩
 obtain ⟨⟨dx,dl,gl,hob,hdl,hgl,n1,n2⟩,hB⟩:=id hW
 obtain ⟨⟨db,f0,hbo,hF⟩,as,hrl,hR⟩:=id hB
 k_mem
 refine fgo hob T.aZ T.aX rfl ?_
 k_mem
 refine mgo hbo rfl ⟨_,_,_,_,_,rfl,hB,fun s0 ⟨A,hA⟩=>?_⟩
 k_mem
 refine fgo hA.ob T.aO T.cq rfl ?_
 k_mem
 obtain ⟨db2,hbb⟩:=hA.be.ob
 k_upd
 exact mgo hbb rfl ⟨_,_,_,_,_,_,_,rfl,hA.be,q _ hA.be.os⟩
variable (qL:KM P w K mg base CX0 2 Z.bw "engine" (iO K Z))
inductive lU (K:WA)(Z:Adr)(vs:List V)(H:Hp)(Q:VK)(E:XK):Prop | mk (w bk rl:Addr) (g:Cfg) (n0:aS) (rs:List Row):vs=[.ref w]->WAt (clZ Z) K H w bk rl g n0 rs->(aj n0 rs).fs.length<=1000->(∀p H',H p=none->av H H'->H' p=some (.lst ((c9 (aj n0 rs).fs).map V.int))->Q (.ref p) H')->lU K Z vs H Q E
include T vE aM in
theorem BI:FF P w K mg base CX0 2 "dead" "Works.dead" nT vb (lU K Z):=fk0 Bo fun vs H Q E h=>by
 obtain ⟨w,bk,rl,g,n0,rs,rfl,hW,hn,q⟩:=h
 k_all
 refine ⟨_,@ah _ _ _ (aA (dR (aw (dR (aw (pv' 0)) aM hr.dn br)) vE hr.dn br)),?_⟩
 obtain ⟨⟨dx,dl,gl,hob,hdl,hgl,n1,n2⟩,hB⟩:=id hW
 obtain ⟨⟨db,f0,hbo,hF⟩,as,hrl,hR⟩:=id hB
 k_mem
 refine fgo hob T.aZ T.aX rfl ?_
 k_mem
 refine mgo hbo rfl ⟨_,_,_,_,_,rfl,hB,fun s0 ⟨A,hA⟩=>?_⟩
 k_mem
 refine fgo hA.ob T.aO T.cq rfl ?_
 k_mem
 obtain ⟨db2,hbb⟩:=hA.be.ob
 k_upd
 exact mgo hbb rfl ⟨_,_,_,_,_,_,_,rfl,hA.be,hn,q⟩
variable (oy:KM P w K mg base CX0 2 Z.bw "dead" (lU K Z))
inductive jU (K:WA)(Z:Adr)(vs:List V)(H:Hp)(Q:VK)(E:XK):Prop | mk (w bk rl:Addr) (g:Cfg) (n0:aS) (rs:List Row):vs=[.ref w]->WAt (clZ Z) K H w bk rl g n0 rs->(∀p,H p=none->Q (.ref p) (upd H p (.lst ((aj n0 rs).gates.map V.bl))))->jU K Z vs H Q E
include T aM in
theorem Ax:FF P w K mg base CX0 2 "gates" "Works.gates" lB r8 (jU K Z):=fk0 zQ fun vs H Q E h=>by
 obtain ⟨w,bk,rl,g,n0,rs,rfl,hW,q⟩:=h
 k_all
 refine ⟨_,@ah _ _ _ (aA (bg bH (by rfl) T.eO dG (pa1 (aw (dR (aw (pv' 0)) aM hr.dn br))))),?_⟩
 obtain ⟨⟨dx,dl,gl,hob,hdl,hgl,n1,n2⟩,hB⟩:=id hW
 obtain ⟨⟨db,f0,hbo,hF⟩,as,hrl,hR⟩:=id hB
 k_mem
 refine fgo hob T.aZ T.aX rfl ?_
 k_mem
 refine mgo hbo rfl ⟨_,_,_,_,_,rfl,hB,fun s0 ⟨A,hA⟩=>?_⟩
 k_mem
 refine fgo hA.ob T.aO T.cD rfl ?_
 k_mem
 exact ⟨_,.inl (SqL.of hA.go),q⟩
variable (sR:KM P w K mg base CX0 2 Z.bw "gates" (jU K Z))
inductive jV (K:WA)(Z:Adr)(vs:List V)(H:Hp)(Q:VK)(E:XK):Prop | mk (w bk rl:Addr) (g:Cfg) (n0:aS) (rs:List Row):vs=[.ref w]->WAt (clZ Z) K H w bk rl g n0 rs->(∀p,H p=none->Q (.ref p) (upd H p (.lst ((aj n0 rs).ws.map V.int))))->jV K Z vs H Q E
include T i5 aM in
theorem Ay:FF P w K mg base CX0 2 "spots" "Works.spots" lE sd (jV K Z):=fk0 zS fun vs H Q E h=>by
 obtain ⟨w,bk,rl,g,n0,rs,rfl,hW,q⟩:=h
 k_all
 refine ⟨_,@ah _ _ _ (aA (dR (aw (dR (aw (pv' 0)) aM hr.dn br)) i5 hr.dn br)),?_⟩
 obtain ⟨⟨dx,dl,gl,hob,hdl,hgl,n1,n2⟩,hB⟩:=id hW
 obtain ⟨⟨db,f0,hbo,hF⟩,as,hrl,hR⟩:=id hB
 k_mem
 refine fgo hob T.aZ T.aX rfl ?_
 k_mem
 refine mgo hbo rfl ⟨_,_,_,_,_,rfl,hB,fun s0 ⟨A,hA⟩=>?_⟩
 k_mem
 refine fgo hA.ob T.aO T.bQ rfl ?_
 k_mem
 obtain ⟨dy,hyb⟩:=hA.ya.ob
 k_upd
 exact ⟨_,_,hyb,rfl,_,_,_,_,_,_,rfl,hA.ya,q⟩
variable (lV:KM P w K mg base CX0 2 Z.bw "spots" (jV K Z))
inductive gV (K:WA)(Z:Adr)(vs:List V)(H:Hp)(Q:VK)(E:XK):Prop | mk (w bk rl:Addr) (g:Cfg) (n0:aS) (rs:List Row) (c:Int):vs=[.ref w,.int c]->WAt (clZ Z) K H w bk rl g n0 rs->0<=c->c < 2->(∀H',av H H'->Q (inC (aj n0 rs).ws c) H')->gV K Z vs H Q E
include T cU aM in
theorem xt:FF P w K mg base CX0 2 "in_cage" "Works.in_cage" iH oN (gV K Z):=fk0 wZ fun vs H Q E h=>by
 obtain ⟨w,bk,rl,g,n0,rs,c,rfl,hW,h0,h1,q⟩:=h
 k_all
 refine ⟨_,@ah _ _ _ (aA (dm' (aw (dR (aw (pv' 0)) aM hr.dn br)) cU hr.dn br (pa1 (pv' 1)))),?_⟩
 obtain ⟨⟨dx,dl,gl,hob,hdl,hgl,n1,n2⟩,hB⟩:=id hW
 obtain ⟨⟨db,f0,hbo,hF⟩,as,hrl,hR⟩:=id hB
 k_mem
 refine fgo hob T.aZ T.aX rfl ?_
 k_mem
 refine mgo hbo rfl ⟨_,_,_,_,_,rfl,hB,fun s0 ⟨A,hA⟩=>?_⟩
 k_mem
 refine fgo hA.ob T.aO T.bQ rfl ?_
 k_mem
 obtain ⟨dy,hyb⟩:=hA.ya.ob
 k_upd
 exact ⟨_,_,hyb,rfl,_,_,_,_,_,_,_,rfl,hA.ya,h0,h1,q⟩
variable (fL:KM P w K mg base CX0 2 Z.bw "in_cage" (gV K Z))
def K3 (c r0 sh:Int)(l:Addr)(H:Hp)(i:Nat)(σ:St)(H':Hp):Prop:=∃(ds:List Int) (last:Int) (t u:Option V),σ=[some (.int c),some (.int (2+r0)),some (.int sh),none,some (.ref l),some (.int last),t,u]/\mZ ds last/\last<=500 - (2+r0)+i/\ds.length=i/\H'=upd H l (.lst (ds.map V.int))
inductive qM (K:WA)(Z:Adr)(vs:List V)(H:Hp)(Q:VK)(E:XK):Prop | mk (c:Int):vs=[.int c]->(∀(l:Addr) (ds:List Int) (H':Hp),H l=none->av H H'->H' l=some (.lst (ds.map V.int))->cC ds->Q (.ref l) H')->qM K Z vs H Q E
include T cA in
theorem GD:FF P w K mg base CX0 2 "_law_depths" "_law_depths" tK zE (qM K Z):=fk0 dq fun vs H Q E h=>by
 obtain ⟨c,rfl,q⟩:=h
 k_all
 refine ⟨_,@ae _ _ _ _ _ (@aG _ _ 1 _ _ _ _ dq.nd rfl orL (aT bx af (dc0 cA hr.dn (pa3 (pv' 0) af af))) (by rfl) hfA) (@ae _ _ _ _ _ (@aG _ _ 2 _ _ _ _ dq.nd rfl orL (dc0 cA hr.dn (pa3 (pv' 0) af af)) (by rfl) hfA) (@ae _ _ _ _ _ (aQ (bV (pv' 2) af) (@ae _ _ _ _ _ (@aG _ _ 3 _ _ _ _ dq.nd rfl (Or.inr rfl) (aT bx af (dc0 cA hr.dn (pa3 (pv' 0) af af))) (by rfl) hfA) (@ah _ _ _ (aA (kh ["_law_k","_law_gap"] [none,some 3] (bA (by rfl) T.cB (pa1 (pv' 1))) (fun _ _ _ _=>(aE (i:=0) (show (["_law_k","_law_gap"]:List Str).Nodup by decide +kernel) rfl orL)) (fun _ _ _ _=>gf) (fun _ _ _ _=>(aT yY (pv' 1) (pv' 0))))))) (aC)) (@ae _ _ _ _ _ (@aG _ _ 4 _ _ _ _ dq.nd rfl orL (bh il) (by rfl) hfA) (@ae _ _ _ _ _ (@aG _ _ 5 _ _ _ _ dq.nd rfl orL (fB cN af) (by rfl) hfA) (@ae _ _ _ _ _ (cH PassesOwn.never rfl (bA (by rfl) T.cB (pa1 (pv' 1))) (aE (i:=6) dq.nd rfl orL) (@ae _ _ _ _ _ (@aG _ _ 7 _ _ _ _ dq.nd rfl orL (aT dh (aT bx (aT dh af (pv' 1)) (pv' 6)) (pv' 5)) (by rfl) hfA) (@ae _ _ _ _ _ (aQ (bV (pv' 2) af) (@ah _ _ _ (@aG _ _ 7 _ _ _ _ dq.nd rfl orL (aF (nu rfl) (by rfl) T.JI Dq (pa2 (pv' 7) af)) (by rfl) hfA)) (aC)) (@ae _ _ _ _ _ (@aG _ _ 5 _ _ _ _ dq.nd rfl orL (aT bx (aT bx (pv' 5) af) (dc0 cA hr.dn (pa3 (pv' 0) (aT bx af (pv' 6)) (pv' 7)))) (by rfl) hfA) (@ah _ _ _ (@bb _ _ _ _ (kg PySem.F.plainAttrs_list PySem.F.slot_list_append PySem.F.type_list_append cK (pv' 4) (pa1 (pv' 5))) (by rfl))))))) (@ae _ _ _ _ _ (aQ (mV (bV (pv' 2) af) (kb (bV (dc0 cA hr.dn (pa3 (pv' 0) af af)) af))).pt (@ah _ _ _ (aA (aT gp (aT gp (bh (pa1 af)) (ze MW (pv' 4) (uK af) (uK (fB cN af)))) (bh (pa1 af))))) (aC)) (@ah _ _ _ (aA (pv' 4))))))))),?_⟩
 k_mem
 refine ⟨c,0,5,rfl,by omega,by omega,by omega,fun r0 h0 h0'=>?_⟩
 k_mem
 refine ⟨c,1,4,rfl,by omega,by omega,by omega,fun sh h1 h1'=>?_⟩
 k_mem
 split
 ·refine ⟨c,2,100,rfl,by omega,by omega,by omega,fun r2 h2 h2'=>?_⟩
  k_mem
  refine ⟨by omega,by omega,uy (fun i=>V.int ((1+r2) * (i:Int))) (Nat.le_trans (by omega:(2+r0).toNat<=1000) (by decide)) rfl (fun i hi N q=>?_) (fun p hp=>?_)⟩
  ·k_mem
   rw [Int.zero_add]
   exact ⟨.inl ⟨by omega,by omega⟩,q⟩
  ·refine q p ((List.range (2+r0).toNat).map fun (i:Nat)=>(1+r2) * (i:Int)) _ hp (fun b o e=>?_) ?_ (cC.even (by omega) (by omega) (by omega) (by omega))
   ·rw [aN (ak e hp)];exact e
   ·rw [ag,List.map_map];rfl
 ·refine ⟨by decide,fun l hln=>⟨by omega,by omega,cf (K3 c r0 sh l H) ⟨[],-1,_,_,rfl,mZ.nil,by omega,rfl,rfl⟩ ?_ ?_⟩⟩
  ·rintro i σ H' hi ⟨ds,last,t,u,rfl,hR,hla,hlen,rfl⟩
   have l0:=hR.l0
   k_mem
   split
   all_goals
    refine ⟨c,_,_,rfl,by omega,by omega,by (try split)<;>omega,fun r hr0 hr1=>?_⟩
    k_mem
    refine ⟨.inl ⟨rfl,_,SqL.of ag⟩,_,ag,cu (by rw [WB];omega),ds++[last+1+r],last+1+r,_,_,rfl,hR.snoc hr0,?_,by rw [List.length_append,hlen];rfl,?_⟩
    ·(try split at hr1)<;>omega
    ·rw [Nn,List.map_append];rfl
  ·rintro σ H' ⟨ds,last,t,u,rfl,hR,hla,hlen,rfl⟩
   have hsh:=hR.shaft (by omega) (by omega) (by omega)
   have hQ0:Q (V.ref l) (upd H l (HO.lst (List.map V.int ds))):=q l ds _ hln ((av.refl H).lay hln) ag hsh
   k_mem
   split
   ·refine ⟨c,8,4,rfl,by omega,by omega,by omega,fun r hr0 hr1=>?_⟩
    k_mem
    split
    ·refine ⟨by decide,fun p1 hp1=>⟨_,SqL.of (upo ag hp1),fun p2 hp2=>⟨_,upo ag hp2,_,ag,?_,fun p3 hp3=>⟨by decide,fun p4 hp4=>⟨_,upo ag hp4,_,ag,?_,fun p5 hp5=>?_⟩⟩⟩⟩⟩
     ·have:=ke (List.map V.int ds) (some 1) (some (-1))
      rw [WB] at this
      exact Nat.le_of_lt (cu (by rw [List.length_singleton];omega))
     ·have:=ke (List.map V.int ds) (some 1) (some (-1))
      rw [WB] at this
      exact Nat.le_of_lt (cu (by rw [List.length_append,List.length_singleton,List.length_singleton];omega))
     ·refine q p5 ([0]++(ds.drop 1).take (ds.length - 1 - 1)++[500]) _ (upn (upn (upn (upn (upn hp5))))) ((((((av.refl H).lay hln).lay hp1).lay hp2).lay hp3).lay hp4 |>.lay hp5) ?_ hsh.ends
      rw [ag,LQ ds hsh.l2,List.map_append,List.map_append]
      rfl
    ·exact hQ0
   ·exact hQ0
variable (Az:KD P w K mg base CX0 2 "_law_depths" (qM K Z))
def Ng (K:WA)(c m:Int)(l:Addr)(H:Hp)(i:Nat)(σ:St)(H':Hp):Prop:=av H H'/\∃(as:List Addr) (ls:List Cd) (t u:Option V),σ=[some (.int c),some (.int m),some (.ref l),t,u]/\H' l=some (.lst (as.map V.ref))/\dz cdV K H' as ls/\ls.length=i/\∀x∈ls,eX x
inductive ue (K:WA)(Z:Adr)(vs:List V)(H:Hp)(Q:VK)(E:XK):Prop | mk (c m:Int):vs=[.int c,.int m]->0<=m->m<=500->(∀(l:Addr) (as:List Addr) (ls:List Cd) (H':Hp),H l=none->av H H'->H' l=some (.lst (as.map V.ref))->dz cdV K H' as ls->(ls.length:Int)=m->(∀x∈ls,eX x)->Q (.ref l) H')->ue K Z vs H Q E
include T cA in
theorem IQ:FF P w K mg base CX0 2 "_law_codes" "_law_codes" w9 Cv (ue K Z):=fk0 nU fun vs H Q E h=>by
 obtain ⟨c,m,rfl,h0,h1,q⟩:=h
 k_all
 refine ⟨_,@ae _ _ _ _ _ (@aG _ _ 2 _ _ _ _ nU.nd rfl orL (bh il) (by rfl) hfA) (@ae _ _ _ _ _ (cH PassesOwn.never rfl (bA (by rfl) T.cB (pa1 (pv' 1))) (aE (i:=3) nU.nd rfl orL) (@ae _ _ _ _ _ (@aG _ _ 4 _ _ _ _ nU.nd rfl orL (aT bx af (dc0 cA hr.dn (pa3 (pv' 0) (pE af (pv' 3)) af))) (by rfl) hfA) (@ah _ _ _ (@bb _ _ _ _ (kg PySem.F.plainAttrs_list PySem.F.slot_list_append PySem.F.type_list_append cK (pv' 2) (pa1 (aK (pa2 (pv' 4) (aT bx af (cO (aT bx (pv' 4) (dc0 cA hr.dn (pa3 (pv' 0) (aT bx (pE af (pv' 3)) af) af))) af)))))) (by rfl))))) (@ah _ _ _ (aA (pv' 2)))),?_⟩
 k_mem
 refine ⟨by decide,fun l hl=>⟨by omega,by omega,?_⟩⟩
 refine cf (Ng K c m l H) ⟨(av.refl H).lay hl,[],[],_,_,rfl,ag,dz.nil,rfl,fun x hx=>by cases hx⟩ ?_ ?_
 ·rintro i σ H' hi ⟨s1,as,ls,t,u,rfl,hl',hT,hlen,hg⟩
  k_mem
  refine ⟨c,2 * (0 + ↑i),9,rfl,by omega,by omega,by omega,fun r1 h2 h3=>?_⟩
  k_mem
  refine ⟨.inl ⟨rfl,_,SqL.of hl'⟩,c,2 * (0 + ↑i)+1,8,rfl,by omega,by omega,by omega,fun r2 h4 h5=>?_⟩
  k_mem
  refine ⟨by decide,fun p2 hp2=>⟨_,upo hl' hp2,cu (by rw [WB,hT.1];omega),?_⟩⟩
  have hl2:=upo (o:=HO.tup [V.int (1+r1),V.int (1+(1+r1+r2) % 9)]) hl' hp2
  refine ⟨(s1.lay hp2).rewr hl,as++[p2],ls++[(1+r1,1+(1+r1+r2) % 9)],_,_,rfl,?_,?_,by rw [List.length_append,hlen];rfl,?_⟩
  ·rw [ag,List.map_append];rfl
  ·exact ((hT.same ((av.refl H').lay hp2)).app (dz.one (SqT.of ag))).rew hl2
  ·intro x hx
   rcases List.mem_append.mp hx with hx | hx
   ·exact hg x hx
   ·rw [List.mem_singleton] at hx
    subst hx
    refine ⟨⟨?_,?_⟩,⟨?_,?_⟩,?_⟩
    ·show 1<=1+r1;omega
    ·show 1+r1<=9;omega
    ·show 1<=1+(1+r1+r2) % 9;omega
    ·show 1+(1+r1+r2) % 9<=9;omega
    ·show 1+r1≠1+(1+r1+r2) % 9;omega
 ·rintro σ H' ⟨s1,as,ls,t,u,rfl,hl',hT,hlen,hg⟩
  k_mem
  exact q l as ls H' hl s1 hl' hT (by omega) hg
variable (Dc:KD P w K mg base CX0 2 "_law_codes" (ue K Z))
def Nh (K:WA)(c m mo:Int)(cn:V)(l:Addr)(H:Hp)(i:Nat)(σ:St)(H':Hp):Prop:=av H H'/\∃(as:List Addr) (ls:List Ld) (t u:Option V),σ=[some (.int c),some (.int m),some (.int mo),some (.ref l),some cn,t,u]/\H' l=some (.lst (as.map V.ref))/\kQ K H' as ls/\ls.length=i/\(∀x∈ls,je m x/\Ht x)
theorem two_of {r2 r1 mo:Int}(h0:0<=r1)(h1:r1 < mo+1):∃n:Int,atI [V.int r1,V.int mo] (if decide (r2=3)=true then 1 else 0)=some (V.int n)/\0<=n/\n<=mo:=by
 split
 ·exact ⟨mo,rfl,by omega,by omega⟩
 ·exact ⟨r1,rfl,by omega,by omega⟩
inductive uf (K:WA)(Z:Adr)(vs:List V)(H:Hp)(Q:VK)(E:XK):Prop | mk (c m mo:Int):vs=[.int c,.int m,.int mo]->0 < m->0<=mo->mo<=500->(∀(l:Addr) (as:List Addr) (ls:List Ld) (H':Hp),H l=none->av H H'->H' l=some (.lst (as.map V.ref))->kQ K H' as ls->(ls.length:Int)<=mo->(∀x∈ls,je m x/\Ht x)->Q (.ref l) H')->uf K Z vs H Q E
include T cA in
theorem IS:FF P w K mg base CX0 2 "_law_loads" "_law_loads" xa Cw (uf K Z):=fk0 jC fun vs H Q E h=>by
 obtain ⟨c,m,mo,rfl,hm,h0,h1,q⟩:=h
 k_all
 refine @seg _ _ _ 3 _ (@ah _ _ _ (aA (pv' 3))) fun zt3 zh3 ze3=>?_
 refine @seg _ _ _ 2 _ (@ae _ _ _ _ _ (cH PassesOwn.never rfl (bA (by rfl) T.cB (pa1 (pv' 4))) (aE (i:=5) jC.nd rfl orL) (@ae _ _ _ _ _ (@aG _ _ 6 _ _ _ _ jC.nd rfl orL (ao ax (bh (pa2 aB aB)) (dc0 cA hr.dn (pa3 (pv' 0) (aT bx (pE af (pv' 5)) af) af))) (by rfl) hfA) (@ah _ _ _ (@bb _ _ _ _ (kg PySem.F.plainAttrs_list PySem.F.slot_list_append PySem.F.type_list_append cK (pv' 3) (pa1 (aK (pa3 (pv' 6) (dc0 cA hr.dn (pa3 (pv' 0) (aT bx (pE af (pv' 5)) af) (pv' 1))) (dc0 cA hr.dn (pa3 (pv' 0) (aT bx (pE af (pv' 5)) af) (pv' 1))))))) (by rfl))))) zh3) fun zt2 zh2 ze2=>?_
 refine @seg _ _ _ 1 _ (@ae _ _ _ _ _ (@aG _ _ 4 _ _ _ _ jC.nd rfl orL (ao ax (bh (pa2 (dc0 cA hr.dn (pa3 (pv' 0) af (aT bx (pv' 2) af))) (pv' 2))) (bg dS (by rfl) T.oO iq (pa1 (dF jj (dc0 cA hr.dn (pa3 (pv' 0) af af)) af (cE _))))) (by rfl) hfA) zh2) fun zt1 zh1 ze1=>?_
 refine ⟨_,@ae _ _ _ _ _ (@aG _ _ 3 _ _ _ _ jC.nd rfl orL (bh il) (by rfl) hfA) zh1,?_⟩
 k_mem
 refine ⟨by decide,fun l hl=>?_⟩
 k_upd
 refine ⟨c,0,mo+1,rfl,by omega,by omega,by omega,fun r1 h2 h3=>⟨by decide,fun p hp=>⟨c,94,4,rfl,by omega,by omega,by omega,fun r2 h4 h5=>⟨_,SqL.of ag,?_⟩⟩⟩⟩
 obtain ⟨n,e,hn0,hn1⟩:=two_of (r2:=r2) h2 h3
 k_upd
 refine ⟨_,e,?_⟩
 k_mem
 refine ⟨by omega,by omega,?_⟩
 k_upd
 refine cf (Nh K c m mo (.int n) l H) ⟨(av.refl H).lay hl |>.lay hp,[],[],none,none,rfl,upo ag hp,kQ.nil,rfl,fun x hx=>by cases hx⟩ ?_ ?_
 ·rintro i σ H' hi ⟨s1,as,ls,t,u,rfl,hl',hT,hlen,hg⟩
  k_mem
  refine ⟨by decide,fun p1 hp1=>?_⟩
  k_upd
  refine ⟨c,3 * (0 + ↑i)+1,2,rfl,by omega,by omega,by omega,fun r3 h6 h7=>?_⟩
  obtain ⟨kd,hk,ek⟩:=LZ h6 h7
  k_mem
  refine ⟨_,SqL.of ag,_,ek,?_⟩
  k_mem
  refine ⟨.inl ⟨rfl,_,SqL.of (upo hl' hp1)⟩,c,3 * (0 + ↑i)+2,m,rfl,by omega,by omega,by omega,fun r4 h8 h9=>?_⟩
  k_upd
  refine ⟨c,3 * (0 + ↑i)+3,m,rfl,by omega,by omega,by omega,fun r5 h10 h11=>?_⟩
  k_mem
  refine ⟨by decide,fun p2 hp2=>⟨_,upo (upo hl' hp1) hp2,cu (by rw [WB,hT.1];omega),?_⟩⟩
  have hl2:=upo (o:=HO.tup [V.str kd,V.int r4,V.int r5]) (upo (o:=HO.lst [V.str (Str.ofString "men"),V.str (Str.ofString "coal")]) hl' hp1) hp2
  k_upd
  refine ⟨(s1.lay hp1 |>.lay hp2).rewr hl,as++[p2],ls++[(kd,r4,r5)],_,_,rfl,?_,?_,by rw [List.length_append,hlen];rfl,?_⟩
  ·rw [ag,List.map_append];rfl
  ·exact ((hT.same ((av.refl H').lay hp1 |>.lay hp2)).app (kQ.one (SqT.of ag))).rew hl2
  ·intro x hx
   rcases List.mem_append.mp hx with hx | hx
   ·exact hg x hx
   ·rw [List.mem_singleton] at hx
    subst hx
    k_upd
    exact ⟨⟨⟨h8,h9⟩,⟨h10,h11⟩⟩,hk⟩
 ·rintro σ H' ⟨s1,as,ls,t,u,rfl,hl',hT,hlen,hg⟩
  k_mem
  exact q l as ls H' hl s1 hl' hT (by omega) hg
variable (De:KD P w K mg base CX0 2 "_law_loads" (uf K Z))
inductive xu (K:WA)(Z:Adr)(vs:List V)(H:Hp)(Q:VK)(E:XK):Prop | mk (p dl cl ll a dd:Addr) (g:Cfg) (lds:List Ld) (n:aS) (t:Int) (d:Dd):vs=[.ref p,.ref a,.ref dd]->eI K H p dl cl ll g lds->eA g->cQ g n->iu K H a (n,t)->SqT K H dd (ddV d)->A4 d->eU g n d=none->(∀b H',av H H'->iu K H' b (c8 g n d,t+ir g n d)->Q (.ref b) H')->xu K Z vs H Q E
include T ou vK CU CV CW in
theorem K4:FF P w K mg base CX0 2 "_law_next" "_law_next" zY Fz (xu K Z):=fk0 cv fun vs H Q E h=>by
 obtain ⟨p,dl,cl,ll,a,dd,g,lds,n,t,d,rfl,hP,hg,hn,hSt,hD,ok,hrf,q⟩:=h
 k_all
 refine @seg _ _ _ 8 _ (@ah _ _ _ (aA (aK (dY (pv' 3) (dY (pv' 4) (pa4 (pv' 5) (pv' 6) (pv' 7) (pv' 9))))))) fun zt8 zh8 ze8=>?_
 refine @seg _ _ _ 7 _ (@ae _ _ _ _ _ (aQ (bV (ao aq (pv' 2) af) aB) (@ae _ _ _ _ _ (@aG _ _ 11 _ _ _ _ cv.nd rfl orL (ao ax (ao ax (pv' 0) af) (ao aq (pv' 2) af)) (by rfl) hfA) (@ae _ _ _ _ _ (@aG _ _ 12 _ _ _ _ cv.nd rfl orL (ao ax (bh (pa2 (pv' 11) (aT dh (ao ax (ao ax (pv' 0) af) (fB cN af)) (pv' 11)))) (ao aq (pv' 2) af)) (by rfl) hfA) (@ae _ _ _ _ _ (@aG _ _ 9 _ _ _ _ cv.nd rfl orL (aT bx (pv' 8) (dc0 CU hr.dn (pa2 (aF wU (by rfl) T.M4 Hn (pa1 (aT dh (pv' 12) (pv' 3)))) (dc0 CV hr.dn (pa2 (pv' 0) (pv' 5)))))) (by rfl) hfA) (@ah _ _ _ (@aG _ _ 3 _ _ _ _ cv.nd rfl orL (pv' 12) (by rfl) hfA))))) (aC)) zh8) fun zt7 zh7 ze7=>?_
 refine @seg _ _ _ 6 _ (@ae _ _ _ _ _ (aQ (bV (ao aq (pv' 2) af) aB) (@ah _ _ _ (@aG _ _ 7 _ _ _ _ cv.nd rfl orL (bg pF (by rfl) T.vn pz (pa1 (aF Hx (by rfl) T.M3 Ko (pa1 (aT MU (pv' 7) (aK (pa1 (ao aq (pv' 2) af)))))))) (by rfl) hfA)) (aC)) zh7) fun zt6 zh6 ze6=>?_
 refine @seg _ _ _ 5 _ (@ae _ _ _ _ _ (aQ (bV (ao aq (pv' 2) af) aB) (@ae _ _ _ _ _ (@aG _ _ 10 _ _ _ _ cv.nd rfl orL (dc0 ou hr.dn (pa3 (ao ax (pv' 0) af) (ao aq (pv' 2) af) (pv' 3))) (by rfl) hfA) (@ah _ _ _ (@aG _ _ 5 _ _ _ _ cv.nd rfl orL (dc0 vK hr.dn (pa3 (pv' 5) (QN PySem.F.plainAttrs_tuple PySem.F.slot_tuple_index PySem.F.type_tuple_index Kz (pv' 5) (pa1 (aT bx af (ao aq (pv' 2) af)))) (pv' 10))) (by rfl) hfA))) (aC)) zh6) fun zt5 zh5 ze5=>?_
 refine @seg _ _ _ 4 _ (@ae _ _ _ _ _ (aQ (bV (ao aq (pv' 2) af) aB) (@ah _ _ _ (@aG _ _ 5 _ _ _ _ cv.nd rfl orL (dc0 vK hr.dn (pa3 (pv' 5) (ao aq (pv' 2) af) (aT bx af (ao aq (pv' 2) af)))) (by rfl) hfA)) (aC)) zh5) fun zt4 zh4 ze4=>?_
 refine @seg _ _ _ 3 _ (@ae _ _ _ _ _ (aQ (pe (bV (ao aq (pv' 2) af) aB) (kM (bV (ao aq (pv' 2) af) aB))).pt (@ah _ _ _ (@aG _ _ 4 _ _ _ _ cv.nd rfl orL (dc0 vK hr.dn (pa3 (pv' 4) (ao aq (pv' 2) af) (dF jj (ao aq (pv' 2) af) aB (cE _)))) (by rfl) hfA)) (aC)) zh4) fun zt3 zh3 ze3=>?_
 refine @seg _ _ _ 2 _ (@ae _ _ _ _ _ (@aG _ _ 9 _ _ _ _ cv.nd rfl orL (aT bx (pv' 8) af) (by rfl) hfA) zh3) fun zt2 zh2 ze2=>?_
 refine @seg _ _ _ 1 _ (@ae _ _ _ _ _ (@aG _ _ 6 _ _ _ _ cv.nd rfl orL (dc0 CW hr.dn (pa2 (pv' 6) (pv' 2))) (by rfl) hfA) zh2) fun zt1 zh1 ze1=>?_
 refine ⟨_,@ae _ _ _ _ _ (kO (pv' 1) (eS rfl (aI (aE (i:=3) cv.nd rfl orL) (aI (aE (i:=4) cv.nd rfl orL) (aI (aE (i:=5) cv.nd rfl orL) (aI (aE (i:=6) cv.nd rfl orL) (aI (aE (i:=7) cv.nd rfl orL) (aI (aE (i:=8) cv.nd rfl orL) de)))))))) zh1,?_⟩
 obtain ⟨gt,lt,ht,dt,h1,h2,h3,h4,h5⟩:=hSt
 obtain ⟨hp,hdl,_,⟨bs,hll,hT2⟩,ek⟩:=id hP
 have l2:=hg.sh.l2
 have l6:=hg.sh.l6
 have gl:=hn.gl
 have wl:=hn.wl
 have k30:=hg.k30
 have ekl:lds.length=g.ks.length:=by rw [ek,WB]
 k_mem
 refine ⟨_,h1,rfl,?_⟩
 k_mem
 refine ⟨ht,dd,g,n,d,rfl,h4,hD,hrf,fun hh H1 s1 hH=>?_⟩
 have hD1:=s1.tup hD
 k_mem
 cases d with
 | ring l s=>
  refine ⟨_,hD1,_,rfl,?_⟩
  k_mem
  rw [if_neg (by decide)]
  k_upd
  refine ⟨_,hD1,_,rfl,?_⟩
  k_mem
  rw [if_neg (by decide)]
  k_upd
  refine ⟨_,hD1,_,rfl,?_⟩
  k_mem
  rw [if_neg (by decide)]
  k_upd
  refine ⟨_,hD1,_,rfl,?_⟩
  k_mem
  rw [if_neg (by decide)]
  k_upd
  refine ⟨_,hD1,_,rfl,?_⟩
  k_mem
  rw [if_neg (by decide)]
  k_upd
  refine ⟨_,hD1,_,rfl,?_⟩
  k_mem
  rw [if_neg (by decide)]
  k_upd
  refine ⟨by decide,fun b hb=>q b _ ((s1).lay hb) ⟨gt,lt,hh,dt,SqT.of ag,?_,?_,?_,?_⟩⟩
  ·exact (s1.lay hb).tup h2
  ·exact upo (s1 _ _ h3) hb
  ·exact ((av.refl H1).lay hb).tup hH
  ·exact (s1.lay hb).tup h5
 | rept s=>
  refine ⟨_,hD1,_,rfl,?_⟩
  k_mem
  rw [if_neg (by decide)]
  k_upd
  refine ⟨_,hD1,_,rfl,?_⟩
  k_mem
  rw [if_neg (by decide)]
  k_upd
  refine ⟨_,hD1,_,rfl,?_⟩
  k_mem
  rw [if_neg (by decide)]
  k_upd
  refine ⟨_,hD1,_,rfl,?_⟩
  k_mem
  rw [if_neg (by decide)]
  k_upd
  refine ⟨_,hD1,_,rfl,?_⟩
  k_mem
  rw [if_neg (by decide)]
  k_upd
  refine ⟨_,hD1,_,rfl,?_⟩
  k_mem
  rw [if_neg (by decide)]
  k_upd
  refine ⟨by decide,fun b hb=>q b _ ((s1).lay hb) ⟨gt,lt,hh,dt,SqT.of ag,?_,?_,?_,?_⟩⟩
  ·exact (s1.lay hb).tup h2
  ·exact upo (s1 _ _ h3) hb
  ·exact ((av.refl H1).lay hb).tup hH
  ·exact (s1.lay hb).tup h5
 | opn l=>
  obtain ⟨hl,_⟩:=NU hrf
  k_upd
  refine ⟨_,hD1,_,rfl,?_⟩
  k_mem
  rw [if_pos rfl]
  k_upd
  refine ⟨_,hD1,_,rfl,_,hD1,_,rfl,?_⟩
  k_mem
  refine ⟨gt,n.gates.map V.bl,l,.bl true,?_,s1.tup h2,hl.1,by rw [WB];omega,by rw [WB];omega,fun g2 H2 s2 hg2=>?_⟩
  ·rfl
  have s12:=s1.trans s2
  have hD2:=s2.tup hD1
  k_mem
  refine ⟨_,hD2,_,rfl,?_⟩
  k_mem
  rw [if_neg (by decide)]
  k_upd
  refine ⟨_,hD2,_,rfl,?_⟩
  k_mem
  rw [if_neg (by decide)]
  k_upd
  refine ⟨_,hD2,_,rfl,?_⟩
  k_mem
  rw [if_neg (by decide)]
  k_upd
  refine ⟨_,hD2,_,rfl,?_⟩
  k_mem
  rw [if_neg (by decide)]
  k_upd
  refine ⟨by decide,fun b hb=>q b _ ((s12).lay hb) ⟨g2,lt,hh,dt,SqT.of ag,?_,?_,?_,?_⟩⟩
  ·exact SqT.of (by rw [upo hg2 hb,uE];rfl)
  ·exact upo (s12 _ _ h3) hb
  ·exact (s2.lay hb).tup hH
  ·exact (s12.lay hb).tup h5
 | sht l=>
  obtain ⟨hl,_⟩:=NV hrf
  k_upd
  refine ⟨_,hD1,_,rfl,?_⟩
  k_mem
  rw [if_neg (by decide)]
  k_upd
  refine ⟨_,hD1,_,rfl,?_⟩
  k_mem
  rw [if_pos rfl]
  k_upd
  refine ⟨_,hD1,_,rfl,_,hD1,_,rfl,?_⟩
  k_mem
  refine ⟨gt,n.gates.map V.bl,l,.bl false,?_,s1.tup h2,hl.1,by rw [WB];omega,by rw [WB];omega,fun g2 H2 s2 hg2=>?_⟩
  ·rfl
  have s12:=s1.trans s2
  have hD2:=s2.tup hD1
  k_mem
  refine ⟨_,hD2,_,rfl,?_⟩
  k_mem
  rw [if_neg (by decide)]
  k_upd
  refine ⟨_,hD2,_,rfl,?_⟩
  k_mem
  rw [if_neg (by decide)]
  k_upd
  refine ⟨_,hD2,_,rfl,?_⟩
  k_mem
  rw [if_neg (by decide)]
  k_upd
  refine ⟨_,hD2,_,rfl,?_⟩
  k_mem
  rw [if_neg (by decide)]
  k_upd
  refine ⟨by decide,fun b hb=>q b _ ((s12).lay hb) ⟨g2,lt,hh,dt,SqT.of ag,?_,?_,?_,?_⟩⟩
  ·exact SqT.of (by rw [upo hg2 hb,uE];rfl)
  ·exact upo (s12 _ _ h3) hb
  ·exact (s2.lay hb).tup hH
  ·exact (s12.lay hb).tup h5
 | load k c=>
  obtain ⟨hk,l,hl,_,_,_⟩:=Fc hrf
  k_upd
  refine ⟨_,hD1,_,rfl,?_⟩
  k_mem
  rw [if_neg (by decide)]
  k_upd
  refine ⟨_,hD1,_,rfl,?_⟩
  k_mem
  rw [if_neg (by decide)]
  k_upd
  refine ⟨_,hD1,_,rfl,?_⟩
  k_mem
  rw [if_pos rfl]
  k_upd
  refine ⟨_,hD1,_,rfl,_,hD1,_,rfl,?_⟩
  k_mem
  refine ⟨lt,n.ws.map V.int,k,.int (10+c),rfl,SqT.of (s1 _ _ h3),hk.1,by rw [WB];omega,by rw [WB];omega,fun w2 H2 s2 hw2=>?_⟩
  have s12:=s1.trans s2
  have hD2:=s2.tup hD1
  k_mem
  refine ⟨_,hD2,_,rfl,?_⟩
  k_mem
  rw [if_neg (by decide)]
  k_upd
  refine ⟨_,hD2,_,rfl,?_⟩
  k_mem
  rw [if_neg (by decide)]
  k_upd
  refine ⟨_,hD2,_,rfl,?_⟩
  k_mem
  rw [if_neg (by decide)]
  k_upd
  refine ⟨by decide,fun b hb=>q b _ ((s12).lay hb) ⟨gt,w2,hh,dt,SqT.of ag,?_,?_,?_,?_⟩⟩
  ·exact (s12.lay hb).tup h2
  ·rw [upo hw2 hb,uE];rfl
  ·exact (s2.lay hb).tup hH
  ·exact (s12.lay hb).tup h5
 | unload c=>
  obtain ⟨hin,l,hl,_⟩:=zp hrf
  have hix:=wJ hin
  k_upd
  refine ⟨_,hD1,_,rfl,?_⟩
  k_mem
  rw [if_neg (by decide)]
  k_upd
  refine ⟨_,hD1,_,rfl,?_⟩
  k_mem
  rw [if_neg (by decide)]
  k_upd
  refine ⟨_,hD1,_,rfl,?_⟩
  k_mem
  rw [if_neg (by decide)]
  k_upd
  refine ⟨_,hD1,_,rfl,?_⟩
  k_mem
  rw [if_pos rfl]
  k_upd
  refine ⟨_,SqL.of (s1 _ _ hp),_,rfl,_,hD1,_,rfl,?_⟩
  k_mem
  refine ⟨dl,g.ds,c,n.place,rfl,SqL.of (s1 _ _ hdl),hg.sh,ok.1,ok.2,fun H2 s2=>?_⟩
  have s12:=s1.trans s2
  have hD2:=s2.tup hD1
  k_mem
  refine ⟨⟨_,_,rfl,s12 _ _ h3⟩,_,hD2,_,rfl,?_⟩
  k_mem
  refine ⟨_,n.ws,_,rfl,rfl,s12 _ _ h3,hin,?_⟩
  k_mem
  refine ⟨lt,n.ws.map V.int,_,.int ((bN g.ds n.place c).getD (-1)),rfl,SqT.of (s12 _ _ h3),Int.natCast_nonneg _,by rw [WB];omega,by rw [WB];omega,fun w2 H3 s3 hw2=>?_⟩
  have s13:=s12.trans s3
  have hD3:=s3.tup hD2
  k_mem
  refine ⟨_,hD3,_,rfl,?_⟩
  k_mem
  rw [if_neg (by decide)]
  k_upd
  refine ⟨_,hD3,_,rfl,?_⟩
  k_mem
  rw [if_neg (by decide)]
  k_upd
  refine ⟨by decide,fun b hb=>q b _ ((s13).lay hb) ⟨gt,w2,hh,dt,SqT.of ag,?_,?_,?_,?_⟩⟩
  ·exact (s13.lay hb).tup h2
  ·rw [upo hw2 hb,Int.toNat_natCast,uE];rfl
  ·exact ((s2.trans s3).lay hb).tup hH
  ·exact (s13.lay hb).tup h5
 | fail l=>
  obtain ⟨hl,hf⟩:=Mc hrf
  have fl:=hn.fl
  have dlen:=wM n.fs
  k_upd
  refine ⟨_,hD1,_,rfl,?_⟩
  k_mem
  rw [if_neg (by decide)]
  k_upd
  refine ⟨_,hD1,_,rfl,?_⟩
  k_mem
  rw [if_neg (by decide)]
  k_upd
  refine ⟨_,hD1,_,rfl,?_⟩
  k_mem
  rw [if_neg (by decide)]
  k_upd
  refine ⟨_,hD1,_,rfl,?_⟩
  k_mem
  rw [if_neg (by decide)]
  k_upd
  refine ⟨_,hD1,_,rfl,?_⟩
  k_mem
  rw [if_pos rfl]
  k_upd
  refine ⟨_,hD1,_,rfl,?_⟩
  k_mem
  refine ⟨by decide,fun p1 hp1=>⟨_,(s1.lay hp1).tup h5,_,SqT.of ag,by rw [WB];show (c9 n.fs).length+1<=1000;omega,fun p2 H2 s2 hc=>?_⟩⟩
  have s12:=(s1.lay (o:=HO.tup [V.int l]) hp1).trans s2
  have f12:=((av.refl H1).lay (o:=HO.tup [V.int l]) hp1).trans s2
  k_upd
  refine ⟨p2,c9 n.fs++[l],rfl,by rw [List.map_append];exact hc,by rw [List.length_append,List.length_singleton];omega,fun l1 ms hl1 hpm hpw=>?_⟩
  rw [KC hl.1 (by omega) hf hpm hpw]
  k_mem
  refine ⟨_,.inl ⟨SqL.of ag,fun d2 hd2=>?_⟩⟩
  have s13:=(s12.lay (o:=HO.lst ((c9 (n.fs.set l.toNat true)).map V.int)) hl1).lay (o:=HO.tup ((c9 (n.fs.set l.toNat true)).map V.int)) hd2
  have f13:=(f12.lay (o:=HO.lst ((c9 (n.fs.set l.toNat true)).map V.int)) hl1).lay (o:=HO.tup ((c9 (n.fs.set l.toNat true)).map V.int)) hd2
  have hd3:upd (upd H2 l1 (HO.lst ((c9 (n.fs.set l.toNat true)).map V.int))) d2 (HO.tup ((c9 (n.fs.set l.toNat true)).map V.int)) d2=some (HO.tup ((c9 (n.fs.set l.toNat true)).map V.int)):=ag
  generalize upd (upd H2 l1 (HO.lst ((c9 (n.fs.set l.toNat true)).map V.int))) d2 (HO.tup ((c9 (n.fs.set l.toNat true)).map V.int))=H3 at *
  have hD3:=f13.tup hD1
  k_mem
  refine ⟨_,hD3,_,rfl,?_⟩
  k_mem
  rw [if_neg (by decide)]
  k_upd
  refine ⟨by decide,fun b hb=>q b _ ((s13).lay hb) ⟨gt,lt,hh,d2,SqT.of ag,?_,?_,?_,?_⟩⟩
  ·exact (s13.lay hb).tup h2
  ·exact upo (s13 _ _ h3) hb
  ·exact (f13.lay hb).tup hH
  ·exact SqT.of (upo hd3 hb)
 | wind c l k=>
  obtain ⟨hl,_,harm⟩:=uC hrf
  have okc:0<=c/\c < 2:=ok.1
  k_upd
  refine ⟨_,hD1,_,rfl,?_⟩
  k_mem
  rw [if_neg (by decide)]
  k_upd
  refine ⟨_,hD1,_,rfl,?_⟩
  k_mem
  rw [if_neg (by decide)]
  k_upd
  refine ⟨_,hD1,_,rfl,?_⟩
  k_mem
  rw [if_neg (by decide)]
  k_upd
  refine ⟨_,hD1,_,rfl,?_⟩
  k_mem
  rw [if_neg (by decide)]
  k_upd
  refine ⟨_,hD1,_,rfl,?_⟩
  k_mem
  rw [if_neg (by decide)]
  k_upd
  refine ⟨_,hD1,_,rfl,?_⟩
  k_mem
  rw [if_pos rfl]
  k_upd
  refine ⟨_,SqL.of (s1 _ _ hp),_,rfl,?_⟩
  k_mem
  refine ⟨_,hD1,_,rfl,?_⟩
  k_mem
  refine ⟨_,SqL.of (s1 _ _ hdl),_,dZ hl.1 hl.2,?_⟩
  k_mem
  refine ⟨_,SqL.of (s1 _ _ hp),_,rfl,?_⟩
  k_mem
  refine ⟨_,SqL.of (s1 _ _ hdl),_,Hq (by omega),?_⟩
  k_mem
  refine ⟨by decide,fun p1 hp1=>⟨_,((av.refl H1).lay hp1).tup hD1,_,rfl,?_⟩⟩
  k_mem
  refine ⟨_,SqL.of ag,_,two_deep okc.1 okc.2,?_⟩
  have f2:=(av.refl H1).lay (o:=HO.lst [V.int (g.ds.getD l.toNat 0),V.int (cw g.ds - g.ds.getD l.toNat 0)]) hp1
  have s2:=s1.lay (o:=HO.lst [V.int (g.ds.getD l.toNat 0),V.int (cw g.ds - g.ds.getD l.toNat 0)]) hp1
  generalize upd H1 p1 (HO.lst [V.int (g.ds.getD l.toNat 0),V.int (cw g.ds - g.ds.getD l.toNat 0)])=H2 at *
  rw [show (if c=0 then g.ds.getD l.toNat 0 else cw g.ds - g.ds.getD l.toNat 0)=eY g.ds c l from rfl]
  k_mem
  refine ⟨p,dl,cl,ll,lt,g,lds,n.ws,rfl,hP.same s2,SqT.of (s2 _ _ h3),by omega,by omega,fun x hx=>by have:=hn.wr x hx;omega,?_⟩
  k_mem
  have sp:=hg.speed n
  have pl:=hn.place hg
  have hm:g.ds.getD l.toNat 0∈g.ds:=cW (by omega)
  have m0:=hg.sh.lo _ hm
  have m5:=hg.sh.hi _ hm
  have mw:=hg.sh.le_whole hm
  have w5:=hg.sh.hi _ hg.sh.whole_mem
  have wb:0<=eY g.ds c l/\eY g.ds c l<=500:=by unfold eY;split<;>omega
  rw [show (if E5 g.ks n.ws=true then g.slow else g.fast)=fu g n from rfl]
  k_upd
  refine ⟨_,_,rfl,by split<;>omega,by split<;>omega,by omega,by omega,?_⟩
  k_mem
  refine ⟨by decide,fun b hb=>q b _ ((s2).lay hb) ⟨gt,lt,hh,dt,SqT.of ag,?_,?_,?_,?_⟩⟩
  ·exact (s2.lay hb).tup h2
  ·exact upo (s2 _ _ h3) hb
  ·exact (f2.lay hb).tup hH
  ·exact (s2.lay hb).tup h5
variable (GF:KD P w K mg base CX0 2 "_law_next" (xu K Z))
def Sn (H:Hp)(p a dl cl ht lv:Addr)(r:Int)(g:Cfg)(n:aS)(i:Nat)(σ:St)(H':Hp):Prop:=av H H'/\(∃t u v,σ=[some (.ref p),some (.ref a),some (.int r),some (.ref dl),some (.ref cl),some (.ref ht),some (.ref lv),t,u,v])/\∀c:Int,0<=c->c < i->∀l,bN g.ds n.place c=some l->n.gates.getD l.toNat false=false
inductive gC (K:WA)(Z:Adr)(vs:List V)(H:Hp)(Q:VK)(E:XK):Prop | mk (p dl cl ll a:Addr) (g:Cfg) (lds:List Ld) (n:aS) (t r:Int):vs=[.ref p,.ref a,.int r]->eI K H p dl cl ll g lds->eA g->cQ g n->iu K H a (n,t)->(∀dd d H',av H H'->SqT K H' dd (ddV d)->A4 d->eU g n d=none->Q (.ref dd) H')->gC K Z vs H Q E
include T ou in
theorem vN:FF P w K mg base CX0 2 "_law_towards_wind" "_law_towards_wind" gR mr (gC K Z):=fk0 ck fun vs H Q E h=>by
 obtain ⟨p,dl,cl,ll,a,g,lds,n,t,r,rfl,hP,hg,hn,hSt,q⟩:=h
 k_all
 refine @seg _ _ _ 8 _ (@ah _ _ _ (aA (aK (pa4 aB (cO (pv' 2) af) (ao aq (pv' 5) af) (pv' 9))))) fun zt8 zh8 ze8=>?_
 refine @seg _ _ _ 7 _ (@ae _ _ _ _ _ (@aG _ _ 9 _ _ _ _ ck.nd rfl orL (ao ax (bh (pa2 aB aB)) (bg dS (by rfl) T.oO iq (pa1 (dF jj (ao aq (ao ax (pv' 4) (ao aq (pv' 5) af)) af) (ao aq (pv' 5) af) (cE _))))) (by rfl) hfA) zh8) fun zt7 zh7 ze7=>?_
 refine @seg _ _ _ 6 _ (@ae _ _ _ _ _ (cH PassesOwn.never rfl (bA (by rfl) T.cB (pa1 af)) (aE (i:=8) ck.nd rfl orL) (@ae _ _ _ _ _ (@aG _ _ 7 _ _ _ _ ck.nd rfl orL (dc0 ou hr.dn (pa3 (pv' 3) (pv' 8) (ao aq (pv' 1) af))) (by rfl) hfA) (@ah _ _ _ (aQ (mV (Fv (pv' 7) af) (kb (cX (ao aq (ao aq (pv' 1) af) (pv' 7))))).pt (@ah _ _ _ (aA (aK (pa2 aB (pv' 7))))) (aC))))) zh7) fun zt6 zh6 ze6=>?_
 refine @seg _ _ _ 5 _ (@ae _ _ _ _ _ (aQ (uJ (ao aq (pv' 5) af) aB) (@ah _ _ _ (aA (ao ax (bh (pa2 (aK (pa2 aB af)) (aK (pa2 aB af)))) (bg dS (by rfl) T.oO iq (pa1 (ao aq (ao aq (pv' 1) af) af)))))) (aC)) zh6) fun zt5 zh5 ze5=>?_
 refine @seg _ _ _ 4 _ (@ae _ _ _ _ _ (aQ (mV (uJ (ao aq (pv' 5) af) aB) (kb (dQ (JD hr.units0) (pv' 6) (bh il) (cE _)))).pt (@ae _ _ _ _ _ (@aG _ _ 7 _ _ _ _ ck.nd rfl orL (ao ax (pv' 6) (aT uI (pv' 2) (aF az (by rfl) T.bY bu (pa1 (pv' 6))))) (by rfl) hfA) (@ah _ _ _ (aA (aK (pa3 aB (pv' 7) (ao aq (ao ax (pv' 4) (pv' 7)) (cO (nq (pv' 2) af) af))))))) (aC)) zh5) fun zt4 zh4 ze4=>?_
 refine @seg _ _ _ 3 _ (@ae _ _ _ _ _ (aQ (bV (ao aq (pv' 5) af) aB) (@ah _ _ _ (aA (aK (pa2 aB (ao aq (pv' 5) af))))) (aC)) zh4) fun zt3 zh3 ze3=>?_
 refine @seg _ _ _ 2 _ (@ae _ _ _ _ _ (L6 ["_law_k","_law_state"] [none,some 1] (iy:=6) ck.nd rfl rfl (bA (by rfl) T.cB (pa1 (aF az (by rfl) T.bY bu (pa1 (pv' 3))))) (fun _ _ _ _=>(aE (i:=0) (show (["_law_k","_law_state"]:List Str).Nodup by decide +kernel) rfl orL)) (fun _ _ _ _=>(mX (dQ (show OpR _ _ (Fm K true) from fC) (pv' 0) (ao (show IxR _ (xH K) from aq) (pv' 1) af) (by rfl)))) (fun _ _ _ _=>(pv' 0))) zh3) fun zt2 zh2 ze2=>?_
 refine @seg _ _ _ 1 _ (@ae _ _ _ _ _ (@aG _ _ 5 _ _ _ _ ck.nd rfl orL (ao aq (pv' 1) af) (by rfl) hfA) zh2) fun zt1 zh1 ze1=>?_
 refine ⟨_,@ae _ _ _ _ _ (OL (i:=3) (j:=4) rfl ck.nd rfl rfl (by decide) rfl rfl (pa2 (ao ax (pv' 0) af) (ao ax (pv' 0) af)) (by rfl)) zh1,?_⟩
 obtain ⟨gt,lt,ht,dt,h1,h2,h3,h4,h5⟩:=hSt
 obtain ⟨hp,hdl,⟨as,hcl,hT⟩,_,ek⟩:=id hP
 have l2:=hg.sh.l2
 have l6:=hg.sh.l6
 have gl:=hn.gl
 have fl:=hn.fl
 k_mem
 refine ⟨_,SqL.of hp,_,rfl,_,SqL.of hp,_,rfl,?_⟩
 k_mem
 refine ⟨_,h1,_,rfl,?_⟩
 k_mem
 refine ⟨_,.inl (SqL.of hdl),by omega,by rw [WB];omega,?_⟩
 rw [WB,Int.toNat_natCast,←fl]
 refine eL (fun j=>!n.fs.getD j false) (fun (j:Nat)=>.int (j:Int)) (by rw [sizeLine_eq];omega) rfl (fun i hi N hN=>?_) (fun i hi _ N hN=>?_) fun lv hlv=>?_
 ·k_mem
  k_upd
  refine ⟨_,h1,_,rfl,?_⟩
  k_mem
  refine ⟨_,.inr h5,rfl,by simp [bU],?_⟩
  rw [ki]
  have:(!decide (0+(i:Int)∈c9 n.fs))=!n.fs.getD i false:=by
   congr 1
   rw [Bool.eq_iff_iff,decide_eq_true_eq,i9,Int.zero_add,Int.toNat_natCast]
   k_upd
   exact ⟨fun z=>z.2.2,fun z=>⟨Int.natCast_nonneg _,by omega,z⟩⟩
  rw [this]
  exact hN
 ·k_mem
  rw [Int.zero_add]
  exact hN
 rw [show List.map (fun (j:Nat)=>V.int (j:Int)) (List.filter (fun j=>!n.fs.getD j false) (List.range n.fs.length))=(kq n.fs).map V.int by unfold kq;rw [List.map_map];rfl] at *
 (generalize hE:upd H lv _=H1 at *;have s1:=bS hE hlv;have hlv1:=aY hE;clear hE)
 k_mem
 have h41:=s1.tup h4
 rcases Sd n.e with ⟨l,rr,he⟩ | ⟨l,rr,he⟩ | ⟨w1,w2,w3,w4,he,na,nb⟩
 ·simp only [he] at h41
  have hr:=hn.code hg (.inl he)
  k_upd
  refine ⟨_,h41,_,rfl,?_⟩
  k_mem
  rw [if_pos rfl]
  k_upd
  refine ⟨_,h41,_,rfl,by decide,fun dd hdd=>?_⟩
  k_upd
  exact q dd (.rept rr) _ (s1.lay hdd) (SqT.of ag) trivial (xJ he hr.1 hr.2)
 ·simp only [he] at h41
  obtain ⟨el0,el1,erc⟩:=hn.ew l rr (.inr he)
  k_upd
  refine ⟨_,h41,_,rfl,?_⟩
  k_mem
  rw [if_neg (by decide)]
  k_upd
  refine ⟨_,h41,_,rfl,?_⟩
  k_mem
  rw [if_neg (by decide)]
  k_upd
  refine ⟨_,h41,_,rfl,?_⟩
  k_mem
  rw [if_neg (by decide)]
  k_upd
  refine ⟨by decide,by decide,?_⟩
  k_upd
  refine cf (Sn H1 p a dl cl ht lv r g n) ⟨av.refl H1,⟨_,_,_,rfl⟩,fun c h0 h=>by omega⟩ ?_ ?_
  ·rintro i σ H2 hi ⟨s2,⟨t1,t2,t3,rfl⟩,hj⟩
   have s12:=s1.trans s2
   have hi2:i < 2:=hi
   k_mem
   refine ⟨_,s12.tup h1,_,rfl,?_⟩
   k_mem
   refine ⟨dl,g.ds,0+(i:Int),n.place,rfl,SqL.of (s12 _ _ hdl),hg.sh,by omega,by omega,fun H3 s3=>?_⟩
   have s13:=s12.trans s3
   k_mem
   split
   ·rename_i hge
    obtain ⟨l',e1,e2⟩:=MO (by omega:¬(bN g.ds n.place (0+(i:Int))).getD (-1) < 0)
    obtain ⟨c0,c1,_⟩:=fM e1
    rw [e2] at *
    k_upd
    refine ⟨_,s13.tup h1,_,rfl,?_⟩
    k_mem
    refine ⟨_,s13.tup h2,_,jf c0 (by show l' < (n.gates.length:Int);omega),?_⟩
    k_mem
    split
    ·rename_i ho
     k_upd
     refine ⟨by decide,fun dd hdd=>?_⟩
     k_upd
     exact q dd (.sht l') _ (s13.lay hdd) (SqT.of ag) trivial (ni c0 c1 ho)
    ·rename_i ho
     k_upd
     refine ⟨s2.trans s3,⟨_,_,_,rfl⟩,fun c h0 h l2 el=>?_⟩
     by_cases ec:c=(i:Int)
     ·subst ec
      rw [Int.zero_add] at e1
      rw [e1] at el
      cases el
      simpa using ho
     ·exact hj c h0 (by omega) l2 el
   ·rename_i hge
    have e1:=Px (by omega:(bN g.ds n.place (0+(i:Int))).getD (-1) < 0)
    k_upd
    refine ⟨s2.trans s3,⟨_,_,_,rfl⟩,fun c h0 h l2 el=>?_⟩
    by_cases ec:c=(i:Int)
    ·subst ec
     rw [Int.zero_add] at e1
     rw [e1] at el
     cases el
    ·exact hj c h0 (by omega) l2 el
  ·rintro σ H2 ⟨s2,⟨t1,t2,t3,rfl⟩,hj⟩
   have s12:=s1.trans s2
   have ho:ji g n=false:=KP hg.sh fun c hc l' el=>hj c (by omega) (by show c < ((2:Nat):Int);omega) l' el
   have h42:=s2.tup h41
   obtain ⟨ra,era,hra⟩:=uA (hT.same s12) el0 (by rw [hg.lc];exact el1)
   k_mem
   refine ⟨by decide,fun p1 hp1=>?_⟩
   have f1:=(av.refl H2).lay (o:=HO.lst [V.str (Str.ofString "coal"),V.str (Str.ofString "men")]) hp1
   have hp1':upd H2 p1 (HO.lst [V.str (Str.ofString "coal"),V.str (Str.ofString "men")]) p1=some (HO.lst [V.str (Str.ofString "coal"),V.str (Str.ofString "men")]):=ag
   generalize upd H2 p1 (HO.lst [V.str (Str.ofString "coal"),V.str (Str.ofString "men")])=H3 at *
   have s13:=s12.trans f1
   have h43:=f1.tup h42
   k_upd
   refine ⟨_,h43,_,rfl,?_⟩
   k_mem
   refine ⟨_,SqL.of (s13 _ _ hcl),_,era,?_⟩
   k_mem
   refine ⟨_,f1.tup hra,_,rfl,?_⟩
   k_mem
   refine ⟨_,h43,_,rfl,?_⟩
   k_mem
   refine ⟨_,SqL.of hp1',_,JB,?_⟩
   k_mem
   refine ⟨_,h43,_,rfl,by decide,fun dd hdd=>?_⟩
   by_cases e:(dI g.ls l).1=rr
   ·refine q dd (.wind (r % 2) l "men") _ (s13.lay hdd) (SqT.of (by rw [ag];simp only [e,decide_true,if_true];rfl)) ⟨⟨by omega,by omega⟩,.inl rfl⟩ (xK el0 el1 ho ?_)
    rw [he,df,if_pos rfl,e]
   ·refine q dd (.wind (r % 2) l "coal") _ (s13.lay hdd) (SqT.of (by rw [ag];simp only [e,decide_false,Bool.false_eq_true,if_false];rfl)) ⟨⟨by omega,by omega⟩,.inr rfl⟩ (xK el0 el1 ho ?_)
    rw [he,df,if_neg (by decide)]
    rcases erc with h | h
    ·exact absurd h.symm e
    ·rw [h]
 ·simp only [he] at h41
  k_upd
  refine ⟨_,h41,_,rfl,?_⟩
  k_mem
  rw [if_neg na]
  k_upd
  refine ⟨_,h41,_,rfl,?_⟩
  k_mem
  rw [if_pos nb]
  k_upd
  refine ⟨by decide,fun p1 hp1=>?_⟩
  have f1:=(av.refl H1).lay (o:=HO.lst []) hp1
  have hp1':upd H1 p1 (HO.lst []) p1=some (HO.lst []):=ag
  generalize upd H1 p1 (HO.lst [])=H2 at *
  have s12:=s1.trans f1
  have h42:=f1.tup h41
  k_mem
  refine ⟨_,SqL.of (f1 _ _ hlv1),_,SqL.of hp1',by simp [bU],rfl,?_⟩
  rw [JA]
  k_mem
  by_cases hz:(kq n.fs).map V.int=[]
  ·rw [if_neg (fun z=>z hz)]
   k_upd
   refine ⟨_,h42,_,rfl,?_⟩
   k_mem
   rw [if_pos nb]
   k_upd
   refine ⟨by decide,fun p2 hp2=>⟨by decide,fun p3 hp3=>⟨by decide,fun p4 hp4=>?_⟩⟩⟩
   have f4:=(((av.refl H2).lay (o:=HO.tup [V.str (Str.ofString "open"),V.int 0]) hp2).lay (o:=HO.tup [V.str (Str.ofString "shut"),V.int 0]) hp3).lay (o:=HO.lst [V.ref p2,V.ref p3]) hp4
   have e2:upd (upd (upd H2 p2 (HO.tup [V.str (Str.ofString "open"),V.int 0])) p3 (HO.tup [V.str (Str.ofString "shut"),V.int 0])) p4 (HO.lst [V.ref p2,V.ref p3]) p2=some (HO.tup [V.str (Str.ofString "open"),V.int 0]):=upo (upo ag hp3) hp4
   have e3:upd (upd (upd H2 p2 (HO.tup [V.str (Str.ofString "open"),V.int 0])) p3 (HO.tup [V.str (Str.ofString "shut"),V.int 0])) p4 (HO.lst [V.ref p2,V.ref p3]) p3=some (HO.tup [V.str (Str.ofString "shut"),V.int 0]):=upo ag hp4
   have e4:upd (upd (upd H2 p2 (HO.tup [V.str (Str.ofString "open"),V.int 0])) p3 (HO.tup [V.str (Str.ofString "shut"),V.int 0])) p4 (HO.lst [V.ref p2,V.ref p3]) p4=some (HO.lst [V.ref p2,V.ref p3]):=ag
   generalize upd (upd (upd H2 p2 (HO.tup [V.str (Str.ofString "open"),V.int 0])) p3 (HO.tup [V.str (Str.ofString "shut"),V.int 0])) p4 (HO.lst [V.ref p2,V.ref p3])=H3 at *
   have s13:=s12.trans f4
   k_upd
   refine ⟨_,s13.tup h1,_,rfl,?_⟩
   k_mem
   refine ⟨_,s13.tup h2,_,jf (l:=0) (by omega) (by show (0:Int) < (n.gates.length:Int);omega),?_⟩
   k_mem
   refine ⟨_,SqL.of e4,_,JB,?_⟩
   by_cases hb:n.gates.getD 0 false=true
   ·rw [if_pos hb]
    k_upd
    exact q p3 (.sht 0) _ s13 (SqT.of e3) trivial (ni (by omega) (by omega) hb)
   ·rw [if_neg hb]
    k_upd
    exact q p2 (.opn 0) _ s13 (SqT.of e2) trivial (tf (by omega) (by omega) (by simpa using hb))
  ·rw [if_pos hz]
   have hlen:0 < (kq n.fs).length:=by
    rcases Nat.eq_zero_or_pos (kq n.fs).length with z | z
    ·exact absurd (by rw [List.eq_nil_of_length_eq_zero z];rfl) hz
    ·exact z
   have hm0:0<=r % ((kq n.fs).length:Int):=Int.emod_nonneg _ (by omega)
   have hm1:r % ((kq n.fs).length:Int) < ((kq n.fs).length:Int):=Int.emod_lt_of_pos _ (by omega)
   obtain ⟨v0,v1,v2⟩:=KO (cW (ds:=kq n.fs) (i:=(r % ((kq n.fs).length:Int)).toNat) (by omega))
   k_upd
   refine ⟨_,.inl (SqL.of (f1 _ _ hlv1)),by rw [WB];omega,_,SqL.of (f1 _ _ hlv1),_,by rw [WB];exact dZ hm0 hm1,?_⟩
   generalize (kq n.fs).getD (r % ((kq n.fs).length:Int)).toNat 0=lx at *
   obtain ⟨ra,era,hra⟩:=uA (hT.same s12) v0 (by rw [hg.lc];omega)
   k_mem
   refine ⟨_,SqL.of (s12 _ _ hcl),_,era,?_⟩
   k_mem
   refine ⟨_,hra,_,two_deep (by omega) (by omega),by decide,fun dd hdd=>?_⟩
   refine q dd (.ring lx _) _ (s12.lay hdd) (SqT.of ag) trivial (xI v0 (by omega) v2 ?_)
   k_upd
   split
   ·exact .inl rfl
   ·exact .inr rfl
variable (mQ:KD P w K mg base CX0 2 "_law_towards_wind" (gC K Z))
inductive gD (K:WA)(Z:Adr)(vs:List V)(H:Hp)(Q:VK)(E:XK):Prop | mk (p dl cl ll a:Addr) (g:Cfg) (lds:List Ld) (n:aS) (t r:Int):vs=[.ref p,.ref a,.int r]->eI K H p dl cl ll g lds->eA g->cQ g n->iu K H a (n,t)->(∀dd d H',av H H'->SqT K H' dd (ddV d)->A4 d->eU g n d=none->Q (.ref dd) H')->gD K Z vs H Q E
include T ou in
theorem vO:FF P w K mg base CX0 2 "_law_towards_load" "_law_towards_load" ez mv (gD K Z):=fk0 cY fun vs H Q E h=>by
 obtain ⟨p,dl,cl,ll,a,g,lds,n,t,r,rfl,hP,hg,hn,hSt,q⟩:=h
 k_all
 obtain ⟨t1,h1,k1⟩:∃t,PSs (sZ CX0 P w K mg base ["_law_setup_here","_law_state","_law_rest","_law_cage","_law_level","_law_waits"] "_law_towards_load" (ai ez) zf zv zA zo zs H E).nox ((bZ ez).drop 3) t/\∀(c l:Int) (H1:Hp),av H H1->0<=c->c < 2->bN g.ds n.place c=some l->t ({nx:=fun _ H2=>Q .non H2,rt:=Q}:j1) [some (.ref p),some (.ref a),some (.int r),some (.int c),some (.int l),none] H1:=by
  refine @seg _ _ _ 4 _ (@ah _ _ _ (aA (aK (pa3 aB (ao ax (pv' 5) (aT uI (nq (pv' 2) af) (aF az (by rfl) T.bY bu (pa1 (pv' 5))))) (pv' 3))))) fun zt4 zh4 ze4=>?_
  refine @seg _ _ _ 3 _ (@ae _ _ _ _ _ (aQ (dQ (OI hr.units0) (pv' 5) (bh il) (cE _)) (@ah _ _ _ (aA (aK (pa2 aB (pv' 4))))) (aC)) zh4) fun zt3 zh3 ze3=>?_
  refine @seg _ _ _ 2 _ (@ae _ _ _ _ _ (L6 ["_law_k","_law_state","_law_level"] [none,some 1,some 4] (iy:=5) cY.nd rfl rfl (bA (by rfl) T.cB (pa1 (aF az (by rfl) T.bY bu (pa1 (ao aq (pv' 1) af))))) (fun _ _ _ _=>(aE (i:=0) (show (["_law_k","_law_state","_law_level"]:List Str).Nodup by decide +kernel) rfl orL)) (fun _ _ _ _=>(mX (bV (ao (show IxR _ (xH K) from aq) (ao (show IxR _ (xH K) from aq) (pv' 1) af) (pv' 0)) (pv' 2)))) (fun _ _ _ _=>(pv' 0))) zh3) fun zt2 zh2 ze2=>?_
  refine @seg _ _ _ 1 _ (@ae _ _ _ _ _ (aQ (dQ gK (aT bx af (pv' 3)) (ao aq (pv' 1) af) (by rfl)) (@ah _ _ _ (aA (aK (pa2 aB (pv' 3))))) (aC)) zh2) fun zt1 zh1 ze1=>?_
  refine ⟨_,@ae _ _ _ _ _ (aQ (ft (cX (ao aq (ao aq (pv' 1) af) (pv' 4)))) (@ah _ _ _ (aA (aK (pa2 aB (pv' 4))))) (aC)) zh1,?_⟩
  intro c l H1 s1 c0 c1 hl
  obtain ⟨gt,lt,ht,dt,h1,h2,h3,h4,h5⟩:=(hSt.same s1).un
  obtain ⟨l0,l1,_⟩:=fM hl
  have gl:=hn.gl
  have wl:=hn.wl
  have k30:=hg.k30
  k_mem
  refine ⟨_,h1,_,rfl,?_⟩
  k_mem
  refine ⟨_,h2,_,jf l0 (by show l < (n.gates.length:Int);omega),?_⟩
  k_mem
  split
  ·rename_i ho
   k_upd
   refine ⟨by decide,fun dd hdd=>?_⟩
   k_upd
   exact q dd (.opn l) _ (s1.lay hdd) (SqT.of ag) trivial (tf l0 l1 ho)
  rename_i ho
  have ho':n.gates.getD l.toNat false=true:=by simpa using ho
  k_upd
  refine ⟨_,h1,_,rfl,?_⟩
  k_mem
  refine ⟨_,.inr (SqT.of h3),rfl,by simp [bU],?_⟩
  rw [ki]
  k_mem
  split
  ·rename_i hin
   k_upd
   refine ⟨by decide,fun dd hdd=>?_⟩
   k_upd
   exact q dd (.unload c) _ (s1.lay hdd) (SqT.of ag) ⟨c0,c1⟩ (A9 hin hl ho')
  rename_i hin
  k_upd
  refine ⟨_,h1,_,rfl,?_⟩
  k_mem
  refine ⟨_,.inr (SqT.of h3),by omega,by rw [WB];omega,?_⟩
  rw [WB,Int.toNat_natCast]
  refine eL (fun j=>decide (n.ws.getD j 0=l)) (fun (j:Nat)=>.int (j:Int)) (by rw [sizeLine_eq];omega) rfl (fun i hi N hN=>?_) (fun i hi _ N hN=>?_) fun lv hlv=>?_
  ·k_mem
   k_upd
   refine ⟨_,h1,_,rfl,?_⟩
   k_mem
   refine ⟨_,SqT.of h3,_,by rw [Int.zero_add];exact gg hi,?_⟩
   k_mem
   by_cases e:n.ws.getD i 0=l
   ·rw [if_pos e];rw [decide_eq_true e] at hN;exact hN
   ·rw [if_neg e];rw [decide_eq_false e] at hN;exact hN
  ·k_mem
   rw [Int.zero_add]
   exact hN
  rw [show List.map (fun (j:Nat)=>V.int (j:Int)) (List.filter (fun j=>decide (n.ws.getD j 0=l)) (List.range n.ws.length))=(jh n.ws l).map V.int by unfold jh A3;rw [List.map_map];rfl] at *
  have s2:=s1.lay (o:=HO.lst ((jh n.ws l).map V.int)) hlv
  have hlv1:upd H1 lv (HO.lst ((jh n.ws l).map V.int)) lv=some (HO.lst ((jh n.ws l).map V.int)):=ag
  generalize upd H1 lv (HO.lst ((jh n.ws l).map V.int))=H2 at *
  k_mem
  refine ⟨by decide,fun p1 hp1=>?_⟩
  have f1:=(av.refl H2).lay (o:=HO.lst []) hp1
  have hp1':upd H2 p1 (HO.lst []) p1=some (HO.lst []):=ag
  generalize upd H2 p1 (HO.lst [])=H3 at *
  have s3:=s2.trans f1
  k_upd
  refine ⟨_,SqL.of (f1 _ _ hlv1),_,SqL.of hp1',by simp [bU],rfl,?_⟩
  rw [JA]
  k_mem
  by_cases hz:(jh n.ws l).map V.int=[]
  ·rw [if_pos hz]
   k_upd
   refine ⟨by decide,fun dd hdd=>?_⟩
   k_upd
   exact q dd (.sht l) _ (s3.lay hdd) (SqT.of ag) trivial (ni l0 l1 ho')
  ·rw [if_neg hz]
   have hlen:0 < (jh n.ws l).length:=by
    rcases Nat.eq_zero_or_pos (jh n.ws l).length with z | z
    ·exact absurd (by rw [List.eq_nil_of_length_eq_zero z];rfl) hz
    ·exact z
   have hm0:0<=r / 2 % ((jh n.ws l).length:Int):=Int.emod_nonneg _ (by omega)
   have hm1:r / 2 % ((jh n.ws l).length:Int) < ((jh n.ws l).length:Int):=Int.emod_lt_of_pos _ (by omega)
   obtain ⟨v0,v1,v2⟩:=MP (cW (ds:=jh n.ws l) (i:=(r / 2 % ((jh n.ws l).length:Int)).toNat) (by omega))
   k_upd
   refine ⟨_,.inl (SqL.of (f1 _ _ hlv1)),by rw [WB];omega,_,SqL.of (f1 _ _ hlv1),_,by rw [WB];exact dZ hm0 hm1,by decide,fun dd hdd=>?_⟩
   k_upd
   exact q dd (.load _ c) _ (s3.lay hdd) (SqT.of ag) ⟨c0,c1⟩ (Fo v0 v1 hl v2 hin ho')
 refine @seg _ _ _ 2 _ (@ae _ _ _ _ _ (aQ (oG (pv' 4) af) (@ae _ _ _ _ _ (@aG _ _ 3 _ _ _ _ cY.nd rfl orL (aT dh af (pv' 3)) (by rfl) hfA) (@ah _ _ _ (@aG _ _ 4 _ _ _ _ cY.nd rfl (Or.inr rfl) (dc0 ou hr.dn (pa3 (ao ax (pv' 0) af) (pv' 3) (ao aq (pv' 1) af))) (by rfl) hfA))) (aC)) h1) fun zt2 zh2 ze2=>?_
 refine @seg _ _ _ 1 _ (@ae _ _ _ _ _ (@aG _ _ 4 _ _ _ _ cY.nd rfl (Or.inr rfl) (dc0 ou hr.dn (pa3 (ao ax (pv' 0) af) (pv' 3) (ao aq (pv' 1) af))) (by rfl) hfA) zh2) fun zt1 zh1 ze1=>?_
 refine ⟨_,@ae _ _ _ _ _ (@aG _ _ 3 _ _ _ _ cY.nd rfl orL (cO (pv' 2) af) (by rfl) hfA) zh1,?_⟩
 obtain ⟨gt,lt,ht,dt,h1,h2,h3,h4,h5⟩:=hSt.un
 obtain ⟨hp,hdl,_,_,_⟩:=id hP
 k_mem
 refine ⟨_,SqL.of hp,_,rfl,_,h1,_,rfl,?_⟩
 k_mem
 refine ⟨dl,g.ds,r % 2,n.place,rfl,SqL.of hdl,hg.sh,by omega,by omega,fun H1 s1=>?_⟩
 k_mem
 split
 ·rename_i hlt
  have e0:=Px hlt
  k_upd
  refine ⟨_,SqL.of (s1 _ _ hp),_,rfl,_,s1.tup h1,_,rfl,?_⟩
  k_mem
  refine ⟨dl,g.ds,1 - r % 2,n.place,rfl,SqL.of (s1 _ _ hdl),hg.sh,by omega,by omega,fun H2 s2=>?_⟩
  k_mem
  obtain ⟨c,hc,l,hl⟩:=hn.st
  have ec:c=1 - r % 2:=by
   rcases (by omega:c=r % 2\/c=1 - r % 2) with e | e
   ·rw [←e,hl] at e0;cases e0
   ·exact e
  rw [ec] at hl
  rw [hl]
  exact k1 _ l _ (s1.trans s2) (by omega) (by omega) hl
 ·rename_i hlt
  obtain ⟨l,hl,el⟩:=MO hlt
  rw [el]
  exact k1 _ l _ s1 (by omega) (by omega) hl
variable (mR:KD P w K mg base CX0 2 "_law_towards_load" (gD K Z))
inductive jW (K:WA)(Z:Adr)(vs:List V)(H:Hp)(Q:VK)(E:XK):Prop | mk (p dl cl ll a:Addr) (g:Cfg) (lds:List Ld) (n:aS) (t:Int):vs=[.ref p,.ref a]->eI K H p dl cl ll g lds->eA g->cQ g n->iu K H a (n,t)->(∀(q:Addr) (as:List Addr) (xs:List (Nat×Qd)) (H':Hp),av H H'->H' q=some (.lst (as.map V.ref))->dW K H' as xs->xs.length<=1000->ow g n t xs->Q (.ref q) H')->jW K Z vs H Q E
include T ou in
theorem AA:FF P w K mg base CX0 2 "_law_bad_loads" "_law_bad_loads" lG si (jW K Z):=fk0 dA fun vs H Q E h=>by
 obtain ⟨p,dl,cl,ll,a,g,lds,n,t,rfl,hP,hg,hn,hSt,q⟩:=h
 k_all
 refine @seg _ _ _ 3 _ (@ah _ _ _ (aA (pv' 2))) fun zt3 zh3 ze3=>?_
 refine @seg _ _ _ 2 _ (@ae _ _ _ _ _ (cH PassesOwn.never rfl (bA (by rfl) T.cB (pa1 af)) (aE (i:=4) dA.nd rfl orL) (@ae _ _ _ _ _ (cH PassesOwn.never rfl (bA (by rfl) T.cB (pa1 (aF az (by rfl) T.bY bu (pa1 (ao aq (pv' 1) af))))) (aE (i:=3) dA.nd rfl orL) (@ae _ _ _ _ _ (@aG _ _ 5 _ _ _ _ dA.nd rfl orL (dc0 ou hr.dn (pa3 (ao ax (pv' 0) af) (pv' 4) (ao aq (pv' 1) af))) (by rfl) hfA) (@ah _ _ _ (aQ (uJ (ao aq (ao aq (pv' 1) af) (pv' 3)) (pv' 5)) (@ah _ _ _ (@bb _ _ _ _ (kg PySem.F.plainAttrs_list PySem.F.slot_list_append PySem.F.type_list_append cK (pv' 2) (pa1 (aK (pa2 af (aK (pa3 aB (pv' 3) (pv' 4))))))) (by rfl))) (aC))))) (@ah _ _ _ (aQ (dQ fC (aT bx af (pv' 4)) (ao aq (pv' 1) af) (by rfl)) (@ah _ _ _ (@bb _ _ _ _ (kg PySem.F.plainAttrs_list PySem.F.slot_list_append PySem.F.type_list_append cK (pv' 2) (pa1 (aK (pa2 af (aK (pa2 aB (pv' 4))))))) (by rfl))) (aC))))) zh3) fun zt2 zh2 ze2=>?_
 refine @seg _ _ _ 1 _ (@ae _ _ _ _ _ (cH PassesOwn.never rfl (cJ (bh (pa3 (fB cN af) (aF az (by rfl) T.bY bu (pa1 (ao aq (pv' 1) af))) (aT DG af af)))) (aE (i:=3) dA.nd rfl orL) (@ah _ _ _ (@aG _ _ 2 _ _ _ _ dA.nd rfl orL (aT gp (pv' 2) (bh (pa3 (aK (pa2 af (aK (pa3 aB (pv' 3) af)))) (aK (pa2 af (aK (pa3 aB (pv' 3) af)))) (aK (pa2 af (aK (pa2 aB (pv' 3)))))))) (by rfl) hfA))) zh2) fun zt1 zh1 ze1=>?_
 refine ⟨_,@ae _ _ _ _ _ (@aG _ _ 2 _ _ _ _ dA.nd rfl orL (bh (pa2 (aK (pa2 af (aK (pa2 aB (fB cN af))))) (aK (pa2 af (aK (pa2 aB (aT bx (ao aq (pv' 1) af) af))))))) (by rfl) hfA) zh1,?_⟩
 have l2:=hg.sh.l2
 have l6:=hg.sh.l6
 have wl:=hn.wl
 have k30:=hg.k30
 obtain ⟨hp,hdl,_,_,_⟩:=id hP
 obtain ⟨gt,lt,ht,dt,hs0,hs1,hs2,hs3,hs4⟩:=id hSt
 have hs0:SqT K H a [.int n.place,.ref gt,.ref lt,.ref ht,.ref dt,.int t]:=hs0
 have hs2:H lt=some (.tup (n.ws.map V.int)):=hs2
 k_mem
 refine ⟨by decide,fun b1 hb1=>?_⟩
 (generalize hE:upd H b1 _=B1 at *;have tb1:=bS hE hb1;have gb1:=aY hE;clear hE)
 k_upd
 refine ⟨by decide,fun b2 hb2=>?_⟩
 (generalize hE:upd B1 b2 _=B2 at *;have tb2:=bS hE hb2;have gb2:=aY hE;clear hE)
 k_upd
 refine ⟨_,(tb1.trans tb2).tup hs0,_,rfl,?_⟩
 k_upd
 refine ⟨by decide,fun b3 hb3=>?_⟩
 (generalize hE:upd B2 b3 _=B3 at *;have tb3:=bS hE hb3;have gb3:=aY hE;clear hE)
 k_upd
 refine ⟨by decide,fun b4 hb4=>?_⟩
 (generalize hE:upd B3 b4 _=B4 at *;have tb4:=bS hE hb4;have gb4:=aY hE;clear hE)
 k_upd
 refine ⟨by decide,fun m hm=>?_⟩
 have fm:H m=none:=(((tb1.trans tb2).trans tb3).trans tb4).free hm
 (generalize hE:upd B4 m _=H1 at *;have s1:=bS hE hm;have em:=aY hE;clear hE)
 have hm1:eZ K H H1 m [b2,b4] [(8,.tick (-1)),(8,.tick (t+1))] g n t:=⟨fm,(((tb1.trans tb2).trans tb3).trans tb4).trans s1,em,dW.add (as:=[b2]) (xs:=[(8,.tick (-1))]) (dW.add (as:=[]) (xs:=[]) dP.nil (((tb3.trans tb4).trans s1) _ _ gb2) (SqT.of ((((tb2.trans tb3).trans tb4).trans s1) _ _ gb1))) (s1 _ _ gb4) (SqT.of ((tb4.trans s1) _ _ gb3)),ow.add (xs:=[(8,.tick (-1))]) (ow.add (xs:=[]) (fun x hx=>by cases hx) trivial ⟨by omega,rfl⟩ (by decide)) trivial ⟨by omega,rfl⟩ (by decide)⟩
 have s01:=hm1.sa
 clear gb1 gb2 gb3 gb4 em
 k_mem
 refine ⟨_,s01.tup hs0,_,rfl,?_⟩
 k_upd
 refine ⟨_,.inr (SqT.of (s01 _ _ hs2)),⟨by decide,by decide,by decide⟩,by decide,fun f hf=>?_⟩
 have nfm:f≠m:=(ak hm1.ob hf).symm
 (generalize hE:upd H1 f _=H2 at *;have s2:=bS hE hf;have ef:=aY hE;clear hE)
 have hm2:eZ K H H2 m _ _ g n t:=⟨fm,s01.trans s2,s2 _ _ hm1.ob,hm1.ba.same s2,hm1.go⟩
 clear hm1
 k_upd
 refine ⟨⟨_,SqL.of ef⟩,?_⟩
 rw [WB] at ef
 k_upd
 refine en _ (fun i σ H'=>av H2 H'/\∃(m:Addr) (as:List Addr) (xs:List (Nat×Qd)) (t3:Option V),σ=[some (.ref p),some (.ref a),some (.ref m),t3,none,none]/\eZ K H H' m as xs g n t/\xs.length<=2+3 * i) ⟨av.refl _,m,_,_,_,rfl,hm2,by simp⟩ (fun i σ H' _ h=>SqL.of (h.1 _ _ ef)) ?_ ?_
 ·rintro i x σ H3 hx ⟨s3,m,as,xs,t3,rfl,hM,hl⟩
  have hi:i < 3:=(List.getElem?_eq_some_iff.mp hx).1
  obtain ⟨far,rfl,hfar⟩:∃far,x=.int far/\¬(0<=far/\far < (n.ws.length:Nat)):=by
   rcases (by omega:i=0\/i=1\/i=2) with rfl | rfl | rfl<;>cases hx
   ·k_upd
    exact ⟨_,rfl,by omega⟩
   ·k_upd
    exact ⟨_,rfl,by omega⟩
   ·k_upd
    exact ⟨_,rfl,by omega⟩
  have hfar2:¬(0<=far/\far < (g.ks.length:Nat)):=by rw [←wl];exact hfar
  clear hx
  have asl:=hM.ba.1
  k_mem
  refine ⟨by decide,fun b1 hb1=>?_⟩
  (generalize hE:upd H3 b1 _=B1 at *;have tb1:=bS hE hb1;have gb1:=aY hE;clear hE)
  k_upd
  refine ⟨by decide,fun b2 hb2=>?_⟩
  (generalize hE:upd B1 b2 _=B2 at *;have tb2:=bS hE hb2;have gb2:=aY hE;clear hE)
  k_upd
  refine ⟨by decide,fun b3 hb3=>?_⟩
  (generalize hE:upd B2 b3 _=B3 at *;have tb3:=bS hE hb3;have gb3:=aY hE;clear hE)
  k_upd
  refine ⟨by decide,fun b4 hb4=>?_⟩
  (generalize hE:upd B3 b4 _=B4 at *;have tb4:=bS hE hb4;have gb4:=aY hE;clear hE)
  k_upd
  refine ⟨by decide,fun b5 hb5=>?_⟩
  (generalize hE:upd B4 b5 _=B5 at *;have tb5:=bS hE hb5;have gb5:=aY hE;clear hE)
  k_upd
  refine ⟨by decide,fun b6 hb6=>?_⟩
  (generalize hE:upd B5 b6 _=B6 at *;have tb6:=bS hE hb6;have gb6:=aY hE;clear hE)
  k_upd
  refine ⟨by decide,fun b7 hb7=>?_⟩
  (generalize hE:upd B6 b7 _=B7 at *;have tb7:=bS hE hb7;have gb7:=aY hE;clear hE)
  have Tb:=((((((tb1.trans tb2).trans tb3).trans tb4).trans tb5).trans tb6).trans tb7)
  k_upd
  refine ⟨_,Tb _ _ hM.ob,_,gb7,by rw [sizeLine_eq];simp;omega,fun m2 nm2=>?_⟩
  have fm2:=(hM.sa.trans Tb).free nm2
  (generalize hE:upd B7 m2 _=H4 at *;have tm2:=bS hE nm2;have em2:=aY hE;clear hE)
  have hm2:eZ K H H4 m2 _ _ g n t:=⟨fm2,(hM.sa.trans Tb).trans tm2,by rw [em2];simp only [List.map_append];simp,((((hM.ba.same (Tb.trans tm2)).add (i:=5) (d:=.dd (.load far 0)) ((((((tb3.trans tb4).trans tb5).trans tb6).trans tb7).trans tm2) _ _ gb2) (SqT.of (((((((tb2.trans tb3).trans tb4).trans tb5).trans tb6).trans tb7).trans tm2) _ _ gb1))).add (i:=5) (d:=.dd (.load far 1)) ((((tb5.trans tb6).trans tb7).trans tm2) _ _ gb4) (SqT.of (((((tb4.trans tb5).trans tb6).trans tb7).trans tm2) _ _ gb3))).add (i:=5) (d:=.few far) ((tb7.trans tm2) _ _ gb6) (SqT.of (((tb6.trans tb7).trans tm2) _ _ gb5))),(((hM.go.add (i:=5) (d:=.dd (.load far 0)) ⟨by decide,by decide⟩ ⟨.ul,if_pos hfar,rfl⟩ (by decide)).add (i:=5) (d:=.dd (.load far 1)) ⟨by decide,by decide⟩ ⟨.ul,if_pos hfar,rfl⟩ (by decide)).add (i:=5) (d:=.few far) trivial ⟨hfar2,rfl⟩ (by decide))⟩
  have sm2:=Tb.trans tm2
  k_mem
  exact ⟨s3.trans sm2,m2,_,_,_,rfl,hm2,by simp;omega⟩
 ·rintro σ H3 ⟨s3,m,as,xs,t3,rfl,hM,hl⟩
  replace hl:xs.length<=11:=hl
  clear ef s3 hm2 s1 s2 hm s01 fm tb1 tb2 tb3 tb4 hb1 hb2 hb3 hb4 hf nfm
  k_mem
  refine ⟨by decide,by decide,?_⟩
  k_upd
  refine cf (n:=2) (fun i σ H'=>∃(m:Addr) (as:List Addr) (xs:List (Nat×Qd)) (t3 t4 t5:Option V),σ=[some (.ref p),some (.ref a),some (.ref m),t3,t4,t5]/\eZ K H H' m as xs g n t/\xs.length<=11+31 * i) ⟨m,as,xs,_,_,_,rfl,hM,by omega⟩ ?_ ?_
  ·clear hM hl
   rintro c σ H4 hc ⟨m,as,xs,t3,t4,t5,rfl,hM,hl⟩
   have s04:av H H4:=hM.sa
   have c0:(0:Int)<=(c:Int):=by omega
   have c1:(c:Int) < 2:=by omega
   k_mem
   rw [Int.zero_add]
   k_upd
   refine ⟨_,s04.tup hs0,_,rfl,?_⟩
   k_upd
   refine ⟨_,.inr (SqT.of (s04 _ _ hs2)),by rw [WB];omega,by rw [WB];omega,?_⟩
   rw [WB,Int.toNat_natCast]
   k_upd
   refine cf (n:=n.ws.length) (fun i σ H'=>∃(as:List Addr) (xs:List (Nat×Qd)) (t3 t5:Option V),σ=[some (.ref p),some (.ref a),some (.ref m),t3,some (.int (c:Int)),t5]/\eZ K H H' m as xs g n t/\xs.length<=11+31 * c+i) ⟨as,xs,_,_,rfl,hM,by omega⟩ ?_ ?_
   ·clear hM
    rintro i σ H5 hi ⟨as,xs,t3,t5,rfl,hM,hl5⟩
    have s05:av H H5:=hM.sa
    have asl:=hM.ba.1
    k_mem
    rw [Int.zero_add]
    k_upd
    refine ⟨_,SqL.of (s05 _ _ hp),_,rfl,_,s05.tup hs0,_,rfl,?_⟩
    k_upd
    refine ⟨_,g.ds,_,_,rfl,SqL.of (s05 _ _ hdl),hg.sh,c0,c1,fun H6 s6=>?_⟩
    have s06:=s05.trans s6
    have ob6:=s6 _ _ hM.ob
    k_upd
    refine ⟨_,s06.tup hs0,_,rfl,?_⟩
    k_upd
    refine ⟨_,SqT.of (s06 _ _ hs2),_,gg hi,?_⟩
    show (if ¬n.ws.getD i 0=(bN g.ds n.place (c:Int)).getD (-1) then _ else _)
    by_cases hq:n.ws.getD i 0=(bN g.ds n.place (c:Int)).getD (-1)
    ·rw [if_neg (fun z=>z hq)]
     k_upd
     exact ⟨_,_,_,_,rfl,⟨hM.fr,s06,ob6,hM.ba.same s6,hM.go⟩,by omega⟩
    ·rw [if_pos hq]
     have hbad:BE g n t (.dd (.load (i:Int) (c:Int))) 6:=by
      refine ⟨.nt,(if_neg (fun z=>z ⟨by omega,by omega⟩)).trans ?_,rfl⟩
      cases hcl:bN g.ds n.place (c:Int) with
      | none=>rfl
      | some l=>
       rw [hcl] at hq
       exact if_pos hq
     k_upd
     refine ⟨.inl ⟨rfl,_,SqL.of ob6⟩,by decide,fun a2 h2=>⟨by decide,fun a3 h3=>⟨_,upo (upo ob6 h2) h3,cu (by rw [WB];omega),?_⟩⟩⟩
     generalize hE:upd _ m _=HX
     obtain ⟨L7,e7,S7⟩:=CY (i:=6) (d:=.dd (.load (i:Int) (c:Int))) (hM.ba.same s6) ob6 h2 h3 hE
     k_upd
     exact ⟨_,_,_,_,rfl,⟨hM.fr,S7 H s06 hM.fr,e7,L7,hM.go.add ⟨c0,c1⟩ hbad (by decide)⟩,by rw [List.length_append];show _+1<=_;omega⟩
   ·clear hM
    rintro σ H5 ⟨as,xs,t3,t5,rfl,hM,hl5⟩
    have s05:av H H5:=hM.sa
    have asl:=hM.ba.1
    k_mem
    refine ⟨_,s05.tup hs0,_,rfl,?_⟩
    k_upd
    refine ⟨_,.inr (SqT.of (s05 _ _ hs2)),rfl,by simp [List.all_map,bU],?_⟩
    rw [ki]
    by_cases hq:10+(c:Int)∈n.ws
    ·rw [decide_eq_true hq,if_neg (by decide)]
     k_upd
     exact ⟨_,_,_,_,_,_,rfl,hM,by omega⟩
    ·rw [decide_eq_false hq,if_pos (by decide)]
     have hbad:BE g n t (.dd (.unload (c:Int))) 7:=⟨.ce,if_pos hq,rfl⟩
     k_upd
     refine ⟨.inl ⟨rfl,_,SqL.of hM.ob⟩,by decide,fun a2 h2=>⟨by decide,fun a3 h3=>⟨_,upo (upo hM.ob h2) h3,cu (by rw [WB];omega),?_⟩⟩⟩
     generalize hE:upd _ m _=HX
     obtain ⟨L7,e7,S7⟩:=CY (i:=7) (d:=.dd (.unload (c:Int))) hM.ba hM.ob h2 h3 hE
     k_upd
     exact ⟨_,_,_,_,_,_,rfl,⟨hM.fr,S7 H s05 hM.fr,e7,L7,hM.go.add ⟨c0,c1⟩ hbad (by decide)⟩,by rw [List.length_append];show _+1<=_;omega⟩
  ·rintro σ H4 ⟨m,as,xs,t3,t4,t5,rfl,hM,hl⟩
   k_mem
   exact q m as xs H4 hM.sa hM.ob hM.ba (by omega) hM.go
variable (hJ:KD P w K mg base CX0 2 "_law_bad_loads" (jW K Z))
inductive oz (K:WA)(Z:Adr)(vs:List V)(H:Hp)(Q:VK)(E:XK):Prop | mk (y kn wh:Addr) (ks:List Str) (ws:List Int) (m n c:Int):vs=[.ref y,.int n,.int c]->dH Z.fh H y kn wh ks ws m->0<=c->c < 2->((¬(0<=n/\n < ws.length)->E (.ref Z.aH) none H))->((0<=n->n < ws.length->(ws.getD n.toNat 0=10\/ws.getD n.toNat 0=11)->E (.ref Z.aV) none H))->((0<=n->n < ws.length->¬(ws.getD n.toNat 0=10\/ws.getD n.toNat 0=11)->10+c∈ws->∀H',av H H'->E (.ref Z.cG) none H'))->((0<=n->n < ws.length->¬(ws.getD n.toNat 0=10\/ws.getD n.toNat 0=11)->¬10+c∈ws->∀H',aD wh H H'->H' wh=some (.lst ((ws.set n.toNat (10+c)).map V.int))->Q .non H'))->oz K Z vs H Q E
include T cU fi in
theorem Ey:FF P w K mg base (CXf P w) 3 "into" "Yard.into" pT xN (oz K Z):=fkF DL fun vs H Q E h=>by
 obtain ⟨y,kn,wh,ks,ws,m,n,c,rfl,hy,h0,h1,q1,q2,q3,q4⟩:=h
 k_all
 refine @seg _ _ _ 3 _ (@ah _ _ _ (kO (ao aq (eo (by rfl) T.iY) (pv' 2)) (wo (aw (pv' 0)) (pv' 1) ja))) fun zt3 zh3 ze3=>?_
 refine @seg _ _ _ 2 _ (@ae _ _ _ _ _ (aQ (OJ (dm' (pv' 0) cU hr.dn br (pa1 (pv' 2))) eV) (@ah _ _ _ (bz T.FP (by rfl) T.FI (pa1 aB))) (aC)) zh3) fun zt2 zh2 ze2=>?_
 refine @seg _ _ _ 1 _ (@ae _ _ _ _ _ (aQ (dQ gK (ao ax (aw (pv' 0)) (pv' 1)) (eo (by rfl) T.iY) (by rfl)) (@ah _ _ _ (bz T.tP (by rfl) T.nV (pa1 aB))) (aC)) zh2) fun zt1 zh1 ze1=>?_
 refine ⟨_,@ae _ _ _ _ _ (@bb _ _ _ _ (dc fi hr.dn bC (pa2 (pv' 1) (aF az (by rfl) T.bY bu (pa1 (aw (pv' 0)))))) (by rfl)) zh1,?_⟩
 obtain ⟨⟨dx,hob⟩,hkn,hwh⟩:=id hy
 k_mem
 refine fgo hob T.di T.cz rfl ?_
 k_mem
 refine ⟨_,.inl (SqL.of hwh),_,_,rfl,?_⟩
 rw [WB]
 k_upd
 refine ⟨fun hn=>?_,q1⟩
 ·k_mem
  k_upd
  refine fgo hob T.di T.cz rfl ?_
  k_mem
  refine ⟨_,SqL.of hwh,_,dZ hn.1 hn.2,_,.inr (T.iZ _),rfl,rfl,?_⟩
  rw [Ck]
  k_mem
  split
  ·rename_i h2
   k_upd
   exact ⟨by decide,q2 hn.1 hn.2 h2⟩
  ·rename_i h2
   k_upd
   refine mgo hob rfl ⟨_,_,_,_,_,_,_,rfl,hy,h0,h1,fun H' s1=>?_⟩
   k_mem
   by_cases hm:10+c∈ws
   ·rw [inC,if_pos hm,if_pos (show ¬(V.int _=V.non) from fun z=>V.noConfusion z)]
    k_upd
    exact ⟨by decide,q3 hn.1 hn.2 h2 hm H' s1⟩
   ·rw [inC,if_neg hm,if_neg (fun z=>z rfl)]
    k_upd
    refine ⟨_,T.iZ _,_,Cg h0 h1,_,_,_,s1 _ _ hob,T.di,T.cz,_,rfl,?_⟩
    k_mem
    refine ⟨_,s1 _ _ hwh,_,Du hn.1 (by rw [WB];exact hn.2),?_⟩
    refine q4 hn.1 hn.2 h2 hm _ (aD.put (aD.of s1)) ?_
    rw [ag,List.map_set]
variable (yg:KM P w K mg base (CXf P w) 3 Z.fh "into" (oz K Z))
inductive qN (K:WA)(Z:Adr)(vs:List V)(H:Hp)(Q:VK)(E:XK):Prop | mk (y kn wh:Addr) (ks:List Str) (ws:List Int) (m c lv:Int):vs=[.ref y,.int c,.int lv]->dH Z.fh H y kn wh ks ws m->0<=c->c < 2->((¬(0<=lv/\lv < m)->E (.ref Z.ay) none H))->((0<=lv->lv < m->¬10+c∈ws->∀H',av H H'->E (.ref Z.aP) none H'))->((0<=lv->lv < m->10+c∈ws->∀H',aD wh H H'->H' wh=some (.lst ((ws.set (ws.idxOf (10+c)) lv).map V.int))->Q .non H'))->qN K Z vs H Q E
include T cU bJ in
theorem GG:FF P w K mg base (CXf P w) 3 "out" "Yard.out" tw zy (qN K Z):=fkF xX fun vs H Q E h=>by
 obtain ⟨y,kn,wh,ks,ws,m,c,lv,rfl,hy,h0,h1,q1,q2,q3⟩:=h
 k_all
 refine @seg _ _ _ 3 _ (@ah _ _ _ (kO (pv' 2) (wo (aw (pv' 0)) (pv' 3) ja))) fun zt3 zh3 ze3=>?_
 refine @seg _ _ _ 2 _ (@ae _ _ _ _ _ (aQ (DJ (pv' 3) eV) (@ah _ _ _ (bz T.yb (by rfl) T.qg (pa1 aB))) (aC)) zh3) fun zt2 zh2 ze2=>?_
 refine @seg _ _ _ 1 _ (@ae _ _ _ _ _ (@aG _ _ 3 _ _ _ _ xX.nd rfl orL (dm' (pv' 0) cU hr.dn br (pa1 (pv' 1))) (by rfl) hfA) zh2) fun zt1 zh1 ze1=>?_
 refine ⟨_,@ae _ _ _ _ _ (@bb _ _ _ _ (dc bJ hr.dn bC (pa2 (pv' 2) (aw (pv' 0)))) (by rfl)) zh1,?_⟩
 obtain ⟨⟨dx,hob⟩,hkn,hwh⟩:=id hy
 k_mem
 refine fgo hob T.di T.i3 rfl ?_
 k_mem
 refine ⟨_,_,rfl,fun hlv=>?_,q1⟩
 k_mem
 refine mgo hob rfl ⟨_,_,_,_,_,_,_,rfl,hy,h0,h1,fun H' s1=>?_⟩
 k_mem
 by_cases hm:10+c∈ws
 ·rw [inC,if_pos hm,if_neg (show ¬(V.int _=V.non) from fun z=>V.noConfusion z)]
  have hlt:ws.idxOf (10+c) < ws.length:=List.idxOf_lt_length_iff.mpr hm
  k_mem
  refine fgo (s1 _ _ hob) T.di T.cz rfl ?_
  k_mem
  refine ⟨_,s1 _ _ hwh,_,Du (Int.natCast_nonneg _) (by rw [WB];omega),?_⟩
  refine q3 hlv.1 hlv.2 hm _ (aD.put (aD.of s1)) ?_
  rw [ag,List.map_set];rfl
 ·rw [inC,if_neg hm,if_pos rfl]
  k_upd
  exact ⟨by decide,q2 hlv.1 hlv.2 hm H' s1⟩
variable (AB:KM P w K mg base (CXf P w) 3 Z.fh "out" (qN K Z))
inductive gW (K:WA)(Z:Adr)(vs:List V)(H:Hp)(Q:VK)(E:XK):Prop | mk (y kn wh:Addr) (ks:List Str) (ws:List Int) (m lv:Int):vs=[.ref y,.int lv]->dH Z.fh H y kn wh ks ws m->ws.length<=1000->((0<=lv/\lv < m->∀p H',H p=none->av H H'->H' p=some (.lst ((jh ws lv).map V.int))->Q (.ref p) H'))->((¬(0<=lv/\lv < m)->E (.ref Z.ay) none H))->gW K Z vs H Q E
include T bJ in
theorem xv:FF P w K mg base (CXf P w) 3 "at_level" "Yard.at_level" iz oH (gW K Z):=fkF wV fun vs H Q E h=>by
 obtain ⟨y,kn,wh,ks,ws,m,lv,rfl,hy,hlen,q1,q2⟩:=h
 k_all
 refine @seg _ _ _ 1 _ (@ah _ _ _ (aA (kh ["number","spot","level"] [none,none,some 1] (zw (by rfl) T.qd mY (aw (pv' 0))) (fun _ _ _ _=>(show PG _ _ (rL K 2 _) from eS (n:=2) rfl (aI (aE (i:=0) (show (["number","spot","level"]:List Str).Nodup by decide +kernel) rfl orL) (aI (aE (i:=1) (show (["number","spot","level"]:List Str).Nodup by decide +kernel) rfl orL) de)))) (fun _ _ _ _=>(mX (bV (pv' 1) (pv' 2)))) (fun _ _ _ _=>(pv' 0))))) fun zt1 zh1 ze1=>?_
 refine ⟨_,@ae _ _ _ _ _ (@bb _ _ _ _ (dc bJ hr.dn bC (pa2 (pv' 1) (aw (pv' 0)))) (by rfl)) zh1,?_⟩
 obtain ⟨⟨dx,hob⟩,hkn,hwh⟩:=id hy
 k_mem
 refine fgo hob T.di T.i3 rfl ?_
 k_mem
 refine ⟨_,_,rfl,fun hlv=>?_,q2⟩
 k_mem
 refine fgo hob T.di T.cz rfl ?_
 k_mem
 refine ⟨⟨_,SqL.of hwh⟩,?_⟩
 refine wF ws.length (fun i acc H'=>av H H'/\acc=(A3 ws lv i).map V.int) ⟨av.refl H,rfl⟩ ?_ ?_ ?_ ?_
 ·rintro i acc H' hi ⟨s1,_⟩
  k_upd
  exact ⟨_,_,s1.seq (SqL.of hwh),by rw [List.getElem?_map,me hi];rfl⟩
 ·rintro acc H' ⟨s1,_⟩
  k_upd
  exact ⟨_,s1.seq (SqL.of hwh),by rw [WB];exact Nat.le_refl _⟩
 ·rintro i acc H' hi ⟨s1,rfl⟩
  k_upd
  refine ⟨by have:=E7 ws lv i;rw [WB,sizeLine_eq];omega,?_⟩
  rintro x H2 ⟨tp,z,rfl,htp,rfl,hz⟩ M hM
  have e:=hz _ (s1.seq (SqL.of hwh))
  rw [List.getElem?_map,me hi] at e
  cases e
  k_mem
  refine ⟨_,SqT.of ag,rfl,?_⟩
  k_mem
  refine ⟨⟨rfl,fun k v e=>?_⟩,?_⟩
  ·match k,e with
   | 0,e=>cases e
   | 1,e=>cases e
   | 2,e=>exact e
  ·have gs:=Kx ws lv i
   k_upd
   split
   ·rename_i h
    refine hM _ _ ⟨s1.lay htp,?_⟩
    rw [gs,if_pos h,List.map_append];rfl
   ·rename_i h
    refine hM _ _ ⟨s1.lay htp,?_⟩
    rw [gs,if_neg h,List.append_nil]
 ·rintro acc H' ⟨s1,rfl⟩ p hp
  k_upd
  exact q1 hlv p _ (s1.free hp) (s1.lay hp) ag
variable (oR:KM P w K mg base (CXf P w) 3 Z.fh "at_level" (gW K Z))
inductive oA (K:WA)(Z:Adr)(vs:List V)(H:Hp)(Q:VK)(E:XK):Prop | mk (y kn wh:Addr) (ks:List Str) (ws:List Int) (m:Int):vs=[.ref y]->dH Z.fh H y kn wh ks ws m->(∀(y' kn' wh':Addr) (H':Hp),H y'=none->H kn'=none->H wh'=none->kn'≠wh'->av H H'->dH Z.fh H' y' kn' wh' ks ws m->Q (.ref y') H')->oA K Z vs H Q E
include T kB in
theorem Ez:FF P w K mg base CX0 3 "twin" "Yard.twin" pU xO (oA K Z):=fk0 vd fun vs H Q E h=>by
 obtain ⟨y,kn,wh,ks,ws,m,rfl,hy,q⟩:=h
 k_all
 refine ⟨_,@ae _ _ _ _ _ (@aG _ _ 1 _ _ _ _ vd.nd rfl orL (dn kB hr.dn T.M7 br (pa2 (bh il) (aw (pv' 0)))) (by rfl) hfA) (@ae _ _ _ _ _ (cj (pv' 1) (bg bH (by rfl) T.eO dG (pa1 (aw (pv' 0)))) rfl) (@ae _ _ _ _ _ (cj (pv' 1) (bg bH (by rfl) T.eO dG (pa1 (aw (pv' 0)))) rfl) (@ah _ _ _ (aA (pv' 1))))),?_⟩
 obtain ⟨⟨dy,hob⟩,hkn,hwh⟩:=id hy
 k_mem
 refine ⟨by decide,fun p0 hp0=>⟨_,_,_,upo hob hp0,T.di,T.i3,_,rfl,?_⟩⟩
 refine fun x dx hx hdx nxd=>?_
 have s0:=(av.refl H).lay (o:=HO.lst []) hp0
 have hx':upd (upd H p0 (HO.lst [])) dx (.own x) x=none:=by rw [aN (Ne.symm nxd)];exact hx
 refine ⟨x,dx,p0,[],m,rfl,ag,⟨[],SqL.of (upo (upo ag hdx) hx'),kQ.nil⟩,by decide,fun kn0 wh0 H1 hkn0 hwh0 nkw kp hy1=>⟨rfl,?_⟩⟩
 have s1:=s0.trans (ig hx hdx kp)
 obtain ⟨⟨dx1,hob1⟩,hkn1,hwh1⟩:=id hy1
 have hxn:H x=none:=s0.free hx
 clear kp hy1
 k_mem
 refine fgo (s1 _ _ hob) T.di T.g0 rfl ?_
 k_mem
 refine ⟨_,.inl (SqL.of (s1 _ _ hkn)),fun k1 hk1=>⟨_,_,_,upo hob1 hk1,T.di,T.g0,by show 3 < 1000;decide,?_⟩⟩
 have nk1:k1≠x:=fun z=>by rw [z,hob1] at hk1;cases hk1
 have s2:av H (upd (upd H1 k1 (HO.lst (ks.map V.str))) x (HO.ins Z.fh dx1 (bG "kinds" (.ref k1) [("kinds",V.ref kn0),("where",V.ref wh0),("many",V.int m)]))):=(s1.lay hk1).rewr hxn
 have hob2:upd (upd H1 k1 (HO.lst (ks.map V.str))) x (HO.ins Z.fh dx1 (bG "kinds" (.ref k1) [("kinds",V.ref kn0),("where",V.ref wh0),("many",V.int m)])) x=some (HO.ins Z.fh dx1 [("kinds",V.ref k1),("where",V.ref wh0),("many",V.int m)]):=by rw [ag];rfl
 have hk2:upd (upd H1 k1 (HO.lst (ks.map V.str))) x (HO.ins Z.fh dx1 (bG "kinds" (.ref k1) [("kinds",V.ref kn0),("where",V.ref wh0),("many",V.int m)])) k1=some (HO.lst (ks.map V.str)):=by rw [aN nk1,ag]
 generalize upd (upd H1 k1 (HO.lst (ks.map V.str))) x (HO.ins Z.fh dx1 (bG "kinds" (.ref k1) [("kinds",V.ref kn0),("where",V.ref wh0),("many",V.int m)]))=H2 at *
 refine fgo (s2 _ _ hob) T.di T.cz rfl ?_
 k_mem
 refine ⟨_,.inl (SqL.of (s2 _ _ hwh)),fun w1 hw1=>⟨_,_,_,upo hob2 hw1,T.di,T.cz,by show 3 < 1000;decide,?_⟩⟩
 have nw1:w1≠x:=fun z=>by rw [z,hob2] at hw1;cases hw1
 have nkw1:k1≠w1:=ak hk2 hw1
 refine q x k1 w1 _ hxn (s1.free hk1) (s2.free hw1) nkw1 ((s2.lay hw1).rewr hxn) ⟨⟨dx1,by rw [ag];rfl⟩,?_,?_⟩
 ·rw [aN nk1,aN nkw1];exact hk2
 ·rw [aN nw1,ag]
variable (yh:KM P w K mg base CX0 3 Z.fh "twin" (oA K Z))
theorem Rm (s:Int)(x:Cd):inV (.int s) (cdV x)=decide (s=x.1\/s=x.2):=Jj s x.1 x.2
inductive lW (K:WA)(Z:Adr)(vs:List V)(H:Hp)(Q:VK)(E:XK):Prop | mk (b cs fl st:Addr) (ls:List Cd) (fs:List Bool) (e:Eng) (lv s:Int):vs=[.ref b,.int lv,.int s]->bM Z.bR K H b cs fl st ls fs e->((¬(0<=lv/\lv < ls.length)->E (.ref Z.ay) none H))->((0<=lv->lv < ls.length->fs.getD lv.toNat false=true->E (.ref Z.aW) none H))->((0<=lv->lv < ls.length->fs.getD lv.toNat false=false->¬(s=(dI ls lv).1\/s=(dI ls lv).2)->E (.ref Z.bB) none H))->((0<=lv->lv < ls.length->fs.getD lv.toNat false=false->(s=(dI ls lv).1\/s=(dI ls lv).2)->∀st' H',aD b H H'->bM Z.bR K H' b cs fl st' ls fs (.wait lv s)->Q .non H'))->lW K Z vs H Q E
include T bJ in
theorem BJ:FF P w K mg base (CXf P w) 3 "ring" "Bells.ring" nB uO (lW K Z):=fkF Be fun vs H Q E h=>by
 obtain ⟨b,cs,fl,st,ls,fs,e,lv,s,rfl,hB,q1,q2,q3,q4⟩:=h
 k_all
 refine @seg _ _ _ 3 _ (@ah _ _ _ (cj (pv' 0) (aK (pa4 aB (pv' 1) (pv' 2) eV)) rfl)) fun zt3 zh3 ze3=>?_
 refine @seg _ _ _ 2 _ (@ae _ _ _ _ _ (aQ (dQ fC (pv' 2) (ao ax (aw (pv' 0)) (pv' 1)) (by rfl)) (@ah _ _ _ (bz T.FX (by rfl) T.Af (pa1 aB))) (aC)) zh3) fun zt2 zh2 ze2=>?_
 refine @seg _ _ _ 1 _ (@ae _ _ _ _ _ (aQ (cX (ao ax (aw (pv' 0)) (pv' 1))) (@ah _ _ _ (bz T.Ir (by rfl) T.Ae (pa1 aB))) (aC)) zh2) fun zt1 zh1 ze1=>?_
 refine ⟨_,@ae _ _ _ _ _ (@bb _ _ _ _ (dc bJ hr.dn bC (pa2 (pv' 1) (aF az (by rfl) T.bY bu (pa1 (aw (pv' 0)))))) (by rfl)) zh1,?_⟩
 obtain ⟨⟨dx,hob⟩,⟨as,hcs,hT⟩,hfl,hst,nn,ln⟩:=id hB
 k_mem
 refine fgo hob T.bL T.dE rfl ?_
 k_mem
 refine ⟨_,.inl (SqL.of hcs),_,_,rfl,?_⟩
 rw [WB,hT.1]
 k_upd
 refine ⟨fun hlv=>?_,q1⟩
 k_mem
 refine fgo hob T.bL T.cZ rfl ?_
 k_mem
 refine ⟨_,SqL.of hfl,_,jf hlv.1 (by omega),?_⟩
 k_mem
 split
 ·rename_i h
  k_upd
  exact ⟨by decide,q2 hlv.1 hlv.2 h⟩
 ·rename_i h
  k_upd
  refine fgo hob T.bL T.dE rfl ?_
  k_mem
  obtain ⟨ar,ea,hr⟩:=uA hT hlv.1 hlv.2
  k_upd
  refine ⟨_,SqL.of hcs,_,ea,?_⟩
  k_mem
  refine ⟨_,.inr hr,rfl,rfl,?_⟩
  rw [Rm]
  k_mem
  split
  ·rename_i h2
   k_upd
   exact ⟨by decide,q3 hlv.1 hlv.2 (by simpa using h) h2⟩
  ·rename_i h2
   k_upd
   refine ⟨by decide,fun st' hst'=>⟨_,_,_,upo hob hst',T.bL,T.bO,by show 3 < 1000;decide,?_⟩⟩
   have nsx:st'≠b:=fun z=>by rw [z,hob] at hst';cases hst'
   refine q4 hlv.1 hlv.2 (by simpa using h) (Decidable.not_not.mp h2) st' _ ((aD.of ((av.refl H).lay hst')).put) (hB.state ((aD.of ((av.refl H).lay hst')).put) (dx:=dx) (by rw [ag];rfl) (SqT.of ?_))
   rw [aN nsx,ag];rfl
variable (vP:KM P w K mg base (CXf P w) 3 Z.bR "ring" (lW K Z))
inductive lX (K:WA)(Z:Adr)(vs:List V)(H:Hp)(Q:VK)(E:XK):Prop | mk (b cs fl st:Addr) (ls:List Cd) (fs:List Bool) (e:Eng) (lv:Int):vs=[.ref b,.int lv]->bM Z.bR K H b cs fl st ls fs e->((¬(0<=lv/\lv < ls.length)->E (.ref Z.ay) none H))->((0<=lv->lv < ls.length->fs.getD lv.toNat false=true->E (.ref Z.aU) none H))->((0<=lv->lv < ls.length->fs.getD lv.toNat false=false->∀H',aD fl H H'->H' fl=some (.lst ((fs.set lv.toNat true).map V.bl))->Q .non H'))->lX K Z vs H Q E
include T bJ in
theorem BK:FF P w K mg base (CXf P w) 3 "fail" "Bells.fail" nC uP (lX K Z):=fkF Bf fun vs H Q E h=>by
 obtain ⟨b,cs,fl,st,ls,fs,e,lv,rfl,hB,q1,q2,q3⟩:=h
 k_all
 refine @seg _ _ _ 2 _ (@ah _ _ _ (kO iS (wo (aw (pv' 0)) (pv' 1) ja))) fun zt2 zh2 ze2=>?_
 refine @seg _ _ _ 1 _ (@ae _ _ _ _ _ (aQ (cX (ao ax (aw (pv' 0)) (pv' 1))) (@ah _ _ _ (bz T.Ak (by rfl) T.tO (pa1 aB))) (aC)) zh2) fun zt1 zh1 ze1=>?_
 refine ⟨_,@ae _ _ _ _ _ (@bb _ _ _ _ (dc bJ hr.dn bC (pa2 (pv' 1) (aF az (by rfl) T.bY bu (pa1 (aw (pv' 0)))))) (by rfl)) zh1,?_⟩
 obtain ⟨⟨dx,hob⟩,⟨as,hcs,hT⟩,hfl,hst,nn,ln⟩:=id hB
 k_mem
 refine fgo hob T.bL T.dE rfl ?_
 k_mem
 refine ⟨_,.inl (SqL.of hcs),_,_,rfl,?_⟩
 rw [WB,hT.1]
 k_upd
 refine ⟨fun hlv=>?_,q1⟩
 k_mem
 refine fgo hob T.bL T.cZ rfl ?_
 k_mem
 refine ⟨_,SqL.of hfl,_,jf hlv.1 (by omega),?_⟩
 k_mem
 split
 ·rename_i h
  k_upd
  exact ⟨by decide,q2 hlv.1 hlv.2 h⟩
 ·rename_i h
  k_upd
  refine fgo hob T.bL T.cZ rfl ?_
  k_mem
  refine ⟨_,hfl,_,Du hlv.1 (by rw [WB];omega),?_⟩
  k_upd
  exact q3 hlv.1 hlv.2 (by simpa using h) _ ((aD.of (av.refl H)).put) (by rw [ag,List.map_set])
variable (vQ:KM P w K mg base (CXf P w) 3 Z.bR "fail" (lX K Z))
theorem Rn (e:Eng)(lv c:Int):eqL (kS e) [V.str "armed",V.int lv,V.int c,V.int c]=match e with | .armed l' r=>decide (l'=lv/\r=c) | _=>false:=by
 cases e with
 | armed l r=>
  simp only [kS,eqL,Dr,Bool.and_true]
  have:eqV (V.str "armed") (V.str "armed")=true:=rfl
  rw [this]
  by_cases h1:l=lv<;>by_cases h2:r=c<;>simp [h1,h2]
 | _=>rfl
theorem OX {k:Str}(hk:k="men"\/k="coal"):∃i:Int,(if eqV (V.str "men") (V.str k)=true then (0:Int) else 1)=i/\(eqV (V.str "men") (V.str k) || eqV (V.str "coal") (V.str k))=true/\∀x:Cd,atI (cdV x) i=some (.int (if k="men" then x.1 else x.2)):=by
 rcases hk with rfl | rfl
 ·exact ⟨0,rfl,rfl,fun x=>rfl⟩
 ·exact ⟨1,rfl,rfl,fun x=>rfl⟩
inductive oB (K:WA)(Z:Adr)(vs:List V)(H:Hp)(Q:VK)(E:XK):Prop | mk (b cs fl st:Addr) (ls:List Cd) (fs:List Bool) (e:Eng) (lv:Int) (k:Str):vs=[.ref b,.int lv,.str k]->bM Z.bR K H b cs fl st ls fs e->((k="men"\/k="coal"))->((¬(0<=lv/\lv < ls.length)->E (.ref Z.ay) none H))->((0<=lv->lv < ls.length->e≠.armed lv (df ls lv k)->∀H',av H H'->E (.ref Z.cR) none H'))->((0<=lv->lv < ls.length->e=.armed lv (df ls lv k)->∀st' H',aD b H H'->bM Z.bR K H' b cs fl st' ls fs (.used lv (df ls lv k))->Q .non H'))->oB K Z vs H Q E
include T bJ in
theorem EA:FF P w K mg base (CXf P w) 3 "use" "Bells.use" pV xP (oB K Z):=fkF ve fun vs H Q E h=>by
 obtain ⟨b,cs,fl,st,ls,fs,e,lv,k,rfl,hB,hk,q1,q2,q3⟩:=h
 k_all
 refine @seg _ _ _ 3 _ (@ah _ _ _ (cj (pv' 0) (aK (pa4 aB (pv' 1) (pv' 3) (pv' 3))) rfl)) fun zt3 zh3 ze3=>?_
 refine @seg _ _ _ 2 _ (@ae _ _ _ _ _ (aQ (dQ (QG hr.units0) (aw (pv' 0)) (aK (pa4 aB (pv' 1) (pv' 3) (pv' 3))) (cE _)) (@ah _ _ _ (bz T.Iw (by rfl) T.Ij (pa1 aB))) (aC)) zh3) fun zt2 zh2 ze2=>?_
 refine @seg _ _ _ 1 _ (@ae _ _ _ _ _ (@aG _ _ 3 _ _ _ _ ve.nd rfl orL (ao aq (ao ax (aw (pv' 0)) (pv' 1)) (kg PySem.F.plainAttrs_tuple PySem.F.slot_tuple_index PySem.F.type_tuple_index Kw (eo (by rfl) T.ON) (pa1 (pv' 2)))) (by rfl) hfA) zh2) fun zt1 zh1 ze1=>?_
 refine ⟨_,@ae _ _ _ _ _ (@bb _ _ _ _ (dc bJ hr.dn bC (pa2 (pv' 1) (aF az (by rfl) T.bY bu (pa1 (aw (pv' 0)))))) (by rfl)) zh1,?_⟩
 obtain ⟨⟨dx,hob⟩,⟨as,hcs,hT⟩,hfl,hst,nn,ln⟩:=id hB
 k_mem
 refine fgo hob T.bL T.dE rfl ?_
 k_mem
 refine ⟨_,.inl (SqL.of hcs),_,_,rfl,?_⟩
 rw [WB,hT.1]
 k_upd
 refine ⟨fun hlv=>?_,q1⟩
 k_mem
 obtain ⟨ar,ea,hr⟩:=uA hT hlv.1 hlv.2
 obtain ⟨i,ei,ek,ex⟩:=OX hk
 k_upd
 refine fgo hob T.bL T.dE rfl ?_
 k_mem
 refine ⟨_,SqL.of hcs,_,ea,.inr (.inl ⟨rfl,T.OP⟩),_,_,_,_,rfl,rfl,T.OO _,rfl,rfl,rfl,ek,?_⟩
 rw [ei]
 k_mem
 refine ⟨_,hr,_,ex _,?_⟩
 k_mem
 have ec:(if k=Str.ofString "men" then (dI ls lv).1 else (dI ls lv).2)=df ls lv k:=rfl
 rw [ec]
 k_upd
 refine fgo hob T.bL T.bO rfl ⟨by decide,fun tp htp=>?_⟩
 k_mem
 refine ⟨_,_,_,_,rfl,rfl,((av.refl H).lay htp).tup hst,SqT.of ag,List.all_eq_true.mpr (wH e),rfl,?_⟩
 have s0:=(av.refl H).lay (o:=HO.tup [V.str (Str.ofString "armed"),V.int lv,V.int (df ls lv k),V.int (df ls lv k)]) htp
 have e2:eqL (kS e) [V.str (Str.ofString "armed"),V.int lv,V.int (df ls lv k),V.int (df ls lv k)]=_:=Rn e lv (df ls lv k)
 rw [e2]
 have hob0:=s0 _ _ hob
 generalize upd H tp (HO.tup [V.str (Str.ofString "armed"),V.int lv,V.int (df ls lv k),V.int (df ls lv k)])=H0 at *
 have no:e≠.armed lv (df ls lv k)->E (.ref Z.cR) none H0:=fun z=>q2 hlv.1 hlv.2 z H0 s0
 cases e with
 | armed l' r=>
  k_mem
  by_cases hh:l'=lv/\r=df ls lv k
  ·rw [if_neg (by simp [hh])]
   k_mem
   refine ⟨by decide,fun st' hst'=>⟨_,_,_,upo hob0 hst',T.bL,T.bO,by show 3 < 1000;decide,?_⟩⟩
   have nsx:st'≠b:=fun z=>by rw [z,hob0] at hst';cases hst'
   have k0:=((aD.of (s0.lay (o:=HO.tup [V.str (Str.ofString "used up"),V.int lv,V.int (df ls lv k),V.int (df ls lv k)]) hst')).put (o:=HO.ins Z.bR dx (bG "state" (.ref st') [("codes",V.ref cs),("failed",V.ref fl),("state",V.ref st)])) (p:=b))
   refine q3 hlv.1 hlv.2 (by rw [hh.1,hh.2]) st' _ k0 (hB.state k0 (dx:=dx) (by rw [ag];rfl) (SqT.of ?_))
   rw [aN nsx,ag];rfl
  ·rw [if_pos (by simp;intro z1 z2;exact hh ⟨z1,z2⟩)]
   k_mem
   exact ⟨by decide,no fun z=>by injection z with z1 z2;exact hh ⟨z1,z2⟩⟩
 | _=>
  k_mem
  exact ⟨by decide,no fun z=>Eng.noConfusion z⟩
variable (yi:KM P w K mg base (CXf P w) 3 Z.bR "use" (oB K Z))
inductive lY (K:WA)(Z:Adr)(vs:List V)(H:Hp)(Q:VK)(E:XK):Prop | mk (b cs fl st:Addr) (ls:List Cd) (fs:List Bool) (e:Eng):vs=[.ref b]->bM Z.bR K H b cs fl st ls fs e->ls.length<=1000->(∀(b' cs' fl':Addr) (H':Hp),H b'=none->H cs'=none->H fl'=none->av H H'->bM Z.bR K H' b' cs' fl' st ls fs e->Q (.ref b') H')->lY K Z vs H Q E
include T i6 in
theorem BL:FF P w K mg base CX0 3 "twin" "Bells.twin" nE uR (lY K Z):=fk0 sj fun vs H Q E h=>by
 obtain ⟨b,cs,fl,st,ls,fs,e,rfl,hB,hn,q⟩:=h
 k_all
 refine ⟨_,@ae _ _ _ _ _ (@aG _ _ 1 _ _ _ _ sj.nd rfl orL (dn i6 hr.dn T.JJ br (pa1 (aw (pv' 0)))) (by rfl) hfA) (@ae _ _ _ _ _ (cj (pv' 1) (bg bH (by rfl) T.eO dG (pa1 (aw (pv' 0)))) rfl) (@ae _ _ _ _ _ (cj (pv' 1) (aw (pv' 0)) rfl) (@ah _ _ _ (aA (pv' 1))))),?_⟩
 obtain ⟨⟨db,hob⟩,⟨as,hcs,hT⟩,hfl,hst,nn,ln⟩:=id hB
 k_mem
 refine fgo hob T.bL T.dE rfl ?_
 refine fun x dx hx hdx nxd=>?_
 have hx':upd H dx (.own x) x=none:=by rw [aN (Ne.symm nxd)];exact hx
 refine ⟨x,dx,cs,ls,rfl,ag,hB.rows.same (((av.refl H).lay hdx).lay hx'),hn,fun cs1 fl1 st1 H1 hcs1 hfl1 kp hB1=>⟨rfl,?_⟩⟩
 have s1:=ig hx hdx kp
 obtain ⟨⟨dx1,hob1⟩,⟨as1,hc1,hT1⟩,hf1,_,nn1,ln1⟩:=id hB1
 clear kp
 k_mem
 refine fgo (s1 _ _ hob) T.bL T.cZ rfl ?_
 k_mem
 refine ⟨_,.inl (SqL.of (s1 _ _ hfl)),fun f2 hf2=>⟨_,_,_,upo hob1 hf2,T.bL,T.cZ,by show 3 < 1000;decide,?_⟩⟩
 have nf2:f2≠x:=fun z=>by rw [z,hob1] at hf2;cases hf2
 have ncf:cs1≠f2:=ak hc1 hf2
 have ncx:cs1≠x:=fun z=>by rw [z,hob1] at hc1;cases hc1
 have s2:av H (upd (upd H1 f2 (HO.lst (fs.map V.bl))) x (HO.ins Z.bR dx1 (bG "failed" (.ref f2) [("codes",V.ref cs1),("failed",V.ref fl1),("state",V.ref st1)]))):=(s1.lay hf2).rewr hx
 have k2:L2.aD x H1 (upd (upd H1 f2 (HO.lst (fs.map V.bl))) x (HO.ins Z.bR dx1 (bG "failed" (.ref f2) [("codes",V.ref cs1),("failed",V.ref fl1),("state",V.ref st1)]))):=(aD.of ((av.refl H1).lay hf2)).put
 have hob2:upd (upd H1 f2 (HO.lst (fs.map V.bl))) x (HO.ins Z.bR dx1 (bG "failed" (.ref f2) [("codes",V.ref cs1),("failed",V.ref fl1),("state",V.ref st1)])) x=some (HO.ins Z.bR dx1 [("codes",V.ref cs1),("failed",V.ref f2),("state",V.ref st1)]):=by rw [ag];rfl
 have hff:upd (upd H1 f2 (HO.lst (fs.map V.bl))) x (HO.ins Z.bR dx1 (bG "failed" (.ref f2) [("codes",V.ref cs1),("failed",V.ref fl1),("state",V.ref st1)])) f2=some (HO.lst (fs.map V.bl)):=by rw [aN nf2,ag]
 generalize upd (upd H1 f2 (HO.lst (fs.map V.bl))) x (HO.ins Z.bR dx1 (bG "failed" (.ref f2) [("codes",V.ref cs1),("failed",V.ref fl1),("state",V.ref st1)]))=H2 at *
 refine fgo (s2 _ _ hob) T.bL T.bO rfl ?_
 k_mem
 refine ⟨_,_,_,hob2,T.bL,T.bO,by show 3 < 1000;decide,?_⟩
 have k3:L2.aD x H2 (upd H2 x (HO.ins Z.bR dx1 (bG "state" (.ref st) [("codes",V.ref cs1),("failed",V.ref f2),("state",V.ref st1)]))):=(aD.of (av.refl H2)).put
 refine q x cs1 f2 _ hx (gm hcs1) (s1.free hf2) (s2.rewr hx) ⟨⟨dx1,by rw [ag];rfl⟩,⟨as1,k3 _ _ ncx (k2 _ _ ncx hc1),(hT1.keepI k2 hob1).keepI k3 hob2⟩,k3 _ _ nf2 hff,(s2.rewr hx).tup hst,ncf,ln⟩
variable (vR:KM P w K mg base CX0 3 Z.bR "twin" (lY K Z))
inductive jX (K:WA)(Z:Adr)(vs:List V)(H:Hp)(Q:VK)(E:XK):Prop | mk (a:Addr) (ds:List Int) (c lv:Int):vs=[.ref a,.int c,.int lv]->SqL K H a (ds.map V.int)->0<=lv->lv < ds.length->Q (.int (if c=0 then ds.getD lv.toNat 0 else cw ds - ds.getD lv.toNat 0)) H->jX K Z vs H Q E
include T dX in
theorem AD:FF P w K mg base CX0 3 "wound_place" "wound_place" k7 rR (jX K Z):=fk0 zI fun vs H Q E h=>by
 obtain ⟨a,ds,c,lv,rfl,hS,h0,h1,q⟩:=h
 k_all
 refine @seg _ _ _ 1 _ (@ah _ _ _ (aA (dc0 dX hr.dn (pa2 (pv' 0) (ao ax (pv' 0) (pv' 2)))))) fun zt1 zh1 ze1=>?_
 refine ⟨_,@ae _ _ _ _ _ (aQ (bV (pv' 1) af) (@ah _ _ _ (aA (ao ax (pv' 0) (pv' 2)))) (aC)) zh1,?_⟩
 k_mem
 split
 ·rename_i hc
  k_upd
  rw [if_pos hc] at q
  k_upd
  exact ⟨_,hS,_,dZ h0 h1,q⟩
 ·rename_i hc
  k_upd
  rw [if_neg hc] at q
  k_upd
  refine ⟨_,hS,_,dZ h0 h1,?_⟩
  k_mem
  exact ⟨a,ds,_,rfl,hS,by omega,q⟩
variable (fG:KD P w K mg base CX0 3 "wound_place" (jX K Z))
inductive qO (K:WA)(Z:Adr)(vs:List V)(H:Hp)(Q:VK)(E:XK):Prop | mk (a:Addr) (ds:List Int) (pl:Int):vs=[.ref a,.int pl]->SqL K H a (ds.map V.int)->0 < ds.length->ds.length<=1000->(∀(b:Addr) (H':Hp),H b=none->av H H'->H' b=some (.lst ((km ds pl).map V.int))->Q (.ref b) H')->qO K Z vs H Q E
include T dX in
theorem GH:FF P w K mg base CX0 3 "gates_by" "gates_by" tD zB (qO K Z):=fk0 xZ fun vs H Q E h=>by
 obtain ⟨a,ds,pl,rfl,hS,h0,h1,q⟩:=h
 k_all
 refine ⟨_,@ae _ _ _ _ _ (@aG _ _ 2 _ _ _ _ xZ.nd rfl (Or.inr rfl) (aK (pa2 (pv' 1) (dc0 dX hr.dn (pa2 (pv' 0) (pv' 1))))) (by rfl) hfA) (@ah _ _ _ (aA (kh ["level","depths","stands"] [none,some 0,some 2] (bA (by rfl) T.cB (pa1 (aF az (by rfl) T.bY bu (pa1 (pv' 0))))) (fun _ _ _ _=>(aE (i:=0) (show (["level","depths","stands"]:List Str).Nodup by decide +kernel) rfl orL)) (fun _ _ _ _=>(mX (dQ (show OpR _ _ (Fm K false) from gK) (ao (show IxR _ (Cp K) from ax) (pv' 1) (pv' 0)) (pv' 2) (by rfl)))) (fun _ _ _ _=>(pv' 0))))),?_⟩
 k_mem
 refine ⟨a,ds,pl,rfl,hS,h0,?_⟩
 k_mem
 refine ⟨by decide,fun t ht=>⟨_,.inl (((av.refl H).lay ht).seq hS),by omega,by rw [WB];omega,?_⟩⟩
 refine eL (fun i=>decide (ds.getD i 0=pl\/ds.getD i 0=cw ds - pl)) (fun i=>V.int (i:Int)) (Nat.le_of_lt (cu (by rw [WB];omega))) rfl (fun i hi N q=>?_) (fun i hi _ N q=>?_) (fun b hb=>?_)
 ·rw [WB] at hi
  k_mem
  refine ⟨_,((av.refl H).lay ht).seq hS,_,by rw [Int.zero_add];exact gg (by omega),_,.inr (SqT.of ag),rfl,rfl,?_⟩
  rw [Jj]
  exact q
 ·k_mem
  rw [Int.zero_add]
  exact q
 ·refine q b _ (upn hb) (((av.refl H).lay ht).lay hb) ?_
  rw [ag]
  unfold km
  rw [List.map_map,WB]
  rfl
variable (AE:KD P w K mg base CX0 3 "gates_by" (qO K Z))
def Ni (rs:List Row):Prop:=∀r∈rs,1<=r.speed/\r.speed<=500/\0<=r.began
def Nj (H:Hp)(n0:aS)(rs:List Row)(t:Int)(x0:V)(i:Nat)(σ:St)(H':Hp):Prop:=H'=H/\∃a b c d e,σ=[some x0,some (.int t),some (.int (gn n0 (rs.take i) t).1),some (.int (gn n0 (rs.take i) t).2),a,b,c,d,e]
inductive gX (K:WA)(Z:Adr)(vs:List V)(H:Hp)(Q:VK)(E:XK):Prop | mk (bk rl:Addr) (g:Cfg) (n0:aS) (rs:List Row) (t:Int):vs=[.ref bk,.int t]->BAt (clZ Z) K H bk rl g n0 rs->Ni rs->bX rs<=1000000->((0<=t/\t<=bX rs->Q (.int (yX n0 rs t)) H))->((¬(0<=t/\t<=bX rs)->E (.ref Z.bD) none H))->gX K Z vs H Q E
include T sN jT in
theorem xw:FF P w K mg base (CXf P w) 3 "place_at" "Book.place_at" iD oK (gX K Z):=fkF bP fun vs H Q E h=>by
 obtain ⟨bk,rl,g,n0,rs,t,rfl,hB,hrs,hnow,q1,q2⟩:=h
 k_all
 refine @seg _ _ _ 4 _ (@ah _ _ _ (aA (pv' 2))) fun zt4 zh4 ze4=>?_
 refine @seg _ _ _ 3 _ (@ae _ _ _ _ _ (cH A2 rfl (cJ (aw (pv' 0))) (eS rfl (aI (aE (i:=4) bP.nd rfl orL) (aI (aE (i:=5) bP.nd rfl orL) (aI (aE (i:=6) bP.nd rfl orL) (aI (aE (i:=7) bP.nd rfl orL) (aI (aE (i:=8) bP.nd rfl orL) de)))))) (@ah _ _ _ (aQ (Py (pv' 4) (pv' 1)) (@ae _ _ _ _ _ (@aG _ _ 2 _ _ _ _ bP.nd rfl orL (dc0 sN hr.dn (pa4 (pv' 3) (aw (pv' 8)) (pv' 7) (aT dh (pv' 1) (pv' 4)))) (by rfl) hfA) (@ah _ _ _ (@aG _ _ 3 _ _ _ _ bP.nd rfl orL (aw (pv' 8)) (by rfl) hfA))) (aC)))) zh4) fun zt3 zh3 ze3=>?_
 refine @seg _ _ _ 2 _ (@ae _ _ _ _ _ (@aG _ _ 3 _ _ _ _ bP.nd rfl orL (aw (aw (pv' 0))) (by rfl) hfA) zh3) fun zt2 zh2 ze2=>?_
 refine @seg _ _ _ 1 _ (@ae _ _ _ _ _ (@aG _ _ 2 _ _ _ _ bP.nd rfl orL (aw (aw (pv' 0))) (by rfl) hfA) zh2) fun zt1 zh1 ze1=>?_
 refine ⟨_,@ae _ _ _ _ _ (@bb _ _ _ _ (dm' (pv' 0) jT hr.dn bC (pa1 (pv' 1))) (by rfl)) zh1,?_⟩
 obtain ⟨⟨dx,f0,hob,A0,hF⟩,as,hrl,hR⟩:=id hB
 have hl:=hR.1
 k_mem
 refine mgo hob rfl ⟨_,_,_,_,_,_,rfl,hB,fun ht=>?_,q2⟩
 k_mem
 refine fgo hob T.dj T.g8 rfl ?_
 k_mem
 refine fgo hF.ob T.aO T.bI rfl ?_
 k_mem
 refine fgo hob T.dj T.g8 rfl ?_
 k_mem
 refine fgo hF.ob T.aO T.bI rfl ?_
 k_mem
 refine fgo hob T.dj T.cb rfl ?_
 k_mem
 refine ⟨⟨_,SqL.of hrl⟩,?_⟩
 k_upd
 refine en (as.map V.ref) (Nj H n0 rs t (.ref bk)) ⟨rfl,_,_,_,_,_,rfl⟩ (fun i σ H' _ ⟨e,_⟩=>by rw [e];exact SqL.of hrl) ?_ ?_
 ·rintro i x σ H' hx ⟨rfl,a1,a2,a3,a4,a5,rfl⟩
  rw [List.getElem?_map] at hx
  obtain ⟨a,ea,rfl⟩:=Option.map_eq_some_iff.mp hx
  have hi:i < as.length:=(List.getElem?_eq_some_iff.mp ea).1
  have hi':i < rs.length:=by omega
  obtain ⟨dd,s,hra,hdd,A,hA⟩:=hR.2 i a _ ea (List.getElem?_eq_getElem hi')
  have hok:=hrs _ (List.getElem_mem hi')
  have et:=DF n0 rs t hi'
  k_mem
  refine ⟨_,hra,rfl,?_⟩
  k_mem
  split
  ·rename_i hb
   k_upd
   refine fgo hA.ob T.aO T.bI rfl ?_
   k_mem
   have hn:=Int.mul_nonneg (show 0<=rs[i].speed by omega) (show 0<=t - rs[i].began by omega)
   k_upd
   refine ⟨_,_,_,_,rfl,by omega,by omega,hn,fun v h1 h2 h3=>?_⟩
   have ev:=Q6 h1 h2 h3
   k_mem
   refine fgo hA.ob T.aO T.bI rfl ?_
   k_mem
   have e2:gn n0 (rs.take (i+1)) t=(v,rs[i].sn.place):=by rw [et,ev];unfold Fs;rw [if_pos hb]
   unfold Nj
   rw [e2]
   k_upd
   exact ⟨rfl,_,_,_,_,_,rfl⟩
  ·rename_i hb
   have e2:gn n0 (rs.take (i+1)) t=gn n0 (rs.take i) t:=by rw [et];unfold Fs;rw [if_neg hb]
   unfold Nj
   rw [e2]
   k_upd
   exact ⟨rfl,_,_,_,_,_,rfl⟩
 ·rintro σ H' ⟨rfl,a1,a2,a3,a4,a5,rfl⟩
  k_mem
  have q':=q1 ht
  unfold yX at q'
  rw [WB,hl,List.take_length]
  k_upd
  exact q'
variable (oS:KM P w K mg base (CXf P w) 3 Z.oX "place_at" (gX K Z))
noncomputable def qP (K:WA)(Z:Adr):Sp:=fun vs H Q E=>False
include T tY dX in
theorem AF:FF P w K mg base CX0 3 "cage_levels" "cage_levels" lr rY (qP K Z):=fk0 zN fun vs H Q E h=>False.elim h
variable (sS:KD P w K mg base CX0 3 "cage_levels" (qP K Z))
noncomputable def kG (K:WA)(Z:Adr):Sp:=fun vs H Q E=>False
include T oQ in
theorem vS:FF P w K mg base CX0 3 "stands_handled" "stands_handled" gM mj (kG K Z):=fk0 vg fun vs H Q E h=>False.elim h
variable (mS:KD P w K mg base CX0 3 "stands_handled" (kG K Z))
inductive lZ (K:WA)(Z:Adr)(vs:List V)(H:Hp)(Q:VK)(E:XK):Prop | mk (x dx d c l:Addr) (ds:List Int) (ls:List Cd) (lds:List Ld) (slow fast:Int) (N:Addr->Prop):vs=[.ref x,.ref d,.ref c,.int slow,.int fast,.ref l]->H x=some (.ins Z.bw dx [])->SqL K H d (ds.map V.int)->kR cdV K H c ls->fI K H l lds->ds.length<=1000->ls.length<=1000->lds.length<=1000->((∀p,N p->∃ys,H p=some (.lst ys)))->((¬cC ds->E (.ref Z.cL) none H))->((cC ds->¬((ls.length:Int)=(ds.length:Nat)/\∀x∈ls,eX x)->E (.ref Z.dC) none H))->((cC ds->((ls.length:Int)=(ds.length:Nat)/\∀x∈ls,eX x)->¬(1<=slow/\slow<=fast/\fast<=500)->E (.ref Z.cM) none H))->((cC ds->((ls.length:Int)=(ds.length:Nat)/\∀x∈ls,eX x)->(1<=slow/\slow<=fast/\fast<=500)->¬(lds.length<=30/\∀x∈lds,je (ds.length:Nat) x)->E (.ref Z.dB) none H))->((cC ds->((ls.length:Int)=(ds.length:Nat)/\∀x∈ls,eX x)->(1<=slow/\slow<=fast/\fast<=500)->(lds.length<=30/\∀x∈lds,je (ds.length:Nat) x)->∀bk rl H',aD x H H'->H rl=none->WAt (clZ Z) K H' x bk rl (ij ds ls slow fast lds N) (iV ds ls lds) []->Q .non H'))->lZ K Z vs H Q E
include T kB i6 qG qI fK yd sP sQ in
theorem BM:FF P w K mg base (CXf P w) 3 "__init__" "Works.__init__" nN uZ (lZ K Z):=fkF ly fun vs H Q E h=>by
 obtain ⟨x,dx,d,c,l,ds,ls,lds,slow,fast,N,rfl,hx,hD,hC,hL,n1,n2,n3,hN,q1,q2,q3,q4,q5⟩:=h
 k_all
 refine ⟨_,@ae _ _ _ _ _ (@bb _ _ _ _ (dc qG hr.dn bC (pa1 (pv' 1))) (by rfl)) (@ae _ _ _ _ _ (@bb _ _ _ _ (dc sQ hr.dn bC (pa2 (pv' 2) (aF az (by rfl) T.bY bu (pa1 (pv' 1))))) (by rfl)) (@ae _ _ _ _ _ (@bb _ _ _ _ (dc qI hr.dn bC (pa2 (pv' 3) (pv' 4))) (by rfl)) (@ae _ _ _ _ _ (@bb _ _ _ _ (dc sP hr.dn bC (pa2 (pv' 5) (aF az (by rfl) T.bY bu (pa1 (pv' 1))))) (by rfl)) (@ae _ _ _ _ _ (cj (pv' 0) (bg bH (by rfl) T.eO dG (pa1 (pv' 1))) rfl) (@ae _ _ _ _ _ (cj (pv' 0) (pv' 3) rfl) (@ae _ _ _ _ _ (cj (pv' 0) (pv' 4) rfl) (@ae _ _ _ _ _ (cj (pv' 0) (kh ["kind","level","goal"] [none,none,none] (cJ (pv' 5)) (fun _ _ _ _=>(show PG _ _ (rL K 3 _) from eS (n:=3) rfl (aI (aE (i:=0) (show (["kind","level","goal"]:List Str).Nodup by decide +kernel) rfl orL) (aI (aE (i:=1) (show (["kind","level","goal"]:List Str).Nodup by decide +kernel) rfl orL) (aI (aE (i:=2) (show (["kind","level","goal"]:List Str).Nodup by decide +kernel) rfl orL) de))))) (fun _ _ _ _=>gf) (fun _ _ _ _=>(pv' 2))) rfl) (@ae _ _ _ _ _ (L6 ["depth"] [none] (iy:=6) ly.nd rfl rfl (cJ (pv' 1)) (fun _ _ _ _=>(aE (i:=0) (show (["depth"]:List Str).Nodup by decide +kernel) rfl orL)) (fun _ _ _ _=>gf) (fun _ _ _ _=>iS)) (@ae _ _ _ _ _ (@aG _ _ 7 _ _ _ _ ly.nd rfl orL (dn fK hr.dn T.Ag br (pa4 (ao ax (pv' 1) af) (pv' 6) (dn i6 hr.dn T.JJ br (pa1 (pv' 2))) (dn kB hr.dn T.M7 br (pa2 (pv' 5) (aF az (by rfl) T.bY bu (pa1 (pv' 1))))))) (by rfl) hfA) (@ah _ _ _ (cj (pv' 0) (dn yd hr.dn T.Q9 br (pa2 (pv' 7) (eo (by rfl) T.DW))) rfl))))))))))),?_⟩
 k_mem
 refine ⟨d,ds,rfl,hD,by omega,fun sh=>?_,q1⟩
 k_mem
 refine ⟨_,.inl hD,?_⟩
 rw [WB]
 refine ⟨c,ls,_,rfl,hC,fun h2=>?_,q2 sh⟩
 k_mem
 refine ⟨_,_,rfl,?_⟩
 by_cases h3:1<=slow/\slow<=fast/\fast<=500
 case neg=>rw [if_neg h3];exact q3 sh h2 h3
 rw [if_pos h3]
 k_mem
 refine ⟨_,.inl hD,?_⟩
 rw [WB]
 refine ⟨l,lds,_,rfl,hL,fun h4=>?_,q4 sh h2 h3⟩
 replace q5:=q5 sh h2 h3 h4
 clear q1 q2 q3 q4
 k_mem
 refine ⟨_,.inl hD,fun dl hdl=>⟨_,_,_,upo hx hdl,T.aZ,T.c7,by decide,_,_,_,ag,T.aZ,T.sJ,by show 1 < 1000;decide,_,_,_,ag,T.aZ,T.sL,by show 2 < 1000;decide,?_⟩⟩
 have ndx:dl≠x:=fun z=>by rw [z,hx] at hdl;cases hdl
 have k1:L2.aD x H (upd (upd (upd (upd H dl (HO.lst (ds.map V.int))) x (HO.ins Z.bw dx (bG "depths" (.ref dl) []))) x (HO.ins Z.bw dx (bG "slow" (.int slow) (bG "depths" (.ref dl) [])))) x (HO.ins Z.bw dx (bG "fast" (.int fast) (bG "slow" (.int slow) (bG "depths" (.ref dl) []))))):=(((aD.of ((av.refl H).lay hdl)).put).put).put
 have hx1:upd (upd (upd (upd H dl (HO.lst (ds.map V.int))) x (HO.ins Z.bw dx (bG "depths" (.ref dl) []))) x (HO.ins Z.bw dx (bG "slow" (.int slow) (bG "depths" (.ref dl) [])))) x (HO.ins Z.bw dx (bG "fast" (.int fast) (bG "slow" (.int slow) (bG "depths" (.ref dl) [])))) x=some (HO.ins Z.bw dx [("depths",.ref dl),("slow",.int slow),("fast",.int fast)]):=by rw [ag];rfl
 have hd1:upd (upd (upd (upd H dl (HO.lst (ds.map V.int))) x (HO.ins Z.bw dx (bG "depths" (.ref dl) []))) x (HO.ins Z.bw dx (bG "slow" (.int slow) (bG "depths" (.ref dl) [])))) x (HO.ins Z.bw dx (bG "fast" (.int fast) (bG "slow" (.int slow) (bG "depths" (.ref dl) [])))) dl=some (HO.lst (ds.map V.int)):=by rw [aN ndx,aN ndx,aN ndx,ag]
 generalize upd (upd (upd (upd H dl (HO.lst (ds.map V.int))) x (HO.ins Z.bw dx (bG "depths" (.ref dl) []))) x (HO.ins Z.bw dx (bG "slow" (.int slow) (bG "depths" (.ref dl) [])))) x (HO.ins Z.bw dx (bG "fast" (.int fast) (bG "slow" (.int slow) (bG "depths" (.ref dl) []))))=H1 at *
 obtain ⟨asL,hLs,hLt⟩:=id hL
 refine ⟨⟨_,hLs.keepI k1 hx⟩,wQ (fun y=>.int y.2.2) (hL.keepI k1 hx) (by rw [sizeLine_eq];omega) rfl (fun y _ M hM=>by k_mem;exact hM) fun gl hgl=>?_⟩
 k_mem
 refine ⟨_,_,_,upo hx1 hgl,T.aZ,T.jF,by show 3 < 1000;decide,?_⟩
 have ngx:gl≠x:=fun z=>by rw [z,hx1] at hgl;cases hgl
 have ngd:dl≠gl:=ak hd1 hgl
 have k2:L2.aD x H1 (upd (upd H1 gl (HO.lst (lds.map fun y=>V.int y.2.2))) x (HO.ins Z.bw dx (bG "goals" (.ref gl) [("depths",.ref dl),("slow",.int slow),("fast",.int fast)]))):=(aD.of ((av.refl H1).lay hgl)).put
 have hx2:upd (upd H1 gl (HO.lst (lds.map fun y=>V.int y.2.2))) x (HO.ins Z.bw dx (bG "goals" (.ref gl) [("depths",.ref dl),("slow",.int slow),("fast",.int fast)])) x=some (HO.ins Z.bw dx [("depths",.ref dl),("slow",.int slow),("fast",.int fast),("goals",.ref gl)]):=by rw [ag];rfl
 have hg2:upd (upd H1 gl (HO.lst (lds.map fun y=>V.int y.2.2))) x (HO.ins Z.bw dx (bG "goals" (.ref gl) [("depths",.ref dl),("slow",.int slow),("fast",.int fast)])) gl=some (HO.lst ((lds.map (·.2.2)).map V.int)):=by rw [aN ngx,ag,List.map_map];rfl
 generalize upd (upd H1 gl (HO.lst (lds.map fun y=>V.int y.2.2))) x (HO.ins Z.bw dx (bG "goals" (.ref gl) [("depths",.ref dl),("slow",.int slow),("fast",.int fast)]))=H2 at *
 have k12:=k1.trans k2
 have hd2:=k2 _ _ ndx hd1
 refine ⟨⟨_,hD.keepI k12 hx⟩,?_⟩
 refine xF (fun _=>true) (fun _=>V.bl false) (hD.keepI k12 hx) (by rw [WB,sizeLine_eq];omega) rfl (fun y _ M hM=>by k_mem;exact hM) (fun y _ _ M hM=>by k_mem;exact hM) fun sh1 hsh1=>?_
 have es:((ds.map V.int).filter fun _=>true).map (fun _=>V.bl false)=(ds.map fun _=>false).map V.bl:=by
  rw [List.filter_eq_self.mpr (by simp),List.map_map,List.map_map];rfl
 rw [es]
 have f3:=(av.refl H2).lay (o:=HO.lst ((ds.map fun _=>false).map V.bl)) hsh1
 have hs3:upd H2 sh1 (HO.lst ((ds.map fun _=>false).map V.bl)) sh1=some (HO.lst ((ds.map fun _=>false).map V.bl)):=ag
 generalize upd H2 sh1 (HO.lst ((ds.map fun _=>false).map V.bl))=H3 at *
 have k13:L2.aD x H H3:=k12.trans (aD.of f3)
 have sl2:=sh.l2
 k_mem
 refine ⟨_,hD.keepI k13 hx,_,dZ (k:=0) (by omega) (by omega),?_⟩
 k_mem
 refine fun b db hb hdb nbd=>?_
 have hb':upd H3 db (.own b) b=none:=by rw [aN (Ne.symm nbd)];exact hb
 refine ⟨b,db,c,ls,rfl,ag,(hC.keepI k13 hx).same (((av.refl H3).lay hdb).lay hb'),n2,fun cs fl st H4 hcs hfl kp hB=>⟨rfl,?_⟩⟩
 have f4:=ig hb hdb kp
 have fcs:=gm hcs
 have ffl:=gm hfl
 clear kp hcs hfl
 have f34:=f3.trans f4
 have k14:L2.aD x H H4:=k13.trans (aD.of f4)
 k_mem
 refine ⟨_,.inl (hD.keepI k14 hx),?_⟩
 rw [WB]
 refine fun y dy hy hdy nyd=>?_
 have hy':upd H4 dy (.own y) y=none:=by rw [aN (Ne.symm nyd)];exact hy
 refine ⟨y,dy,l,lds,_,rfl,ag,(hL.keepI k14 hx).same (((av.refl H4).lay hdy).lay hy'),n3,fun kn wh H5 hkn hwh nkw kp hY=>⟨rfl,?_⟩⟩
 have f5:=ig hy hdy kp
 have fkn:=gm hkn
 have fwh:=gm hwh
 clear kp hkn hwh
 k_mem
 refine fun s ds1 hs hds1 nsd=>?_
 have hs':upd H5 ds1 (.own s) s=none:=by rw [aN (Ne.symm nsd)];exact hs
 refine ⟨s,ds1,sh1,b,y,ds.getD 0 0,ds.map fun _=>false,rfl,ag,(((av.refl H5).lay hds1).lay hs').seq (SqL.of (f5 _ _ (f4 _ _ hs3))),fun ol H6 hol kp hob6 hol6=>⟨rfl,?_⟩⟩
 have f6:=ig hs hds1 kp
 have fol:=gm hol
 clear kp hol
 k_mem
 refine fun bk dbk hbk hdbk nbk=>?_
 refine ⟨bk,dbk,s,rfl,ag,fun rl H7 hrl kp hob7 hrl7=>⟨rfl,?_⟩⟩
 have f7:=ig hbk hdbk kp
 have frl:=gm hrl
 clear kp hrl
 have f26:=(f3.trans f4).trans (f5.trans f6)
 have f27:=f26.trans f7
 have hx7:=f27 _ _ hx2
 k_mem
 refine ⟨_,_,_,hx7,T.aZ,T.aX,by show 4 < 1000;decide,?_⟩
 have k8:L2.aD x H7 (upd H7 x (HO.ins Z.bw dx (bG "log" (.ref bk) [("depths",.ref dl),("slow",.int slow),("fast",.int fast),("goals",.ref gl)]))):=(aD.of (av.refl H7)).put
 have hx8:upd H7 x (HO.ins Z.bw dx (bG "log" (.ref bk) [("depths",.ref dl),("slow",.int slow),("fast",.int fast),("goals",.ref gl)])) x=some (HO.ins Z.bw dx [("depths",.ref dl),("slow",.int slow),("fast",.int fast),("goals",.ref gl),("log",.ref bk)]):=by rw [ag];rfl
 generalize upd H7 x (HO.ins Z.bw dx (bG "log" (.ref bk) [("depths",.ref dl),("slow",.int slow),("fast",.int fast),("goals",.ref gl)]))=H8 at *
 have frx:∀z,H6 z=none->H z=none:=fun z hz=>by
  by_cases e:z=x
  ·subst e;rw [f26 _ _ hx2] at hz;cases hz
  ·exact k12.free e (f26.free hz)
 obtain ⟨_,⟨asc,oc4,_⟩,of4,_,ncf,_⟩:=id hB
 obtain ⟨_,okn5,owh5⟩:=id hY
 have hsx:s≠x:=fun z=>by rw [z] at hs;rw [f5 _ _ (f34 _ _ hx2)] at hs;cases hs
 have hbx:b≠x:=fun z=>by rw [z] at hb;rw [f3 _ _ hx2] at hb;cases hb
 have hyx:y≠x:=fun z=>by rw [z] at hy;rw [f34 _ _ hx2] at hy;cases hy
 have hbkx:bk≠x:=fun z=>by rw [z] at hbk;rw [f26 _ _ hx2] at hbk;cases hbk
 have f46:=f5.trans f6
 have hN6:∀p,N p->∃ys,H6 p=some (.lst ys):=fun p hp=>by
  obtain ⟨ys,e⟩:=hN p hp
  exact ⟨ys,f26 _ _ (k12 _ _ (fun z=>by rw [z,hx] at e;cases e) e)⟩
 have hNn:∀p,N p->∀z,H z=none->z≠p:=fun p hp z hz e=>by
  obtain ⟨ys,e'⟩:=hN p hp
  rw [←e,hz] at e';cases e'
 have fr3:∀z,z≠x->H3 z=none->H z=none:=fun z e hz=>k13.free e hz
 have nx3:∀z,H3 z=none->z≠x:=fun z hz e=>by rw [e,f3 _ _ hx2] at hz;cases hz
 have gcs:=fr3 cs (nx3 cs fcs) fcs
 have gfl:=fr3 fl (nx3 fl ffl) ffl
 have gkn:=fr3 kn (nx3 kn (f4.free fkn)) (f4.free fkn)
 have gwh:=fr3 wh (nx3 wh (f4.free fwh)) (f4.free fwh)
 have gol:=fr3 ol (nx3 ol (f4.free (f5.free fol))) (f4.free (f5.free fol))
 have cs5:=f5 _ _ oc4
 have fl5:=f5 _ _ of4
 have hst:bf (clZ Z) K H7 rl (ij ds ls slow fast lds N) s ⟨ds1,ol,b,cs,fl,st,y,kn,wh⟩ (iV ds ls lds):=
  ⟨f7 _ _ hob6,f7 _ _ hol6,((hB.same f5).same f6).same f7,(hY.same f6).same f7,
   ⟨ak hol6 frl,ak (f6 _ _ cs5) frl,ak (f6 _ _ fl5) frl,ak (f6 _ _ okn5) frl,ak (f6 _ _ owh5) frl,
   ak cs5 fol,ak fl5 fol,ak okn5 fol,ak owh5 fol,
   (ak fl5 fol).symm,(ak of4 fkn).symm,(ak of4 fwh).symm,
   (ak owh5 fol).symm,ak oc4 fwh,ak of4 fwh,nkw⟩,
   ⟨fun p hp=>by obtain ⟨ys,e⟩:=hN6 p hp;exact ⟨ys,f7 _ _ e⟩,fun p hp=>hNn p hp rl (frx rl frl),fun p hp=>hNn p hp ol gol,fun p hp=>hNn p hp cs gcs,fun p hp=>hNn p hp fl gfl,fun p hp=>hNn p hp kn gkn,fun p hp=>hNn p hp wh gwh⟩⟩
 have hst8:=hst.keepI k8 hx7 hsx hbx hyx
 have nrx:rl≠x:=fun z=>by rw [z] at frl;rw [f26 _ _ hx2] at frl;cases frl
 refine q5 bk rl H8 ((k12.trans (aD.of f27)).trans k8) (frx rl frl) ⟨⟨dx,dl,gl,hx8,k8 _ _ ndx (f27 _ _ hd2),k8 _ _ ngx (f27 _ _ hg2),ak (f26 _ _ hd2) frl,ak (f26 _ _ hg2) frl,fun p hp=>hNn p hp dl hdl,fun p hp=>hNn p hp gl (k1.free ngx hgl)⟩,⟨dbk,s,k8 _ _ hbkx hob7,hst8.at⟩,[],k8 _ _ nrx hrl7,rfl,fun i a r e=>by simp at e⟩
variable (vT:KN P w K mg base (CXf P w) 3 Z.bw (lZ K Z))
def yj (Z:Adr)(K:WA)(H:Hp)(w bk rl:Addr)(g:Cfg)(n0:aS)(rs:List Row)(d:Dd)(Q:VK)(E:XK):Prop:=
 (300<=rs.length->∀H',av H H'->E (.ref Z.cS) none H')/\(rs.length < 300->∀H',aD rl H H'->WAt (clZ Z) K H' w bk rl g n0 (rs++[zm g n0 rs d])->Q (.int (bX rs+ir g (aj n0 rs) d)) H')
inductive jY (K:WA)(Z:Adr)(vs:List V)(H:Hp)(Q:VK)(E:XK):Prop | mk (w bk rl:Addr) (g:Cfg) (n0:aS) (rs:List Row) (dd s:Addr) (tk:Int) (dv:List V) (n:aS):vs=[.ref w,.ref dd,.int tk,.ref s]->WAt (clZ Z) K H w bk rl g n0 rs->SqT K H dd dv->eQ (clZ Z) K H rl g s n->g.ks.length=n.ws.length->((300<=rs.length->∀H',av H H'->E (.ref Z.cS) none H'))->((rs.length < 300->∀H',aD rl H H'->WAt (clZ Z) K H' w bk rl g n0 (rs++[⟨bX rs,bX rs+tk,dv,fu g n,n⟩])->Q (.int (bX rs+tk)) H'))->jY K Z vs H Q E
include T vL eK kF in
theorem AG:FF P w K mg base (CXf P w) 3 "write" "Works.write" lA r6 (jY K Z):=fkF zP fun vs H Q E h=>by
 obtain ⟨w,bk,rl,g,n0,rs,dd,s0,tk,dv,n,rfl,hW,hD,hS,hl,q1,q2⟩:=h
 k_all
 refine @seg _ _ _ 1 _ (@ah _ _ _ (aA (dR (pv' 0) kF hr.dn br))) fun zt1 zh1 ze1=>?_
 refine ⟨_,@ae _ _ _ _ _ (@bb _ _ _ _ (dm' (aw (pv' 0)) vL hr.dn bC (pa4 (pv' 1) (pv' 2) (dm' (pv' 0) eK hr.dn br (pa1 (pv' 3))) (pv' 3))) (by rfl)) zh1,?_⟩
 obtain ⟨⟨dx,dl,gl,hob,hdl,hgl,n1,n2⟩,hB⟩:=id hW
 obtain ⟨⟨db,f0,hbo,hF⟩,as,hrl,hR⟩:=id hB
 k_mem
 refine fgo hob T.aZ T.aX rfl ?_
 k_mem
 refine mgo hbo rfl (mgo hob rfl ⟨_,_,_,_,_,_,_,_,rfl,hW,hS,hl,fun H1 s1=>?_⟩)
 k_mem
 refine ⟨bk,rl,dd,s0,g,n0,n,rs,tk,fu g n,dv,rfl,hB.same s1,s1.tup hD,hS.same s1,fun h=>q1 h H1 s1,fun h H2 k2 hB2=>?_⟩
 k_mem
 have k1:L2.aD rl H H2:=(aD.of s1).trans k2
 have hW2:WAt (clZ Z) K H2 w bk rl g n0 _:=(hW.same s1).keep k2 (s1 _ _ hrl) hB2
 obtain ⟨dx2,_,_,hob2,_⟩:=id hW2.ob
 k_upd
 refine mgo hob2 rfl ⟨_,_,_,_,_,_,rfl,hW2,?_⟩
 rw [mf]
 k_upd
 exact q2 h H2 k1 hW2
variable (bK:KM P w K mg base (CXf P w) 3 Z.bw "write" (jY K Z))
inductive fe (K:WA)(Z:Adr)(vs:List V)(H:Hp)(Q:VK)(E:XK):Prop | mk (w bk rl:Addr) (g:Cfg) (n0:aS) (rs:List Row) (pl:Int):vs=[.ref w,.int pl]->WAt (clZ Z) K H w bk rl g n0 rs->0 < g.ds.length->(∀p,H p=none->Q (.ref p) (upd H p (.tup [.int pl,.int (cw g.ds - pl)])))->fe K Z vs H Q E
include T dX in
theorem qQ:FF P w K mg base CX0 3 "both_places" "Works.both_places" fv iW (fe K Z):=fk0 p9 fun vs H Q E h=>by
 obtain ⟨w,bk,rl,g,n0,rs,pl,rfl,hW,hn,q⟩:=h
 k_all
 refine ⟨_,@ah _ _ _ (aA (aK (pa2 (pv' 1) (dc0 dX hr.dn (pa2 (aw (pv' 0)) (pv' 1)))))),?_⟩
 obtain ⟨⟨dx,dl,gl,hob,hdl,hgl,n1,n2⟩,hB⟩:=id hW
 obtain ⟨⟨db,f0,hbo,hF⟩,as,hrl,hR⟩:=id hB
 k_mem
 refine fgo hob T.aZ T.c7 rfl ?_
 k_mem
 refine ⟨_,_,_,rfl,SqL.of hdl,hn,?_⟩
 k_mem
 exact ⟨by decide,q⟩
variable (eh:KM P w K mg base CX0 3 Z.bw "both_places" (fe K Z))
inductive fT (K:WA)(Z:Adr)(vs:List V)(H:Hp)(Q:VK)(E:XK):Prop | mk (w bk rl ra:Addr) (g:Cfg) (n0:aS) (rs:List Row) (k:Int):vs=[.ref w,.ref ra]->WAt (clZ Z) K H w bk rl g n0 rs->g.goals.length=g.ks.length->g.ks.length<=30->SqL K H ra [.int k]->(¬(0<=k/\k < (g.ks.length:Nat)))->E (.ref Z.aH) none H->fT K Z vs H Q E
include T fi fL in
theorem ug:FF P w K mg base (CXf P w) 3 "check_row" "Works.check_row" gz kA (fT K Z):=fkF jB fun vs H Q E h=>by
 obtain ⟨w,bk,rl,ra,g,n0,rs,k,rfl,hW,hgk,hk30,hS,hu,q⟩:=h
 k_all
 refine ⟨_,@ae _ _ _ _ _ (cH A2 rfl (cJ (pv' 1)) (aE (i:=2) jB.nd rfl orL) (@ah _ _ _ (@bb _ _ _ _ (dc fi hr.dn bC (pa2 (pv' 2) (aF az (by rfl) T.bY bu (pa1 (aw (pv' 0)))))) (by rfl)))) BZ,?_⟩
 obtain ⟨⟨dx,dl,gl,hob,hdl,hgl,n1,n2⟩,hB⟩:=id hW
 k_mem
 refine ⟨⟨_,hS⟩,?_⟩
 k_upd
 refine en [V.int k] (fun i σ H'=>i=0/\H'=H/\σ=[some (.ref w),some (.ref ra),none,none,none]) ⟨rfl,rfl,rfl⟩ (fun i σ H' _ ⟨_,e,_⟩=>by rw [e];exact hS) ?_ (fun σ H' ⟨e,_⟩=>by cases e)
 rintro i x σ H' hx ⟨rfl,rfl,rfl⟩
 cases hx
 k_mem
 refine fgo hob T.aZ T.jF rfl ?_
 k_upd
 refine ⟨_,.inl (SqL.of hgl),_,_,rfl,fun z=>?_,fun _=>q⟩
 rw [WB,hgk] at z
 exact absurd z hu
variable (kH:KM P w K mg base (CXf P w) 3 Z.bw "check_row" (fT K Z))
theorem K5 {x y z i:Int}(h0:0<=i)(h2:i<=2):atI [V.int x,V.int y,V.int z] i=some (.int (if i=0 then x else if i=1 then y else z)):=by
 rcases (by omega:i=0\/i=1\/i=2) with rfl | rfl | rfl<;>rfl
inductive uh (K:WA)(Z:Adr)(vs:List V)(H:Hp)(Q:VK)(E:XK):Prop | mk (a:Addr) (ns:List Int):vs=[.ref a]->SqL K H a (ns.map V.int)->(∀(p dl cl:Addr) (ds:List Int) (as:List Addr) (ls:List Cd) (slow fast:Int) (H':Hp),av H H'->H p=none->H dl=none->H cl=none->dl≠cl->H' p=some (.lst [.ref dl,.ref cl,.int slow,.int fast])->H' dl=some (.lst (ds.map V.int))->cC ds->H' cl=some (.lst (as.map V.ref))->dz cdV K H' as ls->ls.length=ds.length->(∀x∈ls,eX x)->(1<=slow/\slow<=fast/\fast<=500)->Q (.ref p) H')->uh K Z vs H Q E
include T xo cA Az Dc in
theorem IT:FF P w K mg base CX0 3 "_law_shaft" "_law_shaft" mz Cy (uh K Z):=fk0 fQ fun vs H Q E h=>by
 obtain ⟨a,ns,rfl,hS,q⟩:=h
 k_all
 obtain ⟨t1,h1,k1⟩:∃t,PSs (sZ CX0 P w K mg base ["_law_script","_law_depths_here","_law_codes_here","_law_cell","_law_slow","_law_fast"] "_law_shaft" (ai mz) zf zv zA zo zs H E).nox ((bZ mz).drop 4) t/\∀(dl cl:Addr) (ds:List Int) (as:List Addr) (ls:List Cd) (c slow:Int) (H1:Hp),av H H1->H dl=none->H cl=none->dl≠cl->H1 dl=some (.lst (ds.map V.int))->cC ds->H1 cl=some (.lst (as.map V.ref))->dz cdV K H1 as ls->ls.length=ds.length->(∀x∈ls,eX x)->1<=slow->slow<=500->t ({nx:=fun _ H2=>Q .non H2,rt:=Q}:j1) [some (.ref a),some (.ref dl),some (.ref cl),some (.int c),some (.int slow),none] H1:=by
  refine ⟨_,@ae _ _ _ _ _ (aQ (bV (dc0 cA hr.dn (pa3 (pv' 3) af af)) af) (@ah _ _ _ (@aG _ _ 4 _ _ _ _ fQ.nd rfl orL af (by rfl) hfA)) (aC)) (@ae _ _ _ _ _ (@aG _ _ 5 _ _ _ _ fQ.nd rfl orL (ao ax (bh (pa3 (pv' 4) af (aT bx (pv' 4) (dc0 cA hr.dn (pa3 (pv' 3) af (aT dh af (pv' 4))))))) (aF (nu rfl) (by rfl) T.JI Dq (pa2 af (dc0 cA hr.dn (pa3 (pv' 3) af af))))) (by rfl) hfA) (@ah _ _ _ (aA (bh (pa4 (pv' 1) (pv' 2) (pv' 4) (pv' 5)))))),?_⟩
  intro dl cl ds as ls c slow H1 s1 fd fc ndc hdl hsh hcl hT hlen hg h1 h5
  k_mem
  refine ⟨c,4,16,rfl,by omega,by omega,by omega,fun r4 h40 h41=>?_⟩
  k_mem
  split
  all_goals
   refine ⟨c,2,_,rfl,by omega,by omega,by omega,fun r2 h20 h21=>⟨by decide,fun p1 hp1=>⟨c,3,8,rfl,by omega,by omega,by omega,fun r3 h30 h31=>?_⟩⟩⟩
   k_mem
   refine ⟨_,SqL.of ag,_,K5 (by split<;>omega) (by split<;>omega),by decide,fun p2 hp2=>?_⟩
   refine q p2 dl cl ds as ls _ _ _ (s1.trans (((av.refl H1).lay hp1).lay hp2)) (s1.free (upn hp2)) fd fc ndc ag (upo (upo hdl hp1) hp2) hsh (upo (upo hcl hp1) hp2) (hT.same (((av.refl H1).lay hp1).lay hp2)) hlen hg ⟨by omega,?_,?_⟩
   ·(repeat' split)<;>omega
   ·(repeat' split)<;>omega
 refine ⟨_,@ae _ _ _ _ _ (@aG _ _ 1 _ _ _ _ fQ.nd rfl orL (dc0 Az hr.dn (pa1 (dc0 xo hr.dn (pa2 (pv' 0) af)))) (by rfl) hfA) (@ae _ _ _ _ _ (@aG _ _ 2 _ _ _ _ fQ.nd rfl orL (dc0 Dc hr.dn (pa2 (dc0 xo hr.dn (pa2 (pv' 0) af)) (aF az (by rfl) T.bY bu (pa1 (pv' 1))))) (by rfl) hfA) (@ae _ _ _ _ _ (@aG _ _ 3 _ _ _ _ fQ.nd rfl orL (dc0 xo hr.dn (pa2 (pv' 0) af)) (by rfl) hfA) (@ae _ _ _ _ _ (@aG _ _ 4 _ _ _ _ fQ.nd rfl orL (aT bx af (dc0 cA hr.dn (pa3 (pv' 3) af (ao ax (bh (pa2 af af)) (dc0 cA hr.dn (pa3 (pv' 3) af af)))))) (by rfl) hfA) h1))),?_⟩
 k_mem
 refine ⟨a,ns,1,rfl,hS,by omega,?_⟩
 k_mem
 refine ⟨_,rfl,fun dl ds H1 hdn s1 hdl hsh=>?_⟩
 have l2:=hsh.l2
 have l6:=hsh.l6
 k_mem
 refine ⟨a,ns,2,rfl,s1.seq hS,by omega,?_⟩
 k_mem
 refine ⟨_,.inl (SqL.of hdl),?_⟩
 rw [WB]
 refine ⟨_,_,rfl,by omega,by omega,fun cl as ls H2 hcn s2 hcl hT hlen hg=>?_⟩
 have ndc:dl≠cl:=ak hdl hcn
 k_mem
 refine ⟨a,ns,3,rfl,(s1.trans s2).seq hS,by omega,?_⟩
 k_mem
 refine ⟨by decide,fun p hp=>⟨_,0,2,rfl,by omega,by omega,by omega,fun r0 h00 h01=>?_⟩⟩
 have e0:∃m:Int,(m=30\/m=500)/\atI [V.int 30,V.int 500] r0=some (.int m):=NP (x:=30) (y:=500) (by omega)
 obtain ⟨m,hm,em⟩:=e0
 k_mem
 refine ⟨_,SqL.of ag,_,em,_,1,m,rfl,by omega,by omega,by omega,fun r1 h10 h11=>?_⟩
 k_mem
 have sx:=(av.refl H2).lay (o:=HO.lst [V.int 30,V.int 500]) hp
 exact k1 dl cl ds as ls _ _ _ ((s1.trans s2).trans sx) hdn (s1.free hcn) ndc (sx _ _ (s2 _ _ hdl)) hsh (sx _ _ hcl) (hT.same sx) (by omega) hg (by omega) (by omega)
variable (Df:KD P w K mg base CX0 3 "_law_shaft" (uh K Z))
inductive jZ (K:WA)(Z:Adr)(vs:List V)(H:Hp)(Q:VK)(E:XK):Prop | mk (p dl cl ll sl:Addr) (g:Cfg) (lds:List Ld) (n0:aS) (rs:List Row) (c:Int):vs=[.ref p,.ref sl,.int c]->eI K H p dl cl ll g lds->eA g->cQ g (aj n0 rs)->((∃as:List Addr,H sl=some (.lst (as.map V.ref))/\dP (iu K H) as (oF n0 rs)))->((∀dd d H',av H H'->SqT K H' dd (ddV d)->A4 d->eU g (aj n0 rs) d=none->Q (.ref dd) H'))->((rs≠[]->∀dd H',av H H'->SqT K H' dd [.str "take back"]->Q (.ref dd) H'))->jZ K Z vs H Q E
include T mQ mR in
theorem AH:FF P w K mg base CX0 3 "_law_good_deed" "_law_good_deed" cy se (jZ K Z):=fk0 gA fun vs H Q E h=>by
 obtain ⟨p,dl,cl,ll,sl,g,lds,n0,rs,c,rfl,hP,hg,hn,⟨as,hsl,hA⟩,q,qb⟩:=h
 k_all
 obtain ⟨t4,h4,k4⟩:∃t,PSs (sZ CX0 P w K mg base ["_law_setup_here","_law_states","_law_cell","_law_state","_law_rest","_law_level"] "_law_good_deed" (ai cy) zf zv zA zo zs H E).nox ((bZ cy).drop 8) t/\∀(a:Addr) (lv:Int),iu K H a (aj n0 rs,bX rs)->0<=lv->lv < g.ds.length->t ({nx:=fun _ H2=>Q .non H2,rt:=Q}:j1) [some (.ref p),some (.ref sl),some (.int c),some (.ref a),some (.int (c / 12)),some (.int lv)] H:=by
  refine ⟨_,@ah _ _ _ (aA (ao ax (bh (pa2 (aK (pa2 aB (pv' 5))) (aK (pa2 aB (pv' 5))))) (bg dS (by rfl) T.oO iq (pa1 (ao aq (ao aq (pv' 3) af) (pv' 5)))))),?_⟩
  intro a lv hSt v0 v1
  obtain ⟨gt,lt,ht,dt,h1,h2,h3,h4,h5⟩:=hSt.un
  have gl:=hn.gl
  k_mem
  refine ⟨by decide,fun p2 hp2=>⟨by decide,fun p3 hp3=>⟨by decide,fun p4 hp4=>?_⟩⟩⟩
  have f4:=(((av.refl H).lay (o:=HO.tup [V.str (Str.ofString "open"),V.int lv]) hp2).lay (o:=HO.tup [V.str (Str.ofString "shut"),V.int lv]) hp3).lay (o:=HO.lst [V.ref p2,V.ref p3]) hp4
  have e2:upd (upd (upd H p2 (HO.tup [V.str (Str.ofString "open"),V.int lv])) p3 (HO.tup [V.str (Str.ofString "shut"),V.int lv])) p4 (HO.lst [V.ref p2,V.ref p3]) p2=some (HO.tup [V.str (Str.ofString "open"),V.int lv]):=upo (upo ag hp3) hp4
  have e3:upd (upd (upd H p2 (HO.tup [V.str (Str.ofString "open"),V.int lv])) p3 (HO.tup [V.str (Str.ofString "shut"),V.int lv])) p4 (HO.lst [V.ref p2,V.ref p3]) p3=some (HO.tup [V.str (Str.ofString "shut"),V.int lv]):=upo ag hp4
  have e4:upd (upd (upd H p2 (HO.tup [V.str (Str.ofString "open"),V.int lv])) p3 (HO.tup [V.str (Str.ofString "shut"),V.int lv])) p4 (HO.lst [V.ref p2,V.ref p3]) p4=some (HO.lst [V.ref p2,V.ref p3]):=ag
  generalize upd (upd (upd H p2 (HO.tup [V.str (Str.ofString "open"),V.int lv])) p3 (HO.tup [V.str (Str.ofString "shut"),V.int lv])) p4 (HO.lst [V.ref p2,V.ref p3])=H3 at *
  k_upd
  refine ⟨_,f4.tup h1,_,rfl,?_⟩
  k_mem
  refine ⟨_,f4.tup h2,_,jf v0 (by omega),?_⟩
  k_mem
  refine ⟨_,SqL.of e4,_,JB,?_⟩
  by_cases hb:(aj n0 rs).gates.getD lv.toNat false=true
  ·rw [if_pos hb]
   k_upd
   exact q p3 (.sht lv) _ f4 (SqT.of e3) trivial (ni v0 v1 hb)
  ·rw [if_neg hb]
   k_upd
   exact q p2 (.opn lv) _ f4 (SqT.of e2) trivial (tf v0 v1 (by simpa using hb))
 obtain ⟨t3,h3,k3⟩:∃t,PSs (sZ CX0 P w K mg base ["_law_setup_here","_law_states","_law_cell","_law_state","_law_rest","_law_level"] "_law_good_deed" (ai cy) zf zv zA zo zs H E).nox ((bZ cy).drop 7) t/\∀(a:Addr) (lv:Int),iu K H a (aj n0 rs,bX rs)->0<=lv->lv < g.ds.length->t ({nx:=fun _ H2=>Q .non H2,rt:=Q}:j1) [some (.ref p),some (.ref sl),some (.int c),some (.ref a),some (.int (c / 12)),some (.int lv)] H:=by
  refine ⟨_,@ae _ _ _ _ _ (aQ (mV (bV (cO (pv' 2) af) af) (mV (bV (cO (pv' 4) af) af) (kb (Ct (aF az (by rfl) T.bY bu (pa1 (pv' 1))) af)))).pt (@ah _ _ _ (aA (aK (pa1 aB)))) (aC)) h4,?_⟩
  intro a lv hSt v0 v1
  obtain ⟨gt,lt,ht,dt,h1,h2,h3,h4,h5⟩:=hSt.un
  have hlen:=hA.1
  rw [Co] at hlen
  k_mem
  split
  ·split
   ·k_upd
    refine ⟨_,.inl (SqL.of hsl),?_⟩
    rw [WB]
    k_mem
    split
    ·rename_i hgt
     k_upd
     refine ⟨by decide,fun dd hdd=>?_⟩
     k_upd
     exact qb (fun z=>by rw [z] at hlen;simp only [List.length_nil] at hlen;omega) dd _ ((av.refl H).lay hdd) (SqT.of ag)
    ·exact k4 a lv hSt v0 v1
   ·exact k4 a lv hSt v0 v1
  ·exact k4 a lv hSt v0 v1
 obtain ⟨t2,h2,k2⟩:∃t,PSs (sZ CX0 P w K mg base ["_law_setup_here","_law_states","_law_cell","_law_state","_law_rest","_law_level"] "_law_good_deed" (ai cy) zf zv zA zo zs H E).nox ((bZ cy).drop 6) t/\∀(a:Addr) (lv:Int),iu K H a (aj n0 rs,bX rs)->0<=lv->lv < g.ds.length->t ({nx:=fun _ H2=>Q .non H2,rt:=Q}:j1) [some (.ref p),some (.ref sl),some (.int c),some (.ref a),some (.int (c / 12)),some (.int lv)] H:=by
  refine ⟨_,@ae _ _ _ _ _ (aQ (mV (bV (cO (pv' 2) af) af) (kb (bV (ao aq (ao aq (pv' 3) af) af) aB))).pt (@ah _ _ _ (aA (aK (pa2 aB (aT bx af (cO (pv' 4) af)))))) (aC)) h3,?_⟩
  intro a lv hSt v0 v1
  obtain ⟨gt,lt,ht,dt,h1,h2,h3,h4,h5⟩:=hSt.un
  k_mem
  split
  ·k_upd
   refine ⟨_,h1,_,rfl,?_⟩
   k_mem
   rcases Sd (aj n0 rs).e with ⟨l,rr,he⟩ | ⟨l,rr,he⟩ | ⟨w1,w2,w3,w4,he,na,nb⟩
   ·rw [he] at h4
    k_upd
    refine ⟨_,h4,_,rfl,?_⟩
    k_mem
    rw [if_pos rfl]
    k_upd
    refine ⟨by decide,fun dd hdd=>?_⟩
    k_upd
    exact q dd (.rept _) _ ((av.refl H).lay hdd) (SqT.of ag) trivial (xJ he (by omega) (by omega))
   ·rw [he] at h4
    k_upd
    refine ⟨_,h4,_,rfl,?_⟩
    k_mem
    rw [if_neg (by decide)]
    exact k3 a lv hSt v0 v1
   ·rw [he] at h4
    k_upd
    refine ⟨_,h4,_,rfl,?_⟩
    k_mem
    rw [if_neg na]
    exact k3 a lv hSt v0 v1
  ·exact k3 a lv hSt v0 v1
 obtain ⟨t1,h1,k1⟩:∃t,PSs (sZ CX0 P w K mg base ["_law_setup_here","_law_states","_law_cell","_law_state","_law_rest","_law_level"] "_law_good_deed" (ai cy) zf zv zA zo zs H E).nox ((bZ cy).drop 5) t/\∀(a:Addr) (lv:Int),iu K H a (aj n0 rs,bX rs)->0<=lv->lv < g.ds.length->t ({nx:=fun _ H2=>Q .non H2,rt:=Q}:j1) [some (.ref p),some (.ref sl),some (.int c),some (.ref a),some (.int (c / 12)),some (.int lv)] H:=by
  refine ⟨_,@ae _ _ _ _ _ (aQ (mV (bV (cO (pv' 2) af) af) (kb (dQ fC (pv' 5) (ao aq (pv' 3) af) (by rfl)))).pt (@ah _ _ _ (aA (ao ax (bh (pa2 (aK (pa3 aB (pv' 5) (ao aq (ao ax (ao ax (pv' 0) af) (pv' 5)) (cO (nq (pv' 4) af) af)))) (aK (pa2 aB (pv' 5))))) (bg dS (by rfl) T.oO iq (pa1 (dF jj (cO (pv' 4) af) af (cE _))))))) (aC)) h2,?_⟩
  intro a lv hSt v0 v1
  obtain ⟨gt,lt,ht,dt,h1,h2,h3,h4,h5⟩:=hSt.un
  obtain ⟨hp,hdl,⟨bs,hcl,hT⟩,_,_⟩:=id hP
  have gl:=hn.gl
  have fl:=hn.fl
  have ed:inV (V.int lv) ((c9 (aj n0 rs).fs).map V.int)=(aj n0 rs).fs.getD lv.toNat false:=by
   rw [ki,Bool.eq_iff_iff,decide_eq_true_eq,i9]
   k_upd
   exact ⟨fun z=>z.2.2,fun z=>⟨v0,by omega,z⟩⟩
  k_mem
  split
  ·k_upd
   refine ⟨_,h1,_,rfl,?_⟩
   k_mem
   refine ⟨_,.inr h5,rfl,by simp [bU],?_⟩
   rw [ed]
   k_mem
   split
   ·rename_i hf
    obtain ⟨ra,era,hra⟩:=uA hT v0 (by rw [hg.lc];exact v1)
    k_upd
    refine ⟨_,SqL.of hp,_,rfl,?_⟩
    k_mem
    refine ⟨_,SqL.of hcl,_,era,?_⟩
    k_mem
    refine ⟨_,hra,_,two_deep (by omega) (by omega),?_⟩
    generalize hcd:(if c / 12 / 6 % 2=0 then (dI g.ls lv).fst else (dI g.ls lv).snd)=cd
    have hcd':cd=(dI g.ls lv).1\/cd=(dI g.ls lv).2:=by
     rw [←hcd]
     k_upd
     split
     ·exact .inl rfl
     ·exact .inr rfl
    k_upd
    refine ⟨by decide,fun p2 hp2=>⟨by decide,fun p3 hp3=>⟨by decide,fun p4 hp4=>?_⟩⟩⟩
    have f4:=(((av.refl H).lay (o:=HO.tup [V.str (Str.ofString "ring"),V.int lv,V.int cd]) hp2).lay (o:=HO.tup [V.str (Str.ofString "fail"),V.int lv]) hp3).lay (o:=HO.lst [V.ref p2,V.ref p3]) hp4
    k_upd
    refine ⟨_,SqL.of ag,_,JB,?_⟩
    by_cases hb:c / 12 % 5=4
    ·rw [if_pos (decide_eq_true hb)]
     k_upd
     exact q p3 (.fail lv) _ f4 (SqT.of (upo ag hp4)) trivial (Fn v0 v1 hf)
    ·rw [if_neg (by simpa using hb)]
     k_upd
     exact q p2 (.ring lv cd) _ f4 (SqT.of (upo (upo ag hp3) hp4)) trivial (xI v0 v1 hf hcd')
   ·exact k2 a lv hSt v0 v1
  ·exact k2 a lv hSt v0 v1
 refine @seg _ _ _ 4 _ (@ae _ _ _ _ _ (aQ (oG (cO (pv' 2) af) af) (@ah _ _ _ (aA (dc0 mR hr.dn (pa3 (pv' 0) (pv' 3) (pv' 4))))) (aC)) h1) fun zt4 zh4 ze4=>?_
 refine @seg _ _ _ 3 _ (@ae _ _ _ _ _ (aQ (oG (cO (pv' 2) af) af) (@ah _ _ _ (aA (dc0 mQ hr.dn (pa3 (pv' 0) (pv' 3) (pv' 4))))) (aC)) zh4) fun zt3 zh3 ze3=>?_
 refine @seg _ _ _ 2 _ (@ae _ _ _ _ _ (@aG _ _ 5 _ _ _ _ gA.nd rfl orL (aT uI (pv' 4) (aF az (by rfl) T.bY bu (pa1 (ao ax (pv' 0) af)))) (by rfl) hfA) zh3) fun zt2 zh2 ze2=>?_
 refine @seg _ _ _ 1 _ (@ae _ _ _ _ _ (@aG _ _ 4 _ _ _ _ gA.nd rfl orL (nq (pv' 2) af) (by rfl) hfA) zh2) fun zt1 zh1 ze1=>?_
 refine ⟨_,@ae _ _ _ _ _ (@aG _ _ 3 _ _ _ _ gA.nd rfl orL (ao ax (pv' 1) (fB cN af)) (by rfl) hfA) zh1,?_⟩
 obtain ⟨as1,a,rfl,hSt⟩:=Dy hA
 obtain ⟨hp,hdl,_,_,_⟩:=id hP
 have l2:=hg.sh.l2
 k_mem
 refine ⟨_,SqL.of hsl,_,ko,?_⟩
 k_mem
 refine ⟨_,SqL.of hp,_,rfl,?_⟩
 k_mem
 refine ⟨_,.inl (SqL.of hdl),by rw [WB];omega,?_⟩
 rw [WB]
 have v0:0<=c / 12 % (g.ds.length:Int):=Int.emod_nonneg _ (by omega)
 have v1:c / 12 % (g.ds.length:Int) < (g.ds.length:Int):=Int.emod_lt_of_pos _ (by omega)
 generalize c / 12 % (g.ds.length:Int)=lv at *
 k_mem
 split
 ·k_upd
  refine ⟨p,dl,cl,ll,a,g,lds,_,_,_,rfl,hP,hg,hn,hSt,fun dd d H1 s1 hd ok hr=>?_⟩
  k_upd
  exact q dd d H1 s1 hd ok hr
 k_upd
 split
 ·k_upd
  refine ⟨p,dl,cl,ll,a,g,lds,_,_,_,rfl,hP,hg,hn,hSt,fun dd d H1 s1 hd ok hr=>?_⟩
  k_upd
  exact q dd d H1 s1 hd ok hr
 exact k1 a lv hSt v0 v1
variable (hV:KD P w K mg base CX0 3 "_law_good_deed" (jZ K Z))
noncomputable def vU (K:WA)(Z:Adr):Sp:=fun vs H Q E=>False
include T fG in
theorem EB:FF P w K mg base CX0 4 "all_stops" "all_stops" pW xQ (vU K Z):=fk0 DM fun vs H Q E h=>False.elim h
variable (yk:KD P w K mg base CX0 4 "all_stops" (vU K Z))
inductive gY (K:WA)(Z:Adr)(vs:List V)(H:Hp)(Q:VK)(E:XK):Prop | mk (s rl:Addr) (g:Cfg) (n:aS) (ys:List V):vs=[.ref s]->eQ (clZ Z) K H rl g s n->H rl=some (.lst ys)->g.ls.length<=1000->(∀(s':Addr) (A:SA) (H':Hp),av H H'->H s'=none->H A.ol=none->H A.b=none->H A.fl=none->H A.y=none->H A.wh=none->bf (clZ Z) K H' rl g s' A n->Q (.ref s') H')->gY K Z vs H Q E
include T fK yh vR in
theorem xx:FF P w K mg base CX0 4 "twin" "Standing.twin" iC oJ (gY K Z):=fk0 wX fun vs H Q E h=>by
 obtain ⟨s0,rl,g,n,ys,rfl,⟨A0,hA⟩,hrl,hls,q⟩:=h
 k_all
 refine ⟨_,@ah _ _ _ (aA (dn fK hr.dn T.Ag br (pa4 (aw (pv' 0)) (aw (pv' 0)) (dR (aw (pv' 0)) vR hr.dn br) (dR (aw (pv' 0)) yh hr.dn br)))),?_⟩
 k_mem
 refine fgo hA.ob T.aO T.bI rfl (fgo hA.ob T.aO T.cD rfl (fgo hA.ob T.aO T.cq rfl ?_))
 k_mem
 obtain ⟨db,hbb⟩:=hA.be.ob
 obtain ⟨dy,hyb⟩:=hA.ya.ob
 k_upd
 refine mgo hbb rfl ⟨_,_,_,_,_,_,_,rfl,hA.be,hls,fun b1 cs1 fl1 H1 hb1 hc1 hf1 s1 hB1=>?_⟩
 k_upd
 refine fgo (s1 _ _ hA.ob) T.aO T.bQ rfl ?_
 k_mem
 refine mgo (s1 _ _ hyb) rfl ⟨_,_,_,_,_,_,rfl,hA.ya.same s1,fun y2 kn2 wh2 H2 hy2 hk2 hw2 nkw s2 hY2=>?_⟩
 refine fun x dx hx hdx nxd=>?_
 have s12:=s1.trans s2
 have hx':upd H2 dx (.own x) x=none:=by rw [aN (Ne.symm nxd)];exact hx
 k_upd
 refine ⟨x,dx,A0.ol,b1,y2,n.place,n.gates,rfl,ag,(((av.refl H2).lay hdx).lay hx').seq (SqL.of (s12 _ _ hA.go)),fun ol H3 hol kp hob3 hol3=>⟨rfl,?_⟩⟩
 have s3:=ig hx hdx kp
 have holn:=gm hol
 obtain ⟨_,⟨as1,oc1,_⟩,of1,_⟩:=id hB1
 obtain ⟨_,okn2,owh2⟩:=id hY2
 have cs2:=s2 _ _ oc1
 have fl2:=s2 _ _ of1
 refine q x ⟨dx,ol,b1,cs1,fl1,A0.st,y2,kn2,wh2⟩ H3 (s12.trans s3) (s12.free hx) (s12.free holn) hb1 hf1 (s1.free hy2) (s1.free hw2) ⟨hob3,hol3,(hB1.same s2).same s3,hY2.same s3,⟨?_,?_,?_,?_,?_,?_,?_,?_,?_,?_,?_,?_,?_,?_,?_,?_⟩,⟨(hA.nn.same (s12.trans s3)).al,hA.nn.nr,?_,?_,?_,?_,?_⟩⟩
 ·exact (ak hrl (s12.free holn)).symm
 ·exact (ak hrl hc1).symm
 ·exact (ak hrl hf1).symm
 ·exact (ak hrl (s1.free hk2)).symm
 ·exact (ak hrl (s1.free hw2)).symm
 ·exact ak cs2 holn
 ·exact ak fl2 holn
 ·exact ak okn2 holn
 ·exact ak owh2 holn
 ·exact (ak fl2 holn).symm
 ·exact (ak of1 hk2).symm
 ·exact (ak of1 hw2).symm
 ·exact (ak owh2 holn).symm
 ·exact ak oc1 hw2
 ·exact ak of1 hw2
 ·exact nkw
 all_goals
  intro q hq
  obtain ⟨us,hu⟩:=hA.nn.al q hq
 ·exact (ak hu (s12.free holn)).symm
 ·exact (ak hu hc1).symm
 ·exact (ak hu hf1).symm
 ·exact (ak hu (s1.free hk2)).symm
 ·exact (ak hu (s1.free hw2)).symm
variable (bj:KM P w K mg base CX0 4 Z.eM "twin" (gY K Z))
noncomputable def qR (K:WA)(Z:Adr):Sp:=fun vs H Q E=>False
include T eJ fG in
theorem AI:FF P w K mg base CX0 4 "stand_wound" "stand_wound" lq rX (qR K Z):=fk0 zM fun vs H Q E h=>False.elim h
variable (BN:KD P w K mg base CX0 4 "stand_wound" (qR K Z))
noncomputable def sT (K:WA)(Z:Adr):Sp:=fun vs H Q E=>False
include T fG in
theorem BO:FF P w K mg base CX0 4 "live_stops" "live_stops" nJ uW (sT K Z):=fk0 Bk fun vs H Q E h=>False.elim h
variable (EC:KD P w K mg base CX0 4 "live_stops" (sT K Z))
noncomputable def qS (K:WA)(Z:Adr):Sp:=fun vs H Q E=>False
include T mS in
theorem AJ:FF P w K mg base CX0 4 "mark_stands" "mark_stands" lu rZ (qS K Z):=fk0 zO fun vs H Q E h=>False.elim h
variable (BP:KD P w K mg base CX0 4 "mark_stands" (qS K Z))
noncomputable def sU (K:WA)(Z:Adr):Sp:=fun vs H Q E=>False
include T mS in
theorem BQ:FF P w K mg base CX0 4 "spread_out" "spread_out" nM uY (sU K Z):=fk0 Bm fun vs H Q E h=>False.elim h
variable (ED:KD P w K mg base CX0 4 "spread_out" (sU K Z))
inductive j0 (K:WA)(Z:Adr)(vs:List V)(H:Hp)(Q:VK)(E:XK):Prop | mk (w bk rl:Addr) (g:Cfg) (n0:aS) (rs:List Row):vs=[.ref w]->WAt (clZ Z) K H w bk rl g n0 rs->0 < g.ds.length->(∀p,H p=none->Q (.ref p) (upd H p (.tup [.int (aj n0 rs).place,.int (cw g.ds - (aj n0 rs).place)])))->j0 K Z vs H Q E
include T aM eh in
theorem AK:FF P w K mg base CX0 4 "cages" "Works.cages" lD r9 (j0 K Z):=fk0 zR fun vs H Q E h=>by
 obtain ⟨w,bk,rl,g,n0,rs,rfl,hW,hn,q⟩:=h
 k_all
 refine ⟨_,@ah _ _ _ (aA (dm' (pv' 0) eh hr.dn br (pa1 (aw (dR (aw (pv' 0)) aM hr.dn br))))),?_⟩
 obtain ⟨⟨dx,dl,gl,hob,hdl,hgl,n1,n2⟩,hB⟩:=id hW
 obtain ⟨⟨db,f0,hbo,hF⟩,as,hrl,hR⟩:=id hB
 k_mem
 refine mgo hob rfl (fgo hob T.aZ T.aX rfl ?_)
 k_mem
 refine mgo hbo rfl ⟨_,_,_,_,_,rfl,hB,fun s0 ⟨A,hA⟩=>?_⟩
 k_mem
 refine fgo hA.ob T.aO T.bI rfl ?_
 k_upd
 exact ⟨_,_,_,_,_,_,_,rfl,hW,hn,q⟩
variable (hZ:KM P w K mg base CX0 4 Z.bw "cages" (j0 K Z))
inductive gE (K:WA)(Z:Adr)(vs:List V)(H:Hp)(Q:VK)(E:XK):Prop | mk (w bk rl:Addr) (g:Cfg) (n0:aS) (rs:List Row) (t:Int):vs=[.ref w,.int t]->WAt (clZ Z) K H w bk rl g n0 rs->0 < g.ds.length->Ni rs->bX rs<=1000000->((0<=t/\t<=bX rs->∀p,H p=none->Q (.ref p) (upd H p (.tup [.int (yX n0 rs t),.int (cw g.ds - yX n0 rs t)]))))->((¬(0<=t/\t<=bX rs)->E (.ref Z.bD) none H))->gE K Z vs H Q E
include T oS eh in
theorem vV:FF P w K mg base (CXf P w) 4 "cages_at" "Works.cages_at" gO mm (gE K Z):=fkF vi fun vs H Q E h=>by
 obtain ⟨w,bk,rl,g,n0,rs,t,rfl,hW,hn,hrs,hnow,q1,q2⟩:=h
 k_all
 refine ⟨_,@ah _ _ _ (aA (dm' (pv' 0) eh hr.dn br (pa1 (dm' (aw (pv' 0)) oS hr.dn bC (pa1 (pv' 1)))))),?_⟩
 obtain ⟨⟨dx,dl,gl,hob,hdl,hgl,n1,n2⟩,hB⟩:=id hW
 obtain ⟨⟨db,f0,hbo,hF⟩,as,hrl,hR⟩:=id hB
 k_mem
 refine ⟨_,_,hob,rfl,?_⟩
 k_mem
 refine fgo hob T.aZ T.aX rfl ?_
 k_mem
 refine mgo hbo rfl ⟨_,_,_,_,_,_,rfl,hB,hrs,hnow,fun ht=>?_,q2⟩
 k_mem
 exact ⟨_,_,_,_,_,_,_,rfl,hW,hn,q1 ht⟩
variable (mT:KM P w K mg base (CXf P w) 4 Z.bw "cages_at" (gE K Z))
inductive gF (K:WA)(Z:Adr)(vs:List V)(H:Hp)(Q:VK)(E:XK):Prop | mk (w bk rl:Addr) (g:Cfg) (n0:aS) (rs:List Row) (lv:Int):vs=[.ref w,.int lv]->WAt (clZ Z) K H w bk rl g n0 rs->(aj n0 rs).ws.length<=1000->((0<=lv/\lv < g.ds.length->∀p H',H p=none->av H H'->H' p=some (.lst ((jh (aj n0 rs).ws lv).map V.int))->Q (.ref p) H'))->((¬(0<=lv/\lv < g.ds.length)->E (.ref Z.ay) none H))->gF K Z vs H Q E
include T aM oR in
theorem vW:FF P w K mg base (CXf P w) 4 "at_level" "Works.at_level" gP mn (gF K Z):=fkF vj fun vs H Q E h=>by
 obtain ⟨w,bk,rl,g,n0,rs,lv,rfl,hW,hn,q1,q2⟩:=h
 k_all
 refine ⟨_,@ah _ _ _ (aA (dm' (aw (dR (aw (pv' 0)) aM hr.dn br)) oR hr.dn bC (pa1 (pv' 1)))),?_⟩
 obtain ⟨⟨dx,dl,gl,hob,hdl,hgl,n1,n2⟩,hB⟩:=id hW
 obtain ⟨⟨db,f0,hbo,hF⟩,as,hrl,hR⟩:=id hB
 k_mem
 refine fgo hob T.aZ T.aX rfl ?_
 k_mem
 refine mgo hbo rfl ⟨_,_,_,_,_,rfl,hB,fun s0 ⟨A,hA⟩=>?_⟩
 k_mem
 refine fgo hA.ob T.aO T.bQ rfl ?_
 k_mem
 obtain ⟨dy,hyb⟩:=hA.ya.ob
 k_upd
 exact ⟨_,_,hyb,rfl,_,_,_,_,_,_,_,rfl,hA.ya,hn,q1,q2⟩
variable (fj:KM P w K mg base (CXf P w) 4 Z.bw "at_level" (gF K Z))
inductive ui (K:WA)(Z:Adr)(vs:List V)(H:Hp)(Q:VK)(E:XK):Prop | mk (a:Addr) (ns:List Int) (mo:Int):vs=[.ref a,.int mo]->SqL K H a (ns.map V.int)->0<=mo->mo<=30->(∀(p dl cl ll:Addr) (ds:List Int) (ls:List Cd) (slow fast:Int) (lds:List Ld) (H':Hp),av H H'->H p=none->H dl=none->H cl=none->H ll=none->eI K H' p dl cl ll (ij ds ls slow fast lds fun _=>False) lds->cC ds->ls.length=ds.length->(∀x∈ls,eX x)->(1<=slow/\slow<=fast/\fast<=500)->(lds.length:Int)<=mo->(∀x∈lds,je (ds.length:Nat) x/\Ht x)->Q (.ref p) H')->ui K Z vs H Q E
include T xo De Df in
theorem IU:FF P w K mg base CX0 4 "_law_setup" "_law_setup" xb Cz (ui K Z):=fk0 jD fun vs H Q E h=>by
 obtain ⟨a,ns,mo,rfl,hS,h0,h1,q⟩:=h
 k_all
 refine @seg _ _ _ 1 _ (@ah _ _ _ (aA (bh (dY (pv' 2) (pa4 (pv' 3) (pv' 4) (pv' 5) (dc0 De hr.dn (pa3 (dc0 xo hr.dn (pa2 (pv' 0) af)) (aF az (by rfl) T.bY bu (pa1 (pv' 2))) (pv' 1)))))))) fun zt1 zh1 ze1=>?_
 refine ⟨_,@ae _ _ _ _ _ (kO (dc0 Df hr.dn (pa1 (pv' 0))) (JF rfl (aI (aE (i:=2) jD.nd rfl orL) (aI (aE (i:=3) jD.nd rfl orL) (aI (aE (i:=4) jD.nd rfl orL) (aI (aE (i:=5) jD.nd rfl orL) de)))))) zh1,?_⟩
 k_mem
 refine ⟨a,ns,rfl,hS,fun p dl cl ds as ls slow fast H1 s1 hpn hdn hcn ndc hp hdl hsh hcl hT hlen hg hsp=>?_⟩
 have l2:=hsh.l2
 have l6:=hsh.l6
 k_mem
 refine ⟨_,SqL.of hp,rfl,?_⟩
 k_mem
 refine ⟨a,ns,4,rfl,s1.seq hS,by omega,?_⟩
 k_mem
 refine ⟨_,.inl (SqL.of hdl),?_⟩
 rw [WB]
 k_upd
 refine ⟨_,_,_,rfl,by omega,h0,by omega,fun ll bs lds H2 hln s2 hll hT2 hlen2 hk=>?_⟩
 k_mem
 refine ⟨by decide,fun p5 hp5=>?_⟩
 have s3:=s2.lay (o:=HO.lst [V.ref dl,V.ref cl,V.int slow,V.int fast,V.ref ll]) hp5
 have s23:=(av.refl H2).lay (o:=HO.lst [V.ref dl,V.ref cl,V.int slow,V.int fast,V.ref ll]) hp5
 k_upd
 exact q p5 dl cl ll ds ls slow fast lds _ (s1.trans s3) (s1.free (s2.free hp5)) hdn hcn (s1.free hln) ⟨ag,s3 _ _ hdl,⟨as,s3 _ _ hcl,hT.same s3⟩,⟨bs,s23 _ _ hll,hT2.same s23⟩,rfl⟩ hsh hlen hg hsp hlen2 hk
variable (rk:KD P w K mg base CX0 4 "_law_setup" (ui K Z))
noncomputable def sV (K:WA)(Z:Adr):Sp:=fun vs H Q E=>False
include T Gx yk in
theorem BR:FF P w K mg base CX0 5 "all_stands" "all_stands" nI uV (sV K Z):=fk0 Bj fun vs H Q E h=>False.elim h
variable (EE:KD P w K mg base CX0 5 "all_stands" (sV K Z))
noncomputable def qT (K:WA)(Z:Adr):Sp:=fun vs H Q E=>False
include T eJ oQ sS BN in
theorem AL:FF P w K mg base CX0 5 "stand_after" "stand_after" lp rW (qT K Z):=fk0 zL fun vs H Q E h=>False.elim h
variable (BS:KD P w K mg base CX0 5 "stand_after" (qT K Z))
noncomputable def kI (K:WA)(Z:Adr):Sp:=fun vs H Q E=>False
include T sS yk in
theorem vX:FF P w K mg base CX0 5 "levels_by_stop" "levels_by_stop" gL mi (kI K Z):=fk0 vf fun vs H Q E h=>False.elim h
variable (mU:KD P w K mg base CX0 5 "levels_by_stop" (kI K Z))
inductive l5 (K:WA)(Z:Adr)(vs:List V)(H:Hp)(Q:VK)(E:XK):Prop | mk (w bk rl:Addr) (g:Cfg) (n0:aS) (rs:List Row) (lv s:Int):vs=[.ref w,.int lv,.int s]->WAt (clZ Z) K H w bk rl g n0 rs->g.ls.length<=1000->g.ks.length=(aj n0 rs).ws.length->((¬(0<=lv/\lv < g.ls.length)->∀H',av H H'->E (.ref Z.ay) none H'))->((0<=lv->lv < g.ls.length->(aj n0 rs).fs.getD lv.toNat false=true->∀H',av H H'->E (.ref Z.aW) none H'))->((0<=lv->lv < g.ls.length->(aj n0 rs).fs.getD lv.toNat false=false->¬(s=(dI g.ls lv).1\/s=(dI g.ls lv).2)->∀H',av H H'->E (.ref Z.bB) none H'))->((0<=lv->lv < g.ls.length->(aj n0 rs).fs.getD lv.toNat false=false->(s=(dI g.ls lv).1\/s=(dI g.ls lv).2)->yj Z K H w bk rl g n0 rs (.ring lv s) Q E))->l5 K Z vs H Q E
include T aM vP bK bj in
theorem BU:FF P w K mg base (CXf P w) 5 "ring" "Works.ring" nO u5 (l5 K Z):=fkF so fun vs H Q E h=>by
 obtain ⟨w,bk,rl,g,n0,rs,lv,s,rfl,hW,hls,hks,q1,q2,q3,q4⟩:=h
 k_all
 refine @seg _ _ _ 2 _ (@ah _ _ _ (aA (dm' (pv' 0) bK hr.dn bC (pa3 (aK (pa3 aB (pv' 1) (pv' 2))) af (pv' 3))))) fun zt2 zh2 ze2=>?_
 refine @seg _ _ _ 1 _ (@ae _ _ _ _ _ (@bb _ _ _ _ (dm' (aw (pv' 3)) vP hr.dn bC (pa2 (pv' 1) (pv' 2))) (by rfl)) zh2) fun zt1 zh1 ze1=>?_
 refine ⟨_,@ae _ _ _ _ _ (@aG _ _ 3 _ _ _ _ so.nd rfl orL (dR (dR (aw (pv' 0)) aM hr.dn br) bj hr.dn br) (by rfl) hfA) zh1,?_⟩
 obtain ⟨⟨dx,dl,gl,hob,hdl,hgl,n1,n2⟩,hB⟩:=id hW
 obtain ⟨⟨db,f0,hbo,hF⟩,as,hrl,hR⟩:=id hB
 k_mem
 refine fgo hob T.aZ T.aX rfl ?_
 k_mem
 refine mgo hbo rfl ⟨_,_,_,_,_,rfl,hB,fun s0 ⟨A0,hA0⟩=>?_⟩
 k_mem
 refine mgo hA0.ob rfl ⟨_,_,_,_,_,rfl,hA0.at,hrl,hls,fun s1 A H1 e1 hs1 ho1 hb1 hf1 hy1 hw1 hA=>?_⟩
 have hW1:=hW.same e1
 have hob1:=e1 _ _ hob
 have hbo1:=e1 _ _ hbo
 have hrl1:=e1 _ _ hrl
 have hdl1:=e1 _ _ hdl
 k_mem
 refine fgo hA.ob T.aO T.cq rfl ?_
 k_mem
 obtain ⟨db1,hbb⟩:=hA.be.ob
 k_upd
 refine mgo hbb rfl ⟨_,_,_,_,_,_,_,_,_,rfl,hA.be,fun h=>q1 h _ e1,fun h h' h2=>q2 h h' h2 _ e1,fun h h' h2 h4=>q3 h h' h2 h4 _ e1,fun h h' h2 h4 st2 H2 k2 hB2=>?_⟩
 have h3:=q4 h h' h2 h4
 have e2:=e1.keeps k2 hb1
 have hA2:=hA.bells k2 hB2
 clear k2 hB2
 k_mem
 refine ⟨_,_,e2 _ _ hob,rfl,by decide,fun p hp=>?_⟩
 have e3:=e2.lay (o:=HO.tup [V.str (Str.ofString "ring"),V.int lv,V.int s]) hp
 have f3:=(av.refl H2).lay (o:=HO.tup [V.str (Str.ofString "ring"),V.int lv,V.int s]) hp
 k_upd
 refine ⟨_,_,_,_,_,_,p,s1,1,ddV (.ring lv s),c8 g (aj n0 rs) (.ring lv s),rfl,hW.same e3,SqT.of (by rw [ag];rfl),?_,?_,fun h H' s'=>h3.1 h H' (e3.trans s'),fun h H' k hWn=>?_⟩
 ·exact (bf.at hA2).same f3
 ·rw [hks];first | rfl | simp only [c8,List.length_set]
 ·k_upd
  exact h3.2 h H' ((aD.of e3).trans k) hWn
variable (vY:KM P w K mg base (CXf P w) 5 Z.bw "ring" (l5 K Z))
inductive iP (K:WA)(Z:Adr)(vs:List V)(H:Hp)(Q:VK)(E:XK):Prop | mk (w bk rl:Addr) (g:Cfg) (n0:aS) (rs:List Row) (s:Int):vs=[.ref w,.int s]->WAt (clZ Z) K H w bk rl g n0 rs->g.ls.length<=1000->g.ks.length=(aj n0 rs).ws.length->(((∀l r,(aj n0 rs).e≠.wait l r)->∀H',av H H'->E (.ref Z.aJ) none H'))->((∀l r,(aj n0 rs).e=.wait l r->¬(1<=s/\s<=9)->∀H',av H H'->E (.ref Z.bB) none H'))->((∀l r,(aj n0 rs).e=.wait l r->(1<=s/\s<=9)->(300<=rs.length->∀H',av H H'->E (.ref Z.cS) none H')/\(rs.length < 300->∀p H',aD rl H H'->WAt (clZ Z) K H' w bk rl g n0 (rs++[zm g n0 rs (.rept s)])->SqT K H' p [.bl (decide (s=r)),.int r,.int s]->Q (.ref p) H')))->iP K Z vs H Q E
include T aM qK bK bj in
theorem yL:FF P w K mg base (CXf P w) 5 "repeat" "Works.repeat" jw pO (iP K Z):=fkF iF fun vs H Q E h=>by
 obtain ⟨w,bk,rl,g,n0,rs,s,rfl,hW,hls,hks,q1,q2,q3⟩:=h
 k_all
 refine @seg _ _ _ 3 _ (@ah _ _ _ (aA (pv' 3))) fun zt3 zh3 ze3=>?_
 refine @seg _ _ _ 2 _ (@ae _ _ _ _ _ (@bb _ _ _ _ (dm' (pv' 0) bK hr.dn bC (pa3 (aK (pa2 aB (pv' 1))) af (pv' 2))) (by rfl)) zh3) fun zt2 zh2 ze2=>?_
 refine @seg _ _ _ 1 _ (@ae _ _ _ _ _ (@aG _ _ 3 _ _ _ _ iF.nd rfl orL (dm' (aw (pv' 2)) qK hr.dn bC (pa1 (pv' 1))) (by rfl) hfA) zh2) fun zt1 zh1 ze1=>?_
 refine ⟨_,@ae _ _ _ _ _ (@aG _ _ 2 _ _ _ _ iF.nd rfl orL (dR (dR (aw (pv' 0)) aM hr.dn br) bj hr.dn br) (by rfl) hfA) zh1,?_⟩
 obtain ⟨⟨dx,dl,gl,hob,hdl,hgl,n1,n2⟩,hB⟩:=id hW
 obtain ⟨⟨db,f0,hbo,hF⟩,as,hrl,hR⟩:=id hB
 k_mem
 refine fgo hob T.aZ T.aX rfl ?_
 k_mem
 refine mgo hbo rfl ⟨_,_,_,_,_,rfl,hB,fun s0 ⟨A0,hA0⟩=>?_⟩
 k_mem
 refine mgo hA0.ob rfl ⟨_,_,_,_,_,rfl,hA0.at,hrl,hls,fun s1 A H1 e1 hs1 ho1 hb1 hf1 hy1 hw1 hA=>?_⟩
 have hW1:=hW.same e1
 have hob1:=e1 _ _ hob
 have hbo1:=e1 _ _ hbo
 have hrl1:=e1 _ _ hrl
 have hdl1:=e1 _ _ hdl
 k_mem
 refine fgo hA.ob T.aO T.cq rfl ?_
 k_mem
 obtain ⟨db1,hbb⟩:=hA.be.ob
 k_upd
 refine mgo hbb rfl ⟨_,_,_,_,_,_,_,_,rfl,hA.be,fun h=>q1 h _ e1,fun l r h h'=>q2 l r h h' _ e1,fun l r h h' st2 p2 H2 hp2 k2 hB2 hT2=>?_⟩
 have h3:=q3 l r h h'
 have e2:=e1.keeps k2 hb1
 have hA2:bf (clZ Z) K H2 rl g s1 {A with st:=st2} (c8 g (aj n0 rs) (.rept s)):=by
  have:=hA.bells k2 hB2
  have e0:c8 g (aj n0 rs) (.rept s)={(aj n0 rs) with e:=(if s=r then Eng.armed l r else Eng.other l r s)}:=by
   show aS.mk _ _ _ (zl g (aj n0 rs) (.rept s)) _=_
   rw [show zl g (aj n0 rs) (.rept s)=(if s=r then Eng.armed l r else Eng.other l r s) from by simp only [zl,h]]
  rw [e0]
  exact this
 clear k2 hB2
 k_mem
 refine ⟨_,_,e2 _ _ hob,rfl,by decide,fun p hp=>?_⟩
 have e3:=e2.lay (o:=HO.tup [V.str (Str.ofString "repeat"),V.int s]) hp
 have f3:=(av.refl H2).lay (o:=HO.tup [V.str (Str.ofString "repeat"),V.int s]) hp
 k_upd
 refine ⟨_,_,_,_,_,_,p,s1,1,ddV (.rept s),c8 g (aj n0 rs) (.rept s),rfl,hW.same e3,SqT.of (by rw [ag];rfl),?_,?_,fun h H' s'=>h3.1 h H' (e3.trans s'),fun h H' k hWn=>?_⟩
 ·exact (bf.at hA2).same f3
 ·rw [hks];first | rfl | simp only [c8,List.length_set]
 ·k_upd
  exact h3.2 h _ H' ((aD.of e3).trans k) hWn ((f3.tup hT2).keep k (e3 _ _ hrl))
variable (qU:KM P w K mg base (CXf P w) 5 Z.bw "repeat" (iP K Z))
inductive l7 (K:WA)(Z:Adr)(vs:List V)(H:Hp)(Q:VK)(E:XK):Prop | mk (w bk rl:Addr) (g:Cfg) (n0:aS) (rs:List Row) (lv:Int):vs=[.ref w,.int lv]->WAt (clZ Z) K H w bk rl g n0 rs->g.ls.length<=1000->g.ks.length=(aj n0 rs).ws.length->((¬(0<=lv/\lv < g.ls.length)->∀H',av H H'->E (.ref Z.ay) none H'))->((0<=lv->lv < g.ls.length->(aj n0 rs).fs.getD lv.toNat false=true->∀H',av H H'->E (.ref Z.aU) none H'))->((0<=lv->lv < g.ls.length->(aj n0 rs).fs.getD lv.toNat false=false->yj Z K H w bk rl g n0 rs (.fail lv) Q E))->l7 K Z vs H Q E
include T aM vQ bK bj in
theorem BV:FF P w K mg base (CXf P w) 5 "fail" "Works.fail" nP u6 (l7 K Z):=fkF sq fun vs H Q E h=>by
 obtain ⟨w,bk,rl,g,n0,rs,lv,rfl,hW,hls,hks,q1,q2,q3⟩:=h
 k_all
 refine @seg _ _ _ 2 _ (@ah _ _ _ (aA (dm' (pv' 0) bK hr.dn bC (pa3 (aK (pa2 aB (pv' 1))) af (pv' 2))))) fun zt2 zh2 ze2=>?_
 refine @seg _ _ _ 1 _ (@ae _ _ _ _ _ (@bb _ _ _ _ (dm' (aw (pv' 2)) vQ hr.dn bC (pa1 (pv' 1))) (by rfl)) zh2) fun zt1 zh1 ze1=>?_
 refine ⟨_,@ae _ _ _ _ _ (@aG _ _ 2 _ _ _ _ sq.nd rfl orL (dR (dR (aw (pv' 0)) aM hr.dn br) bj hr.dn br) (by rfl) hfA) zh1,?_⟩
 obtain ⟨⟨dx,dl,gl,hob,hdl,hgl,n1,n2⟩,hB⟩:=id hW
 obtain ⟨⟨db,f0,hbo,hF⟩,as,hrl,hR⟩:=id hB
 k_mem
 refine fgo hob T.aZ T.aX rfl ?_
 k_mem
 refine mgo hbo rfl ⟨_,_,_,_,_,rfl,hB,fun s0 ⟨A0,hA0⟩=>?_⟩
 k_mem
 refine mgo hA0.ob rfl ⟨_,_,_,_,_,rfl,hA0.at,hrl,hls,fun s1 A H1 e1 hs1 ho1 hb1 hf1 hy1 hw1 hA=>?_⟩
 have hW1:=hW.same e1
 have hob1:=e1 _ _ hob
 have hbo1:=e1 _ _ hbo
 have hrl1:=e1 _ _ hrl
 have hdl1:=e1 _ _ hdl
 k_mem
 refine fgo hA.ob T.aO T.cq rfl ?_
 k_mem
 obtain ⟨db1,hbb⟩:=hA.be.ob
 k_upd
 refine mgo hbb rfl ⟨_,_,_,_,_,_,_,_,rfl,hA.be,fun h=>q1 h _ e1,fun h h' h2=>q2 h h' h2 _ e1,fun h h' h2 H2 k2 hB2=>?_⟩
 have h3:=q3 h h' h2
 have e2:=e1.keeps k2 hf1
 have hA2:=hA.fail k2 hB2 (List.length_set ..)
 clear k2 hB2
 k_mem
 refine ⟨_,_,e2 _ _ hob,rfl,by decide,fun p hp=>?_⟩
 have e3:=e2.lay (o:=HO.tup [V.str (Str.ofString "fail"),V.int lv]) hp
 have f3:=(av.refl H2).lay (o:=HO.tup [V.str (Str.ofString "fail"),V.int lv]) hp
 k_upd
 refine ⟨_,_,_,_,_,_,p,s1,1,ddV (.fail lv),c8 g (aj n0 rs) (.fail lv),rfl,hW.same e3,SqT.of (by rw [ag];rfl),?_,?_,fun h H' s'=>h3.1 h H' (e3.trans s'),fun h H' k hWn=>?_⟩
 ·exact (bf.at hA2).same f3
 ·rw [hks];first | rfl | simp only [c8,List.length_set]
 ·k_upd
  exact h3.2 h H' ((aD.of e3).trans k) hWn
variable (vZ:KM P w K mg base (CXf P w) 5 Z.bw "fail" (l7 K Z))
inductive fU (K:WA)(Z:Adr)(vs:List V)(H:Hp)(Q:VK)(E:XK):Prop | mk (w bk rl:Addr) (g:Cfg) (n0:aS) (rs:List Row) (wd:Str) (lv:Int) (b:Bool) (d:Dd):vs=[.ref w,.str wd,.int lv,.bl b]->WAt (clZ Z) K H w bk rl g n0 rs->g.ls.length<=1000->g.ks.length=(aj n0 rs).ws.length->(aj n0 rs).gates.length=g.ds.length->(((wd="open"/\b=true/\d=.opn lv)\/(wd="shut"/\b=false/\d=.sht lv)))->((¬(0<=lv/\lv < g.ds.length)->∀H',av H H'->E (.ref Z.ay) none H'))->((0<=lv->lv < g.ds.length->(aj n0 rs).gates.getD lv.toNat false=b->∀H',av H H'->E (.ref Z.aU) none H'))->((0<=lv->lv < g.ds.length->(aj n0 rs).gates.getD lv.toNat false=!b->yj Z K H w bk rl g n0 rs d Q E))->fU K Z vs H Q E
include T aM bJ bK bj in
theorem uj:FF P w K mg base (CXf P w) 5 "turn_gate" "Works.turn_gate" gx ky (fU K Z):=fkF jx fun vs H Q E h=>by
 obtain ⟨w,bk,rl,g,n0,rs,wd,lv,b,d,rfl,hW,hls,hks,hgl2,hd,q1,q2,q3⟩:=h
 k_all
 refine @seg _ _ _ 4 _ (@ah _ _ _ (aA (dm' (pv' 0) bK hr.dn bC (pa3 (aK (pa2 (pv' 1) (pv' 2))) af (pv' 4))))) fun zt4 zh4 ze4=>?_
 refine @seg _ _ _ 3 _ (@ae _ _ _ _ _ (kO (pv' 3) (wo (aw (pv' 4)) (pv' 2) ja)) zh4) fun zt3 zh3 ze3=>?_
 refine @seg _ _ _ 2 _ (@ae _ _ _ _ _ (aQ (bV (ao ax (aw (pv' 4)) (pv' 2)) (pv' 3)) (@ah _ _ _ (bz T.Ak (by rfl) T.tO (pa1 aB))) (aC)) zh3) fun zt2 zh2 ze2=>?_
 refine @seg _ _ _ 1 _ (@ae _ _ _ _ _ (@bb _ _ _ _ (dc bJ hr.dn bC (pa2 (pv' 2) (aF az (by rfl) T.bY bu (pa1 (aw (pv' 0)))))) (by rfl)) zh2) fun zt1 zh1 ze1=>?_
 refine ⟨_,@ae _ _ _ _ _ (@aG _ _ 4 _ _ _ _ jx.nd rfl orL (dR (dR (aw (pv' 0)) aM hr.dn br) bj hr.dn br) (by rfl) hfA) zh1,?_⟩
 obtain ⟨⟨dx,dl,gl,hob,hdl,hgl,n1,n2⟩,hB⟩:=id hW
 obtain ⟨⟨db,f0,hbo,hF⟩,as,hrl,hR⟩:=id hB
 k_mem
 refine fgo hob T.aZ T.aX rfl ?_
 k_mem
 refine mgo hbo rfl ⟨_,_,_,_,_,rfl,hB,fun s0 ⟨A0,hA0⟩=>?_⟩
 k_mem
 refine mgo hA0.ob rfl ⟨_,_,_,_,_,rfl,hA0.at,hrl,hls,fun s1 A H1 e1 hs1 ho1 hb1 hf1 hy1 hw1 hA=>?_⟩
 have hW1:=hW.same e1
 have hob1:=e1 _ _ hob
 have hbo1:=e1 _ _ hbo
 have hrl1:=e1 _ _ hrl
 have hdl1:=e1 _ _ hdl
 k_mem
 refine fgo hob1 T.aZ T.c7 rfl ?_
 k_mem
 refine ⟨_,.inl (SqL.of hdl1),_,_,rfl,?_⟩
 rw [WB]
 k_upd
 refine ⟨fun hlv=>?_,fun h=>q1 h _ e1⟩
 k_mem
 refine fgo hA.ob T.aO T.cD rfl ?_
 k_mem
 refine ⟨_,SqL.of hA.go,_,jf hlv.1 (by omega),?_⟩
 k_mem
 split
 ·rename_i h
  k_upd
  exact ⟨by decide,q2 hlv.1 hlv.2 h _ e1⟩
 ·rename_i h
  have h3:=q3 hlv.1 hlv.2 (by cases b<;>simpa using h)
  k_upd
  refine fgo hA.ob T.aO T.cD rfl ?_
  k_mem
  refine ⟨_,hA.go,_,Du hlv.1 (by rw [WB];omega),?_⟩
  have e2:=e1.rewr (o:=HO.lst (((aj n0 rs).gates.map V.bl).set lv.toNat (V.bl b))) ho1
  have k2:L2.aD A.ol H1 (upd H1 A.ol (HO.lst (((aj n0 rs).gates.map V.bl).set lv.toNat (V.bl b)))):=(aD.of (av.refl H1)).put
  have hA2:=hA.gates k2 (gs:=(aj n0 rs).gates.set lv.toNat b) (by rw [ag,List.map_set])
  generalize upd H1 A.ol (HO.lst (((aj n0 rs).gates.map V.bl).set lv.toNat (V.bl b)))=H2 at *
  have hW2:=hW.same e2
  k_upd
  refine ⟨_,_,e2 _ _ hob,rfl,by decide,fun p hp=>?_⟩
  have e3:=e2.lay (o:=HO.tup [V.str wd,V.int lv]) hp
  have f3:=(av.refl H2).lay (o:=HO.tup [V.str wd,V.int lv]) hp
  k_upd
  refine ⟨_,_,_,_,_,_,p,s1,1,ddV d,c8 g (aj n0 rs) d,rfl,hW.same e3,SqT.of ?_,?_,?_,fun h H' s'=>h3.1 h H' (e3.trans s'),fun h H' k hWn=>?_⟩
  ·rw [ag];rcases hd with ⟨rfl,_,rfl⟩ | ⟨rfl,_,rfl⟩<;>rfl
  ·refine (bf.at (A:=A) ?_).same f3
   rcases hd with ⟨_,rfl,rfl⟩ | ⟨_,rfl,rfl⟩<;>exact hA2
  ·rw [hks];rcases hd with ⟨_,rfl,rfl⟩ | ⟨_,rfl,rfl⟩<;>rfl
  ·have:=h3.2 h H' ((aD.of e3).trans k)
   rcases hd with ⟨_,rfl,rfl⟩ | ⟨_,rfl,rfl⟩<;>exact this hWn
variable (eT:KM P w K mg base (CXf P w) 5 Z.bw "turn_gate" (fU K Z))
def OY (w:Addr)(c lv:Int)(kd:Str)(s:Addr)(H:Hp)(gs:List Int)(gates:List Bool)(i:Nat)(σ:St)(H':Hp):Prop:=H'=H/\(∃t,σ=[some (.ref w),some (.int c),some (.int lv),some (.str kd),some (.ref s),t,none,none])/\∀j,j < i->∀x,gs[j]?=some x->gates.getD x.toNat false=false
inductive l8 (K:WA)(Z:Adr)(vs:List V)(H:Hp)(Q:VK)(E:XK):Prop | mk (w bk rl:Addr) (g:Cfg) (n0:aS) (rs:List Row) (c lv:Int) (kd:Str):vs=[.ref w,.int c,.int lv,.str kd]->WAt (clZ Z) K H w bk rl g n0 rs->g.ls.length<=1000->g.ks.length=(aj n0 rs).ws.length->cC g.ds->(aj n0 rs).gates.length=g.ds.length->g.ls.length=g.ds.length->1<=fu g (aj n0 rs)->fu g (aj n0 rs)<=500->((kd="men"\/kd="coal"))->((¬(0<=lv/\lv < g.ds.length)->∀H',av H H'->E (.ref Z.ay) none H'))->((0<=lv->lv < g.ds.length->ji g (aj n0 rs)=true->∀H',av H H'->E (.ref Z.dD) none H'))->((0<=lv->lv < g.ds.length->ji g (aj n0 rs)=false->(aj n0 rs).e≠.armed lv (df g.ls lv kd)->∀H',av H H'->E (.ref Z.cR) none H'))->((0<=lv->lv < g.ds.length->ji g (aj n0 rs)=false->(aj n0 rs).e=.armed lv (df g.ls lv kd)->yj Z K H w bk rl g n0 rs (.wind c lv kd) Q E))->l8 K Z vs H Q E
include T vG aM bJ eK yi fG AE bK bj in
theorem BW:FF P w K mg base (CXf P w) 5 "wind" "Works.wind" nR u9 (l8 K Z):=fkF fE fun vs H Q E h=>by
 obtain ⟨w,bk,rl,g,n0,rs,c,lv,kd,rfl,hW,hls,hks,hsh,hgl2,hlc,hsp1,hsp5,hkd,q1,q2,q3,q4⟩:=h
 k_all
 refine @seg _ _ _ 7 _ (@ah _ _ _ (aA (dm' (pv' 0) bK hr.dn bC (pa3 (aK (pa4 aB (pv' 1) (pv' 2) (pv' 3))) (pv' 7) (pv' 4))))) fun zt7 zh7 ze7=>?_
 refine @seg _ _ _ 6 _ (@ae _ _ _ _ _ (cj (pv' 4) (pv' 6) rfl) zh7) fun zt6 zh6 ze6=>?_
 refine @seg _ _ _ 5 _ (@ae _ _ _ _ _ (@aG _ _ 7 _ _ _ _ fE.nd rfl orL (dc0 vG hr.dn (pa2 (aF wU (by rfl) T.M4 Hn (pa1 (aT dh (pv' 6) (aw (pv' 4))))) (dm' (pv' 0) eK hr.dn br (pa1 (pv' 4))))) (by rfl) hfA) zh6) fun zt5 zh5 ze5=>?_
 refine @seg _ _ _ 4 _ (@ae _ _ _ _ _ (@aG _ _ 6 _ _ _ _ fE.nd rfl orL (dc0 fG hr.dn (pa3 (aw (pv' 0)) (pv' 1) (pv' 2))) (by rfl) hfA) zh5) fun zt4 zh4 ze4=>?_
 refine @seg _ _ _ 3 _ (@ae _ _ _ _ _ (@bb _ _ _ _ (dm' (aw (pv' 4)) yi hr.dn bC (pa2 (pv' 2) (pv' 3))) (by rfl)) zh4) fun zt3 zh3 ze3=>?_
 refine @seg _ _ _ 2 _ (@ae _ _ _ _ _ (cH A2 rfl (cJ (dc0 AE hr.dn (pa2 (aw (pv' 0)) (aw (pv' 4))))) (aE (i:=5) fE.nd rfl orL) (@ah _ _ _ (aQ (cX (ao ax (aw (pv' 4)) (pv' 5))) (@ah _ _ _ (bz T.ID (by rfl) T.Il (pa1 aB))) (aC)))) zh3) fun zt2 zh2 ze2=>?_
 refine @seg _ _ _ 1 _ (@ae _ _ _ _ _ (@bb _ _ _ _ (dc bJ hr.dn bC (pa2 (pv' 2) (aF az (by rfl) T.bY bu (pa1 (aw (pv' 0)))))) (by rfl)) zh2) fun zt1 zh1 ze1=>?_
 refine ⟨_,@ae _ _ _ _ _ (@aG _ _ 4 _ _ _ _ fE.nd rfl orL (dR (dR (aw (pv' 0)) aM hr.dn br) bj hr.dn br) (by rfl) hfA) zh1,?_⟩
 obtain ⟨⟨dx,dl,gl,hob,hdl,hgl,n1,n2⟩,hB⟩:=id hW
 obtain ⟨⟨db,f0,hbo,hF⟩,as,hrl,hR⟩:=id hB
 k_mem
 refine fgo hob T.aZ T.aX rfl ?_
 k_mem
 refine mgo hbo rfl ⟨_,_,_,_,_,rfl,hB,fun s0 ⟨A0,hA0⟩=>?_⟩
 k_mem
 refine mgo hA0.ob rfl ⟨_,_,_,_,_,rfl,hA0.at,hrl,hls,fun s1 A H1 e1 hs1 ho1 hb1 hf1 hy1 hw1 hA=>?_⟩
 have hW1:=hW.same e1
 have hob1:=e1 _ _ hob
 have hbo1:=e1 _ _ hbo
 have hrl1:=e1 _ _ hrl
 have hdl1:=e1 _ _ hdl
 k_mem
 refine fgo hob1 T.aZ T.c7 rfl ?_
 k_mem
 refine ⟨_,.inl (SqL.of hdl1),_,_,rfl,?_⟩
 rw [WB]
 k_upd
 refine ⟨fun hlv=>?_,fun h=>q1 h _ e1⟩
 have l6:=hsh.l6
 k_mem
 refine fgo hob1 T.aZ T.c7 rfl ?_
 k_upd
 refine fgo hA.ob T.aO T.bI rfl ?_
 k_mem
 refine ⟨_,_,_,rfl,SqL.of hdl1,by omega,by omega,fun gb H2 hgb f2 hgb2=>?_⟩
 have e2:=e1.trans f2
 replace hA:=hA.same f2
 k_mem
 refine ⟨⟨_,SqL.of hgb2⟩,?_⟩
 have gr:∀x∈km g.ds (aj n0 rs).place,0<=x/\x < g.ds.length:=fun x hx=>by
  unfold km at hx
  rw [List.mem_map] at hx
  obtain ⟨i,hi,rfl⟩:=hx
  have:=List.mem_range.mp (List.mem_filter.mp hi).1
  omega
 k_upd
 refine en ((km g.ds (aj n0 rs).place).map V.int) (OY w c lv kd s1 H2 (km g.ds (aj n0 rs).place) (aj n0 rs).gates) ⟨rfl,⟨_,rfl⟩,fun j hj=>absurd hj (Nat.not_lt_zero _)⟩ ?_ ?_ ?_
 ·rintro i σ H' _ ⟨rfl,_⟩
  exact SqL.of hgb2
 ·rintro i x σ H' hx ⟨rfl,⟨t,rfl⟩,hj⟩
  obtain ⟨z,rfl,hz,hzm⟩:=ng hx
  have hzr:=gr z hzm
  k_mem
  refine fgo hA.ob T.aO T.cD rfl ?_
  k_mem
  refine ⟨_,SqL.of hA.go,_,jf hzr.1 (by omega),?_⟩
  k_mem
  split
  ·rename_i hopen
   k_upd
   exact ⟨by decide,q2 hlv.1 hlv.2 (List.any_eq_true.mpr ⟨z,hzm,hopen⟩) _ e2⟩
  ·rename_i hopen
   k_upd
   refine ⟨rfl,⟨_,rfl⟩,fun j hj' y hy=>?_⟩
   by_cases e:j=i
   ·subst e
    rw [hz] at hy
    cases hy
    simpa using hopen
   ·exact hj j (by omega) y hy
 ·rintro σ H' ⟨rfl,⟨t,rfl⟩,hj⟩
  have hno:ji g (aj n0 rs)=false:=by
   unfold ji
   rw [List.any_eq_false]
   intro x hx
   obtain ⟨j,hjx⟩:=List.getElem?_of_mem hx
   rw [hj j (by rw [WB];exact (List.getElem?_eq_some_iff.mp hjx).1) x hjx]
   exact Bool.false_ne_true
  k_mem
  refine fgo hA.ob T.aO T.cq rfl ?_
  k_mem
  obtain ⟨db1,hbb⟩:=hA.be.ob
  k_upd
  refine mgo hbb rfl ⟨_,_,_,_,_,_,_,_,_,rfl,hA.be,hkd,fun h=>absurd ⟨hlv.1,by omega⟩ h,fun _ _ h H' s'=>q3 hlv.1 hlv.2 hno h H' (e2.trans s'),fun _ _ harm st2 H3 k3 hB3=>?_⟩
  have h3:=q4 hlv.1 hlv.2 hno harm
  have e3:=e2.keeps k3 hb1
  have hA3:=hA.bells k3 hB3
  clear k3 hB3
  k_mem
  refine fgo (e3 _ _ hob) T.aZ T.c7 rfl ?_
  k_mem
  refine ⟨_,_,_,_,rfl,SqL.of (e3 _ _ hdl),hlv.1,hlv.2,?_⟩
  rw [show (if c=0 then g.ds.getD lv.toNat 0 else cw g.ds - g.ds.getD lv.toNat 0)=eY g.ds c lv from rfl]
  k_mem
  refine fgo hA3.ob T.aO T.bI rfl ?_
  k_mem
  refine mgo (e3 _ _ hob) rfl ⟨_,_,_,_,_,_,_,_,rfl,hW.same e3,hA3.at,hks,fun H4 f4=>?_⟩
  have e4:=e3.trans f4
  replace hA3:=hA3.same f4
  have hspd:fu g {(aj n0 rs) with e:=Eng.used lv (df g.ls lv kd)}=fu g (aj n0 rs):=rfl
  rw [hspd]
  k_upd
  refine ⟨_,_,rfl,by omega,Int.lt_of_le_of_lt hsp5 (by decide),?_⟩
  k_mem
  refine ⟨_,_,_,hA3.ob,T.aO,T.bI,by show 4 < 1000;decide,?_⟩
  have k5:L2.aD s1 H4 (upd H4 s1 (HO.ins (clZ Z).S A.dx (bG "place" (.int (eY g.ds c lv)) [("place",.int (aj n0 rs).place),("opened",.ref A.ol),("bells",.ref A.b),("yard",.ref A.y)]))):=(aD.of (av.refl H4)).put
  have e5:=e4.keeps k5 hs1
  have hA5:=hA3.placed k5 (pl:=eY g.ds c lv) (by rw [ag];rfl)
  clear hgb2 f2 f4
  generalize upd H4 s1 (HO.ins (clZ Z).S A.dx (bG "place" (.int (eY g.ds c lv)) [("place",.int (aj n0 rs).place),("opened",.ref A.ol),("bells",.ref A.b),("yard",.ref A.y)]))=H5 at *
  k_upd
  refine ⟨_,_,e5 _ _ hob,rfl,by decide,fun p hp=>?_⟩
  have e6:=e5.lay (o:=HO.tup [V.str (Str.ofString "wind"),V.int c,V.int lv,V.str kd]) hp
  have f6:=(av.refl H5).lay (o:=HO.tup [V.str (Str.ofString "wind"),V.int c,V.int lv,V.str kd]) hp
  k_upd
  refine ⟨_,_,_,_,_,_,p,s1,(ir g (aj n0 rs) (.wind c lv kd)),ddV (.wind c lv kd),c8 g (aj n0 rs) (.wind c lv kd),rfl,hW.same e6,SqT.of (by rw [ag];rfl),?_,?_,fun h H' s'=>h3.1 h H' (e6.trans s'),fun h H' k hWn=>?_⟩
  ·exact (bf.at hA5).same f6
  ·rw [hks];first | rfl | simp only [c8,List.length_set]
  ·k_upd
   exact h3.2 h H' ((aD.of e6).trans k) hWn
variable (v5:KM P w K mg base (CXf P w) 5 Z.bw "wind" (l8 K Z))
theorem two_deepW {p q c:Int}(h0:0<=c)(h1:c < 2):atI [V.int p,V.int q] c=some (.int (if c=0 then p else q)):=by
 rcases (by omega:c=0\/c=1) with rfl | rfl<;>rfl
inductive gG (K:WA)(Z:Adr)(vs:List V)(H:Hp)(Q:VK)(E:XK):Prop | mk (w bk rl:Addr) (g:Cfg) (n0:aS) (rs:List Row) (c:Int):vs=[.ref w,.int c]->WAt (clZ Z) K H w bk rl g n0 rs->cC g.ds->0<=c->c < 2->(∀H',av H H'->Q (lvV (bN g.ds (aj n0 rs).place c)) H')->gG K Z vs H Q E
include T tY hZ in
theorem v7:FF P w K mg base CX0 5 "level_of" "Works.level_of" gN ml (gG K Z):=fk0 vh fun vs H Q E h=>by
 obtain ⟨w,bk,rl,g,n0,rs,c,rfl,hW,hsh,h0,h1,q⟩:=h
 k_all
 refine ⟨_,@ah _ _ _ (aA (dc0 tY hr.dn (pa2 (aw (pv' 0)) (ao aq (dR (pv' 0) hZ hr.dn br) (pv' 1))))),?_⟩
 obtain ⟨⟨dx,dl,gl,hob,hdl,hgl,n1,n2⟩,hB⟩:=id hW
 obtain ⟨⟨db,f0,hbo,hF⟩,as,hrl,hR⟩:=id hB
 k_mem
 refine fgo hob T.aZ T.c7 rfl ?_
 k_mem
 refine mgo hob rfl ⟨_,_,_,_,_,_,rfl,hW,by have:=hsh.l2;omega,fun p hp=>?_⟩
 have s1:=(av.refl H).lay (o:=HO.tup [.int (aj n0 rs).place,.int (cw g.ds - (aj n0 rs).place)]) hp
 k_mem
 refine ⟨_,SqT.of ag,_,two_deepW h0 h1,?_⟩
 have l6:=hsh.l6
 k_upd
 refine ⟨_,_,_,rfl,SqL.of (s1 _ _ hdl),by omega,fun i hi e=>?_,fun hne=>?_⟩
 ·have q':=q _ s1
  rw [show bN g.ds (aj n0 rs).place c=some (i:Int) from by rw [bN];split<;>rename_i hc<;>(first | rw [if_pos hc] at e | rw [if_neg hc] at e)<;>exact jg hsh hi e] at q'
  k_upd
  exact q'
 ·have q':=q _ s1
  rw [show bN g.ds (aj n0 rs).place c=none from by rw [bN];split<;>rename_i hc<;>refine E3 fun i hi=>?_<;>have:=hne i hi<;>(first | rw [if_pos hc] at this | rw [if_neg hc] at this)<;>exact this] at q'
  k_upd
  exact q'
variable (fq:KM P w K mg base CX0 5 Z.bw "level_of" (gG K Z))
noncomputable def qV (K:WA):Nat->Sp
 | 0=>fun _ _ _ _=>False
 | n+1=>fun vs H Q _=>∃(x y:V) (d:Dt),vs=[x,y]/\Rep K H n x d/\Rep K H n y d/\∀H',av H H'->Q (.bl true) H'
noncomputable def K6 (K:WA)(Z:Adr):Sp:=qV K 5
def JZ (x y:V)(H:Hp)(_:Nat)(σ:St)(H':Hp):Prop:=av H H'/\∃t,σ=[some x,some y,none,t]
theorem K7 {v:V}{T:String}(h:zj v=some T):(["list","tuple"].any (EY T))=false:=by
 cases v<;>simp only [zj,Option.some.injEq,reduceCtorEq] at h<;>subst h<;>decide
theorem GI {v:V}(h:bU v=true):∃T,zj v=some T:=by
 cases v<;>simp only [bU,reduceCtorEq,Bool.false_eq_true] at h<;>exact ⟨_,rfl⟩
theorem K8 {v:V}(h:bU v=true):AV v v=true:=by
 cases v<;>simp only [bU,reduceCtorEq,Bool.false_eq_true] at h<;>rfl
include T in
theorem yl {n:Nat}(ik:KD P w K mg base CX0 n "_law_same" (qV K n)):FF P w K mg base CX0 (n+1) "_law_same" "_law_same" qa vc (qV K (n+1)):=fk0 w8 fun vs H Q E h=>by
 obtain ⟨x,y,d,rfl,hx,hy,q⟩:=h
 k_all
 refine ⟨_,@ae _ _ _ _ _ (aQ (ft (cX (aF wD (by rfl) T.bt bc (pa2 (pv' 1) (aK (pa2 (fH (v:=.ty "list") (by rfl) T.eO dG rfl) (fH (v:=.ty "tuple") (by rfl) T.vn pz rfl))))))) (@ae _ _ _ _ _ (@aG _ _ 2 _ _ _ _ w8.nd rfl orL (dF jj (aF wD (by rfl) T.bt bc (pa2 (pv' 0) (aK (pa2 (fH (v:=.ty "int") (by rfl) T.oO iq rfl) (fH (v:=.ty "str") (by rfl) T.Pz LM rfl))))) (aF wD (by rfl) T.bt bc (pa2 (pv' 1) (aK (pa2 (fH (v:=.ty "int") (by rfl) T.oO iq rfl) (fH (v:=.ty "str") (by rfl) T.Pz LM rfl))))) (cE _)) (by rfl) hfA) (@ah _ _ _ (aA (y3 (pv' 2) (y3 (dF jj (aF i8 (by rfl) T.bt bc (pa2 (pv' 0) (fH (v:=.ty "bool") (by rfl) T.M5 Jh rfl))) (aF i8 (by rfl) T.bt bc (pa2 (pv' 1) (fH (v:=.ty "bool") (by rfl) T.M5 Jh rfl))) (cE _)) (G3 (dF jj (pv' 0) (pv' 1) (cE _)))))))) (aC)) (@ae _ _ _ _ _ (aQ (uJ (aF i8 (by rfl) T.bt bc (pa2 (pv' 0) (fH (v:=.ty "list") (by rfl) T.eO dG rfl))) (aF i8 (by rfl) T.bt bc (pa2 (pv' 1) (fH (v:=.ty "list") (by rfl) T.eO dG rfl)))) (@ah _ _ _ (aA iS)) (aC)) (@ae _ _ _ _ _ (aQ (pe (uJ (aF i8 (by rfl) T.bt bc (pa2 (pv' 0) (fH (v:=.ty "tuple") (by rfl) T.vn pz rfl))) (aF i8 (by rfl) T.bt bc (pa2 (pv' 1) (fH (v:=.ty "tuple") (by rfl) T.vn pz rfl)))) (kM (uJ (aF az (by rfl) T.bY bu (pa1 (pv' 0))) (aF az (by rfl) T.bY bu (pa1 (pv' 1)))))).pt (@ah _ _ _ (aA iS)) (aC)) (@ae _ _ _ _ _ (cH PassesOwn.never rfl (bA (by rfl) T.cB (pa1 (aF az (by rfl) T.bY bu (pa1 (pv' 1))))) (aE (i:=3) w8.nd rfl orL) (@ah _ _ _ (aQ (ft (cX (dc0 ik hr (pa2 (ao LC (pv' 0) (pv' 3)) (ao LC (pv' 1) (pv' 3)))))) (@ah _ _ _ (aA iS)) (aC)))) (@ah _ _ _ (aA iS))))),?_⟩
 k_mem
 refine ⟨by decide,fun tp htp=>?_⟩
 have s1:=(av.refl H).lay (o:=HO.tup [V.ty "list",V.ty "tuple"]) htp
 have ht1:upd H tp (HO.tup [V.ty "list",V.ty "tuple"]) tp=some (HO.tup (["list","tuple"].map V.ty)):=ag
 generalize upd H tp (HO.tup [V.ty "list",V.ty "tuple"])=H1 at *
 cases hx with
 | @flat _ v hv=>
  cases hy with
  | flat _=>
   obtain ⟨T0,hT⟩:=GI hv
   refine ⟨_,tp,["list","tuple"],T0,rfl,SqT.of ht1,.inl hT,by decide,?_⟩
   rw [K7 hT]
   k_mem
   refine ⟨by decide,fun p1 hp1=>⟨_,p1,["int","str"],T0,rfl,SqT.of ag,.inl hT,by decide,?_⟩⟩
   refine ⟨by decide,fun p2 hp2=>⟨_,p2,["int","str"],T0,rfl,SqT.of ag,.inl hT,by decide,?_⟩⟩
   k_mem
   rw [if_pos rfl]
   refine ⟨_,"bool",T0,rfl,.inl hT,by decide,_,"bool",T0,rfl,.inl hT,by decide,?_⟩
   k_mem
   rw [if_pos rfl]
   refine DB.mp ⟨K8 hv,?_⟩
   rw [decide_eq_true rfl]
   exact q _ ((s1.lay hp1).lay hp2)
 | @lst m a xs ds hs hb hl hrx=>
  cases hy with
  | @lst _ b ys _ hs' hb' hl' hry=>
   have ha1:=s1.seq hs
   have hb1:=s1.seq hs'
   refine ⟨.ref b,tp,["list","tuple"],"list",rfl,SqT.of ht1,.inr (.inl ⟨b,ys,rfl,hb1,rfl⟩),by decide,?_⟩
   rw [show (["list","tuple"].any (EY "list"))=true from by decide]
   k_mem
   refine ⟨.ref a,"list","list",rfl,.inr (.inl ⟨a,xs,rfl,ha1,rfl⟩),by decide,.ref b,"list","list",rfl,.inr (.inl ⟨b,ys,rfl,hb1,rfl⟩),by decide,?_⟩
   k_mem
   refine ⟨.ref a,"tuple","list",rfl,.inr (.inl ⟨a,xs,rfl,ha1,rfl⟩),by decide,.ref b,"tuple","list",rfl,.inr (.inl ⟨b,ys,rfl,hb1,rfl⟩),by decide,?_⟩
   k_mem
   refine ⟨xs,.inl ha1,ys,.inl hb1,?_⟩
   rw [if_neg (by omega)]
   refine ⟨ys,.inl hb1,by omega,by omega,?_⟩
   refine cf (JZ (.ref a) (.ref b) H1) ⟨av.refl _,_,rfl⟩ ?_ ?_
   ·rintro i σ H2 hi ⟨s2,t,rfl⟩
    have hi1:i < xs.length:=by omega
    have hi2:i < ys.length:=by omega
    have hi3:i < ds.length:=by omega
    have ex:xs[i]?=some xs[i]:=List.getElem?_eq_getElem hi1
    have ey:ys[i]?=some ys[i]:=List.getElem?_eq_getElem hi2
    have ed:ds[i]?=some ds[i]:=List.getElem?_eq_getElem hi3
    k_mem
    rw [Int.zero_add]
    refine .inl ⟨a,xs,_,_,rfl,rfl,s2.seq ha1,kP ex,.inl ⟨b,ys,_,_,rfl,rfl,s2.seq hb1,kP ey,?_⟩⟩
    refine ⟨_,_,ds[i],rfl,(hrx i _ _ ex ed).same (s1.trans s2),(hry i _ _ ey ed).same (s1.trans s2),fun H3 s3=>?_⟩
    k_mem
    exact ⟨s2.trans s3,_,rfl⟩
   ·rintro σ H2 ⟨s2,t,rfl⟩
    k_mem
    exact q _ (s1.trans s2)
 | @tup m a xs ds hs hb hl hrx=>
  cases hy with
  | @tup _ b ys _ hs' hb' hl' hry=>
   have ha1:=s1.tup hs
   have hb1:=s1.tup hs'
   refine ⟨.ref b,tp,["list","tuple"],"tuple",rfl,SqT.of ht1,.inr (.inr ⟨b,ys,rfl,hb1,rfl⟩),by decide,?_⟩
   rw [show (["list","tuple"].any (EY "tuple"))=true from by decide]
   k_mem
   refine ⟨.ref a,"list","tuple",rfl,.inr (.inr ⟨a,xs,rfl,ha1,rfl⟩),by decide,.ref b,"list","tuple",rfl,.inr (.inr ⟨b,ys,rfl,hb1,rfl⟩),by decide,?_⟩
   k_mem
   refine ⟨.ref a,"tuple","tuple",rfl,.inr (.inr ⟨a,xs,rfl,ha1,rfl⟩),by decide,.ref b,"tuple","tuple",rfl,.inr (.inr ⟨b,ys,rfl,hb1,rfl⟩),by decide,?_⟩
   k_mem
   refine ⟨xs,.inr ha1,ys,.inr hb1,?_⟩
   rw [if_neg (by omega)]
   refine ⟨ys,.inr hb1,by omega,by omega,?_⟩
   refine cf (JZ (.ref a) (.ref b) H1) ⟨av.refl _,_,rfl⟩ ?_ ?_
   ·rintro i σ H2 hi ⟨s2,t,rfl⟩
    have hi1:i < xs.length:=by omega
    have hi2:i < ys.length:=by omega
    have hi3:i < ds.length:=by omega
    have ex:xs[i]?=some xs[i]:=List.getElem?_eq_getElem hi1
    have ey:ys[i]?=some ys[i]:=List.getElem?_eq_getElem hi2
    have ed:ds[i]?=some ds[i]:=List.getElem?_eq_getElem hi3
    k_mem
    rw [Int.zero_add]
    refine .inr (.inl ⟨a,xs,_,_,rfl,rfl,s2.tup ha1,kP ex,.inr (.inl ⟨b,ys,_,_,rfl,rfl,s2.tup hb1,kP ey,?_⟩)⟩)
    refine ⟨_,_,ds[i],rfl,(hrx i _ _ ex ed).same (s1.trans s2),(hry i _ _ ey ed).same (s1.trans s2),fun H3 s3=>?_⟩
    k_mem
    exact ⟨s2.trans s3,_,rfl⟩
   ·rintro σ H2 ⟨s2,t,rfl⟩
    k_mem
    exact q _ (s1.trans s2)
include T in
theorem K9 {f:Addr}{fd:FuncData}(b:mg "_law_same"=some (.ref f))(F:Fun K "_law_same" "_law_same" qa f fd)(c:eP K fd vc []):FF P w K mg base CX0 5 "_law_same" "_law_same" qa vc (qV K 5):=
 have h:∀n,KD P w K mg base CX0 n "_law_same" (qV K n):=fun n=>by
  induction n with
  | zero=>exact ⟨f,fd,_,b,F.kp,c,LY⟩
  | succ n ih=>exact KD.mk b F c (yl T ih)
 yl T (h 4)
variable (ik:KD P w K mg base CX0 5 "_law_same" (K6 K Z))
inductive xy (K:WA)(Z:Adr)(vs:List V)(H:Hp)(Q:VK)(E:XK):Prop | mk (p dl cl ll:Addr) (ds:List Int) (ls:List Cd) (slow fast:Int) (lds:List Ld) (N0:Addr->Prop):vs=[.ref p]->eI K H p dl cl ll (ij ds ls slow fast lds N0) lds->cC ds->ls.length=ds.length->((∀x∈ls,eX x))->((1<=slow/\slow<=fast/\fast<=500))->lds.length<=30->((∀x∈lds,je (ds.length:Nat) x))->(∀(w bk rl:Addr) (N:Addr->Prop) (H':Hp),av H H'->H rl=none->H w=none->WAt (clZ Z) K H' w bk rl (ij ds ls slow fast lds N) (iV ds ls lds) []->Q (.ref w) H')->xy K Z vs H Q E
include T vT in
theorem La:FF P w K mg base (CXf P w) 5 "_law_made" "_law_made" zU Fx (xy K Z):=fkF fX fun vs H Q E h=>by
 obtain ⟨p,dl,cl,ll,ds,ls,slow,fast,lds,N0,rfl,hP,hsh,hlen,hg,hsp,h30,hld,q⟩:=h
 k_all
 refine @seg _ _ _ 6 _ (@ah _ _ _ (aA (pv' 7))) fun zt6 zh6 ze6=>?_
 refine @seg _ _ _ 5 _ (@ae _ _ _ _ _ (@bb _ _ _ _ (zg PySem.F.plainAttrs_list PySem.F.slot_list_clear PySem.F.type_list_clear Cs (ao ax (pv' 6) af)) (by rfl)) zh6) fun zt5 zh5 ze5=>?_
 refine @seg _ _ _ 4 _ (@ae _ _ _ _ _ (@bb _ _ _ _ (zg PySem.F.plainAttrs_list PySem.F.slot_list_clear PySem.F.type_list_clear Cs (ao ax (pv' 6) af)) (by rfl)) zh5) fun zt4 zh4 ze4=>?_
 refine @seg _ _ _ 3 _ (@ae _ _ _ _ _ (kO af (wo (ao ax (pv' 6) af) (fB cN af) ja)) zh4) fun zt3 zh3 ze3=>?_
 refine @seg _ _ _ 2 _ (@ae _ _ _ _ _ (@aG _ _ 7 _ _ _ _ fX.nd rfl orL (dn vT hr.dn T.OQ bC (dY (ao ax (pv' 6) af) (pa4 (ao ax (pv' 6) af) (pv' 3) (pv' 4) (ao ax (pv' 6) af)))) (by rfl) hfA) zh3) fun zt2 zh2 ze2=>?_
 refine @seg _ _ _ 1 _ (@ae _ _ _ _ _ (@aG _ _ 6 _ _ _ _ fX.nd rfl orL (bh (pa3 (bg bH (by rfl) T.eO dG (pa1 (pv' 1))) (bg bH (by rfl) T.eO dG (pa1 (pv' 2))) (bg bH (by rfl) T.eO dG (pa1 (pv' 5))))) (by rfl) hfA) zh2) fun zt1 zh1 ze1=>?_
 refine ⟨_,@ae _ _ _ _ _ (kO (pv' 0) (JF rfl (aI (aE (i:=1) fX.nd rfl orL) (aI (aE (i:=2) fX.nd rfl orL) (aI (aE (i:=3) fX.nd rfl orL) (aI (aE (i:=4) fX.nd rfl orL) (aI (aE (i:=5) fX.nd rfl orL) de))))))) zh1,?_⟩
 obtain ⟨hp,hdl,⟨as,hcl,hT⟩,⟨bs,hll,hT2⟩,_⟩:=id hP
 replace hdl:H dl=some (HO.lst (ds.map V.int)):=hdl
 replace hp:H p=some (HO.lst [V.ref dl,V.ref cl,V.int slow,V.int fast,V.ref ll]):=hp
 replace hT:dz cdV K H as ls:=hT
 have l2:=hsh.l2
 have l6:=hsh.l6
 k_mem
 refine ⟨_,SqL.of hp,rfl,?_⟩
 k_mem
 refine ⟨_,.inl (SqL.of hdl),fun p1 hp1=>⟨_,.inl (SqL.of (upo hcl hp1)),fun p2 hp2=>⟨_,.inl (SqL.of (upo (upo hll hp1) hp2)),fun p3 hp3=>⟨by decide,fun h hh=>?_⟩⟩⟩⟩
 have s2:=(((((av.refl H).lay (o:=HO.lst (ds.map V.int)) hp1).lay (o:=HO.lst (as.map V.ref)) hp2).lay (o:=HO.lst (bs.map V.ref)) hp3).lay (o:=HO.lst [V.ref p1,V.ref p2,V.ref p3]) hh)
 have q1:upd (upd (upd (upd H p1 (HO.lst (ds.map V.int))) p2 (HO.lst (as.map V.ref))) p3 (HO.lst (bs.map V.ref))) h (HO.lst [V.ref p1,V.ref p2,V.ref p3]) p1=some (HO.lst (ds.map V.int)):=upo (upo (upo ag hp2) hp3) hh
 have q2:upd (upd (upd (upd H p1 (HO.lst (ds.map V.int))) p2 (HO.lst (as.map V.ref))) p3 (HO.lst (bs.map V.ref))) h (HO.lst [V.ref p1,V.ref p2,V.ref p3]) p2=some (HO.lst (as.map V.ref)):=upo (upo ag hp3) hh
 have q3:upd (upd (upd (upd H p1 (HO.lst (ds.map V.int))) p2 (HO.lst (as.map V.ref))) p3 (HO.lst (bs.map V.ref))) h (HO.lst [V.ref p1,V.ref p2,V.ref p3]) p3=some (HO.lst (bs.map V.ref)):=upo ag hh
 have q4:upd (upd (upd (upd H p1 (HO.lst (ds.map V.int))) p2 (HO.lst (as.map V.ref))) p3 (HO.lst (bs.map V.ref))) h (HO.lst [V.ref p1,V.ref p2,V.ref p3]) h=some (HO.lst [V.ref p1,V.ref p2,V.ref p3]):=ag
 have f1:=hp1
 have f2:=upn hp2
 have f3:=upn (upn hp3)
 have n12:p1≠p2:=ak ag hp2
 have n13:p1≠p3:=ak (upo ag hp2) hp3
 have n23:p2≠p3:=ak ag hp3
 have nh1:p1≠h:=ak (upo (upo ag hp2) hp3) hh
 have nh2:p2≠h:=ak (upo ag hp3) hh
 have nh3:p3≠h:=ak ag hh
 generalize upd (upd (upd (upd H p1 (HO.lst (ds.map V.int))) p2 (HO.lst (as.map V.ref))) p3 (HO.lst (bs.map V.ref))) h (HO.lst [V.ref p1,V.ref p2,V.ref p3])=H2 at *
 k_upd
 refine ⟨_,SqL.of q4,_,rfl,_,SqL.of q4,_,rfl,_,SqL.of q4,_,rfl,?_⟩
 refine fun x dx hx hdx nxd=>?_
 have hx':upd H2 dx (.own x) x=none:=by rw [aN (Ne.symm nxd)];exact hx
 have sx:=((av.refl H2).lay (o:=HO.own x) hdx).lay (o:=HO.ins Z.bw dx []) hx'
 k_upd
 refine ⟨x,dx,p1,p2,p3,ds,ls,lds,slow,fast,fun z=>z=p1\/z=p2\/z=p3,rfl,ag,sx.seq (SqL.of q1),⟨as,sx.seq (SqL.of q2),(hT.same s2).same sx⟩,⟨bs,sx.seq (SqL.of q3),(hT2.same s2).same sx⟩,by omega,by omega,by omega,?_,fun h=>absurd hsh h,fun _ h=>absurd ⟨by omega,hg⟩ h,fun _ _ h=>absurd hsp h,fun _ _ _ h=>absurd ⟨h30,hld⟩ h,fun _ _ _ _ bk rl H3 kx hrl hW=>⟨rfl,?_⟩⟩
 ·rintro z (rfl | rfl | rfl)
  ·k_upd
   exact ⟨_,sx _ _ q1⟩
  ·k_upd
   exact ⟨_,sx _ _ q2⟩
  ·k_upd
   exact ⟨_,sx _ _ q3⟩
 have s3:=ig hx hdx kx
 have frl:H2 rl=none:=gm hrl
 clear kx hrl sx
 k_mem
 refine ⟨_,SqL.of (s3 _ _ q4),_,rfl,_,s3 _ _ q1,ds.length - 1,by rw [WB];exact QO (by omega),?_⟩
 have k4:L2.aD p1 H3 (upd H3 p1 (HO.lst ((ds.map V.int).set (ds.length - 1) (V.int 777)))):=(aD.of (av.refl H3)).put
 have e4:upd H3 p1 (HO.lst ((ds.map V.int).set (ds.length - 1) (V.int 777))) p1=some (HO.lst ((ds.map V.int).set (ds.length - 1) (V.int 777))):=ag
 generalize upd H3 p1 (HO.lst ((ds.map V.int).set (ds.length - 1) (V.int 777)))=H4 at *
 have hW4:=hW.own (.inl rfl) k4 e4
 have s4:av H H4:=(s2.trans s3).keeps k4 f1
 have r2:=k4 _ _ n12.symm (s3 _ _ q2)
 have r3:=k4 _ _ n13.symm (s3 _ _ q3)
 have r4:=k4 _ _ nh1.symm (s3 _ _ q4)
 k_mem
 refine ⟨_,SqL.of r4,_,rfl,.inl ⟨rfl,_,SqL.of r2⟩,?_⟩
 k_mem
 refine ⟨_,r2,?_⟩
 have k5:L2.aD p2 H4 (upd H4 p2 (HO.lst [])):=(aD.of (av.refl H4)).put
 have e5:upd H4 p2 (HO.lst []) p2=some (HO.lst []):=ag
 generalize upd H4 p2 (HO.lst [])=H5 at *
 have hW5:=hW4.own (.inr (.inl rfl)) k5 e5
 have s5:av H H5:=s4.keeps k5 f2
 have u3:=k5 _ _ n23.symm r3
 have u4:=k5 _ _ nh2.symm r4
 k_mem
 refine ⟨_,SqL.of u4,_,rfl,.inl ⟨rfl,_,SqL.of u3⟩,?_⟩
 k_mem
 refine ⟨_,u3,?_⟩
 have k6:L2.aD p3 H5 (upd H5 p3 (HO.lst [])):=(aD.of (av.refl H5)).put
 have e6:upd H5 p3 (HO.lst []) p3=some (HO.lst []):=ag
 have hW6:=hW5.own (.inr (.inr rfl)) k6 e6
 k_upd
 exact q x bk rl _ _ (s5.keeps k6 f3) (s2.free frl) (s2.free hx) hW6
variable (v8:KD P w K mg base (CXf P w) 5 "_law_made" (xy K Z))
noncomputable def oU (K:WA)(Z:Adr):Sp:=fun vs H Q E=>False
include T pd EC BP EE mU in
theorem yM:FF P w K mg base CX0 6 "fewest_table" "fewest_table" jt pL (oU K Z):=fk0 yu fun vs H Q E h=>False.elim h
variable (AM:KD P w K mg base CX0 6 "fewest_table" (oU K Z))
noncomputable def sW (K:WA)(Z:Adr):Sp:=fun vs H Q E=>False
include T BS in
theorem BX:FF P w K mg base CX0 6 "wind_first" "wind_first" nL uX (sW K Z):=fk0 Bl fun vs H Q E h=>False.elim h
variable (EF:KD P w K mg base CX0 6 "wind_first" (sW K Z))
inductive fV (K:WA)(Z:Adr)(vs:List V)(H:Hp)(Q:VK)(E:XK):Prop | mk (w bk rl:Addr) (g:Cfg) (n0:aS) (rs:List Row) (lv:Int):vs=[.ref w,.int lv]->WAt (clZ Z) K H w bk rl g n0 rs->g.ls.length<=1000->g.ks.length=(aj n0 rs).ws.length->(aj n0 rs).gates.length=g.ds.length->((¬(0<=lv/\lv < g.ds.length)->∀H',av H H'->E (.ref Z.ay) none H'))->((0<=lv->lv < g.ds.length->(aj n0 rs).gates.getD lv.toNat false=true->∀H',av H H'->E (.ref Z.aU) none H'))->((0<=lv->lv < g.ds.length->(aj n0 rs).gates.getD lv.toNat false=false->yj Z K H w bk rl g n0 rs (.opn lv) Q E))->fV K Z vs H Q E
include T eT in
theorem uk:FF P w K mg base (CXf P w) 6 "open_gate" "Works.open_gate" gv ku (fV K Z):=fkF tG fun vs H Q E h=>by
 obtain ⟨w,bk,rl,g,n0,rs,lv,rfl,hW,hls,hks,hgl2,q1,q2,q3⟩:=h
 k_all
 refine ⟨_,@ah _ _ _ (aA (dm' (pv' 0) eT hr.dn bC (pa3 aB (pv' 1) iS))),?_⟩
 obtain ⟨dx,dl,gl,hob,_⟩:=id hW.ob
 k_mem
 exact mgo hob rfl ⟨_,_,_,_,_,_,_,_,_,_,rfl,hW,hls,hks,hgl2,.inl ⟨rfl,rfl,rfl⟩,q1,q2,q3⟩
variable (kJ:KM P w K mg base (CXf P w) 6 Z.bw "open_gate" (fV K Z))
inductive fW (K:WA)(Z:Adr)(vs:List V)(H:Hp)(Q:VK)(E:XK):Prop | mk (w bk rl:Addr) (g:Cfg) (n0:aS) (rs:List Row) (lv:Int):vs=[.ref w,.int lv]->WAt (clZ Z) K H w bk rl g n0 rs->g.ls.length<=1000->g.ks.length=(aj n0 rs).ws.length->(aj n0 rs).gates.length=g.ds.length->((¬(0<=lv/\lv < g.ds.length)->∀H',av H H'->E (.ref Z.ay) none H'))->((0<=lv->lv < g.ds.length->(aj n0 rs).gates.getD lv.toNat false=false->∀H',av H H'->E (.ref Z.aU) none H'))->((0<=lv->lv < g.ds.length->(aj n0 rs).gates.getD lv.toNat false=true->yj Z K H w bk rl g n0 rs (.sht lv) Q E))->fW K Z vs H Q E
include T eT in
theorem um:FF P w K mg base (CXf P w) 6 "shut_gate" "Works.shut_gate" gw kv (fW K Z):=fkF tH fun vs H Q E h=>by
 obtain ⟨w,bk,rl,g,n0,rs,lv,rfl,hW,hls,hks,hgl2,q1,q2,q3⟩:=h
 k_all
 refine ⟨_,@ah _ _ _ (aA (dm' (pv' 0) eT hr.dn bC (pa3 aB (pv' 1) iS))),?_⟩
 obtain ⟨dx,dl,gl,hob,_⟩:=id hW.ob
 k_mem
 exact mgo hob rfl ⟨_,_,_,_,_,_,_,_,_,_,rfl,hW,hls,hks,hgl2,.inr ⟨rfl,rfl,rfl⟩,q1,q2,q3⟩
variable (kK:KM P w K mg base (CXf P w) 6 Z.bw "shut_gate" (fW K Z))
inductive l9 (K:WA)(Z:Adr)(vs:List V)(H:Hp)(Q:VK)(E:XK):Prop | mk (w bk rl:Addr) (g:Cfg) (n0:aS) (rs:List Row) (k c:Int):vs=[.ref w,.int k,.int c]->WAt (clZ Z) K H w bk rl g n0 rs->g.ls.length<=1000->g.ks.length=(aj n0 rs).ws.length->cC g.ds->(aj n0 rs).gates.length=g.ds.length->g.goals.length=(aj n0 rs).ws.length->0<=c->c < 2->((¬(0<=k/\k < (aj n0 rs).ws.length)->∀H',av H H'->E (.ref Z.aH) none H'))->((0<=k->k < (aj n0 rs).ws.length->(∀l,bN g.ds (aj n0 rs).place c=some l->(aj n0 rs).ws.getD k.toNat 0≠l)->∀H',av H H'->E (.ref Z.aV) none H'))->((∀l,0<=k->k < (aj n0 rs).ws.length->bN g.ds (aj n0 rs).place c=some l->(aj n0 rs).ws.getD k.toNat 0=l->10+c∈(aj n0 rs).ws->∀H',av H H'->E (.ref Z.cG) none H'))->((∀l,0<=k->k < (aj n0 rs).ws.length->bN g.ds (aj n0 rs).place c=some l->(aj n0 rs).ws.getD k.toNat 0=l->¬10+c∈(aj n0 rs).ws->(aj n0 rs).gates.getD l.toNat false=false->∀H',av H H'->E (.ref Z.cT) none H'))->((∀l,0<=k->k < (aj n0 rs).ws.length->bN g.ds (aj n0 rs).place c=some l->(aj n0 rs).ws.getD k.toNat 0=l->¬10+c∈(aj n0 rs).ws->(aj n0 rs).gates.getD l.toNat false=true->yj Z K H w bk rl g n0 rs (.load k c) Q E))->l9 K Z vs H Q E
include T i5 aM fi cP yg bK bj fq in
theorem BY:FF P w K mg base (CXf P w) 6 "load" "Works.load" nQ u7 (l9 K Z):=fkF lz fun vs H Q E h=>by
 obtain ⟨w,bk,rl,g,n0,rs,k,c,rfl,hW,hls,hks,hsh,hgl2,hgo,h0,h1,q1,q2,q3,q4,q5⟩:=h
 k_all
 refine @seg _ _ _ 6 _ (@ah _ _ _ (aA (dm' (pv' 0) bK hr.dn bC (pa3 (aK (pa3 aB (pv' 1) (pv' 2))) af (pv' 3))))) fun zt6 zh6 ze6=>?_
 refine @seg _ _ _ 5 _ (@ae _ _ _ _ _ (@bb _ _ _ _ (dm' (pv' 0) cP hr.dn bC (pa1 (pv' 4))) (by rfl)) zh6) fun zt5 zh5 ze5=>?_
 refine @seg _ _ _ 4 _ (@ae _ _ _ _ _ (@bb _ _ _ _ (dm' (aw (pv' 3)) yg hr.dn bC (pa2 (pv' 1) (pv' 2))) (by rfl)) zh5) fun zt4 zh4 ze4=>?_
 refine @seg _ _ _ 3 _ (@ae _ _ _ _ _ (aQ (pe (DJ (pv' 4) eV) (kM (uJ (ao ax (dR (aw (pv' 3)) i5 hr.dn br) (pv' 1)) (pv' 4)))).pt (@ah _ _ _ (bz T.tP (by rfl) T.nV (pa1 aB))) (aC)) zh4) fun zt3 zh3 ze3=>?_
 refine @seg _ _ _ 2 _ (@ae _ _ _ _ _ (@aG _ _ 4 _ _ _ _ lz.nd rfl orL (dm' (pv' 0) fq hr.dn br (pa1 (pv' 2))) (by rfl) hfA) zh3) fun zt2 zh2 ze2=>?_
 refine @seg _ _ _ 1 _ (@ae _ _ _ _ _ (@bb _ _ _ _ (dc fi hr.dn bC (pa2 (pv' 1) (aF az (by rfl) T.bY bu (pa1 (aw (pv' 0)))))) (by rfl)) zh2) fun zt1 zh1 ze1=>?_
 refine ⟨_,@ae _ _ _ _ _ (@aG _ _ 3 _ _ _ _ lz.nd rfl orL (dR (dR (aw (pv' 0)) aM hr.dn br) bj hr.dn br) (by rfl) hfA) zh1,?_⟩
 obtain ⟨⟨dx,dl,gl,hob,hdl,hgl,n1,n2⟩,hB⟩:=id hW
 obtain ⟨⟨db,f0,hbo,hF⟩,as,hrl,hR⟩:=id hB
 k_mem
 refine fgo hob T.aZ T.aX rfl ?_
 k_mem
 refine mgo hbo rfl ⟨_,_,_,_,_,rfl,hB,fun s0 ⟨A0,hA0⟩=>?_⟩
 k_mem
 refine mgo hA0.ob rfl ⟨_,_,_,_,_,rfl,hA0.at,hrl,hls,fun s1 A H1 e1 hs1 ho1 hb1 hf1 hy1 hw1 hA=>?_⟩
 have hW1:=hW.same e1
 have hob1:=e1 _ _ hob
 have hbo1:=e1 _ _ hbo
 have hrl1:=e1 _ _ hrl
 have hdl1:=e1 _ _ hdl
 k_mem
 refine fgo hob1 T.aZ T.jF rfl ?_
 k_mem
 refine ⟨_,.inl (SqL.of (e1 _ _ hgl)),_,_,rfl,?_⟩
 rw [WB,hgo]
 k_upd
 refine ⟨fun hk=>?_,fun h=>q1 h _ e1⟩
 k_mem
 refine mgo hob1 rfl ⟨_,_,_,_,_,_,_,rfl,hW1,hsh,h0,h1,fun H2 f2=>?_⟩
 have e2:=e1.trans f2
 replace hA:=hA.same f2
 k_mem
 cases hc:bN g.ds (aj n0 rs).place c with
 | none=>
  rw [if_pos (show lvV none=V.non from rfl)]
  k_upd
  exact ⟨by decide,q2 hk.1 hk.2 (fun l e=>by rw [hc] at e;cases e) _ e2⟩
 | some l=>
  obtain ⟨l0,l1,_⟩:=fM hc
  have l6:=hsh.l6
  k_upd
  rw [if_neg (show ¬(lvV (some l)=V.non) from fun z=>V.noConfusion z)]
  k_upd
  refine fgo hA.ob T.aO T.bQ rfl ?_
  k_mem
  obtain ⟨dy,hyb⟩:=hA.ya.ob
  k_upd
  refine ⟨_,_,hyb,rfl,_,_,_,_,_,_,rfl,hA.ya,fun p hp=>?_⟩
  have e3:=e2.lay (o:=HO.lst ((aj n0 rs).ws.map V.int)) hp
  have f3:=(av.refl H2).lay (o:=HO.lst ((aj n0 rs).ws.map V.int)) hp
  have hq3:upd H2 p (HO.lst ((aj n0 rs).ws.map V.int)) p=some (HO.lst ((aj n0 rs).ws.map V.int)):=ag
  replace hA:=hA.same f3
  generalize upd H2 p (HO.lst ((aj n0 rs).ws.map V.int))=H3 at *
  k_mem
  refine ⟨_,SqL.of hq3,_,dZ hk.1 hk.2,?_⟩
  simp only [lvV]
  k_mem
  split
  ·rename_i hne
   k_upd
   exact ⟨by decide,q2 hk.1 hk.2 (fun l' e=>by rw [hc] at e;cases e;exact hne) _ e3⟩
  ·rename_i hne
   have heq:(aj n0 rs).ws.getD k.toNat 0=l:=Decidable.not_not.mp hne
   k_upd
   refine fgo hA.ob T.aO T.bQ rfl ?_
   k_mem
   obtain ⟨dy,hyb⟩:=hA.ya.ob
   k_upd
   refine ⟨_,_,hyb,rfl,_,_,_,_,_,_,_,_,rfl,hA.ya,h0,h1,fun h=>absurd hk h,fun _ _ h=>by omega,fun _ _ _ h H' s'=>q3 l hk.1 hk.2 hc heq h H' (e3.trans s'),fun _ _ _ hni H4 k4 hw4=>?_⟩
   have e4:=e3.keeps k4 hw1
   have hA4:=hA.spots k4 hw4
   clear k4 hw4
   k_mem
   refine mgo (e4 _ _ hob) rfl ⟨_,_,_,_,_,_,_,rfl,hW.same e4,l0,by omega,fun hg=>?_,fun hg=>q4 l hk.1 hk.2 hc heq hni hg _ e4⟩
   have h3:=q5 l hk.1 hk.2 hc heq hni hg
   k_mem
   refine ⟨_,_,e4 _ _ hob,rfl,by decide,fun p hp=>?_⟩
   have e5:=e4.lay (o:=HO.tup [V.str (Str.ofString "load"),V.int k,V.int c]) hp
   have f5:=(av.refl H4).lay (o:=HO.tup [V.str (Str.ofString "load"),V.int k,V.int c]) hp
   k_upd
   refine ⟨_,_,_,_,_,_,p,s1,1,ddV (.load k c),c8 g (aj n0 rs) (.load k c),rfl,hW.same e5,SqT.of (by rw [ag];rfl),?_,?_,fun h H' s'=>h3.1 h H' (e5.trans s'),fun h H' k9 hWn=>?_⟩
   ·exact (bf.at hA4).same f5
   ·rw [hks];first | rfl | simp only [c8,List.length_set]
   ·k_upd
    exact h3.2 h H' ((aD.of e5).trans k9) hWn
variable (v9:KM P w K mg base (CXf P w) 6 Z.bw "load" (l9 K Z))
inductive iQ (K:WA)(Z:Adr)(vs:List V)(H:Hp)(Q:VK)(E:XK):Prop | mk (w bk rl:Addr) (g:Cfg) (n0:aS) (rs:List Row) (c:Int):vs=[.ref w,.int c]->WAt (clZ Z) K H w bk rl g n0 rs->g.ls.length<=1000->g.ks.length=(aj n0 rs).ws.length->cC g.ds->(aj n0 rs).gates.length=g.ds.length->0<=c->c < 2->((¬10+c∈(aj n0 rs).ws->∀H',av H H'->E (.ref Z.aP) none H'))->((10+c∈(aj n0 rs).ws->bN g.ds (aj n0 rs).place c=none->∀H',av H H'->E (.ref Z.aV) none H'))->((∀l,10+c∈(aj n0 rs).ws->bN g.ds (aj n0 rs).place c=some l->(aj n0 rs).gates.getD l.toNat false=false->∀H',av H H'->E (.ref Z.cT) none H'))->((∀l,10+c∈(aj n0 rs).ws->bN g.ds (aj n0 rs).place c=some l->(aj n0 rs).gates.getD l.toNat false=true->yj Z K H w bk rl g n0 rs (.unload c) Q E))->iQ K Z vs H Q E
include T cU aM cP AB bK bj fq in
theorem yN:FF P w K mg base (CXf P w) 6 "unload" "Works.unload" jy pP (iQ K Z):=fkF iG fun vs H Q E h=>by
 obtain ⟨w,bk,rl,g,n0,rs,c,rfl,hW,hls,hks,hsh,hgl2,h0,h1,q1,q2,q3,q4⟩:=h
 k_all
 refine @seg _ _ _ 6 _ (@ah _ _ _ (aA (dm' (pv' 0) bK hr.dn bC (pa3 (aK (pa2 aB (pv' 1))) af (pv' 2))))) fun zt6 zh6 ze6=>?_
 refine @seg _ _ _ 5 _ (@ae _ _ _ _ _ (@bb _ _ _ _ (dm' (aw (pv' 2)) AB hr.dn bC (pa2 (pv' 1) (pv' 3))) (by rfl)) zh6) fun zt5 zh5 ze5=>?_
 refine @seg _ _ _ 4 _ (@ae _ _ _ _ _ (@bb _ _ _ _ (dm' (pv' 0) cP hr.dn bC (pa1 (pv' 3))) (by rfl)) zh5) fun zt4 zh4 ze4=>?_
 refine @seg _ _ _ 3 _ (@ae _ _ _ _ _ (aQ (DJ (pv' 3) eV) (@ah _ _ _ (bz T.tP (by rfl) T.nV (pa1 aB))) (aC)) zh4) fun zt3 zh3 ze3=>?_
 refine @seg _ _ _ 2 _ (@ae _ _ _ _ _ (@aG _ _ 3 _ _ _ _ iG.nd rfl orL (dm' (pv' 0) fq hr.dn br (pa1 (pv' 1))) (by rfl) hfA) zh3) fun zt2 zh2 ze2=>?_
 refine @seg _ _ _ 1 _ (@ae _ _ _ _ _ (aQ (DJ (dm' (aw (pv' 2)) cU hr.dn br (pa1 (pv' 1))) eV) (@ah _ _ _ (bz T.yb (by rfl) T.qg (pa1 aB))) (aC)) zh2) fun zt1 zh1 ze1=>?_
 refine ⟨_,@ae _ _ _ _ _ (@aG _ _ 2 _ _ _ _ iG.nd rfl orL (dR (dR (aw (pv' 0)) aM hr.dn br) bj hr.dn br) (by rfl) hfA) zh1,?_⟩
 obtain ⟨⟨dx,dl,gl,hob,hdl,hgl,n1,n2⟩,hB⟩:=id hW
 obtain ⟨⟨db,f0,hbo,hF⟩,as,hrl,hR⟩:=id hB
 k_mem
 refine fgo hob T.aZ T.aX rfl ?_
 k_mem
 refine mgo hbo rfl ⟨_,_,_,_,_,rfl,hB,fun s0 ⟨A0,hA0⟩=>?_⟩
 k_mem
 refine mgo hA0.ob rfl ⟨_,_,_,_,_,rfl,hA0.at,hrl,hls,fun s1 A H1 e1 hs1 ho1 hb1 hf1 hy1 hw1 hA=>?_⟩
 have hW1:=hW.same e1
 have hob1:=e1 _ _ hob
 have hbo1:=e1 _ _ hbo
 have hrl1:=e1 _ _ hrl
 have hdl1:=e1 _ _ hdl
 k_mem
 refine fgo hA.ob T.aO T.bQ rfl ?_
 k_mem
 obtain ⟨dy,hyb⟩:=hA.ya.ob
 k_upd
 refine ⟨_,_,hyb,rfl,_,_,_,_,_,_,_,rfl,hA.ya,h0,h1,fun H2 f2=>?_⟩
 have e2:=e1.trans f2
 replace hA:=hA.same f2
 k_mem
 by_cases hm:10+c∈(aj n0 rs).ws
 ·rw [inC,if_pos hm]
  k_upd
  rw [if_neg (show ¬(V.int _=V.non) from fun z=>V.noConfusion z)]
  k_mem
  refine mgo (e2 _ _ hob) rfl ⟨_,_,_,_,_,_,_,rfl,hW.same e2,hsh,h0,h1,fun H3 f3=>?_⟩
  have e3:=e2.trans f3
  replace hA:=hA.same f3
  k_mem
  cases hc:bN g.ds (aj n0 rs).place c with
  | none=>
   rw [if_pos (show lvV none=V.non from rfl)]
   k_upd
   exact ⟨by decide,q2 hm hc _ e3⟩
  | some l=>
   obtain ⟨l0,l1,_⟩:=fM hc
   k_upd
   rw [if_neg (show ¬(lvV (some l)=V.non) from fun z=>V.noConfusion z)]
   k_mem
   refine mgo (e3 _ _ hob) rfl ⟨_,_,_,_,_,_,_,rfl,hW.same e3,l0,by omega,fun hg=>?_,fun hg=>q3 l hm hc hg _ e3⟩
   have h3:=q4 l hm hc hg
   k_mem
   refine fgo hA.ob T.aO T.bQ rfl ?_
   k_mem
   obtain ⟨dy,hyb⟩:=hA.ya.ob
   k_upd
   refine ⟨_,_,hyb,rfl,_,_,_,_,_,_,_,_,rfl,hA.ya,h0,h1,fun h=>absurd ⟨l0,l1⟩ h,fun _ _ h=>absurd hm h,fun _ _ _ H4 k4 hw4=>?_⟩
   have e4:=e3.keeps k4 hw1
   have hA4:bf (clZ Z) K H4 rl g s1 A (c8 g (aj n0 rs) (.unload c)):=by
    have:=hA.spots k4 hw4
    simp only [c8,hc,Option.getD_some]
    exact this
   clear k4 hw4
   k_mem
   refine ⟨_,_,e4 _ _ hob,rfl,by decide,fun p hp=>?_⟩
   have e5:=e4.lay (o:=HO.tup [V.str (Str.ofString "unload"),V.int c]) hp
   have f5:=(av.refl H4).lay (o:=HO.tup [V.str (Str.ofString "unload"),V.int c]) hp
   k_upd
   refine ⟨_,_,_,_,_,_,p,s1,1,ddV (.unload c),c8 g (aj n0 rs) (.unload c),rfl,hW.same e5,SqT.of (by rw [ag];rfl),?_,?_,fun h H' s'=>h3.1 h H' (e5.trans s'),fun h H' k hWn=>?_⟩
   ·exact (bf.at hA4).same f5
   ·rw [hks];first | rfl | simp only [c8,List.length_set]
   ·k_upd
    exact h3.2 h H' ((aD.of e5).trans k) hWn
 ·rw [inC,if_neg hm]
  k_upd
  rw [if_pos rfl]
  k_upd
  exact ⟨by decide,q1 hm _ e2⟩
variable (qW:KM P w K mg base (CXf P w) 6 Z.bw "unload" (iQ K Z))
noncomputable def Nk (g:Cfg)(n:aS)(t:Int):List Dt:=[.flat (.int t),.tup ((kS n.e).map Dt.flat),.lst ((n.gates.map V.bl).map Dt.flat),.lst (((c9 n.fs).map V.int).map Dt.flat),.tup ([V.int n.place,V.int (cw g.ds - n.place)].map Dt.flat),.lst ((n.ws.map V.int).map Dt.flat)]
noncomputable def PJ (ws:List Int):Dt:=.lst [.flat (inC ws 0),.flat (inC ws 1)]
def OZ (H:Hp)(held:Addr)(ws:List Int)(a0 a1 a2 a3 a4 a5 a6 a7 a8 a9:V)(i:Nat)(σ:St)(H':Hp):Prop:=aD held H H'/\(∃x0 x1,H' held=some (.lst [x0,x1])/\HV ws i 0 x0/\HV ws i 1 x1)/\∃t,σ=[some a0,some a1,some a2,some a3,some a4,some a5,some a6,some a7,some a8,some a9,some (.ref held),t,none,none,none]
inductive xA (K:WA)(Z:Adr)(vs:List V)(H:Hp)(Q:VK)(E:XK):Prop | mk (H0:Hp) (wk bk rl p dl cl ll sl wl:Addr) (g:Cfg) (lds:List Ld) (n0:aS) (rs:List Row):vs=[.ref wk,.ref p,.ref sl,.ref wl]->oW (clZ Z) K H0 H p dl cl ll wk bk rl sl wl g lds n0 rs->rs.length<=300->(∀H',av H H'->Q (.bl true) H')->xA K Z vs H Q E
include T kF vM qL oy sR lV fL hZ fj ik in
theorem Lb:FF P w K mg base (CXf P w) 6 "_law_view" "_law_view" jE FC (xA K Z):=fkF dN fun vs H Q E h=>by
 obtain ⟨H0,wk,bk,rl,p,dl,cl,ll,sl,wl,g,lds,n0,rs,rfl,hX,h300,q⟩:=h
 k_all
 obtain ⟨t2,h2,k2⟩:∃t,PSs (cxF P w K mg base ["_law_works","_law_setup_here","_law_states","_law_rows","_law_place","_law_gates","_law_lying","_law_heard_here","_law_dead","_law_clock","_law_held","_law_k","_law_waits","_law_due","_law_found"] "_law_view" (ai jE) zf zv zA zo zs H E) ((bZ jE).drop 5) t/\∀(gt lt ht dt held waits due:Addr) (kk:Option V) (dv:List V) (H1:Hp),av H H1->SqT K H1 gt ((aj n0 rs).gates.map V.bl)->H1 due=some (.lst dv)->dv.length=6->mh K H1 3 dv (Nk g (aj n0 rs) (bX rs))->Rep K H1 3 (.ref held) (PJ (aj n0 rs).ws)->Rep K H1 3 (.ref waits) (Ig (aj n0 rs).ws g.ds.length)->t ({nx:=fun _ H2=>Q .non H2,rt:=Q}:j1) [some (.ref wk),some (.ref p),some (.ref sl),some (.ref wl),some (.int (aj n0 rs).place),some (.ref gt),some (.ref lt),some (.ref ht),some (.ref dt),some (.int (bX rs)),some (.ref held),kk,some (.ref waits),some (.ref due),none] H1:=by
  refine @seg _ _ _ 3 _ (@ah _ _ _ (aA (dc0 ik hr.dn (pa2 (aT gp (pv' 14) (bh (pa1 (dR (pv' 0) vM hr.dn br)))) (aT gp (pv' 13) (bh (pa3 (pv' 10) (pv' 12) (pv' 3)))))))) fun zt3 zh3 ze3=>?_
  refine @seg _ _ _ 2 _ (@ae _ _ _ _ _ (@bb _ _ _ _ (kg PySem.F.plainAttrs_list PySem.F.slot_list_append PySem.F.type_list_append cK (pv' 14) (pa1 (kh ["_law_at_here","_law_works"] [none,some 0] (bA (by rfl) T.cB (pa1 (aF az (by rfl) T.bY bu (pa1 (pv' 5))))) (fun _ _ _ _=>(aE (i:=0) (show (["_law_at_here","_law_works"]:List Str).Nodup by decide +kernel) rfl orL)) (fun _ _ _ _=>gf) (fun _ _ _ _=>(dm' (pv' 1) fj.calm0 hr.dn br (pa1 (pv' 0))))))) (by rfl)) zh3) fun zt2 zh2 ze2=>?_
  refine @seg _ _ _ 1 _ (@ae _ _ _ _ _ (@bb _ _ _ _ (kg PySem.F.plainAttrs_list PySem.F.slot_list_append PySem.F.type_list_append cK (pv' 14) (pa1 (bh (pa2 (dm' (pv' 0) fL hr.dn br (pa1 af)) (dm' (pv' 0) fL hr.dn br (pa1 af)))))) (by rfl)) zh2) fun zt1 zh1 ze1=>?_
  refine ⟨_,@ae _ _ _ _ _ (@aG _ _ 14 _ _ _ _ dN.nd rfl orL (bh (dY (dR (pv' 0) kF hr.dn br) (dY (dR (pv' 0) qL hr.dn br) (pa4 (dR (pv' 0) sR hr.dn br) (dR (pv' 0) oy hr.dn br) (dR (pv' 0) hZ hr.dn br) (dR (pv' 0) lV hr.dn br))))) (by rfl) hfA) zh1,?_⟩
  intro gt lt ht dt held waits due kk dv H1 s1 hgt hdue hdv hrep hheld hwaits
  have hW:=(hX.same s1).da.wk
  have hg:=hX.cg
  have hn:=hX.snap
  have gl:=hn.gl
  have wl':=hn.wl
  have k30:=hg.k30
  have l6:=hg.sh.l6
  have l2:=hg.sh.l2
  have fl:=hn.fl
  obtain ⟨⟨dx,dl',gl',hob,_⟩,_⟩:=id hW
  k_mem
  refine mgo hob rfl ⟨_,_,_,_,_,_,rfl,hW,?_⟩
  k_mem
  refine mgo hob rfl ⟨_,_,_,_,_,_,rfl,hW,fun st hst=>?_⟩
  k_mem
  refine mgo hob rfl ⟨_,_,_,_,_,_,rfl,hW,fun p1 hp1=>?_⟩
  (generalize hE:upd H1 p1 _=H2 at *;have s2:=bS hE hp1;have e1:=aY hE;clear hE)
  k_mem
  refine mgo (s2 _ _ hob) rfl ⟨_,_,_,_,_,_,rfl,hW.same s2,by omega,fun p2 H3 hp2 s3 e2=>?_⟩
  have s13:=s2.trans s3
  k_mem
  refine mgo (s13 _ _ hob) rfl ⟨_,_,_,_,_,_,rfl,hW.same s13,by omega,fun p3 hp3=>?_⟩
  (generalize hE:upd H3 p3 _=H4 at *;have s4:=bS hE hp3;have e3:=aY hE;clear hE)
  have s14:=s13.trans s4
  k_mem
  refine mgo (s14 _ _ hob) rfl ⟨_,_,_,_,_,_,rfl,hW.same s14,fun p4 hp4=>?_⟩
  (generalize hE:upd H4 p4 _=H5 at *;have s5:=bS hE hp4;have e4:=aY hE;clear hE)
  have s15:=s14.trans s5
  have hf6:mh K H5 3 [.int (bX rs),.ref st,.ref p1,.ref p2,.ref p3,.ref p4] (Nk g (aj n0 rs) (bX rs)):=
   .cons (.flat rfl) (.cons (ff (s15.tup hst) (by rw [E2];decide) (wH _)) (.cons (Cn (SqL.of (((s3.trans s4).trans s5) _ _ e1)) (by omega)) (.cons (pA (SqL.of ((s4.trans s5) _ _ e2)) (by have:=wM (aj n0 rs).fs;omega)) (.cons (ff (SqT.of (s5 _ _ e3)) (by show 2<=100000;decide) (Ft rfl rfl)) (.cons (pA (SqL.of e4) (by omega)) .nil)))))
  k_mem
  refine ⟨by decide,fun fo hfo=>?_⟩
  (generalize hE:upd H5 fo _=H6 at *;have s6:=bS hE hfo;have e6:=aY hE;clear hE)
  have s16:=s15.trans s6
  k_upd
  refine ⟨.inl ⟨rfl,_,SqL.of e6⟩,?_⟩
  k_upd
  refine mgo (s16 _ _ hob) rfl ⟨_,_,_,_,_,_,_,rfl,hW.same s16,by omega,by omega,fun H7 s7=>?_⟩
  have s17:=s16.trans s7
  k_mem
  refine mgo (s17 _ _ hob) rfl ⟨_,_,_,_,_,_,_,rfl,hW.same s17,by omega,by omega,fun H8 s8=>?_⟩
  have s18:=s17.trans s8
  k_mem
  refine ⟨by decide,fun ic hic=>?_⟩
  (generalize hE:upd H8 ic _=H9 at *;have s9:=bS hE hic;have e9:=aY hE;clear hE)
  have s19:=s18.trans s9
  k_upd
  refine ⟨_,((s7.trans s8).trans s9) _ _ e6,by show 6 < sizeLine;decide,?_⟩
  have k10:L2.aD fo H9 (upd H9 fo (HO.lst ([V.int (bX rs),V.ref st,V.ref p1,V.ref p2,V.ref p3,V.ref p4]++[V.ref ic]))):=(aD.of (av.refl H9)).put
  have e10:upd H9 fo (HO.lst ([V.int (bX rs),V.ref st,V.ref p1,V.ref p2,V.ref p3,V.ref p4]++[V.ref ic])) fo=some (HO.lst [V.int (bX rs),V.ref st,V.ref p1,V.ref p2,V.ref p3,V.ref p4,V.ref ic]):=ag
  have ffo:H5 fo=none:=hfo
  generalize upd H9 fo (HO.lst ([V.int (bX rs),V.ref st,V.ref p1,V.ref p2,V.ref p3,V.ref p4]++[V.ref ic]))=H10 at *
  have nic:ic≠fo:=fun z=>by
   have:=(s7.trans s8) _ _ e6
   rw [←z,hic] at this
   cases this
  have s5A:av H5 H10:=(((s6.trans s7).trans s8).trans s9).keeps k10 ffo
  have s1A:av H1 H10:=s15.trans s5A
  have eicA:H10 ic=some (HO.lst [inC (aj n0 rs).ws 0,inC (aj n0 rs).ws 1]):=k10 _ _ nic e9
  k_mem
  refine ⟨.inl ⟨rfl,_,SqL.of e10⟩,?_⟩
  k_upd
  refine ⟨_,.inr (s1A.tup hgt),by omega,by rw [WB];omega,?_⟩
  rw [WB,Int.toNat_natCast,gl]
  refine uz (fun i acc H'=>av H10 H'/\∃as:List Addr,acc=as.map V.ref/\eR H' (aj n0 rs).ws as i/\∀a∈as,H10 a=none) ⟨av.refl _,[],rfl,eR.nil,fun a h=>by cases h⟩ rfl ?_ ?_
  ·rintro i acc H' hi ⟨sx,as,rfl,hws,hfr⟩
   k_upd
   refine ⟨by rw [WB,hws.1,sizeLine_eq];omega,fun N hN=>?_⟩
   have s1x:=s1A.trans sx
   k_mem
   refine mgo (s1x _ _ hob) rfl ⟨_,_,_,_,_,_,_,rfl,hW.same s1x,by omega,fun _ pp H'' hpp sy epp=>?_,fun z=>absurd ⟨by omega,by omega⟩ z⟩
   refine hN _ _ ⟨sx.trans sy,as++[pp],by rw [List.map_append];rfl,(hws.same sy).push (by rw [Int.zero_add] at epp;exact epp),fun a ha=>?_⟩
   rcases List.mem_append.mp ha with ha | ha
   ·exact hfr a ha
   ·rw [List.mem_singleton] at ha
    rw [ha]
    exact sx.free hpp
  rintro acc HA ⟨sx,as,rfl,hws,hfr⟩ al hal
  (generalize hE:upd HA al _=HB at *;have sy:=bS hE hal;have eal:=aY hE;clear hE)
  have sAB:=sx.trans sy
  k_mem
  refine ⟨_,sAB _ _ e10,by show 7 < sizeLine;decide,?_⟩
  have k11:L2.aD fo HB (upd HB fo (HO.lst ([V.int (bX rs),V.ref st,V.ref p1,V.ref p2,V.ref p3,V.ref p4,V.ref ic]++[V.ref al]))):=(aD.of (av.refl HB)).put
  have e11:upd HB fo (HO.lst ([V.int (bX rs),V.ref st,V.ref p1,V.ref p2,V.ref p3,V.ref p4,V.ref ic]++[V.ref al])) fo=some (HO.lst [V.int (bX rs),V.ref st,V.ref p1,V.ref p2,V.ref p3,V.ref p4,V.ref ic,V.ref al]):=ag
  generalize upd HB fo (HO.lst ([V.int (bX rs),V.ref st,V.ref p1,V.ref p2,V.ref p3,V.ref p4,V.ref ic]++[V.ref al]))=HC at *
  have s5C:av H5 HC:=(s5A.trans sAB).keeps k11 ffo
  have s1C:av H1 HC:=s15.trans s5C
  have eicC:=k11 _ _ nic (sAB _ _ eicA)
  have ealC:=k11 _ _ (fun z=>by have:=sx _ _ e10;rw [←z,hal] at this;cases this) eal
  have hwsC:eR HC (aj n0 rs).ws as g.ds.length:=⟨hws.1,fun j a e=>k11 _ _ (fun z=>by
   have:=hfr a (List.mem_of_getElem? e)
   rw [z,e10] at this
   cases this) (sy _ _ (hws.2 j a e))⟩
  have hWC:=hW.same s1C
  have hX1:=hX.same s1
  obtain ⟨bs,hwl,hB⟩:=hX1.da.ro
  k_mem
  refine mgo (s1C _ _ hob) rfl ⟨_,_,_,_,_,_,rfl,hWC,by omega,fun bp bas HD hbp sD ebp hbt=>?_⟩
  k_mem
  refine ⟨by decide,fun l1 hl1=>?_⟩
  (generalize hE:upd HD l1 _=HE at *;have sE:=bS hE hl1;have eE:=aY hE;clear hE)
  have sCE:=sD.trans sE
  have s1E:=s1C.trans sCE
  k_upd
  refine ⟨_,sCE _ _ e11,_,eE,by show 9<=sizeLine;decide,fun fo2 hfo2=>?_⟩
  have sF:=(av.refl HE).lay (o:=HO.lst ([V.int (bX rs),V.ref st,V.ref p1,V.ref p2,V.ref p3,V.ref p4,V.ref ic,V.ref al]++[V.ref bp])) hfo2
  have eF:upd HE fo2 (HO.lst ([V.int (bX rs),V.ref st,V.ref p1,V.ref p2,V.ref p3,V.ref p4,V.ref ic,V.ref al]++[V.ref bp])) fo2=some (HO.lst [V.int (bX rs),V.ref st,V.ref p1,V.ref p2,V.ref p3,V.ref p4,V.ref ic,V.ref al,V.ref bp]):=ag
  generalize upd HE fo2 (HO.lst ([V.int (bX rs),V.ref st,V.ref p1,V.ref p2,V.ref p3,V.ref p4,V.ref ic,V.ref al]++[V.ref bp]))=HF at *
  have s1F:=s1E.trans sF
  k_upd
  refine ⟨by decide,fun l2 hl2=>?_⟩
  (generalize hE:upd HF l2 _=HG at *;have sG:=bS hE hl2;have eG:=aY hE;clear hE)
  have s1G:=s1F.trans sG
  k_upd
  refine ⟨_,s1G _ _ hdue,_,eG,by rw [hdv];show 9<=sizeLine;decide,fun du2 hdu2=>?_⟩
  (generalize hE:upd HG du2 _=HH at *;have sH:=bS hE hdu2;have eH:=aY hE;clear hE)
  have s1H:=s1G.trans sH
  have sEH:=(sF.trans sG).trans sH
  have hdeeds:=hX.da.run.deeds
  k_upd
  refine ⟨_,_,.lst (Nk g (aj n0 rs) (bX rs)++[PJ (aj n0 rs).ws,Ig (aj n0 rs).ws g.ds.length,Pr rs]),rfl,?_,?_,fun HI sI=>q HI ((s1.trans s1H).trans sI)⟩
  ·refine mh.rep (xs:=[V.int (bX rs),V.ref st,V.ref p1,V.ref p2,V.ref p3,V.ref p4]++[V.ref ic,V.ref al,V.ref bp]) ((hf6.same (((s5C.trans sCE).trans sEH))).append (.cons ?_ (.cons ?_ (.cons ?_ .nil)))) (SqL.of ((sG.trans sH) _ _ eF)) (by show 9<=100000;decide)
   ·exact E4 (SqL.of ((sCE.trans sEH) _ _ eicC)) (.flat (uH _ _)) (.flat (uH _ _))
   ·exact Cr (SqL.of ((sCE.trans sEH) _ _ ealC)) (hwsC.same (sCE.trans sEH)) (by omega) (by omega)
   ·exact Fh (SqL.of ((sE.trans sEH) _ _ ebp)) (hbt.same (sE.trans sEH)) hdeeds (by omega)
  ·refine mh.rep ((hrep.same s1H).append (.cons (hheld.same s1H) (.cons (hwaits.same s1H) (.cons ?_ .nil)))) (SqL.of eH) (by rw [List.length_append,hdv];show 9<=100000;decide)
   exact Fh (SqL.of (s1H _ _ hwl)) (hB.same s1H) hdeeds (by omega)
 obtain ⟨t1,h1,k1⟩:∃t,PSs (cxF P w K mg base ["_law_works","_law_setup_here","_law_states","_law_rows","_law_place","_law_gates","_law_lying","_law_heard_here","_law_dead","_law_clock","_law_held","_law_k","_law_waits","_law_due","_law_found"] "_law_view" (ai jE) zf zv zA zo zs H E) ((bZ jE).drop 3) t/\∀(gt lt ht dt held:Addr) (kk:Option V) (H1:Hp),av H H1->SqT K H1 gt ((aj n0 rs).gates.map V.bl)->H1 lt=some (.tup ((aj n0 rs).ws.map V.int))->SqT K H1 ht (kS (aj n0 rs).e)->SqT K H1 dt ((c9 (aj n0 rs).fs).map V.int)->H1 held=some (.lst [inC (aj n0 rs).ws 0,inC (aj n0 rs).ws 1])->t ({nx:=fun _ H2=>Q .non H2,rt:=Q}:j1) [some (.ref wk),some (.ref p),some (.ref sl),some (.ref wl),some (.int (aj n0 rs).place),some (.ref gt),some (.ref lt),some (.ref ht),some (.ref dt),some (.int (bX rs)),some (.ref held),kk,none,none,none] H1:=by
  refine @seg _ _ _ 1 _ (@ae _ _ _ _ _ (@aG _ _ 13 _ _ _ _ dN.nd rfl orL (bh (dY (pv' 9) (dY (pv' 7) (pa4 (bg bH (by rfl) T.eO dG (pa1 (pv' 5))) (bg bH (by rfl) T.eO dG (pa1 (pv' 8))) (aK (pa2 (pv' 4) (aT dh (ao ax (ao ax (pv' 1) af) (fB cN af)) (pv' 4)))) (bg bH (by rfl) T.eO dG (pa1 (pv' 6))))))) (by rfl) hfA) h2) fun zt1 zh1 ze1=>?_
  refine ⟨_,@ae _ _ _ _ _ (Q5 ["_law_at_here","_law_lying"] "_law_at_here" [none,some 6] (iy:=12) dN.nd rfl rfl (bA (by rfl) T.cB (pa1 (aF az (by rfl) T.bY bu (pa1 (pv' 5))))) (fun _ _ _ _=>(aE (i:=0) (show (["_law_at_here","_law_lying"]:List Str).Nodup by decide +kernel) rfl (Or.inr rfl))) (fun _ _ _ _=>gf) (fun _ _ _ _=>(kh ["_law_k","_law_lying","_law_at_here"] [none,some 1,some 0] (bA (by rfl) T.cB (pa1 (aF (show dw _ (.builtin "len") (Mr K) from az) (by rfl) T.bY bu (pa1 (pv' 1))))) (fun _ _ _ _=>(aE (i:=0) (show (["_law_k","_law_lying","_law_at_here"]:List Str).Nodup by decide +kernel) rfl orL)) (fun _ _ _ _=>(mX (bV (ao (show IxR _ (xH K) from aq) (pv' 1) (pv' 0)) (pv' 2)))) (fun _ _ _ _=>(pv' 0))))) zh1,?_⟩
  intro gt lt ht dt held kk H1 s1 h2 h3 h4 h5 hheld
  have hg:=hX.cg
  have hn:=hX.snap
  have gl:=hn.gl
  have wl':=hn.wl
  have k30:=hg.k30
  have l6:=hg.sh.l6
  have l2:=hg.sh.l2
  have fl:=hn.fl
  have hP:=hX.setup.same s1
  k_mem
  refine ⟨_,.inr h2,by omega,by rw [WB];omega,?_⟩
  rw [WB,Int.toNat_natCast,gl]
  refine uz (fun i acc H'=>av H1 H'/\∃as:List Addr,acc=as.map V.ref/\eR H' (aj n0 rs).ws as i) ⟨av.refl _,[],rfl,eR.nil⟩ rfl ?_ ?_
  ·rintro i acc H' hi ⟨sx,as,rfl,hws⟩
   k_upd
   refine ⟨by rw [WB,hws.1,sizeLine_eq];omega,fun N hN=>?_⟩
   k_mem
   refine ⟨_,.inr (SqT.of (sx _ _ h3)),by omega,by rw [WB];omega,?_⟩
   rw [WB,Int.toNat_natCast]
   refine eL (fun j=>decide ((aj n0 rs).ws.getD j 0=(i:Int))) (fun (j:Nat)=>.int (j:Int)) (by rw [sizeLine_eq];omega) rfl (fun j hj N hN=>?_) (fun j hj _ N hN=>?_) fun lv hlv=>?_
   ·k_mem
    k_upd
    refine ⟨_,SqT.of (sx _ _ h3),_,by rw [Int.zero_add];exact gg hj,?_⟩
    k_mem
    rw [Int.zero_add]
    by_cases e:(aj n0 rs).ws.getD j 0=(i:Int)
    ·rw [if_pos e];rw [decide_eq_true e] at hN;exact hN
    ·rw [if_neg e];rw [decide_eq_false e] at hN;exact hN
   ·k_mem
    rw [Int.zero_add]
    exact hN
   ·refine hN _ _ ⟨sx.lay hlv,as++[lv],by rw [List.map_append];rfl,(hws.same ((av.refl H').lay hlv)).push ?_⟩
    rw [ag]
    unfold jh A3
    rw [List.map_map];rfl
  rintro acc H2 ⟨sx,as,rfl,hws⟩ wt hwt
  have s3:=sx.lay (o:=HO.lst (as.map V.ref)) hwt
  (generalize hE:upd H2 wt _=H3 at *;have f3:=bS hE hwt;have ewt:=aY hE;clear hE)
  have s13:=s1.trans s3
  k_mem
  refine ⟨_,.inr (s3.tup h2),fun p1 hp1=>?_⟩
  (generalize hE:upd H3 p1 _=H4 at *;have f4:=bS hE hp1;have e4:=aY hE;clear hE)
  k_upd
  refine ⟨_,.inr ((s3.trans f4).tup h5),fun p2 hp2=>?_⟩
  (generalize hE:upd H4 p2 _=H5 at *;have f5:=bS hE hp2;have e5:=aY hE;clear hE)
  have s15:=(s3.trans f4).trans f5
  k_upd
  refine ⟨_,SqL.of (s15 _ _ hP.ob),_,rfl,?_⟩
  k_mem
  refine ⟨_,SqL.of (s15 _ _ hP.od),_,Hq (by omega),?_⟩
  k_mem
  refine ⟨by decide,fun p3 hp3=>?_⟩
  (generalize hE:upd H5 p3 _=H6 at *;have f6:=bS hE hp3;have e6:=aY hE;clear hE)
  have s16:=s15.trans f6
  k_upd
  refine ⟨_,.inr (SqT.of (s16 _ _ h3)),fun p4 hp4=>?_⟩
  (generalize hE:upd H6 p4 _=H7 at *;have f7:=bS hE hp4;have e7:=aY hE;clear hE)
  have s17:=s16.trans f7
  k_upd
  refine ⟨by decide,fun du hdu=>?_⟩
  (generalize hE:upd H7 du _=H8 at *;have f8:=bS hE hdu;have e8:=aY hE;clear hE)
  have s18:=s17.trans f8
  refine k2 gt lt ht dt held wt du kk _ H8 (s1.trans s18) (s18.tup h2) e8 rfl ?_ ?_ ?_
  ·exact .cons (.flat rfl) (.cons (ff (s18.tup h4) (by rw [E2];decide) (wH _)) (.cons (Cn (SqL.of ((((f5.trans f6).trans f7).trans f8) _ _ e4)) (by omega)) (.cons (pA (SqL.of (((f6.trans f7).trans f8) _ _ e5)) (by have:=wM (aj n0 rs).fs;omega)) (.cons (ff (SqT.of ((f7.trans f8) _ _ e6)) (by show 2<=100000;decide) (Ft rfl rfl)) (.cons (pA (SqL.of (f8 _ _ e7)) (by omega)) .nil)))))
  ·exact E4 (SqL.of (s18 _ _ hheld)) (.flat (uH _ _)) (.flat (uH _ _))
  ·have f38:=(((f4.trans f5).trans f6).trans f7).trans f8
   exact Cr (SqL.of (f38 _ _ ewt)) ((hws.same f3).same f38) (by omega) (by omega)
 refine @seg _ _ _ 2 _ (@ae _ _ _ _ _ (cH A2 rfl (bA (by rfl) T.cB (pa1 (aF az (by rfl) T.bY bu (pa1 (pv' 6))))) (aE (i:=11) dN.nd rfl orL) (@ah _ _ _ (aQ (Fv (ao aq (pv' 6) (pv' 11)) af) (@ah _ _ _ (kO (pv' 11) (wo (pv' 10) (aT dh (ao aq (pv' 6) (pv' 11)) af) ja))) (aC)))) h1) fun zt2 zh2 ze2=>?_
 refine @seg _ _ _ 1 _ (@ae _ _ _ _ _ (@aG _ _ 10 _ _ _ _ dN.nd rfl orL (bh (pa2 eV eV)) (by rfl) hfA) zh2) fun zt1 zh1 ze1=>?_
 refine ⟨_,@ae _ _ _ _ _ (kO (ao ax (pv' 2) (fB cN af)) (eS rfl (aI (aE (i:=4) dN.nd rfl orL) (aI (aE (i:=5) dN.nd rfl orL) (aI (aE (i:=6) dN.nd rfl (Or.inr rfl)) (aI (aE (i:=7) dN.nd rfl orL) (aI (aE (i:=8) dN.nd rfl orL) (aI (aE (i:=9) dN.nd rfl orL) de)))))))) zh1,?_⟩
 obtain ⟨hW,⟨as,hsl,hA⟩,⟨bs,hwl,hB⟩,hNs,hNw,hne,hrun⟩:=id hX.da
 have hg:=hX.cg
 have hn:=hX.snap
 have wl':=hn.wl
 have k30:=hg.k30
 have l6:=hg.sh.l6
 obtain ⟨as1,a,rfl,hSt⟩:=Dy hA
 obtain ⟨gt,lt,ht,dt,h1,h2,h3,h4,h5⟩:=hSt.un
 k_mem
 refine ⟨_,SqL.of hsl,_,ko,?_⟩
 k_mem
 refine ⟨_,h1,rfl,?_⟩
 k_mem
 refine ⟨by decide,fun held hheld=>?_⟩
 (generalize hE:upd H held _=H1 at *;have f1:=bS hE hheld;have e1:=aY hE;clear hE)
 k_upd
 refine ⟨_,.inr (SqT.of (f1 _ _ h3)),by omega,by rw [WB];omega,?_⟩
 rw [WB,Int.toNat_natCast]
 k_upd
 refine cf (OZ H1 held (aj n0 rs).ws (.ref wk) (.ref p) (.ref sl) (.ref wl) (.int (aj n0 rs).place) (.ref gt) (.ref lt) (.ref ht) (.ref dt) (.int (bX rs))) ⟨aD.of (av.refl _),⟨_,_,e1,HV.nil,HV.nil⟩,_,rfl⟩ ?_ ?_
 ·rintro i σ H2 hi ⟨k2,⟨x0,x1,ex,v0,v1⟩,t,rfl⟩
  have hlt:=f1.keeps k2 hheld _ _ h3
  have hwr:=hn.wr _ (cW hi)
  k_mem
  refine ⟨_,SqT.of hlt,_,by rw [Int.zero_add];exact gg hi,?_⟩
  k_mem
  split
  ·rename_i h10
   k_upd
   refine ⟨_,SqT.of hlt,_,by rw [Int.zero_add];exact gg hi,?_⟩
   k_mem
   rcases (by omega:(aj n0 rs).ws.getD i 0=10\/(aj n0 rs).ws.getD i 0=11) with e | e
   ·rw [e]
    k_upd
    refine ⟨_,ex,0,rfl,?_⟩
    rw [Int.zero_add]
    k_upd
    exact ⟨k2.put,⟨_,_,ag,HV.yes (by rw [e];rfl),v1.no (by rw [e];decide)⟩,_,rfl⟩
   ·rw [e]
    k_upd
    refine ⟨_,ex,1,rfl,?_⟩
    rw [Int.zero_add]
    k_upd
    exact ⟨k2.put,⟨_,_,ag,v0.no (by rw [e];decide),HV.yes (by rw [e];rfl)⟩,_,rfl⟩
  ·rename_i h10
   k_upd
   exact ⟨k2,⟨_,_,ex,v0.no (by omega),v1.no (by omega)⟩,_,rfl⟩
 ·rintro σ H2 ⟨k2,⟨x0,x1,ex,v0,v1⟩,t,rfl⟩
  have s2:=f1.keeps k2 hheld
  rw [v0.all hn (by omega),v1.all hn (by omega)] at ex
  exact k1 gt lt ht dt held t H2 s2 (s2.tup h2) (s2 _ _ h3) (s2.tup h4) (s2.tup h5) ex
variable (wa:KD P w K mg base (CXf P w) 6 "_law_view" (xA K Z))
noncomputable def oV (K:WA)(Z:Adr):Sp:=fun vs H Q E=>False
include T IH ED mU AM EF in
theorem yO:FF P w K mg base CX0 7 "fewest_winds" "fewest_winds" ju pM (oV K Z):=fk0 yv fun vs H Q E h=>False.elim h
variable (AN:KD P w K mg base CX0 7 "fewest_winds" (oV K Z))
noncomputable def So (Z:Adr):Rw->Addr
 | .lv=>Z.ay
 | .db=>Z.aW
 | .nc=>Z.bB
 | .nr=>Z.aJ
 | .ch=>Z.aU
 | .na=>Z.cR
 | .ul=>Z.aH
 | .nt=>Z.aV
 | .ct=>Z.cG
 | .gs=>Z.cT
 | .ce=>Z.aP
 | .go=>Z.dD
inductive xB (K:WA)(Z:Adr)(vs:List V)(H:Hp)(Q:VK)(E:XK):Prop | mk (w bk rl dd:Addr) (g:Cfg) (n0:aS) (rs:List Row):vs=[.ref w,.ref dd]->WAt (clZ Z) K H w bk rl g n0 rs->eA g->cQ g (aj n0 rs)->rs.length < 300->(((∃d,SqT K H dd (ddV d)/\A4 d/\(∀r,eU g (aj n0 rs) d=some r->∀H',av H H'->E (.ref (So Z r)) none H')/\(eU g (aj n0 rs) d=none->∀v H',aD rl H H'->WAt (clZ Z) K H' w bk rl g n0 (rs++[zm g n0 rs d])->A8 K H' (aj n0 rs) (bX rs+ir g (aj n0 rs) d) d v->Q v H'))\/
  (SqT K H dd [.str "take back"]/\∃rs' r,rs=rs'++[r]/\∀p H',aD rl H H'->WAt (clZ Z) K H' w bk rl g n0 rs'->SqT K H' p r.deed->Q (.ref p) H')))->xB K Z vs H Q E
include T kE vY qU vZ v5 kJ kK v9 qW in
theorem Lc:FF P w K mg base (CXf P w) 7 "_law_call" "_law_call" zZ FA (xB K Z):=fkF KY fun vs H Q E h=>by
 obtain ⟨w,bk,rl,dd,g,n0,rs,rfl,hW,hg,hn,h300,hc⟩:=h
 k_all
 refine @seg _ _ _ 8 _ (@ah _ _ _ (aA (dR (pv' 0) kE hr.dn bC))) fun zt8 zh8 ze8=>?_
 refine @seg _ _ _ 7 _ (@ae _ _ _ _ _ (aQ (bV (ao aq (pv' 1) af) aB) (@ah _ _ _ (aA (dm' (pv' 0) vZ hr.dn bC (pa1 (ao aq (pv' 1) af))))) (aC)) zh8) fun zt7 zh7 ze7=>?_
 refine @seg _ _ _ 6 _ (@ae _ _ _ _ _ (aQ (bV (ao aq (pv' 1) af) aB) (@ah _ _ _ (aA (dm' (pv' 0) v5 hr.dn bC (pa3 (ao aq (pv' 1) af) (ao aq (pv' 1) af) (ao aq (pv' 1) af))))) (aC)) zh7) fun zt6 zh6 ze6=>?_
 refine @seg _ _ _ 5 _ (@ae _ _ _ _ _ (aQ (bV (ao aq (pv' 1) af) aB) (@ah _ _ _ (aA (dm' (pv' 0) qW hr.dn bC (pa1 (ao aq (pv' 1) af))))) (aC)) zh6) fun zt5 zh5 ze5=>?_
 refine @seg _ _ _ 4 _ (@ae _ _ _ _ _ (aQ (bV (ao aq (pv' 1) af) aB) (@ah _ _ _ (aA (dm' (pv' 0) v9 hr.dn bC (pa2 (ao aq (pv' 1) af) (ao aq (pv' 1) af))))) (aC)) zh5) fun zt4 zh4 ze4=>?_
 refine @seg _ _ _ 3 _ (@ae _ _ _ _ _ (aQ (bV (ao aq (pv' 1) af) aB) (@ah _ _ _ (aA (dm' (pv' 0) kK hr.dn bC (pa1 (ao aq (pv' 1) af))))) (aC)) zh4) fun zt3 zh3 ze3=>?_
 refine @seg _ _ _ 2 _ (@ae _ _ _ _ _ (aQ (bV (ao aq (pv' 1) af) aB) (@ah _ _ _ (aA (dm' (pv' 0) kJ hr.dn bC (pa1 (ao aq (pv' 1) af))))) (aC)) zh3) fun zt2 zh2 ze2=>?_
 refine @seg _ _ _ 1 _ (@ae _ _ _ _ _ (aQ (bV (ao aq (pv' 1) af) aB) (@ah _ _ _ (aA (dm' (pv' 0) qU hr.dn bC (pa1 (ao aq (pv' 1) af))))) (aC)) zh2) fun zt1 zh1 ze1=>?_
 refine ⟨_,@ae _ _ _ _ _ (aQ (bV (ao aq (pv' 1) af) aB) (@ah _ _ _ (aA (dm' (pv' 0) vY hr.dn bC (pa2 (ao aq (pv' 1) af) (ao aq (pv' 1) af))))) (aC)) zh1,?_⟩
 obtain ⟨⟨dx,dl,gl,hob,hdl,hgl,n1,n2⟩,hB⟩:=id hW
 have l2:=hg.sh.l2
 have l6:=hg.sh.l6
 have lc:=hg.lc
 have wl:=hn.wl
 have gk:=hg.gk
 have full:¬300<=rs.length:=by omega
 k_mem
 rcases hc with ⟨d,hD,ok,qe,q⟩ | ⟨hD,rs2,r,rfl,q⟩
 rotate_left
 ·k_upd
  refine ⟨_,hD,_,rfl,?_⟩
  k_mem
  rw [if_neg (by decide)]
  k_upd
  refine ⟨_,hD,_,rfl,?_⟩
  k_mem
  rw [if_neg (by decide)]
  k_upd
  refine ⟨_,hD,_,rfl,?_⟩
  k_mem
  rw [if_neg (by decide)]
  k_upd
  refine ⟨_,hD,_,rfl,?_⟩
  k_mem
  rw [if_neg (by decide)]
  k_upd
  refine ⟨_,hD,_,rfl,?_⟩
  k_mem
  rw [if_neg (by decide)]
  k_upd
  refine ⟨_,hD,_,rfl,?_⟩
  k_mem
  rw [if_neg (by decide)]
  k_upd
  refine ⟨_,hD,_,rfl,?_⟩
  k_mem
  rw [if_neg (by decide)]
  k_upd
  refine ⟨_,hD,_,rfl,?_⟩
  k_mem
  rw [if_neg (by decide)]
  k_upd
  exact ⟨_,_,hob,rfl,_,_,_,_,_,_,rfl,hW,fun z=>by simp at z,fun rs3 r3 e p H2 k hW2 hp=>by obtain ⟨rfl,rfl⟩:=Fg e;exact q p H2 k hW2 hp⟩
 ·cases d with
  | ring l s=>
   refine ⟨_,hD,_,rfl,?_⟩
   k_mem
   rw [if_pos rfl]
   k_upd
   refine mgo hob rfl ⟨_,hD,_,rfl,_,hD,_,rfl,?_⟩
   k_mem
   refine ⟨_,_,_,_,_,_,_,_,rfl,hW,by omega,wl.symm,fun h H2 s2=>qe .lv ?_ H2 s2,fun h h' h3 H2 s2=>qe .db ?_ H2 s2,fun h h' h3 h4 H2 s2=>qe .nc ?_ H2 s2,fun h h' h3 h4=>⟨fun z=>absurd z full,fun _ H2 k2 hW2=>q ?_ _ H2 k2 hW2 rfl⟩⟩
   ·rw [lc] at h
    exact if_pos h
   ·rw [lc] at h'
    exact (if_neg (fun z=>z ⟨h,h'⟩)).trans (if_pos h3)
   ·rw [lc] at h'
    exact (if_neg (fun z=>z ⟨h,h'⟩)).trans ((if_neg (by rw [h3];exact Bool.false_ne_true)).trans (if_neg h4))
   ·rw [lc] at h'
    exact (if_neg (fun z=>z ⟨h,h'⟩)).trans ((if_neg (by rw [h3];exact Bool.false_ne_true)).trans (if_pos h4))
  | rept s=>
   refine ⟨_,hD,_,rfl,?_⟩
   k_mem
   rw [if_neg (by decide)]
   k_upd
   refine ⟨_,hD,_,rfl,?_⟩
   k_mem
   rw [if_pos rfl]
   k_upd
   refine mgo hob rfl ⟨_,hD,_,rfl,?_⟩
   k_mem
   refine ⟨_,_,_,_,_,_,_,rfl,hW,by omega,wl.symm,fun h H2 s2=>qe .nr ?_ H2 s2,fun l r e h H2 s2=>qe .nc ?_ H2 s2,fun l r e h=>⟨fun z=>absurd z full,fun _ p H2 k2 hW2 hT=>q ?_ _ H2 k2 hW2 ⟨p,l,r,rfl,e,hT⟩⟩⟩
   ·simp only [eU]
   ·simp only [eU,e];exact if_neg h
   ·simp only [eU,e];exact if_pos h
  | opn l=>
   refine ⟨_,hD,_,rfl,?_⟩
   k_mem
   rw [if_neg (by decide)]
   k_upd
   refine ⟨_,hD,_,rfl,?_⟩
   k_mem
   rw [if_neg (by decide)]
   k_upd
   refine ⟨_,hD,_,rfl,?_⟩
   k_mem
   rw [if_pos rfl]
   k_upd
   refine mgo hob rfl ⟨_,hD,_,rfl,?_⟩
   k_mem
   refine ⟨_,_,_,_,_,_,_,rfl,hW,by omega,wl.symm,hn.gl,fun h H2 s2=>qe .lv (if_pos h) H2 s2,fun h h' h3 H2 s2=>qe .ch ((if_neg (fun z=>z ⟨h,h'⟩)).trans (if_pos h3)) H2 s2,fun h h' h3=>⟨fun z=>absurd z full,fun _ H2 k2 hW2=>q ((if_neg (fun z=>z ⟨h,h'⟩)).trans (if_neg (by rw [h3];decide))) _ H2 k2 hW2 rfl⟩⟩
  | sht l=>
   refine ⟨_,hD,_,rfl,?_⟩
   k_mem
   rw [if_neg (by decide)]
   k_upd
   refine ⟨_,hD,_,rfl,?_⟩
   k_mem
   rw [if_neg (by decide)]
   k_upd
   refine ⟨_,hD,_,rfl,?_⟩
   k_mem
   rw [if_neg (by decide)]
   k_upd
   refine ⟨_,hD,_,rfl,?_⟩
   k_mem
   rw [if_pos rfl]
   k_upd
   refine mgo hob rfl ⟨_,hD,_,rfl,?_⟩
   k_mem
   refine ⟨_,_,_,_,_,_,_,rfl,hW,by omega,wl.symm,hn.gl,fun h H2 s2=>qe .lv (if_pos h) H2 s2,fun h h' h3 H2 s2=>qe .ch ((if_neg (fun z=>z ⟨h,h'⟩)).trans (if_pos h3)) H2 s2,fun h h' h3=>⟨fun z=>absurd z full,fun _ H2 k2 hW2=>q ((if_neg (fun z=>z ⟨h,h'⟩)).trans (if_neg (by rw [h3];decide))) _ H2 k2 hW2 rfl⟩⟩
  | load k c=>
   refine ⟨_,hD,_,rfl,?_⟩
   k_mem
   rw [if_neg (by decide)]
   k_upd
   refine ⟨_,hD,_,rfl,?_⟩
   k_mem
   rw [if_neg (by decide)]
   k_upd
   refine ⟨_,hD,_,rfl,?_⟩
   k_mem
   rw [if_neg (by decide)]
   k_upd
   refine ⟨_,hD,_,rfl,?_⟩
   k_mem
   rw [if_neg (by decide)]
   k_upd
   refine ⟨_,hD,_,rfl,?_⟩
   k_mem
   rw [if_pos rfl]
   k_upd
   refine mgo hob rfl ⟨_,hD,_,rfl,_,hD,_,rfl,?_⟩
   k_mem
   refine ⟨_,_,_,_,_,_,_,_,rfl,hW,by omega,wl.symm,hg.sh,hn.gl,by omega,ok.1,ok.2,fun h H2 s2=>qe .ul (if_pos h) H2 s2,fun h h' h3 H2 s2=>qe .nt ?_ H2 s2,fun l h h' hl h3 h4 H2 s2=>qe .ct ?_ H2 s2,fun l h h' hl h3 h4 h5 H2 s2=>qe .gs ?_ H2 s2,fun l h h' hl h3 h4 h5=>⟨fun z=>absurd z full,fun _ H2 k2 hW2=>q ?_ _ H2 k2 hW2 rfl⟩⟩
   ·refine (if_neg (fun z=>z ⟨h,h'⟩)).trans ?_
    cases hl:bN g.ds (aj n0 rs).place c with
    | none=>rfl
    | some l=>exact if_pos (h3 l hl)
   ·refine (if_neg (fun z=>z ⟨h,h'⟩)).trans ?_
    rw [hl]
    exact (if_neg (fun z=>z h3)).trans (if_pos h4)
   ·refine (if_neg (fun z=>z ⟨h,h'⟩)).trans ?_
    rw [hl]
    exact (if_neg (fun z=>z h3)).trans ((if_neg h4).trans (if_neg (by rw [h5];exact Bool.false_ne_true)))
   ·refine (if_neg (fun z=>z ⟨h,h'⟩)).trans ?_
    rw [hl]
    exact (if_neg (fun z=>z h3)).trans ((if_neg h4).trans (if_pos h5))
  | unload c=>
   refine ⟨_,hD,_,rfl,?_⟩
   k_mem
   rw [if_neg (by decide)]
   k_upd
   refine ⟨_,hD,_,rfl,?_⟩
   k_mem
   rw [if_neg (by decide)]
   k_upd
   refine ⟨_,hD,_,rfl,?_⟩
   k_mem
   rw [if_neg (by decide)]
   k_upd
   refine ⟨_,hD,_,rfl,?_⟩
   k_mem
   rw [if_neg (by decide)]
   k_upd
   refine ⟨_,hD,_,rfl,?_⟩
   k_mem
   rw [if_neg (by decide)]
   k_upd
   refine ⟨_,hD,_,rfl,?_⟩
   k_mem
   rw [if_pos rfl]
   k_upd
   refine mgo hob rfl ⟨_,hD,_,rfl,?_⟩
   k_mem
   refine ⟨_,_,_,_,_,_,_,rfl,hW,by omega,wl.symm,hg.sh,hn.gl,ok.1,ok.2,fun h H2 s2=>qe .ce (if_pos h) H2 s2,fun h hl H2 s2=>qe .nt ?_ H2 s2,fun l h hl h3 H2 s2=>qe .gs ?_ H2 s2,fun l h hl h3=>⟨fun z=>absurd z full,fun _ H2 k2 hW2=>q ?_ _ H2 k2 hW2 rfl⟩⟩
   ·refine (if_neg (fun z=>z h)).trans ?_
    simp only [hl]
   ·refine (if_neg (fun z=>z h)).trans ?_
    rw [hl]
    exact if_neg (by rw [h3];exact Bool.false_ne_true)
   ·refine (if_neg (fun z=>z h)).trans ?_
    rw [hl]
    exact if_pos h3
  | wind c l k=>
   refine ⟨_,hD,_,rfl,?_⟩
   k_mem
   rw [if_neg (by decide)]
   k_upd
   refine ⟨_,hD,_,rfl,?_⟩
   k_mem
   rw [if_neg (by decide)]
   k_upd
   refine ⟨_,hD,_,rfl,?_⟩
   k_mem
   rw [if_neg (by decide)]
   k_upd
   refine ⟨_,hD,_,rfl,?_⟩
   k_mem
   rw [if_neg (by decide)]
   k_upd
   refine ⟨_,hD,_,rfl,?_⟩
   k_mem
   rw [if_neg (by decide)]
   k_upd
   refine ⟨_,hD,_,rfl,?_⟩
   k_mem
   rw [if_neg (by decide)]
   k_upd
   refine ⟨_,hD,_,rfl,?_⟩
   k_mem
   rw [if_pos rfl]
   have sp:=hg.speed (aj n0 rs)
   k_upd
   refine mgo hob rfl ⟨_,hD,_,rfl,_,hD,_,rfl,_,hD,_,rfl,?_⟩
   k_mem
   refine ⟨_,_,_,_,_,_,_,_,_,rfl,hW,by omega,wl.symm,hg.sh,hn.gl,lc,sp.1,sp.2,ok.2,fun h H2 s2=>qe .lv (if_pos h) H2 s2,fun h h' h3 H2 s2=>qe .go ((if_neg (fun z=>z ⟨h,h'⟩)).trans (if_pos h3)) H2 s2,fun h h' h3 h4 H2 s2=>qe .na ((if_neg (fun z=>z ⟨h,h'⟩)).trans ((if_neg (by rw [h3];exact Bool.false_ne_true)).trans (if_neg h4))) H2 s2,fun h h' h3 h4=>⟨fun z=>absurd z full,fun _ H2 k2 hW2=>q ((if_neg (fun z=>z ⟨h,h'⟩)).trans ((if_neg (by rw [h3];exact Bool.false_ne_true)).trans (if_pos h4))) _ H2 k2 hW2 rfl⟩⟩
  | fail l=>
   refine ⟨_,hD,_,rfl,?_⟩
   k_mem
   rw [if_neg (by decide)]
   k_upd
   refine ⟨_,hD,_,rfl,?_⟩
   k_mem
   rw [if_neg (by decide)]
   k_upd
   refine ⟨_,hD,_,rfl,?_⟩
   k_mem
   rw [if_neg (by decide)]
   k_upd
   refine ⟨_,hD,_,rfl,?_⟩
   k_mem
   rw [if_neg (by decide)]
   k_upd
   refine ⟨_,hD,_,rfl,?_⟩
   k_mem
   rw [if_neg (by decide)]
   k_upd
   refine ⟨_,hD,_,rfl,?_⟩
   k_mem
   rw [if_neg (by decide)]
   k_upd
   refine ⟨_,hD,_,rfl,?_⟩
   k_mem
   rw [if_neg (by decide)]
   k_upd
   refine ⟨_,hD,_,rfl,?_⟩
   k_mem
   rw [if_pos rfl]
   k_upd
   refine mgo hob rfl ⟨_,hD,_,rfl,?_⟩
   k_mem
   refine ⟨_,_,_,_,_,_,_,rfl,hW,by omega,wl.symm,fun h H2 s2=>qe .lv ?_ H2 s2,fun h h' h3 H2 s2=>qe .ch ?_ H2 s2,fun h h' h3=>⟨fun z=>absurd z full,fun _ H2 k2 hW2=>q ?_ _ H2 k2 hW2 rfl⟩⟩
   ·rw [lc] at h
    exact if_pos h
   ·rw [lc] at h'
    exact (if_neg (fun z=>z ⟨h,h'⟩)).trans (if_pos h3)
   ·rw [lc] at h'
    exact (if_neg (fun z=>z ⟨h,h'⟩)).trans (if_neg (by rw [h3];exact Bool.false_ne_true))
variable (wc:KD P w K mg base (CXf P w) 7 "_law_call" (xB K Z))
inductive iR (K:WA)(Z:Adr)(vs:List V)(H:Hp)(Q:VK)(E:XK):Prop | mk (w bk rl ra:Addr) (g:Cfg) (n0:aS) (rs:List Row) (k:Int):vs=[.ref w,.ref ra]->WAt (clZ Z) K H w bk rl g n0 rs->g.goals.length=g.ks.length->g.ks.length<=30->SqL K H ra [.int k]->(¬(0<=k/\k < (g.ks.length:Nat)))->E (.ref Z.aH) none H->iR K Z vs H Q E
include T aM Aq xn oy lV kH AN in
theorem yP:FF P w K mg base (CXf P w) 8 "fewest" "Works.fewest" jA pR (iR K Z):=fkF yy fun vs H Q E h=>by
 obtain ⟨w,bk,rl,ra,g,n0,rs,k,rfl,hW,hgk,hk30,hS,hu,q⟩:=h
 k_all
 refine ⟨_,@ae _ _ _ _ _ (@bb _ _ _ _ (dm' (pv' 0) kH hr.dn bC (pa1 (pv' 1))) (by rfl)) BZ,?_⟩
 obtain ⟨⟨dx,dl,gl,hob,hdl,hgl,n1,n2⟩,hB⟩:=id hW
 k_mem
 exact mgo hob rfl ⟨w,bk,rl,ra,g,n0,rs,k,rfl,hW,hgk,hk30,hS,hu,q⟩
variable (qX:KM P w K mg base (CXf P w) 8 Z.bw "fewest" (iR K Z))
inductive xC (K:WA)(Z:Adr)(vs:List V)(H:Hp)(Q:VK)(E:XK):Prop | mk (H0:Hp) (w bk rl p dl cl ll sl wl dd:Addr) (g:Cfg) (lds:List Ld) (n0:aS) (rs:List Row):vs=[.ref w,.ref p,.ref sl,.ref wl,.ref dd]->oW (clZ Z) K H0 H p dl cl ll w bk rl sl wl g lds n0 rs->rs.length < 300->(((∃d,SqT K H dd (ddV d)/\A4 d/\eU g (aj n0 rs) d=none/\∀H',cI rl sl wl H H'->oW (clZ Z) K H0 H' p dl cl ll w bk rl sl wl g lds n0 (rs++[zm g n0 rs d])->Q (.bl true) H')\/
  (SqT K H dd [.str "take back"]/\∃rs' r,rs=rs'++[r]/\∀H',cI rl sl wl H H'->oW (clZ Z) K H0 H' p dl cl ll w bk rl sl wl g lds n0 rs'->Q (.bl true) H')))->xC K Z vs H Q E
include T GF ik wc in
theorem Le:FF P w K mg base (CXf P w) 8 "_law_done" "_law_done" Aa FD (xC K Z):=fkF xi fun vs H Q E h=>by
 obtain ⟨H0,w,bk,rl,p,dl,cl,ll,sl,wl,dd,g,lds,n0,rs,rfl,hX,h300,hc⟩:=h
 k_all
 refine @seg _ _ _ 6 _ (@ah _ _ _ (aA (dc0 ik hr.dn (pa2 (pv' 5) (ao aq (ao ax (pv' 2) (fB cN af)) af))))) fun zt6 zh6 ze6=>?_
 refine @seg _ _ _ 5 _ (@ae _ _ _ _ _ (aQ (bV (ao aq (pv' 4) af) aB) (@ah _ _ _ (aA (dc0 ik hr.dn (pa2 (pv' 5) (aK (pa3 (dF jj (ao aq (pv' 4) af) (ao aq (pv' 6) af) (cE _)) (ao aq (pv' 6) af) (ao aq (pv' 4) af))))))) (aC)) zh6) fun zt5 zh5 ze5=>?_
 refine @seg _ _ _ 4 _ (@ae _ _ _ _ _ (@bb _ _ _ _ (kg PySem.F.plainAttrs_list PySem.F.slot_list_append PySem.F.type_list_append cK (pv' 3) (pa1 (aK (pa3 (ao aq (ao ax (pv' 2) (fB cN af)) af) (ao aq (ao ax (pv' 2) (fB cN af)) af) (pv' 4))))) (by rfl)) zh5) fun zt4 zh4 ze4=>?_
 refine @seg _ _ _ 3 _ (@ae _ _ _ _ _ (@bb _ _ _ _ (kg PySem.F.plainAttrs_list PySem.F.slot_list_append PySem.F.type_list_append cK (pv' 2) (pa1 (dc0 GF hr.dn (pa3 (pv' 1) (ao ax (pv' 2) (fB cN af)) (pv' 4))))) (by rfl)) zh4) fun zt3 zh3 ze3=>?_
 refine @seg _ _ _ 2 _ (@ae _ _ _ _ _ (@aG _ _ 6 _ _ _ _ xi.nd rfl orL (ao aq (ao ax (pv' 2) (fB cN af)) af) (by rfl) hfA) zh3) fun zt2 zh2 ze2=>?_
 refine @seg _ _ _ 1 _ (@ae _ _ _ _ _ (aQ (bV (ao aq (pv' 4) af) aB) (@ae _ _ _ _ _ (@bb _ _ _ _ (zg PySem.F.plainAttrs_list PySem.F.slot_list_pop PySem.F.type_list_pop DH (pv' 2)) (by rfl)) (@ah _ _ _ (aA (dc0 ik hr.dn (pa2 (pv' 5) (ao aq (zg PySem.F.plainAttrs_list PySem.F.slot_list_pop PySem.F.type_list_pop DH (pv' 3)) af)))))) (aC)) zh2) fun zt1 zh1 ze1=>?_
 refine ⟨_,@ae _ _ _ _ _ (@aG _ _ 5 _ _ _ _ xi.nd rfl orL (dc wc hr.dn bC (pa2 (pv' 0) (pv' 4))) (by rfl) hfA) zh1,?_⟩
 obtain ⟨hW,⟨as,hsl,hA⟩,⟨bs,hwl,hB⟩,hNs,hNw,hne,hrun⟩:=id hX.da
 have hg:=hX.cg
 have hn:=hX.snap
 obtain ⟨rr,hrl⟩:=hW.rows
 have nrs:rl≠sl:=hW.off sl hNs
 have nrw:rl≠wl:=hW.off wl hNw
 k_mem
 rcases hc with ⟨d,hD,ok,hrf,q⟩ | ⟨hD,rs2,r,rfl,q⟩
 ·k_upd
  refine ⟨w,bk,rl,dd,g,n0,rs,rfl,hW,hg,hn,h300,.inl ⟨d,hD,ok,fun r e=>(by rw [hrf] at e;cases e),fun _ v H1 k1 hW1 ans=>?_⟩⟩
  have hD1:=hD.keep k1 hrl
  have hsl1:=k1 _ _ nrs.symm hsl
  have hwl1:=k1 _ _ nrw.symm hwl
  have hA1:dP (iu K H1) as (oF n0 rs):=hA.imp fun a x h=>h.keep k1 hrl
  have hB1:dJ K H1 bs rs:=hB.keep k1 hrl
  have sa1:av H0 H1:=hX.sa.keeps k1 hX.fr
  obtain ⟨as1,a,rfl,hSt⟩:=Dy hA1
  obtain ⟨gt,lt,ht,dt,h1,h2,h3,h4,h5⟩:=hSt.un
  obtain ⟨w0,ew0,nw0⟩:=JC d
  have hal:=hA1.1
  have hbl:=hB1.1
  rw [Co,List.length_append,List.length_singleton] at hal
  k_mem
  refine ⟨_,hD1,_,ew0,?_⟩
  k_mem
  rw [if_neg nw0]
  k_upd
  refine ⟨_,SqL.of hsl1,_,ko,?_⟩
  k_mem
  refine ⟨_,h1,_,rfl,?_⟩
  k_mem
  refine ⟨.inl ⟨rfl,_,SqL.of hsl1⟩,_,SqL.of hsl1,_,ko,?_⟩
  k_mem
  refine ⟨p,dl,cl,ll,a,dd,g,lds,aj n0 rs,bX rs,d,rfl,hX.su.same sa1,hg,hn,hSt,hD1,ok,hrf,fun b H2 s2 hb=>?_⟩
  k_mem
  refine ⟨_,s2 _ _ hsl1,cu (by rw [WB,List.length_append,List.length_singleton];omega),?_⟩
  have k3:L2.aD sl H2 (upd H2 sl (HO.lst (List.map V.ref (as1++[a])++[V.ref b]))):=(aD.of (av.refl H2)).put
  have e3:upd H2 sl (HO.lst (List.map V.ref (as1++[a])++[V.ref b])) sl=some (HO.lst ((as1++[a]++[b]).map V.ref)):=by rw [ag];simp
  generalize upd H2 sl (HO.lst (List.map V.ref (as1++[a])++[V.ref b]))=H3 at *
  have hW3:=(hW1.same s2).own hNs k3 e3
  have hwl3:=k3 _ _ hne.symm (s2 _ _ hwl1)
  have hb3:=hb.keep k3 (s2 _ _ hsl1)
  have h13:=(s2.tup h1).keep k3 (s2 _ _ hsl1)
  obtain ⟨gt2,lt2,ht2,dt2,hb31,_⟩:=hb3.un
  k_mem
  refine ⟨.inl ⟨rfl,_,SqL.of hwl3⟩,_,SqL.of e3,_,OH,?_⟩
  k_mem
  refine ⟨_,h13,_,rfl,_,SqL.of e3,_,ko,?_⟩
  k_mem
  refine ⟨_,hb31,_,rfl,by decide,fun tp htp=>?_⟩
  (generalize hE:upd H3 tp _=H4 at *;have f4:=bS hE htp;have e4:=aY hE;clear hE)
  k_upd
  refine ⟨_,f4 _ _ hwl3,cu (by rw [WB];omega),?_⟩
  have k5:L2.aD wl H4 (upd H4 wl (HO.lst (List.map V.ref bs++[V.ref tp]))):=(aD.of (av.refl H4)).put
  have e5:upd H4 wl (HO.lst (List.map V.ref bs++[V.ref tp])) wl=some (HO.lst ((bs++[tp]).map V.ref)):=by rw [ag];simp
  generalize upd H4 wl (HO.lst (List.map V.ref bs++[V.ref tp]))=H5 at *
  have hwl4:=f4 _ _ hwl3
  have hW5:=(hW3.same f4).own hNw k5 e5
  have hD5:SqT K H5 dd (ddV d):=(f4.tup ((s2.tup hD1).keep k3 (s2 _ _ hsl1))).keep k5 hwl4
  have hsl5:=k5 _ _ hne (f4 _ _ e3)
  have h45:SqT K H5 ht (kS (aj n0 rs).e):=(f4.tup ((s2.tup h4).keep k3 (s2 _ _ hsl1))).keep k5 hwl4
  have hb51:=(f4.tup hb31).keep k5 hwl4
  have K05:cI rl sl wl H H5:=((((cI.a k1).trans (cI.of s2)).trans (cI.b k3)).trans (cI.of f4)).trans (cI.c k5)
  have hX5:oW (clZ Z) K H0 H5 p dl cl ll w bk rl sl wl g lds n0 (rs++[zm g n0 rs d]):=hX.to K05 ⟨hW5,⟨as1++[a]++[b],hsl5,?_⟩,⟨bs++[tp],e5,?_⟩,hNs,hNw,hne,.snoc hrun ok hrf⟩
  rotate_left
  ·rw [td]
   exact dP.push (hA1.imp fun a x h=>(((h.same s2).keep k3 (s2 _ _ hsl1)).same f4).keep k5 hwl4) ((hb3.same f4).keep k5 hwl4)
  ·exact ((((hB1.same s2).keep k3 (s2 _ _ hsl1)).same f4).keep k5 hwl4).push ⟨dd,(SqT.of e4).keep k5 hwl4,hD5⟩
  have ans5:A8 K H5 (aj n0 rs) (bX rs+ir g (aj n0 rs) d) d v:=(((ans.same s2).keep k3 (s2 _ _ hsl1)).same f4).keep k5 hwl4
  have qq:∀H',av H5 H'->Q (.bl true) H':=fun H' s=>q H' (K05.trans (cI.of s)) (hX5.same s)
  clear hX5 K05 hW5 hW3 hW1 hsl1 hwl1 hA1 hB1 sa1 h13 hb31 hb3 hwl3 k3 f4 k5 hD1
  k_mem
  by_cases hr:∃s,d=.rept s
  ·obtain ⟨s,rfl⟩:=hr
   obtain ⟨pa,l,r,rfl,he,hpa⟩:=ans5
   rw [he] at h45
   k_upd
   refine ⟨_,hD5,_,rfl,?_⟩
   k_mem
   rw [if_pos rfl]
   k_upd
   refine ⟨_,hD5,_,rfl,_,h45,_,rfl,?_⟩
   k_mem
   refine ⟨_,h45,_,rfl,_,hD5,_,rfl,by decide,fun tq htq=>?_⟩
   have f6:=(av.refl H5).lay (o:=HO.tup [V.bl (decide (s=r)),V.int r,V.int s]) htq
   k_upd
   refine ⟨_,_,_,rfl,ff (f6.tup hpa) (by show 3<=100000;decide) ?_,ff (SqT.of ag) (by show 3<=100000;decide) ?_,fun H' s'=>qq H' (f6.trans s')⟩
   all_goals
    intro x hx
    simp only [List.mem_cons,List.not_mem_nil,or_false] at hx
    rcases hx with rfl | rfl | rfl<;>rfl
  ·obtain ⟨w1,ew1,nw1⟩:=OG (d:=d) fun s e=>hr ⟨s,e⟩
   have ev:=ans5.int fun s e=>hr ⟨s,e⟩
   subst ev
   k_upd
   refine ⟨_,hD5,_,ew1,?_⟩
   k_mem
   rw [if_neg nw1]
   k_upd
   refine ⟨_,SqL.of hsl5,_,ko,?_⟩
   k_mem
   refine ⟨_,hb51,_,rfl,?_⟩
   k_mem
   exact ⟨_,_,_,rfl,.flat rfl,.flat rfl,qq⟩
 ·k_upd
  refine ⟨w,bk,rl,dd,g,n0,rs2++[r],rfl,hW,hg,hn,h300,.inr ⟨hD,rs2,r,rfl,fun pp H1 k1 hW1 hpp=>?_⟩⟩
  have hD1:=hD.keep k1 hrl
  have hsl1:=k1 _ _ nrs.symm hsl
  have hwl1:=k1 _ _ nrw.symm hwl
  have hA1:dP (iu K H1) as (oF n0 (rs2++[r])):=hA.imp fun a x h=>h.keep k1 hrl
  have hB1:dJ K H1 bs (rs2++[r]):=hB.keep k1 hrl
  rw [td] at hA1
  obtain ⟨as1,a,rfl,hA2,_⟩:=hA1.last
  obtain ⟨bs1,b,rfl,hB2,dd2,hb1,hb2⟩:=hB1.last
  obtain ⟨dr,hdr⟩:=hrun.deeds r (by simp)
  k_mem
  refine ⟨_,hD1,_,rfl,?_⟩
  k_mem
  rw [if_pos rfl]
  k_upd
  refine ⟨.inl ⟨rfl,_,SqL.of hsl1⟩,_,hsl1,.ref a,by simp,?_⟩
  have k3:L2.aD sl H1 (upd H1 sl (HO.lst (List.map V.ref (as1++[a])).dropLast)):=(aD.of (av.refl H1)).put
  have e3:upd H1 sl (HO.lst (List.map V.ref (as1++[a])).dropLast) sl=some (HO.lst (as1.map V.ref)):=by rw [ag];simp
  generalize upd H1 sl (HO.lst (List.map V.ref (as1++[a])).dropLast)=H3 at *
  have hwl3:=k3 _ _ hne.symm hwl1
  k_mem
  refine ⟨.inl ⟨rfl,_,SqL.of hwl3⟩,_,hwl3,.ref b,by simp,?_⟩
  have k5:L2.aD wl H3 (upd H3 wl (HO.lst (List.map V.ref (bs1++[b])).dropLast)):=(aD.of (av.refl H3)).put
  have e5:upd H3 wl (HO.lst (List.map V.ref (bs1++[b])).dropLast) wl=some (HO.lst (bs1.map V.ref)):=by rw [ag];simp
  generalize upd H3 wl (HO.lst (List.map V.ref (bs1++[b])).dropLast)=H5 at *
  have K05:cI rl sl wl H H5:=((cI.a k1).trans (cI.b k3)).trans (cI.c k5)
  have hX5:oW (clZ Z) K H0 H5 p dl cl ll w bk rl sl wl g lds n0 rs2:=hX.to K05 ⟨(hW1.own hNs k3 e3).own hNw k5 e5,⟨as1,k5 _ _ hne e3,hA2.imp fun a x h=>(h.keep k3 hsl1).keep k5 hwl3⟩,⟨bs1,e5,(hB2.keep k3 hsl1).keep k5 hwl3⟩,hNs,hNw,hne,hrun.inv.1⟩
  have lenr:=Jp dr
  k_mem
  refine ⟨_,(hb1.keep k3 hsl1).keep k5 hwl3,_,rfl,?_⟩
  k_mem
  refine ⟨_,_,_,rfl,ff ((hpp.keep k3 hsl1).keep k5 hwl3) (by rw [hdr];omega) (by rw [hdr];exact zk dr),ff ((hb2.keep k3 hsl1).keep k5 hwl3) (by rw [hdr];omega) (by rw [hdr];exact zk dr),fun H' s=>q H' (K05.trans (cI.of s)) (hX5.same s)⟩
variable (we:KD P w K mg base (CXf P w) 8 "_law_done" (xC K Z))
noncomputable def wg (Z:Adr)(i:Nat):Addr:=[Z.ay,Z.bB,Z.aW,Z.aU,Z.aJ,Z.aH,Z.aV,Z.aP,Z.bD].getD i Z.bD
theorem O0 {Z:Adr}{r:Rw}(h:Rl r < 9):So Z r=wg Z (Rl r):=by cases r<;>first | rfl | exact absurd h (by decide)
inductive AO (K:WA)(Z:Adr)(vs:List V)(H:Hp)(Q:VK)(E:XK):Prop | mk (w bk rl dd:Addr) (g:Cfg) (n0:aS) (rs:List Row) (x:Qd) (i:Nat):vs=[.ref w,.ref dd]->WAt (clZ Z) K H w bk rl g n0 rs->eA g->cQ g (aj n0 rs)->rs.length < 300->Ni rs->bX rs<=1000000->SqT K H dd (qdV x)->qOk x->BE g (aj n0 rs) (bX rs) x i->i < 9->(∀H',av H H'->E (.ref (wg Z i)) none H')->AO K Z vs H Q E
include T mT fj wc qX in
theorem Nl:FF P w K mg base (CXf P w) 9 "_law_ask" "_law_ask" DT JG (AO K Z):=fkF M0 fun vs H Q E h=>by
 obtain ⟨w,bk,rl,dd,g,n0,rs,x,i,rfl,hW,hg,hn,h300,hrs,hnow,hD,ok,hb,hi,q⟩:=h
 k_all
 refine @seg _ _ _ 3 _ (@ah _ _ _ (aA (dc wc hr.dn bC (pa2 (pv' 0) (pv' 1))))) fun zt3 zh3 ze3=>?_
 refine @seg _ _ _ 2 _ (@ae _ _ _ _ _ (aQ (bV (ao aq (pv' 1) af) aB) (@ah _ _ _ (aA (dm' (pv' 0) qX hr.dn bC (pa1 (bh (pa1 (ao aq (pv' 1) af))))))) (aC)) zh3) fun zt2 zh2 ze2=>?_
 refine @seg _ _ _ 1 _ (@ae _ _ _ _ _ (aQ (bV (ao aq (pv' 1) af) aB) (@ah _ _ _ (aA (dm' (pv' 0) mT hr.dn bC (pa1 (ao aq (pv' 1) af))))) (aC)) zh2) fun zt1 zh1 ze1=>?_
 refine ⟨_,@ae _ _ _ _ _ (aQ (bV (ao aq (pv' 1) af) aB) (@ah _ _ _ (aA (dm' (pv' 0) fj hr.dn bC (pa1 (ao aq (pv' 1) af))))) (aC)) zh1,?_⟩
 have l2:=hg.sh.l2
 have l6:=hg.sh.l6
 have wl:=hn.wl
 have k30:=hg.k30
 obtain ⟨⟨dx,dl,gl,hob,_⟩,_⟩:=id hW
 cases x with
 | dd d=>
  obtain ⟨r,e1,e2⟩:=hb
  subst e2
  have hask:∀w,atI (ddV d) 0=some (.str w)->¬w="at"/\¬w="cages"/\¬w="fewest":=by
   intro w hw
   cases d<;>(cases hw;exact ⟨by decide,by decide,by decide⟩)
  obtain ⟨wd,ew,_⟩:=JC d
  obtain ⟨n1,n2,n3⟩:=hask wd ew
  k_mem
  refine ⟨_,hD,_,ew,?_⟩
  show (if wd="at" then _ else _)
  k_upd
  rw [if_neg n1]
  k_mem
  refine ⟨_,hD,_,ew,?_⟩
  show (if wd="cages" then _ else _)
  k_upd
  rw [if_neg n2]
  k_mem
  refine ⟨_,hD,_,ew,?_⟩
  show (if wd="fewest" then _ else _)
  k_upd
  rw [if_neg n3]
  k_mem
  refine ⟨w,bk,rl,dd,g,n0,rs,rfl,hW,hg,hn,h300,.inl ⟨d,hD,ok,fun r' e' H2 s2=>?_,fun e'=>by rw [e1] at e';cases e'⟩⟩
  rw [e1] at e'
  cases e'
  rw [O0 hi]
  k_upd
  exact q H2 s2
 | lvl l=>
  obtain ⟨hu,rfl⟩:=hb
  k_mem
  refine ⟨_,hD,_,rfl,_,_,hob,rfl,_,hD,_,rfl,?_⟩
  k_upd
  exact ⟨w,bk,rl,g,n0,rs,l,rfl,hW,by omega,fun z=>absurd z hu,fun _=>q H (av.refl H)⟩
 | tick t=>
  obtain ⟨hu,rfl⟩:=hb
  k_mem
  refine ⟨_,hD,_,rfl,?_⟩
  k_mem
  rw [if_neg (by decide)]
  k_mem
  refine ⟨_,hD,_,rfl,_,_,hob,rfl,_,hD,_,rfl,?_⟩
  k_upd
  exact ⟨w,bk,rl,g,n0,rs,t,rfl,hW,by omega,hrs,hnow,fun z=>absurd z hu,fun _=>q H (av.refl H)⟩
 | few k=>
  obtain ⟨hu,rfl⟩:=hb
  k_mem
  refine ⟨_,hD,_,rfl,?_⟩
  k_mem
  rw [if_neg (by decide)]
  k_mem
  refine ⟨_,hD,_,rfl,?_⟩
  k_mem
  rw [if_neg (by decide)]
  k_mem
  refine ⟨_,hD,_,rfl,_,_,hob,rfl,_,hD,_,rfl,by decide,fun p hp=>?_⟩
  (generalize hE:upd H p _=H1 at *;have s1:=bS hE hp;have e1:=aY hE;clear hE)
  k_upd
  exact ⟨w,bk,rl,p,g,n0,rs,k,rfl,hW.same s1,hg.gk,k30,SqL.of e1,hu,q H1 s1⟩
variable (J0:KD P w K mg base (CXf P w) 9 "_law_ask" (AO K Z))
noncomputable def SQ (K:WA)(Z:Adr)(M:Addr->Hp->Prop):XK:=fun cls _ H'=>W.exmOne K cls (.ref Z.bE)=some true/\∀y,H' y=none->md K [.ref y,.ref Z.ay] (upd H' y (LS y cls)) fun x0 H1=>md K [.ref y,.ref Z.bB] H1 fun x1 H1=>md K [.ref y,.ref Z.aW] H1 fun x2 H1=>3<=sizeLine/\∀p,H1 p=none->md K [.ref y,.ref Z.aU] (upd H1 p (.lst [x0,x1,x2])) fun y0 H1=>md K [.ref y,.ref Z.aJ] H1 fun y1 H1=>md K [.ref y,.ref Z.aH] H1 fun y2 H1=>3<=sizeLine/\∀q,H1 q=none->∃xs,(upd H1 q (.lst [y0,y1,y2])) p=some (.lst xs)/\∃zs,(upd H1 q (.lst [y0,y1,y2])) q=some (.lst zs)/\xs.length+zs.length<=sizeLine/\∀p,(upd H1 q (.lst [y0,y1,y2])) p=none->md K [.ref y,.ref Z.aV] (upd (upd H1 q (.lst [y0,y1,y2])) p (.lst (xs++zs))) fun z0 H1=>md K [.ref y,.ref Z.aP] H1 fun z1 H1=>md K [.ref y,.ref Z.bD] H1 fun z2 H1=>3<=sizeLine/\∀q,H1 q=none->∃xs,(upd H1 q (.lst [z0,z1,z2])) p=some (.lst xs)/\∃zs,(upd H1 q (.lst [z0,z1,z2])) q=some (.lst zs)/\xs.length+zs.length<=sizeLine/\∀p,(upd H1 q (.lst [z0,z1,z2])) p=none->M p (upd (upd H1 q (.lst [z0,z1,z2])) p (.lst (xs++zs)))
noncomputable def IV (i:Nat):List Bool:=[decide (i=0),decide (i=1),decide (i=2),decide (i=3),decide (i=4),decide (i=5),decide (i=6),decide (i=7),decide (i=8)]
inductive i7 (K:WA)(Z:Adr)(vs:List V)(H:Hp)(Q:VK)(E:XK):Prop | mk (w bk rl dd:Addr) (g:Cfg) (n0:aS) (rs:List Row) (x:Qd) (i:Nat):vs=[.ref w,.ref dd]->WAt (clZ Z) K H w bk rl g n0 rs->eA g->cQ g (aj n0 rs)->rs.length < 300->Ni rs->bX rs<=1000000->SqT K H dd (qdV x)->qOk x->BE g (aj n0 rs) (bX rs) x i->i < 9->(∀p H',av H H'->H' p=some (.lst ((IV i).map V.bl))->Q (.ref p) H')->i7 K Z vs H Q E
include T J0 in
theorem EG:FF P w K mg base CX0 10 "_law_refused" "_law_refused" qc xW (i7 K Z):=fk0 fg fun vs H Q E h=>by
 obtain ⟨w,bk,rl,dd,g,n0,rs,x,i,rfl,hW,hg,hn,h300,hrs,hnow,hD,ok,hb,hi,q⟩:=h
 k_all
 refine @seg _ _ _ 2 _ (@ah _ _ _ (aA (pv' 2))) fun zt2 zh2 ze2=>?_
 refine @seg _ _ _ 1 _ (@ae _ _ _ _ _ (QA (i:=3) rfl rfl (fun _ _=>@ah _ _ _ (@bb _ _ _ _ (dcT J0 hr.dn (pa2 (pv' 0) (pv' 1))) (by rfl))) (fun _=>@ae _ _ _ _ _ (@aG _ _ 2 _ _ _ _ fg.nd rfl orL (bh (pa3 (aF (show dw _ (.builtin "isinstance") (md K) from gh) (by rfl) T.bt bc (pa2 (pv' 3) (gZ (v:=.ref Z.ay) (by rfl) T.qf rfl))) (aF (show dw _ (.builtin "isinstance") (md K) from gh) (by rfl) T.bt bc (pa2 (pv' 3) (gZ (v:=.ref Z.bB) (by rfl) T.Af rfl))) (aF (show dw _ (.builtin "isinstance") (md K) from gh) (by rfl) T.bt bc (pa2 (pv' 3) (gZ (v:=.ref Z.aW) (by rfl) T.Ae rfl))))) (by rfl) hfA) (@ae _ _ _ _ _ (@aG _ _ 2 _ _ _ _ fg.nd rfl orL (aT gp (pv' 2) (bh (pa3 (aF (show dw _ (.builtin "isinstance") (md K) from gh) (by rfl) T.bt bc (pa2 (pv' 3) (gZ (v:=.ref Z.aU) (by rfl) T.tO rfl))) (aF (show dw _ (.builtin "isinstance") (md K) from gh) (by rfl) T.bt bc (pa2 (pv' 3) (gZ (v:=.ref Z.aJ) (by rfl) T.sv rfl))) (aF (show dw _ (.builtin "isinstance") (md K) from gh) (by rfl) T.bt bc (pa2 (pv' 3) (gZ (v:=.ref Z.aH) (by rfl) T.sr rfl)))))) (by rfl) hfA) (@ah _ _ _ (@aG _ _ 2 _ _ _ _ fg.nd rfl orL (aT gp (pv' 2) (bh (pa3 (aF (show dw _ (.builtin "isinstance") (md K) from gh) (by rfl) T.bt bc (pa2 (pv' 3) (gZ (v:=.ref Z.aV) (by rfl) T.nV rfl))) (aF (show dw _ (.builtin "isinstance") (md K) from gh) (by rfl) T.bt bc (pa2 (pv' 3) (gZ (v:=.ref Z.aP) (by rfl) T.qg rfl))) (aF (show dw _ (.builtin "isinstance") (md K) from gh) (by rfl) T.bt bc (pa2 (pv' 3) (gZ (v:=.ref Z.bD) (by rfl) T.FK rfl)))))) (by rfl) hfA)))) fg.nd rfl rfl (by rfl) T.FL) zh2) fun zt1 zh1 ze1=>?_
 refine ⟨_,@ae _ _ _ _ _ (@aG _ _ 2 _ _ _ _ fg.nd rfl orL (bh il) (by rfl) hfA) zh1,?_⟩
 k_mem
 refine ⟨by decide,fun h0 hh0=>?_⟩
 (generalize hE:upd H h0 _=H1 at *;have s1:=bS hE hh0;have e1:=aY hE;clear hE)
 k_mem
 have hx:∀H2,av H1 H2->SQ K Z (fun ph H'=>zt2 {nx:=fun x H'=>Q V.non H',rt:=Q} [some (V.ref w),some (V.ref dd),some (V.ref ph),none] H') (.ref (wg Z i)) none H2:=by
  intro H2 s2
  have kx:W.exmOne K (.ref (wg Z i)) (.ref Z.bE)=some true/\ExI K (wg Z i)/\W.kitOne K (.ref (wg Z i)) (.ref Z.ay)=some (decide (i=0))/\W.kitOne K (.ref (wg Z i)) (.ref Z.bB)=some (decide (i=1))/\W.kitOne K (.ref (wg Z i)) (.ref Z.aW)=some (decide (i=2))/\W.kitOne K (.ref (wg Z i)) (.ref Z.aU)=some (decide (i=3))/\W.kitOne K (.ref (wg Z i)) (.ref Z.aJ)=some (decide (i=4))/\W.kitOne K (.ref (wg Z i)) (.ref Z.aH)=some (decide (i=5))/\W.kitOne K (.ref (wg Z i)) (.ref Z.aV)=some (decide (i=6))/\W.kitOne K (.ref (wg Z i)) (.ref Z.aP)=some (decide (i=7))/\W.kitOne K (.ref (wg Z i)) (.ref Z.bD)=some (decide (i=8)):=by
   rcases (by omega:i=0\/i=1\/i=2\/i=3\/i=4\/i=5\/i=6\/i=7\/i=8) with rfl | rfl | rfl | rfl | rfl | rfl | rfl | rfl | rfl
   ·k_upd
    exact ⟨T.lI,T.Ai,T.i4,T.oY,T.mB,T.mD,T.jG,T.jH,T.mE,T.lJ,T.oZ⟩
   ·k_upd
    exact ⟨T.tT,T.M8,T.o8,T.yA,T.vw,T.vx,T.qu,T.qv,T.vy,T.tU,T.yB⟩
   ·k_upd
    exact ⟨T.qs,T.Iu,T.mK,T.vt,T.rA,T.rB,T.n8,T.n9,T.rC,T.qt,T.vv⟩
   ·k_upd
    exact ⟨T.qy,T.Iv,T.mO,T.vz,T.rD,T.rE,T.oi,T.oj,T.rF,T.qz,T.vA⟩
   ·k_upd
    exact ⟨T.mL,T.Bv,T.jJ,T.qw,T.oa,T.og,T.j8,T.j9,T.oh,T.mM,T.qx⟩
   ·k_upd
    exact ⟨T.mF,T.Bs,T.jI,T.qi,T.nW,T.nX,T.j6,T.j7,T.nY,T.mG,T.qj⟩
   ·k_upd
    exact ⟨T.qk,T.Io,T.mH,T.vp,T.rp,T.rq,T.nZ,T.n6,T.rz,T.qm,T.vq⟩
   ·k_upd
    exact ⟨T.o6,T.FU,T.lK,T.tQ,T.qo,T.qp,T.mI,T.mJ,T.qr,T.o7,T.tR⟩
   ·k_upd
    exact ⟨T.tV,T.Na,T.o9,T.yC,T.vB,T.vC,T.qB,T.qC,T.vD,T.tW,T.yD⟩
  obtain ⟨z0,z1,z2,z3,z4,z5,z6,z7,z8,z9,z10⟩:=kx
  k_upd
  refine ⟨z0,fun y hy=>?_⟩
  (generalize hE:upd H2 y _=H3 at *;have t1:=bS hE hy;have ey1:=aY hE;clear hE)
  refine Ds ey1 z1 z2 gj (Ds ey1 z1 z3 gj (Ds ey1 z1 z4 gj (⟨by decide,fun q0 hq0=>?_⟩)))
  (generalize hE:upd H3 q0 _=H4 at *;have t2:=bS hE hq0;have e2:=aY hE;clear hE)
  have ey2:=t2 _ _ ey1
  refine Ds ey2 z1 z5 gj (Ds ey2 z1 z6 gj (Ds ey2 z1 z7 gj (⟨by decide,fun q1 hq1=>?_⟩)))
  (generalize hE:upd H4 q1 _=H5 at *;have t3:=bS hE hq1;have e3:=aY hE;clear hE)
  have ey3:=t3 _ _ ey2
  k_upd
  refine ⟨_,t3 _ _ e2,_,e3,(by show 6<=sizeLine;decide),fun r1 hr1=>?_⟩
  (generalize hE:upd H5 r1 _=H6 at *;have t4:=bS hE hr1;have e4:=aY hE;clear hE)
  have ey4:=t4 _ _ ey3
  refine Ds ey4 z1 z8 gj (Ds ey4 z1 z9 gj (Ds ey4 z1 z10 gj (⟨by decide,fun q2 hq2=>?_⟩)))
  (generalize hE:upd H6 q2 _=H7 at *;have t5:=bS hE hq2;have e5:=aY hE;clear hE)
  k_upd
  refine ⟨_,t5 _ _ e4,_,e5,(by show 9<=sizeLine;decide),fun r2 hr2=>?_⟩
  (generalize hE:upd H7 r2 _=H8 at *;have t6:=bS hE hr2;have e6:=aY hE;clear hE)
  have t99:=((((((s1.trans s2).trans t1).trans t2).trans t3).trans t4).trans t5).trans t6
  k_mem
  exact q r2 _ t99 e6
 k_upd
 refine ⟨w,bk,rl,dd,g,n0,rs,x,i,rfl,hW.same s1,hg,hn,h300,hrs,hnow,s1.tup hD,ok,hb,hi,fun H2 s2=>?_⟩
 exact hx H2 s2
variable (kL:KD P w K mg base CX0 10 "_law_refused" (i7 K Z))
theorem Run.rsok39 {g:Cfg}{n0:aS}{rs:List Row}(hg:eA g)(h0:cQ g n0)(h:Run g n0 rs):Ni rs:=fun r hr=>by
 have:=(h.mem hg h0).2 r hr
 omega
theorem xD {i:Nat}(h:i < 9):((IV i).map V.bl).all bU=true/\((List.range 9).map fun (r:Nat)=>V.bl (decide ((0:Int)+(r:Int)=(i:Int)))).all bU=true/\eqL ((IV i).map V.bl) ((List.range 9).map fun (r:Nat)=>V.bl (decide ((0:Int)+(r:Int)=(i:Int))))=true:=by
 rcases (by omega:i=0\/i=1\/i=2\/i=3\/i=4\/i=5\/i=6\/i=7\/i=8) with rfl | rfl | rfl | rfl | rfl | rfl | rfl | rfl | rfl<;>exact ⟨rfl,rfl,rfl⟩
def Sq (Z:Adr)(K:WA)(H0:Hp)(a p dl cl ll w bk rl sl wl:Addr)(g:Cfg)(lds:List Ld)(n0:aS)(j:Int)(i:Nat)(σ:St)(H':Hp):Prop:=∃rs,oW (clZ Z) K H0 H' p dl cl ll w bk rl sl wl g lds n0 rs/\rs.length<=i/\∃t6 t7 t8,σ=[some (.ref a),some (.ref p),some (.ref w),some (.ref sl),some (.ref wl),some (.int j),t6,t7,t8]
noncomputable def AQ (K:WA)(Z:Adr):Sp:=fun vs H Q _=>∃(a:Addr) (ns:List Int),vs=[.ref a]/\SqL K H a (ns.map V.int)/\ns.length<=63/\∀H',Q (.bl true) H'
include T rh rj g9 hJ hV rk v8 wa we kL in
theorem Ro:FF P w K mg base (CXf P w) 11 "law" "law" Ab MZ (AQ K Z):=fkF lH fun vs H Q E h=>by
 obtain ⟨a,ns,rfl,hS,hn,q⟩:=h
 k_all
 refine @seg _ _ _ 6 _ (@ah _ _ _ (aA iS)) fun zt6 zh6 ze6=>?_
 refine @seg _ _ _ 5 _ (@ae _ _ _ _ _ (cH A2 rfl (tj (by rfl) T.cB (pa2 af (aF (Kd rfl) (by rfl) T.Sf Qu (pa2 af (aT bx (pv' 5) af))))) (aE (i:=6) lH.nd rfl orL) (@ae _ _ _ _ _ (aQ (pe (bV (cO (pv' 6) af) af) (kM (Fv (pv' 6) (pv' 5)))).pt (@ae _ _ _ _ _ (cH A2 rfl (cJ (aT gp (dc0 g9 hr.dn (pa2 (pv' 1) (ao ax (pv' 3) (fB cN af)))) (dc0 hJ hr.dn (pa2 (pv' 1) (ao ax (pv' 3) (fB cN af)))))) (eS rfl (aI (aE (i:=7) lH.nd rfl (Or.inr rfl)) (aI (aE (i:=8) lH.nd rfl orL) de))) (@ah _ _ _ (aQ (dQ (JD hr.units0) (dc0 kL hr.dn (pa2 (pv' 2) (pv' 8))) (kh ["_law_at_here","_law_due"] [none,some 7] (bA (by rfl) T.cB (pa1 af)) (fun _ _ _ _=>(aE (i:=0) (show (["_law_at_here","_law_due"]:List Str).Nodup by decide +kernel) rfl orL)) (fun _ _ _ _=>gf) (fun _ _ _ _=>(dF jj (pv' 0) (pv' 1) (cE _)))) (cE _)) (@ah _ _ _ (aA iS)) (aC)))) (@ah _ _ _ (aQ (ft (cX (dc wa hr.dn bC (pa4 (pv' 2) (pv' 1) (pv' 3) (pv' 4))))) (@ah _ _ _ (aA iS)) (aC)))) (aC)) (@ah _ _ _ (aQ (oG (pv' 6) (pv' 5)) (@ae _ _ _ _ _ (@aG _ _ 8 _ _ _ _ lH.nd rfl orL (dc0 hV hr.dn (pa3 (pv' 1) (pv' 3) (dc0 rh hr.dn (pa2 (pv' 0) (pv' 6))))) (by rfl) hfA) (@ah _ _ _ (aQ (ft (cX (dc we hr.dn bC (dY (pv' 2) (pa4 (pv' 1) (pv' 3) (pv' 4) (pv' 8)))))) (@ah _ _ _ (aA iS)) (aC)))) (aC))))) zh6) fun zt5 zh5 ze5=>?_
 refine @seg _ _ _ 4 _ (@ae _ _ _ _ _ (@aG _ _ 5 _ _ _ _ lH.nd rfl orL (aF (nu rfl) (by rfl) T.JI Dq (pa2 (aF az (by rfl) T.bY bu (pa1 (pv' 0))) af)) (by rfl) hfA) zh5) fun zt4 zh4 ze4=>?_
 refine @seg _ _ _ 3 _ (@ae _ _ _ _ _ (@aG _ _ 4 _ _ _ _ lH.nd rfl orL (bh il) (by rfl) hfA) zh4) fun zt3 zh3 ze3=>?_
 refine @seg _ _ _ 2 _ (@ae _ _ _ _ _ (@aG _ _ 3 _ _ _ _ lH.nd rfl orL (bh (pa1 (dc0 rj hr.dn (pa1 (pv' 1))))) (by rfl) hfA) zh3) fun zt2 zh2 ze2=>?_
 refine @seg _ _ _ 1 _ (@ae _ _ _ _ _ (@aG _ _ 2 _ _ _ _ lH.nd rfl orL (dc v8 hr.dn bC (pa1 (pv' 1))) (by rfl) hfA) zh2) fun zt1 zh1 ze1=>?_
 refine ⟨_,@ae _ _ _ _ _ (@aG _ _ 1 _ _ _ _ lH.nd rfl orL (dc0 rk hr.dn (pa2 (pv' 0) af)) (by rfl) hfA) zh1,?_⟩
 k_mem
 refine ⟨a,ns,30,rfl,hS,by omega,by omega,fun p dl cl ll ds ls slow fast lds H1 s1 fp fdl fcl fll hP hsh hlen hgd hsp hlm hld=>?_⟩
 have hU:Fp ds ls slow fast lds:=⟨hsh,hlen,hgd,hsp,by omega,fun x hx=>(hld x hx).1⟩
 have l2:=hU.sh.l2
 have l6:=hU.sh.l6
 have l30:=hU.l30
 have hSH:=s1.seq hS
 k_mem
 refine ⟨p,dl,cl,ll,ds,ls,slow,fast,lds,fun _=>False,rfl,hP,hsh,hlen,hgd,hsp,by omega,fun x hx=>(hld x hx).1,fun w bk rl N HA sA frl fw hW=>?_⟩
 k_mem
 refine ⟨p,dl,cl,ll,ds,ls,slow,fast,lds,_,rfl,hP.same sA,l2,l6,l30,fun st HB sB hst=>?_⟩
 k_mem
 refine ⟨by decide,fun sl hsl=>?_⟩
 have hWa:=(hW.same sB).grow hsl ((av.refl HB).lay (o:=HO.lst [V.ref st]) hsl) ag
 (generalize hE:upd HB sl _=HC at *;have sC:=bS hE hsl;have esl:=aY hE;clear hE)
 k_mem
 refine ⟨by decide,fun wl hwl=>?_⟩
 have nsw:sl≠wl:=ak esl hwl
 have hWb:=hWa.grow hwl ((av.refl HC).lay (o:=HO.lst []) hwl) ag
 (generalize hE:upd HC wl _=HD at *;have sD:=bS hE hwl;have ewl:=aY hE;clear hE)
 have sAB:=sA.trans sB
 have s1D:=(sAB.trans sC).trans sD
 have hX:oW (clZ Z) K H1 HD p dl cl ll w bk rl sl wl (ij ds ls slow fast lds fun q=>(N q\/q=sl)\/q=wl) lds (iV ds ls lds) []:=⟨⟨hP.ob,hP.od,hP.oc,hP.ol,hP.ek⟩,s1D,frl,sAB.free hsl,(sAB.trans sC).free hwl,⟨hWb,⟨[st],sD _ _ esl,dP.nil.push ((hst.same sC).same sD)⟩,⟨[],ewl,dJ.nil⟩,.inl (.inr rfl),.inr rfl,nsw,.nil⟩,hU.cfg _,hU.snap _⟩
 clear hWa hWb hst hW
 k_mem
 refine ⟨_,.inl (s1D.seq hSH),?_⟩
 rw [WB]
 have hj:(if 45 < (ns.length:Int) then 45 else (ns.length:Int))<=ns.length:=by split<;>omega
 have hj1:(if 45 < (ns.length:Int) then 45 else (ns.length:Int))<=45:=by split<;>omega
 have hj0:0<=(if 45 < (ns.length:Int) then 45 else (ns.length:Int)):=by split<;>omega
 generalize (if 45 < (ns.length:Int) then 45 else (ns.length:Int))=j at *
 k_mem
 refine ⟨_,_,rfl,?_⟩
 have hm:(if j+1 > 6 then j+1 else 6)<=46:=by split<;>omega
 have hm0:6<=(if j+1 > 6 then j+1 else 6):=by split<;>omega
 generalize (if j+1 > 6 then j+1 else 6)=mx at *
 k_upd
 refine ⟨⟨by decide,by decide,by omega,by omega⟩,?_⟩
 k_upd
 refine cf (Sq Z K H1 a p dl cl ll w bk rl sl wl _ lds _ j) ⟨[],hX,Nat.le_refl _,_,_,_,rfl⟩ ?_ ?_
 ·clear hX
  rintro i σ H6 hi ⟨rs,hX6,hr6,t6,t7,t8,rfl⟩
  have hi2:i < 41:=by omega
  have hn2:=hX6.snap
  have hrun:=hX6.da.run
  k_mem
  have hblk:∀P R:Prop,(((5+(i:Int)) % 6=0\/j<=5+(i:Int))->P)->(¬((5+(i:Int)) % 6=0\/j<=5+(i:Int))->R)->if (5+(i:Int)) % 6=0 then P else if j<=5+(i:Int) then P else R:=fun P R h1 h2=>by
   split
   ·exact h1 (.inl ‹_›)
   ·split
    ·exact h1 (.inr ‹_›)
    ·rename_i z1 z2
     exact h2 fun z=>z.elim z1 z2
  refine hblk _ _ (fun _=>?_) (fun _=>?_)
  ·obtain ⟨as,hsl6,hA6⟩:=hX6.da.st
   obtain ⟨as1,a1,rfl,hSt⟩:=Dy hA6
   k_mem
   refine ⟨_,SqL.of hsl6,_,ko,?_⟩
   k_upd
   refine ⟨p,dl,cl,ll,a1,_,lds,_,_,rfl,hX6.setup,hX6.cg,hn2,hSt,fun q1 b1 xs1 H7 s7 e1 hB1 hl1 hG1=>?_⟩
   k_upd
   refine ⟨_,SqL.of (s7 _ _ hsl6),_,ko,?_⟩
   k_upd
   refine ⟨p,dl,cl,ll,a1,_,lds,_,_,rfl,hX6.setup.same s7,hX6.cg,hn2,hSt.same s7,fun q2 b2 xs2 H8 s8 e2 hB2 hl2 hG2=>?_⟩
   k_mem
   have lb1:=hB1.1
   have lb2:=hB2.1
   k_upd
   refine ⟨_,s8 _ _ e1,_,e2,by rw [WB,WB,sizeLine_eq];omega,fun q3 n3=>?_⟩
   (generalize hE:upd H8 q3 _=H9 at *;have s9:=bS hE n3;have e9:=aY hE;clear hE)
   have hB:dW K H9 (b1++b2) (xs1++xs2):=dP.app (hB1.same (s8.trans s9)) (hB2.same s9)
   have hG:ow (ij ds ls slow fast lds fun q=>(N q\/q=sl)\/q=wl) (aj (iV ds ls lds) rs) (bX rs) (xs1++xs2):=fun x hx=>by
    rcases List.mem_append.mp hx with h | h
    ·exact hG1 x h
    ·exact hG2 x h
   rw [←List.map_append] at e9
   have hX9:=hX6.same ((s7.trans s8).trans s9)
   generalize xs1++xs2=xs at *
   generalize b1++b2=bs at *
   clear hB1 hB2 hG1 hG2 e1 e2 s7 s8 s9 n3 lb1 lb2 hX6 hsl6 hA6 hSt
   k_upd
   refine ⟨⟨_,SqL.of e9⟩,?_⟩
   k_upd
   refine en _ (fun m σ H'=>av H9 H'/\∃t7 t8,σ=[some (.ref a),some (.ref p),some (.ref w),some (.ref sl),some (.ref wl),some (.int j),some (.int (5+(i:Int))),t7,t8]) ⟨av.refl _,_,_,rfl⟩ (fun m σ H' _ h=>SqL.of (h.1 _ _ e9)) ?_ ?_
   ·rintro m x σ HA hx ⟨sA,t7,t8,rfl⟩
    rw [List.getElem?_map] at hx
    obtain ⟨aa,haa,rfl⟩:=Option.map_eq_some_iff.mp hx
    obtain ⟨y,hy⟩:∃y,xs[m]?=some y:=⟨_,List.getElem?_eq_getElem (by rw [←hB.1];exact (List.getElem?_eq_some_iff.mp haa).1)⟩
    obtain ⟨b,hb1,hb2⟩:=hB.2 m aa y haa hy
    obtain ⟨ok,hbad,hi9⟩:=hG y (List.mem_of_getElem? hy)
    have hXA:=hX9.same sA
    have hmem:=hrun.mem hX9.cg hX9.c0
    k_mem
    refine ⟨_,SqT.of (sA _ _ hb1),rfl,?_⟩
    show i7 K Z [.ref w,.ref b] HA _ E0
    k_upd
    refine ⟨w,bk,rl,b,_,_,rs,y.2,y.1,rfl,hXA.da.wk,hXA.cg,hn2,by omega,Run.rsok39 hX9.cg hX9.c0 hrun,by omega,sA.tup hb2,ok,hbad,hi9,fun pr HB sB eB=>?_⟩
    k_upd
    refine ⟨by decide,by decide,?_⟩
    refine uy (n:=9) (fun r=>V.bl (decide ((0:Int)+(r:Int)=(y.1:Int)))) (by decide) rfl (fun r hr N hN=>?_) fun ql nl=>?_
    ·k_mem
     exact hN
    k_upd
    refine ⟨_,SqL.of (upo eB nl),_,SqL.of ag,(xD hi9).1,(xD hi9).2.1,?_⟩
    rw [(xD hi9).2.2,if_neg (by decide)]
    k_upd
    exact ⟨(sA.trans sB).lay nl,_,_,rfl⟩
   ·rintro σ HA ⟨sA,t7,t8,rfl⟩
    have hXA:=hX9.same sA
    k_mem
    refine ⟨H1,w,bk,rl,p,dl,cl,ll,sl,wl,_,lds,_,rs,rfl,hXA,by omega,fun HB sB=>?_⟩
    have hXB:=hXA.same sB
    k_mem
    by_cases hk:(5+(i:Int)) < j
    ·rw [if_pos hk]
     obtain ⟨asX,hslX,hAX⟩:=hXB.da.st
     k_mem
     refine ⟨a,ns,5+(i:Int),rfl,hXB.sa.seq hSH,by omega,by omega,fun c=>?_⟩
     k_mem
     refine ⟨p,dl,cl,ll,sl,_,lds,_,rs,c,rfl,hXB.setup,hXB.cg,hXB.snap,⟨asX,hslX,hAX⟩,fun dd d HM sM hd ok hr=>?_,fun hrs dd HM sM hd=>?_⟩
     ·k_mem
      k_upd
      refine ⟨H1,w,bk,rl,p,dl,cl,ll,sl,wl,dd,_,lds,_,rs,rfl,hXB.same sM,by omega,.inl ⟨d,hd,ok,hr,fun HN kN hXN=>?_⟩⟩
      k_mem
      exact ⟨_,hXN,by rw [List.length_append,List.length_singleton];omega,_,_,_,rfl⟩
     ·obtain ⟨rs2,r,rfl⟩:∃rs2 r,rs=rs2++[r]:=by
       rcases dk rs with z | z
       ·exact absurd z hrs
       ·exact z
      k_mem
      refine ⟨H1,w,bk,rl,p,dl,cl,ll,sl,wl,dd,_,lds,_,rs2++[r],rfl,hXB.same sM,by omega,.inr ⟨hd,rs2,r,rfl,fun HN kN hXN=>?_⟩⟩
      k_mem
      exact ⟨_,hXN,by rw [List.length_append,List.length_singleton] at hr6;omega,_,_,_,rfl⟩
    ·rw [if_neg hk]
     k_upd
     exact ⟨rs,hXB,by omega,_,_,_,rfl⟩
  ·by_cases hk:(5+(i:Int)) < j
   ·rw [if_pos hk]
    obtain ⟨asX,hslX,hAX⟩:=hX6.da.st
    k_mem
    refine ⟨a,ns,5+(i:Int),rfl,hX6.sa.seq hSH,by omega,by omega,fun c=>?_⟩
    k_mem
    refine ⟨p,dl,cl,ll,sl,_,lds,_,rs,c,rfl,hX6.setup,hX6.cg,hX6.snap,⟨asX,hslX,hAX⟩,fun dd d HM sM hd ok hr=>?_,fun hrs dd HM sM hd=>?_⟩
    ·k_mem
     k_upd
     refine ⟨H1,w,bk,rl,p,dl,cl,ll,sl,wl,dd,_,lds,_,rs,rfl,hX6.same sM,by omega,.inl ⟨d,hd,ok,hr,fun HN kN hXN=>?_⟩⟩
     k_mem
     exact ⟨_,hXN,by rw [List.length_append,List.length_singleton];omega,_,_,_,rfl⟩
    ·obtain ⟨rs2,r,rfl⟩:∃rs2 r,rs=rs2++[r]:=by
      rcases dk rs with z | z
      ·exact absurd z hrs
      ·exact z
     k_mem
     refine ⟨H1,w,bk,rl,p,dl,cl,ll,sl,wl,dd,_,lds,_,rs2++[r],rfl,hX6.same sM,by omega,.inr ⟨hd,rs2,r,rfl,fun HN kN hXN=>?_⟩⟩
     k_mem
     exact ⟨_,hXN,by rw [List.length_append,List.length_singleton] at hr6;omega,_,_,_,rfl⟩
   ·rw [if_neg hk]
    k_upd
    exact ⟨rs,hX6,by omega,_,_,_,rfl⟩
 ·rintro σ H6 ⟨rs,hX6,hr6,t6,t7,t8,rfl⟩
  k_mem
  exact q _
include T rh rj g9 hJ hV rk v8 wa we kL in
theorem Rp:FF P w K mg base CX0 11 "law" "law" Ab MZ (AQ K Z):=(Ro T rh rj g9 hJ hV rk v8 wa we kL).calm fun vs H Q E h=>h
end
theorem Rq {l:W.OpenLaw}{w:World}{K:WA}{h:Heap}{mg:Str->Option Value}{fa:Addr}(X:K.In h)(G:h.Ns mainGlobals mg)(hfa:mg "law"=some (.ref fa)){C0 C1 C2 C3 C4 C5 C6 C7 C8 C9 C10 C11 C12 C13 C14 C15 C16 C17 C18 C19 C20 C21 C22 C23 C24 C25:Addr}{ta_KINDS:Addr}{tk_KINDS_0 tk_KINDS_1:Tok}{tn_KINDS:Nat}{ts_KINDS:Array (Option Value)}{ta_CAGE_SPOTS:Addr}{tk_CAGE_SPOTS_0 tk_CAGE_SPOTS_1:Tok}{to_CAGE_SPOTS:Option Addr}{tn_CAGE_SPOTS:Nat}{ts_CAGE_SPOTS:Array (Option Value)}{ta_CAGES:Addr}{tk_CAGES_0 tk_CAGES_1:Tok}{to_CAGES:Option Addr}{tn_CAGES:Nat}{ts_CAGES:Array (Option Value)}(fx:PH K C0 C1 C2 C3 C4 C5 C6 C7 C8 C9 C10 C11 C12 C13 C14 C15 C16 C17 C18 C19 C20 C21 C22 C23 C24 C25 ta_KINDS tk_KINDS_0 tk_KINDS_1 tn_KINDS ts_KINDS ta_CAGE_SPOTS tk_CAGE_SPOTS_0 tk_CAGE_SPOTS_1 to_CAGE_SPOTS tn_CAGE_SPOTS ts_CAGE_SPOTS ta_CAGES tk_CAGES_0 tk_CAGES_1 to_CAGES tn_CAGES ts_CAGES)
 : ∃Z:Adr,∃fd:FuncData,(∀(s:Shared) (v:Value),BindsTo s fd ⟨[v],[]⟩ [("_law_script",v)])/\∀base:Heap,K.In base->base.Ns mainGlobals mg->gH l.prog w K mg base CX0 11 fa fd ["_law_script"] (AQ K Z):=by
 obtain ⟨z_len,z_list,z_enumerate,z_zip,z_range,z_sorted,z_set,z_min,z_abs,z_tuple,z_isinstance,z_int,z_str,z_bool,z_max,m0,m1,m2,m3,m4,m5,m6,m7,m8,m9,m10,m11,m12,m13,m14,m15,m16,m17,m18,m19,m20,m21,m22,m23,m24,m25,n_MOST_LOADS,n_FEWEST_STROKES,n_MOST_STROKES,n_FEWEST_LEVELS,n_MOST_LEVELS,n_GREATEST_DEPTH,n_GREATEST_SPEED,n_MOST_PLANNED,n_MOST_DEEDS,n_KINDS,lt_KINDS,n_CAGE_SPOTS,lt_CAGE_SPOTS,n_CAGES,lt_CAGES,cl21,na21_kinds,na21_where,na21_many,cl22,na22_codes,na22_failed,na22_state,cl23,na23_place,na23_opened,na23_bells,na23_yard,cl24,na24_first,na24_most,na24_rows,cl25,na25_depths,na25_slow,na25_fast,na25_goals,na25_log,l0,x0,x1,x2,x3,x4,x5,x6,x7,x8,x9,x10,x11,x12,x13,x14,x15,x16,x17,x18,x19,e0_CageError,k0_UnknownLevel,k0_NoCode,k0_DeadBell,k0_NoChange,k0_NothingRung,k0_UnknownLoad,k0_NotThere,k0_CageEmpty,k0_NoTick,e1_CageError,k1_UnknownLevel,k1_NoCode,k1_DeadBell,k1_NoChange,k1_NothingRung,k1_UnknownLoad,k1_NotThere,k1_CageEmpty,k1_NoTick,e2_CageError,k2_UnknownLevel,k2_NoCode,k2_DeadBell,k2_NoChange,k2_NothingRung,k2_UnknownLoad,k2_NotThere,k2_CageEmpty,k2_NoTick,e3_CageError,k3_UnknownLevel,k3_NoCode,k3_DeadBell,k3_NoChange,k3_NothingRung,k3_UnknownLoad,k3_NotThere,k3_CageEmpty,k3_NoTick,e4_CageError,k4_UnknownLevel,k4_NoCode,k4_DeadBell,k4_NoChange,k4_NothingRung,k4_UnknownLoad,k4_NotThere,k4_CageEmpty,k4_NoTick,e5_CageError,k5_UnknownLevel,k5_NoCode,k5_DeadBell,k5_NoChange,k5_NothingRung,k5_UnknownLoad,k5_NotThere,k5_CageEmpty,k5_NoTick,e6_CageError,k6_UnknownLevel,k6_NoCode,k6_DeadBell,k6_NoChange,k6_NothingRung,k6_UnknownLoad,k6_NotThere,k6_CageEmpty,k6_NoTick,e7_CageError,k7_UnknownLevel,k7_NoCode,k7_DeadBell,k7_NoChange,k7_NothingRung,k7_UnknownLoad,k7_NotThere,k7_CageEmpty,k7_NoTick,e8_CageError,k8_UnknownLevel,k8_NoCode,k8_DeadBell,k8_NoChange,k8_NothingRung,k8_UnknownLoad,k8_NotThere,k8_CageEmpty,k8_NoTick,e9_CageError,k9_UnknownLevel,k9_NoCode,k9_DeadBell,k9_NoChange,k9_NothingRung,k9_UnknownLoad,k9_NotThere,k9_CageEmpty,k9_NoTick,e10_CageError,k10_UnknownLevel,k10_NoCode,k10_DeadBell,k10_NoChange,k10_NothingRung,k10_UnknownLoad,k10_NotThere,k10_CageEmpty,k10_NoTick,e11_CageError,k11_UnknownLevel,k11_NoCode,k11_DeadBell,k11_NoChange,k11_NothingRung,k11_UnknownLoad,k11_NotThere,k11_CageEmpty,k11_NoTick,e12_CageError,k12_UnknownLevel,k12_NoCode,k12_DeadBell,k12_NoChange,k12_NothingRung,k12_UnknownLoad,k12_NotThere,k12_CageEmpty,k12_NoTick,e13_CageError,k13_UnknownLevel,k13_NoCode,k13_DeadBell,k13_NoChange,k13_NothingRung,k13_UnknownLoad,k13_NotThere,k13_CageEmpty,k13_NoTick,e14_CageError,k14_UnknownLevel,k14_NoCode,k14_DeadBell,k14_NoChange,k14_NothingRung,k14_UnknownLoad,k14_NotThere,k14_CageEmpty,k14_NoTick,e15_CageError,k15_UnknownLevel,k15_NoCode,k15_DeadBell,k15_NoChange,k15_NothingRung,k15_UnknownLoad,k15_NotThere,k15_CageEmpty,k15_NoTick,e16_CageError,k16_UnknownLevel,k16_NoCode,k16_DeadBell,k16_NoChange,k16_NothingRung,k16_UnknownLoad,k16_NotThere,k16_CageEmpty,k16_NoTick,e17_CageError,k17_UnknownLevel,k17_NoCode,k17_DeadBell,k17_NoChange,k17_NothingRung,k17_UnknownLoad,k17_NotThere,k17_CageEmpty,k17_NoTick,e18_CageError,k18_UnknownLevel,k18_NoCode,k18_DeadBell,k18_NoChange,k18_NothingRung,k18_UnknownLoad,k18_NotThere,k18_CageEmpty,k18_NoTick,e19_CageError,k19_UnknownLevel,k19_NoCode,k19_DeadBell,k19_NoChange,k19_NothingRung,k19_UnknownLoad,k19_NotThere,k19_CageEmpty,k19_NoTick,d0,d1,d2,d3,d4,d5,d6,d7,d8,d9,d10,d11,d12,d13,d14,d15,d16,d17,d18,d19,d20,d21,d22,d23,d24,d25,d26,d27,d28,d29,d30,d31,d32,d33,d34,d35,d36,d37,d38,d39,d40,d41,d42,d43,d44,d45,d46,d47,d48,d49,d50,d51,d52,d53,d54,d55,d56,d57,d58,d59,d60,d61,d62,d63,d64,d65,d66,d67,d68,d69,d70,d71,d72,d73,d74,d75,d76,d77,d78,d79,d80,d81,d82,d83,d84,d85,d86,d87,d88,d89,d90,d91,d92,d93,d94,d95,d96,d97,d98,d99,d100,d101,d102,d103,d104,d105,d106,d107,d108,d109,d110,d111,d112,d113,d114,d115,d116⟩:=fx
 obtain ⟨f0,_,b0,F0⟩:=d0
 obtain ⟨f1,_,b1,F1⟩:=d1
 obtain ⟨f2,_,b2,F2⟩:=d2
 obtain ⟨f3,_,b3,F3⟩:=d3
 obtain ⟨f4,_,b4,F4⟩:=d4
 obtain ⟨f5,_,b5,F5⟩:=d5
 obtain ⟨f6,_,b6,F6⟩:=d6
 obtain ⟨f7,_,b7,F7⟩:=d7
 obtain ⟨f8,_,b8,F8⟩:=d8
 obtain ⟨f9,_,b9,F9⟩:=d9
 obtain ⟨f10,_,b10,F10⟩:=d10
 obtain ⟨f11,_,b11,F11⟩:=d11
 obtain ⟨f12,_,b12,F12⟩:=d12
 obtain ⟨f13,_,b13,F13⟩:=d13
 obtain ⟨f14,_,b14,F14⟩:=d14
 obtain ⟨f15,_,b15,F15⟩:=d15
 obtain ⟨f16,_,b16,F16⟩:=d16
 obtain ⟨f17,_,b17,F17⟩:=d17
 obtain ⟨f18,_,b18,F18⟩:=d18
 obtain ⟨f19,_,b19,F19⟩:=d19
 obtain ⟨f20,_,b20,F20⟩:=d20
 obtain ⟨f21,_,b21,F21⟩:=d21
 obtain ⟨f22,_,b22,F22⟩:=d22
 obtain ⟨f23,_,b23,F23⟩:=d23
 obtain ⟨f24,_,b24,F24⟩:=d24
 obtain ⟨f25,_,b25,F25⟩:=d25
 obtain ⟨f26,_,b26,F26⟩:=d26
 obtain ⟨f27,_,b27,F27⟩:=d27
 obtain ⟨f28,_,b28,F28⟩:=d28
 obtain ⟨f29,_,b29,F29⟩:=d29
 obtain ⟨f30,_,b30,F30⟩:=d30
 obtain ⟨f31,_,b31,F31⟩:=d31
 obtain ⟨f32,_,b32,F32⟩:=d32
 obtain ⟨f33,_,b33,F33⟩:=d33
 obtain ⟨f34,_,b34,F34⟩:=d34
 obtain ⟨f35,_,b35,F35⟩:=d35
 obtain ⟨f36,_,b36,F36⟩:=d36
 obtain ⟨f37,_,b37,F37⟩:=d37
 obtain ⟨f38,_,b38,F38⟩:=d38
 obtain ⟨f39,_,b39,F39⟩:=d39
 obtain ⟨f40,_,b40,F40⟩:=d40
 obtain ⟨f41,_,b41,F41⟩:=d41
 obtain ⟨f42,_,b42,F42⟩:=d42
 obtain ⟨f43,_,b43,F43⟩:=d43
 obtain ⟨f44,_,b44,F44⟩:=d44
 obtain ⟨f45,_,b45,F45⟩:=d45
 obtain ⟨f46,_,b46,F46⟩:=d46
 obtain ⟨f47,_,b47,F47⟩:=d47
 obtain ⟨f48,_,b48,F48⟩:=d48
 obtain ⟨f49,_,b49,F49⟩:=d49
 obtain ⟨f50,_,b50,F50⟩:=d50
 obtain ⟨f51,_,b51,F51⟩:=d51
 obtain ⟨f52,_,b52,F52⟩:=d52
 obtain ⟨f53,_,b53,F53⟩:=d53
 obtain ⟨f54,_,b54,F54⟩:=d54
 obtain ⟨f55,_,b55,F55⟩:=d55
 obtain ⟨f56,_,b56,F56⟩:=d56
 obtain ⟨f57,_,b57,F57⟩:=d57
 obtain ⟨f58,_,b58,F58⟩:=d58
 obtain ⟨f59,_,b59,F59⟩:=d59
 obtain ⟨f60,_,b60,F60⟩:=d60
 obtain ⟨f61,_,b61,F61⟩:=d61
 obtain ⟨f62,_,b62,F62⟩:=d62
 obtain ⟨f63,_,b63,F63⟩:=d63
 obtain ⟨f64,_,b64,F64⟩:=d64
 obtain ⟨f65,_,b65,F65⟩:=d65
 obtain ⟨f66,_,b66,F66⟩:=d66
 obtain ⟨f67,_,b67,F67⟩:=d67
 obtain ⟨f68,_,b68,F68⟩:=d68
 obtain ⟨f69,_,b69,F69⟩:=d69
 obtain ⟨f70,_,b70,F70⟩:=d70
 obtain ⟨f71,_,b71,F71⟩:=d71
 obtain ⟨f72,_,b72,F72⟩:=d72
 obtain ⟨f73,_,b73,F73⟩:=d73
 obtain ⟨f74,_,b74,F74⟩:=d74
 obtain ⟨f75,_,b75,F75⟩:=d75
 obtain ⟨f76,_,b76,F76⟩:=d76
 obtain ⟨f77,_,b77,F77⟩:=d77
 obtain ⟨f78,_,b78,F78⟩:=d78
 obtain ⟨f79,_,b79,F79⟩:=d79
 obtain ⟨f80,_,b80,F80⟩:=d80
 obtain ⟨f81,_,b81,F81⟩:=d81
 obtain ⟨f82,_,b82,F82⟩:=d82
 obtain ⟨f83,_,b83,F83⟩:=d83
 obtain ⟨f84,_,b84,F84⟩:=d84
 obtain ⟨f85,_,b85,F85⟩:=d85
 obtain ⟨f86,_,b86,F86⟩:=d86
 obtain ⟨f87,_,b87,F87⟩:=d87
 obtain ⟨f88,_,b88,F88⟩:=d88
 obtain ⟨f89,_,b89,F89⟩:=d89
 obtain ⟨f90,_,b90,F90⟩:=d90
 obtain ⟨f91,_,b91,F91⟩:=d91
 obtain ⟨f92,_,b92,F92⟩:=d92
 obtain ⟨f93,_,b93,F93⟩:=d93
 obtain ⟨f94,_,b94,F94⟩:=d94
 obtain ⟨f95,_,b95,F95⟩:=d95
 obtain ⟨f96,_,b96,F96⟩:=d96
 obtain ⟨f97,_,b97,F97⟩:=d97
 obtain ⟨f98,_,b98,F98⟩:=d98
 obtain ⟨f99,_,b99,F99⟩:=d99
 obtain ⟨f100,_,b100,F100⟩:=d100
 obtain ⟨f101,_,b101,F101⟩:=d101
 obtain ⟨f102,_,b102,F102⟩:=d102
 obtain ⟨f103,_,b103,F103⟩:=d103
 obtain ⟨f104,_,b104,F104⟩:=d104
 obtain ⟨f105,_,b105,F105⟩:=d105
 obtain ⟨f106,_,b106,F106⟩:=d106
 obtain ⟨f107,_,b107,F107⟩:=d107
 obtain ⟨f108,_,b108,F108⟩:=d108
 obtain ⟨f109,_,b109,F109⟩:=d109
 obtain ⟨f110,_,b110,F110⟩:=d110
 obtain ⟨f111,_,b111,F111⟩:=d111
 obtain ⟨f112,_,b112,F112⟩:=d112
 obtain ⟨f113,_,b113,F113⟩:=d113
 obtain ⟨f114,_,b114,F114⟩:=d114
 obtain ⟨f115,_,b115,F115⟩:=d115
 obtain ⟨f116,_,b116,F116⟩:=d116
 have e:=hfa.symm.trans (W.mg_of X G b116)
 cases e
 obtain ⟨oc,od,kV,dc,pm,an,cd,ct,sl,rfl,ll,cc⟩:=F116.ex
 let Z:Adr:=⟨C0,C1,C2,C3,C4,C5,C6,C7,C8,C9,C10,C11,C12,C13,C14,C15,C16,C17,C18,C19,C20,C21,C22,C23,C24,C25,ta_KINDS,ta_CAGE_SPOTS,ta_CAGES⟩
 refine ⟨Z,W.fnOf "law" "law" (eD Ab) (bZ Ab) (ai Ab) .none kV dc pm an cd ct,fun s v=>.of_eq rfl,fun base _ _=>?_⟩
 have T:Txt l.prog w K mg base Z:=⟨W.mg_none_of X G z_len,W.mg_none_of X G z_list,W.mg_none_of X G z_enumerate,W.mg_none_of X G z_zip,W.mg_none_of X G z_range,W.mg_none_of X G z_sorted,W.mg_none_of X G z_set,W.mg_none_of X G z_min,W.mg_none_of X G z_abs,W.mg_none_of X G z_tuple,W.mg_none_of X G z_isinstance,W.mg_none_of X G z_int,W.mg_none_of X G z_str,W.mg_none_of X G z_bool,W.mg_none_of X G z_max,KI.txt X G n_MOST_LOADS,KI.txt X G n_FEWEST_STROKES,KI.txt X G n_MOST_STROKES,KI.txt X G n_FEWEST_LEVELS,KI.txt X G n_MOST_LEVELS,KI.txt X G n_GREATEST_DEPTH,KI.txt X G n_GREATEST_SPEED,KI.txt X G n_MOST_PLANNED,KI.txt X G n_MOST_DEEDS,⟨_,W.mg_of X G n_KINDS,rfl⟩,fun H=>.inr ⟨_,_,_,lt_KINDS,rfl,rfl,(by show 2<=sizeLine;decide),.cons ⟨_,rfl⟩ (.cons ⟨_,rfl⟩ .nil)⟩,⟨_,lt_KINDS,rfl,rfl⟩,⟨_,W.mg_of X G n_CAGE_SPOTS,rfl⟩,fun H=>.inr ⟨_,_,_,lt_CAGE_SPOTS,rfl,rfl,(by show 2<=sizeLine;decide),.cons ⟨_,rfl⟩ (.cons ⟨_,rfl⟩ .nil)⟩,⟨_,W.mg_of X G n_CAGES,rfl⟩,fun H=>.inr ⟨_,_,_,lt_CAGES,rfl,rfl,(by show 2<=sizeLine;decide),.cons ⟨_,rfl⟩ (.cons ⟨_,rfl⟩ .nil)⟩,W.mg_of X G m0,W.mg_of X G m1,W.mg_of X G m2,W.mg_of X G m3,W.mg_of X G m4,W.mg_of X G m5,W.mg_of X G m6,W.mg_of X G m7,W.mg_of X G m8,W.mg_of X G m9,W.mg_of X G m10,W.mg_of X G m11,W.mg_of X G m12,W.mg_of X G m13,W.mg_of X G m14,W.mg_of X G m15,W.mg_of X G m16,W.mg_of X G m17,W.mg_of X G m18,W.mg_of X G m19,W.mg_of X G m20,W.mg_of X G m21,W.mg_of X G m22,W.mg_of X G m23,W.mg_of X G m24,W.mg_of X G m25,cl21,na21_kinds,na21_where,na21_many,cl22,na22_codes,na22_failed,na22_state,cl23,na23_place,na23_opened,na23_bells,na23_yard,cl24,na24_first,na24_most,na24_rows,cl25,na25_depths,na25_slow,na25_fast,na25_goals,na25_log,(x0 l0).ex,x0 l0,e0_CageError,k0_UnknownLevel,k0_NoCode,k0_DeadBell,k0_NoChange,k0_NothingRung,k0_UnknownLoad,k0_NotThere,k0_CageEmpty,k0_NoTick,(x1 l0).ex,x1 l0,e1_CageError,k1_UnknownLevel,k1_NoCode,k1_DeadBell,k1_NoChange,k1_NothingRung,k1_UnknownLoad,k1_NotThere,k1_CageEmpty,k1_NoTick,(x2 l0).ex,x2 l0,e2_CageError,k2_UnknownLevel,k2_NoCode,k2_DeadBell,k2_NoChange,k2_NothingRung,k2_UnknownLoad,k2_NotThere,k2_CageEmpty,k2_NoTick,(x3 l0).ex,x3 l0,e3_CageError,k3_UnknownLevel,k3_NoCode,k3_DeadBell,k3_NoChange,k3_NothingRung,k3_UnknownLoad,k3_NotThere,k3_CageEmpty,k3_NoTick,(x4 l0).ex,x4 l0,e4_CageError,k4_UnknownLevel,k4_NoCode,k4_DeadBell,k4_NoChange,k4_NothingRung,k4_UnknownLoad,k4_NotThere,k4_CageEmpty,k4_NoTick,(x5 l0).ex,x5 l0,e5_CageError,k5_UnknownLevel,k5_NoCode,k5_DeadBell,k5_NoChange,k5_NothingRung,k5_UnknownLoad,k5_NotThere,k5_CageEmpty,k5_NoTick,(x6 l0).ex,x6 l0,e6_CageError,k6_UnknownLevel,k6_NoCode,k6_DeadBell,k6_NoChange,k6_NothingRung,k6_UnknownLoad,k6_NotThere,k6_CageEmpty,k6_NoTick,(x7 l0).ex,x7 l0,e7_CageError,k7_UnknownLevel,k7_NoCode,k7_DeadBell,k7_NoChange,k7_NothingRung,k7_UnknownLoad,k7_NotThere,k7_CageEmpty,k7_NoTick,(x8 l0).ex,x8 l0,e8_CageError,k8_UnknownLevel,k8_NoCode,k8_DeadBell,k8_NoChange,k8_NothingRung,k8_UnknownLoad,k8_NotThere,k8_CageEmpty,k8_NoTick,(x9 l0).ex,x9 l0,e9_CageError,k9_UnknownLevel,k9_NoCode,k9_DeadBell,k9_NoChange,k9_NothingRung,k9_UnknownLoad,k9_NotThere,k9_CageEmpty,k9_NoTick,(x10 l0).ex,x10 l0,e10_CageError,k10_UnknownLevel,k10_NoCode,k10_DeadBell,k10_NoChange,k10_NothingRung,k10_UnknownLoad,k10_NotThere,k10_CageEmpty,k10_NoTick,(x11 l0).ex,x11 l0,e11_CageError,k11_UnknownLevel,k11_NoCode,k11_DeadBell,k11_NoChange,k11_NothingRung,k11_UnknownLoad,k11_NotThere,k11_CageEmpty,k11_NoTick,(x12 l0).ex,x12 l0,e12_CageError,k12_UnknownLevel,k12_NoCode,k12_DeadBell,k12_NoChange,k12_NothingRung,k12_UnknownLoad,k12_NotThere,k12_CageEmpty,k12_NoTick,(x13 l0).ex,x13 l0,e13_CageError,k13_UnknownLevel,k13_NoCode,k13_DeadBell,k13_NoChange,k13_NothingRung,k13_UnknownLoad,k13_NotThere,k13_CageEmpty,k13_NoTick,(x14 l0).ex,x14 l0,e14_CageError,k14_UnknownLevel,k14_NoCode,k14_DeadBell,k14_NoChange,k14_NothingRung,k14_UnknownLoad,k14_NotThere,k14_CageEmpty,k14_NoTick,(x15 l0).ex,x15 l0,e15_CageError,k15_UnknownLevel,k15_NoCode,k15_DeadBell,k15_NoChange,k15_NothingRung,k15_UnknownLoad,k15_NotThere,k15_CageEmpty,k15_NoTick,(x16 l0).ex,x16 l0,e16_CageError,k16_UnknownLevel,k16_NoCode,k16_DeadBell,k16_NoChange,k16_NothingRung,k16_UnknownLoad,k16_NotThere,k16_CageEmpty,k16_NoTick,(x17 l0).ex,x17 l0,e17_CageError,k17_UnknownLevel,k17_NoCode,k17_DeadBell,k17_NoChange,k17_NothingRung,k17_UnknownLoad,k17_NotThere,k17_CageEmpty,k17_NoTick,(x18 l0).ex,x18 l0,e18_CageError,k18_UnknownLevel,k18_NoCode,k18_DeadBell,k18_NoChange,k18_NothingRung,k18_UnknownLoad,k18_NotThere,k18_CageEmpty,k18_NoTick,(x19 l0).ex,x19 l0,e19_CageError,k19_UnknownLevel,k19_NoCode,k19_DeadBell,k19_NoChange,k19_NothingRung,k19_UnknownLoad,k19_NotThere,k19_CageEmpty,k19_NoTick⟩
 have D0:=KD.mk (W.mg_of X G b0) F0 F0.b2 (Gu T)
 have D4:=KN.mk b4 F4 F4.b3 (En T)
 have D7:=KM.mk cl21 b7 F7 F7.b1 (Bz T)
 have D8:=KM.mk cl21 b8 F8 F8.b2 (yE T)
 have D10:=KM.mk cl21 b10 F10 F10.b1 (tX T)
 have D12:=KD.mk (W.mg_of X G b12) F12 F12.b1 (Am T)
 have D14:=KN.mk b14 F14 F14.b2 (BA T)
 have D17:=KM.mk cl22 b17 F17 F17.b1 (yF T)
 have D19:=KM.mk cl22 b19 F19 F19.b1 (BB T)
 have D22:=KD.mk (W.mg_of X G b22) F22 F22.b1 (yG T)
 have D23:=KD.mk (W.mg_of X G b23) F23 F23.b1 (BC T)
 have D25:=KD.mk (W.mg_of X G b25) F25 F25.b2 (Gv T)
 have D29:=KD.mk (W.mg_of X G b29) F29 F29.b2 (yH T)
 have D30:=KD.mk (W.mg_of X G b30) F30 F30.b2 (BD T)
 have D31:=KD.mk (W.mg_of X G b31) F31 F31.b4 (An T)
 have D32:=KN.mk b32 F32 F32.b5 (xm T)
 have D34:=KN.mk b34 F34 F34.b3 (Eo T)
 have D36:=KM.mk cl24 b36 F36 F36.b1 (Ao T)
 have D37:=KM.mk cl24 b37 F37 F37.b1 (Gw T)
 have D38:=KM.mk cl24 b38 F38 F38.b1 (Ap T)
 have D39:=KM.mk cl24 b39 F39 F39.b1 (Ep T)
 have D43:=KD.mk (W.mg_of X G b43) F43 F43.b2 (Es T)
 have D47:=KD.mk (W.mg_of X G b47) F47 F47.b3 (Et T)
 have D54:=KD.mk (W.mg_of X G b54) F54 F54.b3 (ot T)
 have D58:=KD.mk (W.mg_of X G b58) F58 F58.b2 (Gz T)
 have D59:=KD.mk (W.mg_of X G b59) F59 F59.b2 (yI T)
 have D87:=KM.mk cl25 b87 F87 F87.b2 (vJ T)
 have D89:=KD.mk (W.mg_of X G b89) F89 F89.b2 (OS T)
 have D90:=KD.mk (W.mg_of X G b90) F90 F90.b3 (KZ T)
 have D91:=KD.mk (W.mg_of X G b91) F91 F91.b2 (IJ T)
 have D99:=KD.mk (W.mg_of X G b99) F99 F99.b3 (OU T)
 have D100:=KD.mk (W.mg_of X G b100) F100 F100.b3 (K0 T)
 have D101:=KD.mk (W.mg_of X G b101) F101 F101.b2 (IK T)
 have D102:=KD.mk (W.mg_of X G b102) F102 F102.b2 (IL T)
 have D103:=KD.mk (W.mg_of X G b103) F103 F103.b1 (IM T)
 have D104:=KD.mk (W.mg_of X G b104) F104 F104.b2 (IP T)
 have D114:=KD.mk (W.mg_of X G b114) F114 F114.b2 (Ar T)
 have D1:=KD.mk (W.mg_of X G b1) F1 F1.b2 (As T D0)
 have D2:=KD.mk (W.mg_of X G b2) F2 F2.b2 (BF T D0)
 have D3:=KD.mk (W.mg_of X G b3) F3 F3.b2 (Au T D0)
 have D13:=KD.mk (W.mg_of X G b13) F13 F13.b2 (Av T D12)
 have D16:=KM.mk cl22 b16 F16 F16.b2 (yJ T D12)
 have D24:=KD.mk (W.mg_of X G b24) F24 F24.b2 (Aw T D23)
 have D35:=KM.mk cl24 b35 F35 F35.b5 (BG T D37)
 have D41:=KM.mk cl24 b41 F41 F41.b2 (rG T D37)
 have D46:=KD.mk (W.mg_of X G b46) F46 F46.b3 (xr T D47)
 have D70:=KM.mk cl25 b70 F70 F70.b1 (ud T D36)
 have D72:=KM.mk cl25 b72 F72 F72.b2 (rH T D10)
 have D74:=KM.mk cl25 b74 F74 F74.b2 (ka T D38)
 have D75:=KM.mk cl25 b75 F75 F75.b1 (Ex T D37)
 have D76:=KM.mk cl25 b76 F76 F76.b1 (BH T D39)
 have D77:=KM.mk cl25 b77 F77 F77.b1 (yK T D17 D38)
 have D78:=KM.mk cl25 b78 F78 F78.b1 (BI T D19 D38)
 have D79:=KM.mk cl25 b79 F79 F79.b1 (Ax T D38)
 have D83:=KM.mk cl25 b83 F83 F83.b1 (Ay T D7 D38)
 have D84:=KM.mk cl25 b84 F84 F84.b2 (xt T D8 D38)
 have D93:=KD.mk (W.mg_of X G b93) F93 F93.b1 (GD T D90)
 have D94:=KD.mk (W.mg_of X G b94) F94 F94.b2 (IQ T D90)
 have D95:=KD.mk (W.mg_of X G b95) F95 F95.b3 (IS T D90)
 have D105:=KD.mk (W.mg_of X G b105) F105 F105.b3 (K4 T D99 D100 D101 D102 D104)
 have D108:=KD.mk (W.mg_of X G b108) F108 F108.b3 (vN T D99)
 have D109:=KD.mk (W.mg_of X G b109) F109 F109.b3 (vO T D99)
 have D115:=KD.mk (W.mg_of X G b115) F115 F115.b2 (AA T D99)
 have D5:=KM.mk cl21 b5 F5 F5.b3 (Ey T D8 D2)
 have D6:=KM.mk cl21 b6 F6 F6.b3 (GG T D8 D1)
 have D9:=KM.mk cl21 b9 F9 F9.b2 (xv T D1)
 have D11:=KM.mk cl21 b11 F11 F11.b1 (Ez T D4)
 have D15:=KM.mk cl22 b15 F15 F15.b3 (BJ T D1)
 have D18:=KM.mk cl22 b18 F18 F18.b2 (BK T D1)
 have D20:=KM.mk cl22 b20 F20 F20.b3 (EA T D1)
 have D21:=KM.mk cl22 b21 F21 F21.b1 (BL T D14)
 have D26:=KD.mk (W.mg_of X G b26) F26 F26.b3 (AD T D24)
 have D28:=KD.mk (W.mg_of X G b28) F28 F28.b2 (GH T D24)
 have D40:=KM.mk cl24 b40 F40 F40.b2 (xw T D31 D41)
 have D48:=KD.mk (W.mg_of X G b48) F48 F48.b2 (AF T D25 D24)
 have D50:=KD.mk (W.mg_of X G b50) F50 F50.b2 (vS T D46)
 have D60:=KN.mk b60 F60 F60.b6 (BM T D4 D14 D22 D29 D32 D34 D3 D13)
 have D71:=KM.mk cl25 b71 F71 F71.b4 (AG T D35 D72 D75)
 have D82:=KM.mk cl25 b82 F82 F82.b2 (qQ T D24)
 have D88:=KM.mk cl25 b88 F88 F88.b2 (ug T D2 D84)
 have D96:=KD.mk (W.mg_of X G b96) F96 F96.b1 (IT T D89 D90 D93 D94)
 have D110:=KD.mk (W.mg_of X G b110) F110 F110.b3 (AH T D108 D109)
 have D27:=KD.mk (W.mg_of X G b27) F27 F27.b1 (EB T D26)
 have D33:=KM.mk cl23 b33 F33 F33.b1 (xx T D32 D11 D21)
 have D45:=KD.mk (W.mg_of X G b45) F45 F45.b4 (AI T D0 D26)
 have D52:=KD.mk (W.mg_of X G b52) F52 F52.b2 (BO T D26)
 have D53:=KD.mk (W.mg_of X G b53) F53 F53.b4 (AJ T D50)
 have D57:=KD.mk (W.mg_of X G b57) F57 F57.b3 (BQ T D50)
 have D80:=KM.mk cl25 b80 F80 F80.b1 (AK T D38 D82)
 have D81:=KM.mk cl25 b81 F81 F81.b2 (vV T D40 D82)
 have D85:=KM.mk cl25 b85 F85 F85.b2 (vW T D38 D9)
 have D97:=KD.mk (W.mg_of X G b97) F97 F97.b2 (IU T D89 D95 D96)
 have D42:=KD.mk (W.mg_of X G b42) F42 F42.b2 (BR T D43 D27)
 have D44:=KD.mk (W.mg_of X G b44) F44 F44.b4 (AL T D0 D46 D48 D45)
 have D49:=KD.mk (W.mg_of X G b49) F49 F49.b1 (vX T D48 D27)
 have D61:=KM.mk cl25 b61 F61 F61.b3 (BU T D38 D15 D71 D33)
 have D62:=KM.mk cl25 b62 F62 F62.b2 (yL T D38 D16 D71 D33)
 have D63:=KM.mk cl25 b63 F63 F63.b2 (BV T D38 D18 D71 D33)
 have D66:=KM.mk cl25 b66 F66 F66.b4 (uj T D38 D1 D71 D33)
 have D69:=KM.mk cl25 b69 F69 F69.b4 (BW T D30 D38 D1 D72 D20 D26 D28 D71 D33)
 have D73:=KM.mk cl25 b73 F73 F73.b2 (v7 T D25 D80)
 have D92:=KD.mk (W.mg_of X G b92) F92 F92.b2 (K9 T (W.mg_of X G b92) F92 F92.b2)
 have D98:=KD.mk (W.mg_of X G b98) F98 F98.b1 (La T D60)
 have D51:=KD.mk (W.mg_of X G b51) F51 F51.b3 (yM T D54 D52 D53 D42 D49)
 have D56:=KD.mk (W.mg_of X G b56) F56 F56.b5 (BX T D44)
 have D64:=KM.mk cl25 b64 F64 F64.b2 (uk T D66)
 have D65:=KM.mk cl25 b65 F65 F65.b2 (um T D66)
 have D67:=KM.mk cl25 b67 F67 F67.b3 (BY T D7 D38 D2 D74 D5 D71 D33 D73)
 have D68:=KM.mk cl25 b68 F68 F68.b2 (yN T D8 D38 D74 D6 D71 D33 D73)
 have D107:=KD.mk (W.mg_of X G b107) F107 F107.b4 (Lb T D75 D76 D77 D78 D79 D83 D84 D80 D85 D92)
 have D55:=KD.mk (W.mg_of X G b55) F55 F55.b4 (yO T D58 D57 D49 D51 D56)
 have D106:=KD.mk (W.mg_of X G b106) F106 F106.b2 (Lc T D70 D61 D62 D63 D69 D64 D65 D67 D68)
 have D86:=KM.mk cl25 b86 F86 F86.b2 (yP T D38 D59 D87 D78 D83 D88 D55)
 have D111:=KD.mk (W.mg_of X G b111) F111 F111.b5 (Le T D105 D92 D106)
 have D112:=KD.mk (W.mg_of X G b112) F112 F112.b2 (Nl T D81 D85 D106 D86)
 have D113:=KD.mk (W.mg_of X G b113) F113 F113.b2 (EG T D112)
 exact Rp T D91 D103 D114 D115 D110 D97 D98 D107 D111 D113 _ _ F116
theorem Lf {K:WA}{Z:Adr}{H:Hp}{a:Addr}{ns:List Int}(hl:ns.length<=63)(hS:SqL K H a (ns.map V.int)){Q:VK}{E:XK}(q:∀H',Q (.bl true) H'):AQ K Z [.ref a] H Q E:=⟨a,ns,rfl,hS,hl,q⟩
noncomputable def SPl (K:WA):Sp:=fun vs H Q _=>∃(a:Addr) (ns:List Int),vs=[.ref a]/\SqL K H a (ns.map V.int)/\ns.length<=63/\∀H',Q (.bl true) H'
theorem SR {l:W.OpenLaw}{q:Program}{loose:List Str}{XP:(Str->Option Value)->Heap->Prop}{YP:World->Heap->Prop}{d:DefRec}{K:Params->WA}(hn:l.most=some 63)(hdf:d.params.defaults=[])
  (hY:∀(w:World) (h:Heap),YP w h->(K w.params).In h)
  (F:∀(w:World) (mg:Str->Option Value) (fa:Addr) (h:Heap),(K w.params).In h->h.Ns mainGlobals mg->mg d.name=some (.ref fa)->
   ∃Z:Adr,∃fd:FuncData,(∀(s:Shared) (u:Value),BindsTo s fd ⟨[u],[]⟩ [("_law_script",u)])/\∀base:Heap,(K w.params).In base->base.Ns mainGlobals mg->gH l.prog w (K w.params) mg base CX0 11 fa fd ["_law_script"] (AQ (K w.params) Z)) :
  W.WalkO q loose XP YP l.row.toRowW d [] (fun f vs=>PySem.call f vs):=
 L2.NK (n:=63) (k:=11) (x:="_law_script") (CX:=fun _=>CX0) (sp:=fun w=>SPl (K w.params)) hn (by decide) hdf ⟨rfl,by decide,by decide⟩ hY
  (fun w mg fa h a b c=>let ⟨Z,fd,b1,b2⟩:=F w mg fa h a b c;⟨fd,b1,fun base x y=>(b2 base x y).imp fun vs H Q E ⟨a,ns,e,hS,hl,q⟩=>by subst e;exact Lf hl hS q⟩) (fun _ _ a ns hl _ hS=>⟨a,ns,rfl,hS,hl,fun _=>rfl⟩) fun _ _ _ _ _ z=>z
end K39
local macro_rules | `(tactic| walk_at "m_is") => `(tactic| (delta L2.Xm; kts_exm))
local macro_rules | `(tactic| walk_at "h_is") => `(tactic| (delta L2.Kt; kit_is))
local macro_rules | `(tactic| walk_at "n_is") => `(tactic| (delta L2.NI; k_is))
local macro_rules | `(tactic| walk_at "a_is") => `(tactic| (delta L2.bq; k_is))
local macro_rules | `(tactic| walk_at "i_is") => `(tactic| (apply L2.KI.mk; k_is))
local macro_rules | `(tactic| walk_at "c_is") => `(tactic| (apply L2.Cls.mk; iterate 4 k_is))
local macro_rules | `(tactic| walk_at "o_is") => `(tactic| (apply L2.C0I.mk; k_is; exact rfl; k_is; exact rfl; exact rfl))
local macro_rules | `(tactic| walk_at "x_is") => `(tactic| (apply L2.XI.mk; k_is; k_is; exact rfl; exact rfl; k_is; k_is))
local macro_rules | `(tactic| walk_at "d_is") => `(tactic| (apply L2.DI.mk; iterate 4 k_is))
local macro_rules | `(tactic| walk_at "e_is") => `(tactic| (apply L2.MI.mk; iterate 5 k_is))
local macro_rules | `(tactic| walk_at "t_is") => `(tactic| (apply L2.II.mk; iterate 7 k_is))
open PySem PySem.W PyProof.Rows
set_option maxRecDepth 100000 in
set_option maxHeartbeats 0 in
theorem PySem.Challenge.cw_cagebells_k39_whole_refused_changes_noth_holds : PySem.Challenge.rw_cagebells_k39_whole_refused_changes_noth.Holds := by
 refine hd ?_
 k_fill
 refine K39.SR (l:=PySem.Challenge.rw_cagebells_k39_whole_refused_changes_noth) rfl rfl (fun w h Y=>W.kIn_of Y) ?F
 case F=>
  intro w mg fa h KX G hmg
  apply K39.Rq KX G hmg
  apply K39.PH.mk
  iterate 15 k_is
  iterate 26 walk_at "n_is"
  iterate 9 walk_at "i_is"
  iterate 6 k_is
  walk_at "c_is"
  iterate 3 walk_at "a_is"
  walk_at "c_is"
  iterate 3 walk_at "a_is"
  walk_at "c_is"
  iterate 4 walk_at "a_is"
  walk_at "c_is"
  iterate 3 walk_at "a_is"
  walk_at "c_is"
  iterate 5 walk_at "a_is"
  walk_at "o_is"
  iterate 20 walk_at "x_is"
  walk_at "m_is"
  iterate 9 walk_at "h_is"
  walk_at "m_is"
  iterate 9 walk_at "h_is"
  walk_at "m_is"
  iterate 9 walk_at "h_is"
  walk_at "m_is"
  iterate 9 walk_at "h_is"
  walk_at "m_is"
  iterate 9 walk_at "h_is"
  walk_at "m_is"
  iterate 9 walk_at "h_is"
  walk_at "m_is"
  iterate 9 walk_at "h_is"
  walk_at "m_is"
  iterate 9 walk_at "h_is"
  walk_at "m_is"
  iterate 9 walk_at "h_is"
  walk_at "m_is"
  iterate 9 walk_at "h_is"
  walk_at "m_is"
  iterate 9 walk_at "h_is"
  walk_at "m_is"
  iterate 9 walk_at "h_is"
  walk_at "m_is"
  iterate 9 walk_at "h_is"
  walk_at "m_is"
  iterate 9 walk_at "h_is"
  walk_at "m_is"
  iterate 9 walk_at "h_is"
  walk_at "m_is"
  iterate 9 walk_at "h_is"
  walk_at "m_is"
  iterate 9 walk_at "h_is"
  walk_at "m_is"
  iterate 9 walk_at "h_is"
  walk_at "m_is"
  iterate 9 walk_at "h_is"
  walk_at "m_is"
  iterate 9 walk_at "h_is"
  iterate 4 walk_at "d_is"
  walk_at "t_is"
  iterate 7 walk_at "e_is"
  iterate 2 walk_at "d_is"
  walk_at "t_is"
  iterate 7 walk_at "e_is"
  iterate 10 walk_at "d_is"
  walk_at "t_is"
  walk_at "e_is"
  walk_at "t_is"
  iterate 7 walk_at "e_is"
  iterate 18 walk_at "d_is"
  walk_at "t_is"
  iterate 28 walk_at "e_is"
  iterate 28 walk_at "d_is"
