import PyProof.Rows.All
import OpenK.KLine
import KE.RegKIsAll
import KE.RegKTryMore
import Lean
import PyProof.EqAt
import PyProof.EqKinds
import PyProof.TupleCall
import KE.KTupSum
import KE.KItem
import PySem.Challenge.RW_cagebells_k36_whole_men_slowly
set_option Elab.async false
set_option linter.all false
set_option maxRecDepth 100000
set_option compiler.extract_closed false
namespace PySem.W.Fast
noncomputable abbrev T:=True
theorem t:T:=⟨⟩
def tw8929683629429693998:=t
def tw10968801011373222770:=t
def tw945728729929846408:=t
def tw971581097139013665:=t
def tw861502493610598483:=t
def tw6904879716082085867:=t
def tw7231104519341178198:=t
def tw6430397310068524805:=t
def tw16458534088629783329:=t
def tw5176576539398594111:=t
def tw13705001845696326735:=t
def tw7774113678449685934:=t
def tw15949514178854662415:=t
def tw13141224326027532124:=t
def tw264932986702033461:=t
def tw115167043885905223:=t
def tw18017129668781235815:=t
def tw15200899802018196936:=t
def tw17723881924890802966:=t
def tw9023412946914863120:=t
def tw6605169337270321112:=t
def tw15018716904364860632:=t
def tw983406267505308610:=t
def tw14565471765716263578:=t
def tw12145756527313086355:=t
def tw15279809834360698895:=t
def tw3507769193172341495:=t
def tw11589282660436910429:=t
def tw2546767868308347339:=t
def tw7766106395892283477:=t
def tw757356599333046425:=t
def tw9385439782273163706:=t
def tw13813618637161013713:=t
def tw5037459499596335280:=t
def tw8924819469995637033:=t
def tw6594970650091316094:=t
def tw9399754086935153974:=t
def tw14637863174436434189:=t
def tw15895094517606616290:=t
def tw15287547289013875721:=t
def tw8857750881085090422:=t
def tw10368827614151553891:=t
def tw9189844046219409768:=t
def tw1207101557538958131:=t
def tw11662115353561507501:=t
def tw16506471722634982818:=t
def tw16531682779099013679:=t
def tw9358312197846296583:=t
def tw11368310244458860372:=t
def tw4015202173357781934:=t
def tw16109456028575089023:=t
def tw506581581156960101:=t
def tw18003772858949239459:=t
def tw11373181179767321252:=t
def tw9910136688757260964:=t
def tw3971525946579005399:=t
def tw2875624504187281209:=t
def tw5462360663327728810:=t
def tw10956520680868813917:=t
def tw4860023922305330110:=t
def tw5239429619861171699:=t
def tw10624116801336726872:=t
def tw5459702643516471331:=t
def tw17079817176256170043:=t
def tw7787813539459594420:=t
def tw6128106870883400570:=t
def tw3277229846650655979:=t
def tw14958820412457663293:=t
def tw16792556548410726896:=t
def tw11095110211248682772:=t
def tw18441984877410159329:=t
def tw15685335758407661847:=t
def tw4026147355466621588:=t
def tw15227483606004533461:=t
def tw16822532161544500889:=t
def tw3945831679567021610:=t
def tw10953238642706405951:=t
def tw7943549864190904611:=t
def tw4483904966330829159:=t
def tw17082689572870858151:=t
def tw14746253646979254834:=t
def tw15401437161963490237:=t
def tw14847308668706973960:=t
def tw11513857634932158529:=t
def tw4333590680753393835:=t
def tw12717557048674177747:=t
def tw1956260828630720203:=t
def tw17518593693041627797:=t
def tw14903569129155370506:=t
def tw3110587219445414310:=t
def tw13367274342830030513:=t
def tw1660798551392318424:=t
def tw2931988195819169919:=t
def tw890339118813698166:=t
def tw11207431853666184334:=t
def tw561727478393794602:=t
def tw7164969610272591079:=t
def tw6548459193220583526:=t
def tw1864683662541468164:=t
def tw7538781388859322016:=t
def tw9404705873571188630:=t
def tw12330612334027959195:=t
def tw7485256538410118956:=t
def tw15936768558149881340:=t
def tw12099505692703838030:=t
def tw16140922888777852060:=t
def tw2466311954974566718:=t
def tw2228412568605170491:=t
def tw15593559885672580101:=t
def tw10510019762269167821:=t
def tw6128145076113358165:=t
def tw8757050672659960515:=t
def tw9201617497623189827:=t
def tw8297923619242306668:=t
def tw17613222154834848340:=t
def tw12669407529647801677:=t
def tw3846801734645722302:=t
def tw13601115934706021691:=t
def tw16860917588515726111:=t
def tw7478123994339007903:=t
def tw6828597562223498359:=t
def tw4490611911172417597:=t
def tw7220529860990300233:=t
def tw14546174082565282566:=t
def tw17963105932079019327:=t
def tw12138319994727072339:=t
def tw6084841979344569690:=t
def tw1142673529048489019:=t
def tw1719895430356276633:=t
def tw12750670339961964742:=t
def tw18333273249017474000:=t
def tw15171223727094530161:=t
def tw8413399678365625193:=t
def tw1467881925912835984:=t
def tw15752536640612570366:=t
def tw1378205811072252300:=t
def tw17170472223608059050:=t
def tw12064304430848566033:=t
def tw4884199854448574:=t
def tw5467331546851215429:=t
def tw4993863958327201973:=t
def tw977512076041815475:=t
def tw8151759404152838978:=t
def tw17883462748017686043:=t
def tw12408111787983249662:=t
def tw10295913840692754127:=t
def tw6170744672141170255:=t
def tw17713387462200973399:=t
def tw18073898193381586223:=t
def tw15541240446876304647:=t
def tw6194202620331982285:=t
def tw16864618592142003386:=t
def tw4449297822257671152:=t
def tw10886659093417053267:=t
def tw12314708539913122752:=t
def tw17890440400047909864:=t
def tw2244103112122482387:=t
def tw8950108695139179302:=t
def tw14284835775768690865:=t
def tw3335794202401238526:=t
def tw2046362190076281809:=t
def tw5960047855520388891:=t
def tw1205604411410820431:=t
def tw3436067635600285980:=t
def tw424408320835691240:=t
def tw18031968618487185184:=t
def tw16802631365582062104:=t
def tw10826640976665885199:=t
def tw17382457898008728272:=t
def tw2810200551564342888:=t
def tw5832146486336120021:=t
def tw384561282630992784:=t
def tw3713540243193553862:=t
def tw699815216081779126:=t
def tw4334401890000744311:=t
def tw18400553757987027518:=t
def tw9317495090193701157:=t
def tw4598271963242535575:=t
def tw18383651708701053236:=t
def tw17823556299335049440:=t
def tw6880980288501444468:=t
def tw6284410105664486691:=t
def tw6472337539984862722:=t
def tw206757683497733573:=t
def tw694261584828832409:=t
def tw247591363613054380:=t
def tw3297117884562324255:=t
def tw13394580363473044415:=t
def tw86012387029904805:=t
def tw14170518179582410385:=t
def tw17986951261819808105:=t
def tw16773468814595293053:=t
def tw16217903435359918192:=t
def tw6125853113672642322:=t
def tw4102176305081739490:=t
def tw6329614223026926184:=t
def tw10341888390210383824:=t
def tw8185545411690514434:=t
def tw14689541978594310382:=t
def tw15969335453137586327:=t
def tw8565224436197482051:=t
def tw7001957589650049515:=t
def tw5306753302271460952:=t
def tw4971374062829452455:=t
def tw4290864757253303354:=t
def tw542563422162235373:=t
def tw727553628536289456:=t
def tw3831019782443316194:=t
def tw12549542988036985293:=t
def tw12369848792361866835:=t
def tw11853640710764476214:=t
def tw9584292182412213727:=t
def tw17312402878845073609:=t
def tw3236729772642805936:=t
def tw10988764466652934233:=t
def tw18105302477358141223:=t
def tw11401859456886640639:=t
def tw8047209995159408440:=t
def tw14479964200598819128:=t
def tw14938211915633500526:=t
def tw13439652990877377571:=t
def tw11267315532378154396:=t
def tw11212356425047092601:=t
def tw4683681711962371626:=t
def tw3308634892276815127:=t
def tw12125097214300078407:=t
def tw10236332898609347644:=t
def tw13437419889732721216:=t
def tw8319933024895762948:=t
def tw18101783494082082527:=t
def tw12960429369202013873:=t
def tw13462424878891718212:=t
def tw12954591660760965231:=t
def tw10550934584343373414:=t
def tw7231845647793152400:=t
def tw15166322114958858414:=t
def tw11564986514327137767:=t
def tw10879749546641988924:=t
def tw1607123104830579860:=t
def tw3985964047577975286:=t
def tw9536688357841153863:=t
def tw8996207646774452837:=t
def tw8219003486749837733:=t
def tw8166255043249204926:=t
def tw7607420049574824106:=t
def tw7424060955962978353:=t
def tw4548300405975405348:=t
def tw4436474186459923750:=t
def tw3641951560692057861:=t
def tw3042748168174471775:=t
def tw18124618509676941091:=t
def tw17916429707943930468:=t
def tw17760279517084355780:=t
def tw17318462890700432884:=t
def tw16925712312323332580:=t
def tw14827714588952709054:=t
def tw14760874974797668852:=t
def tw12250869413391326473:=t
def tw12132732476715806282:=t
def tw1205274952441263945:=t
def tw17877845533520812795:=t
def tw17980500129456985241:=t
def tw17659185236578331656:=t
def tw10842938092177581297:=t
def tw9461873434466728008:=t
def tw6945566481307383155:=t
def tw1401067106901849026:=t
def tw9630203353718772412:=t
def tw1405720946626083897:=t
def tw17338325484393633139:=t
def tw8733291241859026926:=t
def tw14935467056822913822:=t
def tw2641800013201688601:=t
def tw3300257896294614128:=t
def tw16583815154217966991:=t
def tw7322748291113730364:=t
def tw7050804516273991350:=t
def tw9860861378791804195:=t
def tw87601786513091389:=t
def tw17271881437230615512:=t
def tw12382822922155266910:=t
def tw13996866031312336078:=t
def tw3075201292733833056:=t
def tw11707130962622978684:=t
def tw5537553045615171315:=t
def tw3543459598558145280:=t
def tw2941924889016668590:=t
def tw15402603294489630176:=t
def tw3239113980409921550:=t
def tw15254633091992210921:=t
def tw8002303944043701648:=t
def tw9689729476882780088:=t
def tw12770481643036789091:=t
def tw8157277791214410489:=t
def tw9972681490609642005:=t
def tw15577281813014381367:=t
def tw6526287140368922620:=t
def tw11468729153070441980:=t
def tw896239598344801917:=t
def tw11566098044289413073:=t
def tw9381626543082597023:=t
def tw2773992215795510196:=t
def tw16409965706819354750:=t
def tw4635989785427082552:=t
def tw8997383693586321770:=t
def tw11962351593759143498:=t
def tw7212858340449540239:=t
def tw5610444585433571239:=t
def tw3235425350174046738:=t
def tw11907897558876765624:=t
def tw9104974531708491489:=t
def tw2868442198168577507:=t
def tw10052031235695348791:=t
def tw8912161614967838395:=t
def tw18418582437962087742:=t
def tw13937768818610491111:=t
def tw14961746396406840608:=t
def tw4313010194945074917:=t
def tw3721919958574915784:=t
def tw1630143524128594353:=t
def tw1000662321505670351:=t
def tw9456574344343218679:=t
def tw7480016910919988345:=t
def tw5438652380644606353:=t
def tw15779231459743154856:=t
def tw13757698761724263525:=t
def tw12772213712371865176:=t
def tw9977182230042388008:=t
def tw9879335643197240621:=t
def tw6968137755033780318:=t
def tw5702276774652866934:=t
def tw2455152089536381482:=t
def tw2353497105660221152:=t
def tw1979317910248211280:=t
def tw17351735930882485243:=t
def tw16670775579421159206:=t
def tw16120054744476736488:=t
def tw13855379610559885079:=t
def tw12269216009862288129:=t
def tw11429584451438056573:=t
def tw7249310025045793396:=t
def tw539538531456391632:=t
def tw16151628708876355199:=t
def tw14904287247971174143:=t
def tw12681666616541194006:=t
def tw12528533614272120300:=t
def tw11692469974320434101:=t
def tw16522183678017940807:=t
def tw4413860948169739490:=t
def tw6162269159774324313:=t
def tw7350462372000428638:=t
def tw6782663255696616371:=t
def tw6278996535519779258:=t
def tw577049184839899653:=t
def tw4944497897694004105:=t
def tw17577329170770402720:=t
def tw16859961878692490766:=t
def tw14404928986312190071:=t
def tw13567515925198824819:=t
def tw16053306600634468012:=t
def tw13885670934486923800:=t
def tw8232614014015475128:=t
def tw13861969467909019144:=t
def tw3520257249291928256:=t
def tw3303267245142563540:=t
def tw17348111734160510231:=t
def tw938635154573522699:=t
def tw7007286002206832825:=t
def tw6542358382571353910:=t
def tw14963028359598502718:=t
def tw12627051441459223148:=t
def tw11215392098479208961:=t
def tw5483103596317574428:=t
def tw17155049476370652306:=t
def tw10741264400317747893:=t
def tw5649666937502919571:=t
def tw9744259246892133002:=t
def tw9045458381397004210:=t
def tw8865387616306378214:=t
def tw8757255369765604158:=t
def tw819570635367399668:=t
def tw7557421358154311045:=t
def tw7046044490832178742:=t
def tw6714880395473160397:=t
def tw6327569006664949090:=t
def tw6046103115902281144:=t
def tw5783627655825047438:=t
def tw3671519592330383864:=t
def tw3099597729799864441:=t
def tw296083027919845158:=t
def tw258204147387103276:=t
def tw18407495941553956032:=t
def tw17678831435119133177:=t
def tw17339309145561079191:=t
def tw17016834523296244275:=t
def tw16721508838639397229:=t
def tw16378183091871739711:=t
def tw16145670418848962200:=t
def tw15910123707662034135:=t
def tw15590096980072825465:=t
def tw14833712730911297017:=t
def tw14736888041290939073:=t
def tw14538725608371270373:=t
def tw14154597600763967237:=t
def tw14036186469904095446:=t
def tw13813548295540068894:=t
def tw13710940844802916613:=t
def tw13573576610306600553:=t
def tw13307065042914920193:=t
def tw1293241653719404408:=t
def tw12147665669636231765:=t
def tw12132596417379514657:=t
def tw11524815483048965402:=t
def tw11489344026974618541:=t
def tw11317637306720784765:=t
def tw10479991185640055810:=t
def tw10310341975313369176:=t
def tw10161179621583223854:=t
def tw866717566613908145:=t
def tw8159993647027272844:=t
def tw6105849179199505303:=t
def tw3365755272349913518:=t
def tw2400638427578300857:=t
def tw2314633323536394700:=t
def tw2135409205425526673:=t
def tw11384182702204212275:=t
def tw6953138203311097117:=t
def tw6690350156832105676:=t
def tw15621415185263527259:=t
def tw2692750590507578028:=t
def tw9784134513789038367:=t
def tw9433028549170029634:=t
def tw9331231397406362311:=t
def tw7921390202802761869:=t
def tw5323657890516693427:=t
def tw5010956058597451964:=t
def tw14993981098963755598:=t
def tw14226173905949225808:=t
def tw10551173667578312727:=t
def tw3726453103677007866:=t
def tw4903002758410956813:=t
def tw523537741815420091:=t
def tw8285278889055680438:=t
def tw6056707288978253535:=t
def tw5285915839522022235:=t
def tw2731476521559533851:=t
def tw15861351967447197489:=t
def tw14391293386007564604:=t
def tw13669536469129627823:=t
def tw12652081859355081885:=t
def tw11066385474520676512:=t
def tw10888863842102328177:=t
def tw9757595895972200118:=t
def tw15142666989864626641:=t
def tw14904681115217272601:=t
def tw866652123128751154:=t
def tw8186657734068701312:=t
def tw7770478706760583155:=t
def tw6216382948874008006:=t
def tw6188973233030003785:=t
def tw6060609690816243450:=t
def tw593343749668468936:=t
def tw5909976876416983842:=t
def tw514280064592716601:=t
def tw3778530596728393105:=t
def tw3681537716864247207:=t
def tw354308444213283272:=t
def tw3438699932752214802:=t
def tw3049343062529576306:=t
def tw2483321941437592071:=t
def tw209982475168477708:=t
def tw17871049288011112270:=t
def tw17590705303994421779:=t
def tw1725486776273817318:=t
def tw16607193741793207195:=t
def tw16493865465440409018:=t
def tw16248296213531012650:=t
def tw15925456577456769635:=t
def tw15627779663793561183:=t
def tw14172470266813156586:=t
def tw13082796549270168242:=t
def tw12524954882073270795:=t
def tw12325864989022198202:=t
def tw11076892268299887525:=t
def tw15831126876759372255:=t
def tw9363214764283991203:=t
def tw4580019852769339753:=t
def tw11063759124802658401:=t
def tw7053471978191194526:=t
def tw10026605065719503897:=t
def tw5890639436620234070:=t
def tw7764699552788554220:=t
def tw13571862603940711859:=t
def tw855453113358079251:=t
def tw8392358500681263680:=t
def tw10149570385669482864:=t
def tw9215358943560890414:=t
def tw8995945545434573385:=t
def tw8919978131948313185:=t
def tw8176730645128964420:=t
def tw6508132753307246276:=t
def tw4565167180653195659:=t
def tw4470585836733325578:=t
def tw4267111383703672358:=t
def tw2956708394376553000:=t
def tw2694234056635809718:=t
def tw243476719192100926:=t
def tw1835071406663858368:=t
def tw18328257000508772394:=t
def tw18310463660012746435:=t
def tw18094105663378112561:=t
def tw14074196154385387334:=t
def tw13956191218907399338:=t
def tw13831308528885131752:=t
def tw13484562703626004877:=t
def tw13465540834166320765:=t
def tw12768989823518198380:=t
def tw12740759652641322565:=t
def tw2034817482908223496:=t
def tw13265978090383273239:=t
def tw12405761042648551022:=t
def tw8854275682344465072:=t
def tw8282588126930224528:=t
def tw6621635546502472408:=t
def tw4843829748527759242:=t
def tw17689344090056996911:=t
def tw14800370929953404514:=t
def tw1275065265261079617:=t
def tw12731152576971404446:=t
def tw10627929193734500438:=t
def tw10118262284458037933:=t
def tw11402884983299125971:=t
def tw991626836265849350:=t
def tw9320515035125037321:=t
def tw8356303796347215682:=t
def tw5449601097390414333:=t
def tw10374632558016547081:=t
def tw8374155422468719031:=t
def tw1537541725227008683:=t
def tw14261769069557060686:=t
def tw11024694936033576346:=t
def tw6557801498797044033:=t
def tw2333105410213810865:=t
def tw9969077435446430640:=t
def tw9947508896943372755:=t
def tw9592300441314626372:=t
def tw7217548393331319763:=t
def tw6798380500665416597:=t
def tw5634867526602368427:=t
def tw5221592684559293012:=t
def tw5217270863462422736:=t
def tw463774138113389760:=t
def tw3419001889969749887:=t
def tw2983494736656345032:=t
def tw256976265262469064:=t
def tw1998347030407657756:=t
def tw18183970276198133131:=t
def tw1663524305781585820:=t
def tw15764947353670896545:=t
def tw15763482434359817770:=t
def tw15326580083554890809:=t
def tw14849461344987154502:=t
def tw14022695629967993375:=t
def tw13385558918117058561:=t
def tw12091130801917272685:=t
def tw11161164713144168021:=t
def tw643336161829623379:=t
def tw12930229547647579594:=t
def tw10159399881129095643:=t
def tw6522051377940421278:=t
def tw3592811809046731828:=t
def tw9919008367099125623:=t
def tw8222940686941784037:=t
def tw772564365185477556:=t
def tw6858818405166986180:=t
def tw6631347999910079877:=t
def tw609457278022895560:=t
def tw5994696166404524948:=t
def tw5002640475654186023:=t
def tw447263597446747957:=t
def tw443766864951011646:=t
def tw2950685276103557050:=t
def tw1717767836212652739:=t
def tw16682895059504647277:=t
def tw16615150188913437886:=t
def tw16108870410212019532:=t
def tw1495895850433845275:=t
def tw13812277999558781770:=t
def tw13421457143807847188:=t
def tw12459912946257978736:=t
def tw10258873121960336067:=t
def tw9848817304349107530:=t
def tw8760152093665844161:=t
def tw8080008513338510535:=t
def tw5832305185047221409:=t
def tw5444512763150141072:=t
def tw5362036446546632119:=t
def tw4039707410889071942:=t
def tw2403389108928632939:=t
def tw15539815450414544023:=t
def tw15173544498738437827:=t
def tw14703100239697439463:=t
def tw13444670453868202053:=t
def tw12003660372656728261:=t
def tw10910644110388302437:=t
def tw16636501806038632012:=t
def tw11898673842065290130:=t
def tw2483420100392427323:=t
def tw1825952489489211193:=t
def tw16756451883985382160:=t
def tw10510056951384868246:=t
def tw6822071536725586909:=t
def tw446995266069924076:=t
def tw1915925776726481438:=t
def tw1708089923452030704:=t
def tw3919386906821981792:=t
def tw9304451534382375720:=t
def tw6356304189028158447:=t
def tw4096438862311573950:=t
def tw4046790133079468173:=t
def tw3300454383303005205:=t
def tw2869065659524454656:=t
def tw2570914705882880060:=t
def tw16723463757517087524:=t
def tw16654469307462801742:=t
def tw16279288168775177219:=t
def tw15052318979288761249:=t
def tw14842496431369740429:=t
def tw13953587524928339648:=t
def tw13034982811429478159:=t
def tw10698057553749749337:=t
def tw4684226298888400098:=t
def tw8981176238543900561:=t
def tw8915285831880473931:=t
def tw8834805137890396735:=t
def tw8006371003960147343:=t
def tw7873748247521183178:=t
def tw651700358538967526:=t
def tw5665240888008139550:=t
def tw5171440476677080432:=t
def tw4757880891971583632:=t
def tw4524658085876675188:=t
def tw429539710256275620:=t
def tw4077048163395320219:=t
def tw2781441929908095834:=t
def tw2132029292895624192:=t
def tw17680797132471856694:=t
def tw17188069144378779261:=t
def tw16797375974695604193:=t
def tw15699961213505342161:=t
def tw15504105790966721872:=t
def tw15235614512728720:=t
def tw14811890972901180937:=t
def tw13861322856664149509:=t
def tw13539809779269347639:=t
def tw13349420017058727143:=t
def tw13141587033338554882:=t
def tw12435058653956393420:=t
def tw11107512795663914464:=t
def tw9959121941294770655:=t
def tw9931937742245647033:=t
def tw9806118890596472461:=t
def tw9796564346219866840:=t
def tw9768418358887946270:=t
def tw9678289623588505577:=t
def tw9646623106273453227:=t
def tw9619071485814978506:=t
def tw9592521066531166775:=t
def tw9553971096990549364:=t
def tw9495317472360511255:=t
def tw9461912720999461741:=t
def tw9402243437249704421:=t
def tw9388066449989048879:=t
def tw9387514328989991554:=t
def tw9197174079833555027:=t
def tw9113380124883318265:=t
def tw908480701973217441:=t
def tw9003107776662980439:=t
def tw896878414759379649:=t
def tw8909772338491405060:=t
def tw8908233856664302321:=t
def tw8833860146974802555:=t
def tw8833496514701923757:=t
def tw8752102160057688731:=t
def tw8739830900816887780:=t
def tw8737599933303070863:=t
def tw8535803893964050539:=t
def tw8521684928402303493:=t
def tw8498532028676091811:=t
def tw8480184845173159842:=t
def tw8331849164307833061:=t
def tw8274446707539698164:=t
def tw8272569733616993153:=t
def tw8212203176049278890:=t
def tw8185220541750880888:=t
def tw8171798328758944481:=t
def tw8122695690928665766:=t
def tw8060666987683057360:=t
def tw7998583776865276027:=t
def tw7942791058656714990:=t
def tw7933485763601977624:=t
def tw7867829370405329436:=t
def tw786537726763496527:=t
def tw7837367980739423823:=t
def tw7828442866392281868:=t
def tw7592715696027808041:=t
def tw7501186508268903616:=t
def tw7374399212775623666:=t
def tw726351398001015727:=t
def tw7181997581385953548:=t
def tw7091221385724896812:=t
def tw7086961617601330827:=t
def tw6973427100653255629:=t
def tw6942634455013318504:=t
def tw6851275008772768644:=t
def tw6702445572142316249:=t
def tw6701911527682315725:=t
def tw6657536258744368796:=t
def tw6651725471809605288:=t
def tw6607644564249050058:=t
def tw6597789921013551971:=t
def tw6575520176995025181:=t
def tw6549852094080907030:=t
def tw6469784823511061222:=t
def tw6420159726195949164:=t
def tw6408400580700104982:=t
def tw640624198105042115:=t
def tw6331431999304432861:=t
def tw628631919661052299:=t
def tw6259241058660970061:=t
def tw6248682570935725439:=t
def tw622995879521568732:=t
def tw6229817132586351632:=t
def tw6208910965292489261:=t
def tw6172094611929405055:=t
def tw615563214671542189:=t
def tw6124413428159637790:=t
def tw6094820017090691545:=t
def tw599730875272715187:=t
def tw5992840812097835891:=t
def tw5953359166732830163:=t
def tw5920806927976990809:=t
def tw5874822333441161849:=t
def tw5872530126848033075:=t
def tw5805800948307579973:=t
def tw5711038861398032994:=t
def tw5667099127317398114:=t
def tw5662061979359257339:=t
def tw5622701340561072331:=t
def tw5522115075389312692:=t
def tw5498123283257192965:=t
def tw5404398260228975080:=t
def tw5395340147747708899:=t
def tw5388589039460942527:=t
def tw5344687154915797982:=t
def tw5342471268416680606:=t
def tw5341297951324810720:=t
def tw5289818103960998278:=t
def tw5263133172445716209:=t
def tw5233118043267047457:=t
def tw5137589814051832496:=t
def tw5101696844757716304:=t
def tw5086489192560080304:=t
def tw5072417060200589145:=t
def tw5008593111378822452:=t
def tw5000232492035539693:=t
def tw4938610541543285704:=t
def tw4906484309439969231:=t
def tw4859391219904099992:=t
def tw4772062507164038959:=t
def tw4766597723019941021:=t
def tw4734895289157585001:=t
def tw4607425872040536859:=t
def tw4600438763894957952:=t
def tw4547051000311932777:=t
def tw4538635040379822027:=t
def tw4517560463748656503:=t
def tw4382473104129494423:=t
def tw4341293187932698999:=t
def tw4321966507151631593:=t
def tw4211115844707057057:=t
def tw4189273013823423559:=t
def tw4186743451310774866:=t
def tw4171853373547519906:=t
def tw4075453323654395381:=t
def tw4063829332388037331:=t
def tw4051853165826885262:=t
def tw3897268976836264337:=t
def tw3851428956369438258:=t
def tw3801850119919557013:=t
def tw3717076922277056940:=t
def tw3676754643040562684:=t
def tw3581434408401558974:=t
def tw3475869608268796686:=t
def tw3456351732281881909:=t
def tw3433779192033484610:=t
def tw3382625519597670723:=t
def tw3350206127114907401:=t
def tw3328118118096588273:=t
def tw3270257207059953099:=t
def tw3233987462203235646:=t
def tw3198059409981156222:=t
def tw306047672372848657:=t
def tw2997492091776894028:=t
def tw2997480634906808460:=t
def tw2990168724187919761:=t
def tw2789304352393801511:=t
def tw2646887283097553488:=t
def tw2629151800749243262:=t
def tw2595585439558603231:=t
def tw2576523973992343609:=t
def tw256182404569192445:=t
def tw2527701527901579348:=t
def tw2399617604181995578:=t
def tw2392593158011319353:=t
def tw2386784164831690217:=t
def tw2358075552688931204:=t
def tw2333531293284704758:=t
def tw2295934692909999376:=t
def tw2261719852989239553:=t
def tw2259672571474061568:=t
def tw2213964242967304950:=t
def tw2187251505897268136:=t
def tw2172276787581067923:=t
def tw2144661209622563809:=t
def tw211337195705725219:=t
def tw2107523057676978006:=t
def tw2080317491765294665:=t
def tw2078950565319712143:=t
def tw2041926188850086339:=t
def tw2015444344454546412:=t
def tw1972164579936704799:=t
def tw1956775160557780875:=t
def tw1950803216711332702:=t
def tw1941844328875101383:=t
def tw1937721966566455358:=t
def tw1922157984580058403:=t
def tw1891733041441978011:=t
def tw1848955828906020544:=t
def tw18402647697222807634:=t
def tw18384110700954362821:=t
def tw18361725300881549022:=t
def tw1835201335921387983:=t
def tw18293242582946804979:=t
def tw18157406047293677543:=t
def tw18146532975450069615:=t
def tw1804834754348979943:=t
def tw18004296560267143027:=t
def tw17937168697417666835:=t
def tw17852080271459398996:=t
def tw17817366049700826239:=t
def tw17691633702590694504:=t
def tw17658959251048325594:=t
def tw17592209452093105858:=t
def tw17590876675597686902:=t
def tw17510684818845775701:=t
def tw17508347553164502932:=t
def tw17499849576073844966:=t
def tw17435391645217708394:=t
def tw17410218998227585676:=t
def tw17360015989920007124:=t
def tw17334828202450815106:=t
def tw172746767574481773:=t
def tw17267597263503486738:=t
def tw17260811203177919210:=t
def tw17214186515701724070:=t
def tw17163426234232328066:=t
def tw17137270108147033825:=t
def tw17062427158221528723:=t
def tw17013487888433625170:=t
def tw16998588944726240723:=t
def tw16955839230299176341:=t
def tw1692201390411429781:=t
def tw16902440903046159558:=t
def tw16902085369446701243:=t
def tw16873086082458093902:=t
def tw16839002366802243188:=t
def tw16766484511958638138:=t
def tw16765560720781731146:=t
def tw16746677531222629524:=t
def tw16412085850373738351:=t
def tw16309811473084048462:=t
def tw16298917771340976007:=t
def tw16247262843940693239:=t
def tw16226643914720891334:=t
def tw16212330677787901120:=t
def tw16203965252921439515:=t
def tw16132249320637822498:=t
def tw16103829930404553856:=t
def tw16101134707931498060:=t
def tw16060203290454839817:=t
def tw16035376269474964883:=t
def tw16005714805435085966:=t
def tw16003985067176294414:=t
def tw1599053048872161195:=t
def tw15978794797337165890:=t
def tw15932183184989994656:=t
def tw15870398105094248349:=t
def tw15792790952358468732:=t
def tw15743010393045028110:=t
end PySem.W.Fast
section
open PySem PySem.W PyProof.Rows
set_option maxHeartbeats 0 in
open_top hd for PySem.Challenge.rw_cagebells_k36_whole_men_slowly
end
set_option Elab.async false
set_option linter.all false
set_option maxRecDepth 100000
namespace L2
open PySem PySem.Spec PyProof.Rows
noncomputable abbrev Key:=Sum Int Str
noncomputable def AZ:Key->Value->Bool
 | .inl k,v=>Value.isInt k v
 | .inr x,v=>Value.isStrOf x v
noncomputable def Em (w:World):Key->Int
 | .inl k=>hashInt k
 | .inr x=>hashStr w x
theorem cj:∀{k:Key} {v:Value},AZ k v=true->(∃i t,k=Sum.inl i/\v=Value.int i t)\/(∃x t,k=Sum.inr x/\v=Value.str x t)
 | .inl i,v,h=>by
  obtain ⟨t,e⟩:=Value.isInt_shape (k:=i) (v:=v) h
  exact .inl ⟨i,t,rfl,e⟩
 | .inr x,v,h=>by
  obtain ⟨t,e⟩:=Value.isStrOf_shape (x:=x) (v:=v) h
  exact .inr ⟨x,t,rfl,e⟩
theorem Bv (a b:Int):decide ((Sum.inl a:Key)=Sum.inl b)=(a == b):=by
 by_cases e:a=b
 ·subst e;simp
 ·have h:¬(Sum.inl a:Key)=Sum.inl b:=fun q=>e (Sum.inl.inj q)
  rw [decide_eq_false h]
  exact (beq_eq_false_iff_ne.mpr e).symm
theorem Bw (a b:Str):decide ((Sum.inr a:Key)=Sum.inr b)=decide (a=b):=by
 by_cases e:a=b
 ·subst e;simp
 ·have h:¬(Sum.inr a:Key)=Sum.inr b:=fun q=>e (Sum.inr.inj q)
  rw [decide_eq_false h,decide_eq_false e]
theorem Bx (a:Int)(b:Str):decide ((Sum.inl a:Key)=Sum.inr b)=false:=decide_eq_false (fun q=>nomatch q)
theorem By (a:Str)(b:Int):decide ((Sum.inr a:Key)=Sum.inl b)=false:=decide_eq_false (fun q=>nomatch q)
noncomputable def rG (prog:Program)(w:World):PySem.KeyKind prog w Key where
 is:=AZ
 hash:=Em w
 inj:=fun v a b ha hb=>by
  rcases cj ha with ⟨i,t,rfl,rfl⟩ | ⟨x,t,rfl,rfl⟩
  ·rcases cj hb with ⟨j,u,rfl,e⟩ | ⟨y,u,rfl,e⟩
   ·injection e with e1 _;rw [e1]
   ·exact nomatch e
  ·rcases cj hb with ⟨j,u,rfl,e⟩ | ⟨y,u,rfl,e⟩
   ·exact nomatch e
   ·injection e with e1 _;rw [e1]
 byValue:=fun k v h=>by
  rcases cj h with ⟨i,t,rfl,rfl⟩ | ⟨x,t,rfl,rfl⟩<;>rfl
 pyHash:=fun hv h=>by
  rcases cj hv with ⟨i,t,rfl,rfl⟩ | ⟨x,t,rfl,rfl⟩
  ·exact wpAny_pyHash_int h
  ·exact wpAny_pyHash_str h
 eqBool:=fun hu hv h=>by
  rcases cj hu with ⟨i,t,rfl,rfl⟩ | ⟨x,t,rfl,rfl⟩
  ·rcases cj hv with ⟨j,u,rfl,rfl⟩ | ⟨y,u,rfl,rfl⟩
   ·rw [Bv] at h;exact wpAny_eqBool_int h
   ·rw [Bx] at h;exact SeqAt.EqAt.int_str i t y u _ _ _ _ h
  ·rcases cj hv with ⟨j,u,rfl,rfl⟩ | ⟨y,u,rfl,rfl⟩
   ·rw [By] at h;exact SeqAt.EqAt.str_int x t j u _ _ _ _ h
   ·rw [Bw] at h;exact wpAny_eqBool_str h
 «strs»:=fun k x t v h=>by
  rcases cj h with ⟨i,u,rfl,e⟩ | ⟨y,u,rfl,e⟩
  ·exact nomatch e
  ·injection e with e1 _
   subst e1
   cases v<;>rfl
inductive V where
 | non | bl (b:Bool) | int (i:Int) | str (x:Str) | byt (b:Array UInt8) | flt (b:UInt64) | ref (a:Addr) | ty (n:String)
 deriving DecidableEq
noncomputable def bf:V->Value->Prop
 | .non,u=>u=Value.none
 | .bl b,u=>u=Value.bool b
 | .int i,u=>∃t,u=Value.int i t
 | .str x,u=>∃t,u=Value.str x t
 | .byt b,u=>∃t,u=Value.bytes b t
 | .flt b,u=>∃t,u=Value.float b t
 | .ref a,u=>u=Value.ref a
 | .ty n,u=>u=Value.type n
noncomputable abbrev ba:List V->List Value->Prop:=Paired bf
theorem ba.length {xs:List V}{us:List Value}(r:ba xs us):xs.length=us.length:=Paired.length r
theorem ba.get:∀{xs:List V} {us:List Value} {i:Nat} {x:V},ba xs us->xs[i]?=some x->∃u,us[i]?=some u/\bf x u
 | _,_,_,_,.nil,e=>by simp at e
 | _,_,0,_,.cons r _,e=>by simp at e;subst e;exact ⟨_,rfl,r⟩
 | _,_,i+1,x,.cons _ t,e=>by
  obtain ⟨u,h1,h2⟩:=ba.get (i:=i) (x:=x) t (by simpa using e)
  exact ⟨u,by simpa using h1,h2⟩
theorem ba.set {x:V}{u:Value}(r:bf x u):∀{xs:List V} {us:List Value} (i:Nat),ba xs us->ba (xs.set i x) (us.set i u)
 | _,_,_,.nil=>.nil
 | _,_,0,.cons _ t=>.cons r t
 | _,_,i+1,.cons q t=>.cons q (ba.set r i t)
theorem ba.append:∀{xs ys:List V} {us ws:List Value},ba xs us->ba ys ws->ba (xs++ys) (us++ws)
 | _,_,_,_,.nil,s=>s
 | _,_,_,_,.cons r t,s=>.cons r (ba.append t s)
theorem ba.take:∀{xs:List V} {us:List Value} (n:Nat),ba xs us->ba (xs.take n) (us.take n)
 | _,_,0,_=>.nil
 | _,_,_+1,.nil=>.nil
 | _,_,n+1,.cons r t=>.cons r (ba.take n t)
theorem ba.drop:∀{xs:List V} {us:List Value} (n:Nat),ba xs us->ba (xs.drop n) (us.drop n)
 | _,_,0,r=>r
 | _,_,_+1,.nil=>.nil
 | _,_,n+1,.cons _ t=>ba.drop n t
noncomputable def ql:Option V->Option Value->Prop
 | some v,some u=>bf v u
 | none,none=>True
 | _,_=>False
noncomputable def KV {κ:Type}:List (κ×V)->List (κ×Value)->Prop:=Paired fun (p:κ×V) (q:κ×Value)=>p.1=q.1/\bf p.2 q.2
noncomputable def kV:Key->V
 | .inl i=>.int i
 | .inr x=>.str x
inductive HO where
 | lst (xs:List V)
 | tup (xs:List V)
 | dK (kvs:List (Key×V)) | dT (kvs:List (List Key×V))
 | set (S:Int->Bool) (n:Nat)
 | ins (C dx:Addr) (fs:List (Str×V))
 | own (x:Addr)
 | xd (fs:List (Str×V))
 | met (f x:Addr)
 | rng (lo hi:Int)
 | frz (o:Obj) (u:HO)
 | tbl (ps:Array Value)
 | ext (φ:Heap->Prop)
noncomputable abbrev Hp:=Addr->Option HO
noncomputable def upd (H:Hp)(a:Addr)(o:HO):Hp:=fun b=>if b=a then some o else H b
theorem ah {H:Hp}{a:Addr}{o:HO}:upd H a o a=some o:=by unfold upd;rw [if_pos rfl]
theorem az {H:Hp}{a b:Addr}{o:HO}(h:b≠a):upd H a o b=H b:=by unfold upd;rw [if_neg h]
theorem zu {H:Hp}{a:Addr}{o u:HO}:upd (upd H a o) a u=upd H a u:=by
 funext b;unfold upd;split<;>rfl
theorem ak {H:Hp}{a b:Addr}{o:HO}(h:H a=some o)(h':H b=none):a≠b:=by
 intro e;subst e;rw [h] at h';cases h'
def oF (h:Heap)(a:Addr)(items:Array Value):Prop:=∃o,h.get? a=some o/\(o.cls=.type "tuple"/\∃n,o.data=.seq items n)/\o.dict=none
theorem oF.tup {h:Heap}{a:Addr}{items:Array Value}(x:oF h a items):IsTup h a items:=let ⟨o,e,c,_⟩:=x;⟨o,e,c⟩
theorem oF.lt {h:Heap}{a:Addr}{items:Array Value}(x:oF h a items):a < h.objs.size:=let ⟨_,e,_⟩:=x;Heap.lt_size e
section
variable (P:Program)(w:World)
noncomputable def c4 (H:Hp)(h:Heap)(a:Addr):HO->Prop
 | .lst xs=>xs.length<=sizeLine/\∃(its:List Value) (n:Nat),ba xs its/\h.get? a=some {cls:=.type "list",data:=.seq its.toArray n}
 | .tup xs=>xs.length<=sizeLine/\∃its:List Value,ba xs its/\oF h a its.toArray
 | .dK kvs=>kvs.length<=sizeLine/\(a == sysModules)=false/\∃vs,KV kvs vs/\h.DictOf (rG P w) a vs
 | .dT kvs=>kvs.length<=sizeLine/\(a == sysModules)=false/\∃xs:List (List Key×Addr×Value),
   Paired (fun (p:List Key×V) (q:List Key×Addr×Value)=>p.1=q.1/\H q.2.1=some (.tup (p.1.map kV))/\bf p.2 q.2.2) kvs xs/\
   ∃o es ep,h.get? a=some o/\o.ExactDict/\o.data=.dict es ep/\es.toList=xs.map (entryOfKey (tupleKind (rG P w)))/\(xs.map (·.1)).Nodup
 | .set S n=>h.SetOf (intKind P w) a S n
 | .ins C dx fs=>H dx=some (.own a)/\fs.length<=1000/\dx≠a/\h.get? a=some (W.instObj C dx)/\
   ∃mA,h.Ns1 dx mA/\(∀f,ql (fs.lookup f) (mA f))/\PySem.Within mA (fs.map (·.1))
 | .own _=>∃o,h.get? a=some o
 | .xd fs=>∃mA,h.Ns1 a mA/\∀f,ql (fs.lookup f) (mA f)
 | .rng lo hi=>∃t u v,h.get? a=some {cls:=.type "range",data:=.fields #[.int lo t,.int hi u,.int 1 v]}
 | .frz o u=>h.get? a=some o/\c4 H h a u
 | .tbl ps=>h.get? a=some {cls:=.none,data:=.fields ps}
 | .met f x=>h.get? a=some (W.methodObj (.ref f) (.ref x))
 | .ext φ=>φ h/\(∃o,h.get? a=some o)/\∀h1 h2:Heap,φ h1->(∀o,h1.get? a=some o->h2.get? a=some o)->φ h2
def HOk (H:Hp)(h:Heap):Prop:=∀a o,H a=some o->c4 P w H h a o
end
section
variable {P:Program}{w:World}{H H':Hp}{h h':Heap}{a:Addr}{o:HO}
theorem c4.lt (x:c4 P w H h a o):a < h.objs.size:=by
 cases o with
 | lst xs=>obtain ⟨_,_,_,_,e⟩:=x;exact Heap.lt_size e
 | tup xs=>obtain ⟨_,_,_,p⟩:=x;exact p.lt
 | dK kvs=>obtain ⟨_,_,_,_,o,_,_,e,_⟩:=x;exact Heap.lt_size e
 | dT kvs=>obtain ⟨_,_,_,_,o,_,_,e,_⟩:=x;exact Heap.lt_size e
 | set S n=>obtain ⟨o,_,_,_,e,_⟩:=x;exact Heap.lt_size e
 | ins C dx fs=>obtain ⟨_,_,_,e,_⟩:=x;exact Heap.lt_size e
 | own y=>obtain ⟨_,e⟩:=x;exact Heap.lt_size e
 | xd fs=>obtain ⟨_,⟨_,_,_,e,_⟩,_⟩:=x;exact Heap.lt_size e
 | rng lo hi=>obtain ⟨_,_,_,e⟩:=x;exact Heap.lt_size e
 | frz ob u=>obtain ⟨e,_⟩:=x;exact Heap.lt_size e
 | tbl ps=>exact Heap.lt_size (show h.get? a=some _ from x)
 | met f y=>exact Heap.lt_size (show h.get? a=some _ from x)
 | ext φ=>obtain ⟨_,⟨_,e⟩,_⟩:=x;exact Heap.lt_size e
theorem Paired.mapP {α β:Type}{F G:α->β->Prop}:∀{l₁:List α} {l₂:List β},Paired F l₁ l₂->(∀a b,F a b->G a b)->Paired G l₁ l₂
 | _,_,.nil,_=>.nil
 | _,_,.cons r t,f=>.cons (f _ _ r) (Paired.mapP t f)
theorem c4.stay (x:c4 P w H h a o)(k:∀b u,(b=a\/H b=some (.own a))->h.get? b=some u->h'.get? b=some u)
  (ho:∀b,H b=some (.own a)->H' b=some (.own a)) (ht:∀b xs,H b=some (.tup xs)->H' b=some (.tup xs)):c4 P w H' h' a o:=by
 induction o with
 | lst xs=>obtain ⟨z,its,n,r,e⟩:=x;exact ⟨z,its,n,r,k _ _ (.inl rfl) e⟩
 | tup xs=>obtain ⟨z,its,r,ob,e,c⟩:=x;exact ⟨z,its,r,ob,k _ _ (.inl rfl) e,c⟩
 | dK kvs=>obtain ⟨z,y,vs,r,ob,es,ep,e,c⟩:=x;exact ⟨z,y,vs,r,ob,es,ep,k _ _ (.inl rfl) e,c⟩
 | dT kvs=>
  obtain ⟨z,y,xs,r,ob,es,ep,e,c⟩:=x
  exact ⟨z,y,xs,Paired.mapP r fun p q z=>⟨z.1,ht _ _ z.2.1,z.2.2⟩,ob,es,ep,k _ _ (.inl rfl) e,c⟩
 | set S n=>obtain ⟨ob,es,ep,t,e,c⟩:=x;exact ⟨ob,es,ep,t,k _ _ (.inl rfl) e,c⟩
 | ins C dx fs=>
  obtain ⟨d,z,ne,e,mA,⟨od,es,ep,e2,c⟩,r⟩:=x
  exact ⟨ho _ d,z,ne,k _ _ (.inl rfl) e,mA,⟨od,es,ep,k _ _ (.inr d) e2,c⟩,r⟩
 | own y=>obtain ⟨ob,e⟩:=x;exact ⟨ob,k _ _ (.inl rfl) e⟩
 | xd fs=>obtain ⟨mA,⟨od,es,ep,e,c⟩,r⟩:=x;exact ⟨mA,⟨od,es,ep,k _ _ (.inl rfl) e,c⟩,r⟩
 | rng lo hi=>obtain ⟨t,u,v,e⟩:=x;exact ⟨t,u,v,k _ _ (.inl rfl) e⟩
 | frz ob u ih=>obtain ⟨e,q⟩:=x;exact ⟨k _ _ (.inl rfl) e,ih q⟩
 | tbl ps=>
  have e:h.get? a=some {cls:=.none,data:=.fields ps}:=x
  show h'.get? a=some {cls:=.none,data:=.fields ps}
  exact k a _ (.inl rfl) e
 | met f y=>
  have e:h.get? a=some (W.methodObj (.ref f) (.ref y)):=x
  show h'.get? a=some (W.methodObj (.ref f) (.ref y))
  exact k a _ (.inl rfl) e
 | ext φ=>obtain ⟨p,⟨o,e⟩,st⟩:=x;exact ⟨st _ _ p fun o q=>k _ _ (.inl rfl) q,⟨o,k _ _ (.inl rfl) e⟩,st⟩
theorem HOk.lt (x:HOk P w H h)(e:H a=some o):a < h.objs.size:=(x a o e).lt
theorem HOk.fresh (x:HOk P w H h)(e:h.objs.size<=a):H a=none:=by
 cases q:H a with
 | none=>rfl
 | some u=>exact absurd (Nat.lt_of_lt_of_le (x.lt q) e) (Nat.lt_irrefl _)
theorem HOk.kept (x:HOk P w H h)(k:∀b u,h.get? b=some u->h'.get? b=some u):HOk P w H h':=fun a o e=>
 (x a o e).stay (fun b u _ q=>k b u q) (fun _ q=>q) fun _ _ q=>q
theorem HOk.laid (x:HOk P w H h)(k:∀b u,h.get? b=some u->h'.get? b=some u)(hp:h.objs.size<=a)(new:c4 P w (upd H a o) h' a o):HOk P w (upd H a o) h':=fun b u e=>by
 have hn:=x.fresh hp
 by_cases hb:b=a
 ·subst hb;rw [ah] at e;cases e;exact new
 ·rw [az hb] at e
  exact (x b u e).stay (fun c v _ q=>k c v q) (fun c q=>by rw [az (ak q hn)];exact q) fun c xs q=>by rw [az (ak q hn)];exact q
end
def Rd (H:Hp)(a:Addr)(u:HO):Prop:=H a=some u\/∃o,H a=some (.frz o u)
theorem Rd.ok {P:Program}{w:World}{H:Hp}{h:Heap}{a:Addr}{u:HO}(r:Rd H a u)(x:HOk P w H h):c4 P w H h a u:=by
 rcases r with r | ⟨o,r⟩
 ·exact x a u r
 ·obtain ⟨_,q⟩:=x a _ r
  exact q
noncomputable def Mut:Option HO->Prop
 | some (.lst _)=>True
 | some (.dK _)=>True
 | some (.dT _)=>True
 | some (.set _ _)=>True
 | some (.ins _ _ _)=>True
 | some (.ext _)=>True
 | _=>False
section
variable {P:Program}{w:World}{H:Hp}{h h':Heap}{x e:Addr}{o':HO}
theorem HOk.write (ok:HOk P w H h)(mu:Mut (H x))(he:e=x\/H e=some (.own x))(k:∀b u,b≠e->h.get? b=some u->h'.get? b=some u)(heo:∃u,h'.get? e=some u)
  (new:c4 P w (upd H x o') h' x o'):HOk P w (upd H x o') h':=fun b u q=>by
 have nown:∀c y,H c=some (.own y)->c≠x:=fun c y r z=>by subst z;rw [r] at mu;exact mu
 have ntup:∀c xs,H c=some (.tup xs)->c≠x:=fun c xs r z=>by subst z;rw [r] at mu;exact mu
 by_cases hb:b=x
 ·subst hb;rw [ah] at q;cases q;exact new
 ·rw [az hb] at q
  by_cases hbe:b=e
  ·have q':H b=some (.own x):=by
    rcases he with z | z
    ·exact absurd (hbe.trans z) hb
    ·rw [hbe];exact z
   rw [q] at q';cases q'
   obtain ⟨v,hv⟩:=heo
   exact ⟨v,by rw [hbe];exact hv⟩
  ·refine (ok b u q).stay (fun c v hc r=>k c v ?_ r) (fun c r=>by rw [az (nown c b r)];exact r) fun c xs r=>by rw [az (ntup c xs r)];exact r
   rcases hc with rfl | hc
   ·exact hbe
   ·rintro rfl
    rcases he with z | z
    ·exact nown c b hc z
    ·rw [hc] at z;cases z;exact hb rfl
end
structure Un (fs ex:List Addr)(H H':Hp)(h h':Heap):Prop where
 keep:∀b o,h.get? b=some o->H b=none->b∉fs->b∉ex->h'.get? b=some o
 slot:∀b o,h.get? b=some o->H b=none->b∈fs->b∉ex->∃sl,h'.get? b=some {o with slots:=sl}
 free:∀b o,h.get? b=some o->H b=none->b∉ex->H' b=none
 there:∀b o,h.get? b=some o->b∉ex->∃o',h'.get? b=some o'
 tups:∀b xs,H b=some (.tup xs)->H' b=some (.tup xs)
 frzs:∀b o u,H b=some (.frz o u)->H' b=some (.frz o u)
 tbls:∀b ps,H b=some (.tbl ps)->∃more,H' b=some (.tbl (ps++more))
section
variable {fs fs' ex ex':List Addr}{H H1 H2:Hp}{h h1 h2 h':Heap}{a x e:Addr}{o:HO}
theorem Un.any (u:Un fs ex H H1 h h1){b:Addr}{ob:Obj}(q:h.get? b=some ob)(n:H b=none)(hx:b∉ex):∃sl,h1.get? b=some {ob with slots:=sl}:=by
 by_cases hb:b∈fs
 ·exact u.slot b ob q n hb hx
 ·exact ⟨ob.slots,u.keep b ob q n hb hx⟩
theorem Un.kept (k:∀b u,h.get? b=some u->h'.get? b=some u):Un fs ex H H h h':=
 ⟨fun b ob q _ _ _=>k b ob q,fun b ob q _ _ _=>⟨ob.slots,k b ob q⟩,fun _ _ _ n _=>n,fun b ob q _=>⟨ob,k b ob q⟩,fun _ _ q=>q,fun _ _ _ q=>q,fun _ ps q=>⟨#[],by rw [q];simp⟩⟩
theorem Un.refl:Un fs ex H H h h:=Un.kept fun _ _ q=>q
theorem Un.laid (k:∀b u,h.get? b=some u->h'.get? b=some u)(hp:h.objs.size<=a)(hn:H a=none):Un fs ex H (upd H a o) h h' where
 keep:=fun b u q _ _ _=>k b u q
 slot:=fun b u q _ _ _=>⟨u.slots,k b u q⟩
 free:=fun b u q n _=>by rw [az (Nat.ne_of_lt (Nat.lt_of_lt_of_le (Heap.lt_size q) hp))];exact n
 there:=fun b u q _=>⟨u,k b u q⟩
 tups:=fun b xs q=>by rw [az (ak q hn)];exact q
 frzs:=fun b u xs q=>by rw [az (ak q hn)];exact q
 tbls:=fun b ps q=>⟨#[],by rw [az (ak q hn),q];simp⟩
theorem Un.write (mu:Mut (H x))(he:e=x\/H e=some (.own x))(k:∀b u,b≠e->h.get? b=some u->h'.get? b=some u)(heo:∃u,h'.get? e=some u):Un fs ex H (upd H x o) h h':=by
 have hx:∀b,H b=none->b≠x:=fun b n z=>by subst z;rw [n] at mu;exact mu
 have hb:∀b,H b=none->b≠e:=fun b n z=>by
  subst z
  rcases he with r | r
  ·exact hx b n r
  ·rw [n] at r;cases r
 have hm:∀b u,H b=some u->¬Mut (some u)->b≠x:=fun b u q nm z=>by subst z;rw [q] at mu;exact nm mu
 refine ⟨fun b u q n _ _=>k b u (hb b n) q,fun b u q n _ _=>⟨u.slots,k b u (hb b n) q⟩,fun b u q n _=>by rw [az (hx b n)];exact n,fun b u q _=>?_,
  fun b xs q=>by rw [az (hm b _ q fun z=>z)];exact q,fun b u xs q=>by rw [az (hm b _ q fun z=>z)];exact q,fun b ps q=>⟨#[],by rw [az (hm b _ q fun z=>z),q];simp⟩⟩
 by_cases hbe:b=e
 ·subst hbe;exact heo
 ·exact ⟨u,k b u hbe q⟩
end
noncomputable def trk (h:Heap)(H:Hp):List Addr:=(List.range h.objs.size).filter fun a=>(H a).isSome
noncomputable def rH (h:Heap)(H:Hp):Heap:=W.hideAll h (trk h H)
theorem wM (h:Heap)(H:Hp):(rH h H).objs.size=h.objs.size:=W.hideAll_size _ _
theorem xG {h:Heap}{H:Hp}{b:Addr}{o:Obj}(e:h.get? b=some o)(n:H b=none):(rH h H).get? b=some o:=
 W.hideAll_get _ e fun hm=>by
  have q:(H b).isSome=true:=(List.mem_filter.mp hm).2
  rw [n] at q;simp at q
theorem zw {h:Heap}{H:Hp}{b:Addr}{o:Obj}(e:(rH h H).get? b=some o):h.get? b=some o/\H b=none:=by
 have e':h.get? b=some o:=W.of_hideAll (trk h H) e
 refine ⟨e',?_⟩
 cases q:H b with
 | none=>rfl
 | some x=>
  have hm:b∈trk h H:=List.mem_filter.mpr ⟨List.mem_range.mpr (Heap.lt_size e'),by simp [q]⟩
  have z:(rH h H).get? b=none:=W.hideAll_none (trk h H) hm
  rw [z] at e;cases e
noncomputable def zx (g h:Heap)(L:Addr):List (Addr×Obj):=(List.range h.objs.size).filterMap fun a=>if a=L\/(g.get? a).isSome=true then none else (h.get? a).map fun o=>(a,o)
noncomputable def mG (g h:Heap)(L d:Addr):List (Addr×Obj):=(zx g h L).filter fun p=>decide (p.1≠d)
structure Mod (K:W.Frag)(mg:Str->Option Value)(base:Heap):Prop where
 kin:K.In base
 glob:base.Ns mainGlobals mg
 blt:∃mb,base.Ns builtinsNs mb/\∀x:Str,x≠"__name__"->mb x=bootBuiltins x
 nolimit:base.NoLimit
structure Cx where
 prog:Program
 w:World
 K:W.Frag
 mg:Str->Option Value
 base:Heap
 A:Around
 N:List Str
 s₀:Shared
 H₀:Hp
 env:Env
 outer:List Env
 stack:List Env
 ex:List Addr
 fn:Str->Bool
 calm:Bool
 pn:List (Addr×Obj)
 xe:Value->Shared->Prop
noncomputable def frs (l:List Env):List Addr:=l.filterMap (·.frame)
noncomputable abbrev Cx.fs (X:Cx):List Addr:=frs X.outer
def Vis (sc:Scope)(x:Str):Prop:=sc.names.lookup x=some .local\/sc.names.lookup x=some .cell\/sc.names.lookup x=some .free
def Loc (sc:Scope)(x:Str):Prop:=sc.names.lookup x=some .local\/sc.names.lookup x=some .cell
def En (env:Env)(h:Heap)(m:Str->Option Value)(x:Str)(u:Value):Prop:=
 (env.kindOf x=some .local/\m x=some u)\/((env.kindOf x=some .cell\/env.kindOf x=some .free)/\∃c,env.cells.lookup x=some c/\h.IsCell c (some u))
structure Cx.Ok (X:Cx):Prop where
 mod:Mod X.K X.mg X.base
 kind:X.env.scope.kind=.function
 glob:X.env.globals=mainGlobals
 blt:X.env.builtins=builtinsNs
 above:X.s₀.heap.objs.size<=X.env.locals
 inj:∀x y c,X.env.cells.lookup x=some c->X.env.cells.lookup y=some c->x=y
 has:∀x,(X.env.kindOf x=some .cell\/X.env.kindOf x=some .free)->∃c,X.env.cells.lookup x=some c
 cab:∀x c,X.fn x=true->X.env.cells.lookup x=some c->X.s₀.heap.objs.size<=c
 hd:X.calm=true->X.A.handled=none
 frames:X.A.frames=some X.stack
 stk:X.stack=X.outer\/(X.stack=X.env::X.outer/\X.env.frame=some X.env.locals)
 exf:∀b∈X.ex,b≠X.env.locals/\∀x c,X.env.cells.lookup x=some c->c≠b
 bs:∀b o,X.base.get? b=some o->X.s₀.heap.get? b=some o/\X.H₀ b=none
 bsz:X.base.objs.size<=X.s₀.heap.objs.size
 noex:∀b o,X.base.get? b=some o->b∉X.ex
 exfs:∀b∈X.ex,b∉X.fs
 funs:X.s₀.heap.FunFrames X.base X.outer
 frf:∀b∈X.fs,X.H₀ b=none
structure Inv (X:Cx)(pins:List (Addr×Obj))(σ:List (Option V))(H:Hp)(s:Shared):Prop where
 ok:X.Ok
 os:s.os=X.s₀.os
 bare:AllBare s.gens
 base:Un X.fs X.ex X.H₀ H X.s₀.heap s.heap
 loc:∃m,s.heap.Ns X.env.locals m/\∀(i:Nat) (x:Str) (v:V),X.N[i]?=some x->σ[i]?=some (some v)->Vis X.env.scope x->∃u,bf v u/\En X.env s.heap m x u
 cell:∀x c,X.env.cells.lookup x=some c->∃v,s.heap.IsCell c v
 free:H X.env.locals=none
 freeC:∀x c,X.env.cells.lookup x=some c->H c=none
 pin:∀p∈X.pn++pins,s.heap.get? p.1=some p.2/\H p.1=none/\p.1≠X.env.locals/\p.1∉X.fs/\∀v,p.2.data≠.cell v
 hok:HOk X.prog X.w H s.heap
 len:σ.length=X.N.length
section
variable {X:Cx}{pins:List (Addr×Obj)}{σ:List (Option V)}{H H':Hp}{s:Shared}{h':Heap}
theorem Cx.Ok.nofr (ok:X.Ok){b:Addr}{o:Obj}(e:X.base.get? b=some o):b∉X.fs:=fun hb=>by
 have:=(ok.funs.mem hb).1
 rw [e] at this;cases this
theorem Inv.bs (I:Inv X pins σ H s):∀b o,X.base.get? b=some o->s.heap.get? b=some o/\H b=none:=fun b o e=>
 ⟨I.base.keep b o (I.ok.bs b o e).1 (I.ok.bs b o e).2 (I.ok.nofr e) (I.ok.noex b o e),I.base.free b o (I.ok.bs b o e).1 (I.ok.bs b o e).2 (I.ok.noex b o e)⟩
theorem Inv.bk (I:Inv X pins σ H s):∀b o,X.base.get? b=some o->s.heap.get? b=some o:=fun b o e=>(I.bs b o e).1
theorem Inv.mod (I:Inv X pins σ H s):Mod X.K X.mg X.base:=I.ok.mod
theorem Inv.kIn (I:Inv X pins σ H s):X.K.In s.heap:=I.ok.mod.kin.keeps I.bk
theorem Inv.fr (I:Inv X pins σ H s):∃m,Fr X.base X.env.locals s.heap m:=
 let ⟨m,hn,_⟩:=I.loc
 ⟨m,hn,I.bk,Nat.le_trans I.ok.bsz I.ok.above⟩
theorem Inv.lt (I:Inv X pins σ H s):X.env.locals < s.heap.objs.size:=let ⟨_,hn,_⟩:=I.loc;hn.lt
theorem Inv.sz (I:Inv X pins σ H s):X.s₀.heap.objs.size<=s.heap.objs.size:=Nat.le_trans I.ok.above (Nat.le_of_lt I.lt)
theorem Inv.nofs (I:Inv X pins σ H s){a:Addr}(h:s.heap.objs.size<=a):a∉X.fs:=fun hb=>by
 obtain ⟨_,o,ho,_⟩:=I.ok.funs.mem hb
 exact absurd (Nat.lt_of_lt_of_le (Heap.lt_size ho) (Nat.le_trans I.sz h)) (Nat.lt_irrefl _)
theorem Inv.cne (I:Inv X pins σ H s):∀x c,X.env.cells.lookup x=some c->c≠X.env.locals:=fun x c e z=>by
 obtain ⟨v,o,ho,hd⟩:=I.cell x c e
 obtain ⟨m,⟨o',es,ep,ho',hd',_⟩,_⟩:=I.loc
 rw [z,ho'] at ho;cases ho;rw [hd'] at hd;cases hd
theorem Inv.funs (I:Inv X pins σ H s):s.heap.FunFrames X.base X.outer:=by
 have all:∀(l:List Env),(∀b∈frs l,b∈X.fs)->X.s₀.heap.FunFrames X.base l->s.heap.FunFrames X.base l:=by
  intro l
  induction l with
  | nil=>intro _ _;trivial
  | cons env r ih=>
   intro hs hl
   obtain ⟨hk,⟨L,o,hf,hn,ho,hd⟩,hr⟩:=hl
   have hL:L∈X.fs:=hs L (by unfold frs;rw [List.filterMap_cons,hf];exact List.mem_cons_self)
   obtain ⟨sl,e⟩:=I.base.slot L o ho (I.ok.frf L hL) hL fun z=>I.ok.exfs L z hL
   exact ⟨hk,⟨L,_,hf,hn,e,hd⟩,ih (fun b hb=>hs b (by unfold frs;rw [List.filterMap_cons,hf];exact List.mem_cons_of_mem _ hb)) hr⟩
 exact all X.outer (fun _ hb=>hb) I.ok.funs
theorem Inv.stack (I:Inv X pins σ H s):s.heap.FunFrames X.base X.stack:=by
 rcases I.ok.stk with e | ⟨e,hf⟩
 ·rw [e];exact I.funs
 ·rw [e]
  obtain ⟨m,hn,_⟩:=I.loc
  refine .cons (by rw [I.ok.kind];decide) hf hn ?_ I.funs
  exact Heap.get?_none_of_le (Nat.le_trans I.ok.bsz I.ok.above)
theorem Inv.stkSub (I:Inv X pins σ H s):∀b∈frs X.stack,b∈X.env.locals::X.fs:=fun b hb=>by
 rcases I.ok.stk with e | ⟨e,hf⟩
 ·rw [e] at hb;exact List.mem_cons_of_mem _ hb
 ·rw [e] at hb
  unfold frs at hb
  rw [List.filterMap_cons,hf] at hb
  exact hb
theorem Inv.stkFree (I:Inv X pins σ H s):∀b∈frs X.stack,H b=none:=fun b hb=>by
 rcases List.mem_cons.mp (I.stkSub b hb) with e | hb
 ·rw [e];exact I.free
 ·obtain ⟨_,o,ho,_⟩:=I.ok.funs.mem hb
  exact I.base.free b o ho (I.ok.frf b hb) fun z=>I.ok.exfs b z hb
theorem Inv.step {g':Array GenState}{t':Nat}{d':Drawn}{ch:List Addr}(I:Inv X pins σ H s)
  (hch:∀b∈ch,(b∈X.ex\/X.s₀.heap.objs.size<=b)/\b≠X.env.locals/\(∀x c,X.env.cells.lookup x=some c->c≠b)/\∀p∈X.pn++pins,p.1≠b)
  (keep:∀b o,b≠X.env.locals->b∉X.fs->b∉ch->s.heap.get? b=some o->H b=none->h'.get? b=some o)
  (slot:∀b o,b≠X.env.locals->b∈X.fs->b∉ch->s.heap.get? b=some o->H b=none->∃sl,h'.get? b=some {o with slots:=sl}) (free:∀b o,b∉ch->s.heap.get? b=some o->H b=none->H' b=none)
  (there:∀b o,b∉ch->s.heap.get? b=some o->∃o',h'.get? b=some o')
  (tups:∀b xs,H b=some (.tup xs)->H' b=some (.tup xs)) (frzs:∀b o u,H b=some (.frz o u)->H' b=some (.frz o u)) (tbls:∀b ps,H b=some (.tbl ps)->∃more,H' b=some (.tbl (ps++more)))
  (ns:∀m,s.heap.Ns X.env.locals m->h'.Ns X.env.locals m) (hok:HOk X.prog X.w H' h') (hg:AllBare g') :
  Inv X pins σ H' {s with heap:=h',gens:=g',drawn:=d',toks:=t'}:=by
 have neL:∀b o,X.s₀.heap.get? b=some o->b≠X.env.locals:=fun b o e=>Nat.ne_of_lt (Nat.lt_of_lt_of_le (Heap.lt_size e) I.ok.above)
 have neC:∀b o,X.s₀.heap.get? b=some o->b∉X.ex->b∉ch:=fun b o e hx hb=>by
  rcases (hch b hb).1 with z | z
  ·exact hx z
  ·exact absurd (Nat.lt_of_lt_of_le (Heap.lt_size e) z) (Nat.lt_irrefl _)
 have cellK:∀x c,X.env.cells.lookup x=some c->∀v,s.heap.IsCell c v->h'.IsCell c v:=fun x c e v ⟨o,ho,hd⟩=>by
  have nch:c∉ch:=fun z=>(hch c z).2.2.1 x c e rfl
  by_cases hc:c∈X.fs
  ·obtain ⟨sl,q⟩:=slot c o (I.cne x c e) hc nch ho (I.freeC x c e)
   exact ⟨_,q,hd⟩
  ·exact ⟨o,keep c o (I.cne x c e) hc nch ho (I.freeC x c e),hd⟩
 refine ⟨I.ok,I.os,hg,⟨fun b o e n hb hx=>?_,fun b o e n hb hx=>?_,fun b o e n hx=>?_,fun b o e hx=>?_,fun b xs e=>tups b xs (I.base.tups b xs e),fun b o xs e=>frzs b o xs (I.base.frzs b o xs e),fun b ps e=>?_⟩,?_,fun x c e=>?_,?_,fun x c e=>?_,fun p hp=>?_,hok,I.len⟩
 ·exact keep b o (neL b o e) hb (neC b o e hx) (I.base.keep b o e n hb hx) (I.base.free b o e n hx)
 ·obtain ⟨sl,e1⟩:=I.base.slot b o e n hb hx
  obtain ⟨sl',e2⟩:=slot b _ (neL b o e) hb (neC b o e hx) e1 (I.base.free b o e n hx)
  exact ⟨sl',e2⟩
 ·obtain ⟨o',e1⟩:=I.base.there b o e hx
  exact free b o' (neC b o e hx) e1 (I.base.free b o e n hx)
 ·obtain ⟨o',e1⟩:=I.base.there b o e hx
  exact there b o' (neC b o e hx) e1
 ·obtain ⟨m1,e1⟩:=I.base.tbls b ps e
  obtain ⟨m2,e2⟩:=tbls b _ e1
  exact ⟨m1++m2,by rw [e2,Array.append_assoc]⟩
 ·obtain ⟨m,hn,hl⟩:=I.loc
  refine ⟨m,ns m hn,fun i x v e1 e2 e3=>?_⟩
  obtain ⟨u,r,l⟩:=hl i x v e1 e2 e3
  refine ⟨u,r,?_⟩
  rcases l with l | ⟨k,c,e,z⟩
  ·exact .inl l
  ·exact .inr ⟨k,c,e,cellK x c e _ z⟩
 ·obtain ⟨v,z⟩:=I.cell x c e
  exact ⟨v,cellK x c e v z⟩
 ·obtain ⟨m,⟨o,_,_,ho,_⟩,_⟩:=I.loc
  exact free _ o (fun z=>(hch _ z).2.1 rfl) ho I.free
 ·obtain ⟨v,o,ho,hd⟩:=I.cell x c e
  exact free c o (fun z=>(hch c z).2.2.1 x c e rfl) ho (I.freeC x c e)
 ·obtain ⟨e,n,ne,nf,d⟩:=I.pin p hp
  have nch:p.1∉ch:=fun z=>(hch p.1 z).2.2.2 p hp rfl
  exact ⟨keep p.1 p.2 ne nf nch e n,free p.1 p.2 nch e n,ne,nf,d⟩
theorem Inv.un {t':Nat}(I:Inv X pins σ H s)(u:Un X.fs [] H H' s.heap h')(hok:HOk X.prog X.w H' h'):Inv X pins σ H' {s with heap:=h',toks:=t'}:=by
 obtain ⟨m,⟨o,es,ep,ho,r⟩,_⟩:=id I.loc
 obtain ⟨sl,hL⟩:=u.any ho I.free (by simp)
 exact I.step (g':=s.gens) (d':=s.drawn) (ch:=[]) (fun _ z=>nomatch z) (fun b o _ hb _ e n=>u.keep b o e n hb (by simp)) (fun b o _ hb _ e n=>u.slot b o e n hb (by simp)) (fun b o _ e n=>u.free b o e n (by simp)) (fun b o _ e=>u.there b o e (by simp)) u.tups u.frzs u.tbls (fun m' hm=>by
  obtain ⟨o',es',ep',ho',r'⟩:=hm
  rw [ho] at ho';cases ho'
  exact ⟨_,es',ep',hL,r'⟩) hok I.bare
theorem Inv.call {g':Array GenState}{t':Nat}{d':Drawn}{ch:List Addr}(I:Inv X pins σ H s)(u:Un (frs X.stack) ch H H' s.heap h')(hok:HOk X.prog X.w H' h')(hg:AllBare g')
  (hch:∀b∈ch,(b∈X.ex\/X.s₀.heap.objs.size<=b)/\b≠X.env.locals/\(∀x c,X.env.cells.lookup x=some c->c≠b)/\∀p∈X.pn++pins,p.1≠b) :
  Inv X pins σ H' {s with heap:=h',gens:=g',drawn:=d',toks:=t'}:=by
 obtain ⟨m,⟨o,es,ep,ho,r⟩,_⟩:=id I.loc
 obtain ⟨sl,hL⟩:=u.any ho I.free fun z=>(hch _ z).2.1 rfl
 exact I.step (ch:=ch) hch (fun b o hL hb hc e n=>u.keep b o e n (fun z=>(List.mem_cons.mp (I.stkSub b z)).elim hL hb) hc) (fun b o _ _ hc e n=>u.any e n hc) (fun b o hc e n=>u.free b o e n hc) (fun b o hc e=>u.there b o e hc) u.tups u.frzs u.tbls (fun m' hm=>by
  obtain ⟨o',es',ep',ho',r'⟩:=hm
  rw [ho] at ho';cases ho'
  exact ⟨_,es',ep',hL,r'⟩) hok hg
theorem Inv.turned {t':Nat}{it:Addr}(I:Inv X pins σ H s)(k:∀b o,b≠it->s.heap.get? b=some o->h'.get? b=some o)(hn:H it=none)(hL:it≠X.env.locals)
  (h1:it∈X.ex\/X.s₀.heap.objs.size<=it) (h2:∀x c,X.env.cells.lookup x=some c->c≠it) (h3:∀p∈X.pn++pins,p.1≠it):Inv X pins σ H {s with heap:=h',toks:=t'}:=by
 have nit:∀b u,H b=some u->b≠it:=fun b u e z=>by rw [z,hn] at e;cases e
 refine I.step (g':=s.gens) (d':=s.drawn) (ch:=[it]) (fun b hb=>?_) (fun b o _ _ hc e _=>k b o (fun z=>hc (by simp [z])) e) (fun b o _ _ hc e _=>⟨o.slots,k b o (fun z=>hc (by simp [z])) e⟩) (fun _ _ _ _ n=>n)
  (fun b o hc e=>⟨o,k b o (fun z=>hc (by simp [z])) e⟩) (fun _ _ e=>e) (fun _ _ _ e=>e) (fun b ps e=>⟨#[],by rw [e];simp⟩) (fun m hm=>?_) (fun b u e=>?_) I.bare
 ·have e:b=it:=by simpa using hb
  subst e
  exact ⟨h1,hL,h2,h3⟩
 ·obtain ⟨o,es,ep,ho,r⟩:=hm
  exact ⟨o,es,ep,k _ o (Ne.symm hL) ho,r⟩
 ·refine (I.hok b u e).stay (fun c v hc q=>k c v ?_ q) (fun _ q=>q) fun _ _ q=>q
  rcases hc with z | z
  ·rw [z];exact nit b u e
  ·exact nit c _ z
theorem Inv.tok (I:Inv X pins σ H s)(t:Nat):Inv X pins σ H {s with toks:=t}:=I.un (h':=s.heap) (t':=t) Un.refl I.hok
theorem Inv.kept {t':Nat}(I:Inv X pins σ H s)(k:∀b u,s.heap.get? b=some u->h'.get? b=some u):Inv X pins σ H {s with heap:=h',toks:=t'}:=I.un (Un.kept k) (I.hok.kept k)
theorem Inv.laid {a:Addr}{o:HO}{t':Nat}(I:Inv X pins σ H s)(k:∀b u,s.heap.get? b=some u->h'.get? b=some u)(hp:s.heap.objs.size<=a)(new:c4 X.prog X.w (upd H a o) h' a o) :
  Inv X pins σ (upd H a o) {s with heap:=h',toks:=t'}:=I.un (Un.laid k hp (I.hok.fresh hp)) (I.hok.laid k hp new)
theorem Inv.write {x e:Addr}{o:HO}{t':Nat}(I:Inv X pins σ H s)(mu:Mut (H x))(he:e=x\/H e=some (.own x))(k:∀b u,b≠e->s.heap.get? b=some u->h'.get? b=some u)(heo:∃u,h'.get? e=some u)
  (new:c4 X.prog X.w (upd H x o) h' x o):Inv X pins σ (upd H x o) {s with heap:=h',toks:=t'}:=I.un (Un.write mu he k heo) (I.hok.write mu he k heo new)
theorem Inv.weak {σ':List (Option V)}(I:Inv X pins σ H s)(hl:σ'.length=σ.length)(w:∀(i:Nat) v,σ'[i]?=some (some v)->σ[i]?=some (some v)):Inv X pins σ' H s:=
 ⟨I.ok,I.os,I.bare,I.base,let ⟨m,hn,hl'⟩:=I.loc;⟨m,hn,fun i x v e1 e2 e3=>hl' i x v e1 (w i v e2) e3⟩,I.cell,I.free,I.freeC,I.pin,I.hok,hl.trans I.len⟩
theorem Inv.pins_of {pins':List (Addr×Obj)}(I:Inv X pins σ H s)(h:∀p∈pins',s.heap.get? p.1=some p.2/\H p.1=none/\p.1≠X.env.locals/\p.1∉X.fs/\∀v,p.2.data≠.cell v):Inv X pins' σ H s:=
 ⟨I.ok,I.os,I.bare,I.base,I.loc,I.cell,I.free,I.freeC,fun p hp=>(List.mem_append.mp hp).elim (fun z=>I.pin p (List.mem_append_left _ z)) (h p),I.hok,I.len⟩
theorem tI {N:List Str}(hN:N.Nodup){i j:Nat}{x:Str}(a:N[i]?=some x)(b:N[j]?=some x):i=j:=by
 obtain ⟨h1,e1⟩:=List.getElem?_eq_some_iff.mp a
 obtain ⟨h2,e2⟩:=List.getElem?_eq_some_iff.mp b
 exact (List.getElem_inj hN).mp (e1.trans e2.symm)
theorem qU {M:Model}{A:Around}{E:Value->Shared->Prop}{i:Nat}{x:Str}{v:V}{u:Value}{Q:Unit->Shared->Prop}(I:Inv X pins σ H s)(hN:X.N.Nodup)(hi:X.N[i]?=some x)(hx:Loc X.env.scope x)(r:bf v u)
  (h:∀s',Inv X pins (σ.set i (some v)) H s'->(∃a,Heap.SameBut a s.heap s'.heap/\(a=X.env.locals\/X.env.cells.lookup x=some a))->Q () s') (hf:X.fn x=true\/X.env.scope.names.lookup x=some .local:=by first | exact .inl rfl | exact .inr rfl | assumption):wpAny M A (storeName X.env x u) Q E s:=by
 obtain ⟨m,hn,hl⟩:=id I.loc
 have hcls:(X.env.scope.kind == .class || (X.env.scope.kind == .module && X.env.locals != X.env.globals))=false:=by rw [I.ok.kind];rfl
 have hiσ:i < σ.length:=by rw [I.len];exact (List.getElem?_eq_some_iff.mp hi).1
 have cne:=I.cne
 have tracked:∀{a:Addr} {h':Heap},(∃o,s.heap.get? a=some o/\H a=none)->Heap.SameBut a s.heap h'->HOk X.prog X.w H h':=fun {a h'} ha hs b ob e=>by
  obtain ⟨_,_,hfree⟩:=ha
  refine (I.hok b ob e).stay (fun c w' hc q=>(hs.2 c ?_).trans q) (fun _ q=>q) fun _ _ q=>q
  rintro rfl
  rcases hc with rfl | hc
  ·rw [hfree] at e;cases e
  ·rw [hfree] at hc;cases hc
 rcases hx with hk | hk
 ·refine wpAny_storeName_local hk hn (fun h' hn' hs=>?_) hcls
  obtain ⟨oL,_,_,hoL,_⟩:=id hn
  refine h _ ⟨I.ok,I.os,I.bare,⟨fun b o e n hb hx=>?_,fun b o e n hb hx=>?_,I.base.free,fun b o e hx=>?_,I.base.tups,I.base.frzs,I.base.tbls⟩,⟨_,hn',fun j y v' e1 e2 e3=>?_⟩,fun y c e=>?_,I.free,I.freeC,fun p hp=>?_,tracked ⟨oL,hoL,I.free⟩ hs,by simpa using I.len⟩ ⟨_,hs,.inl rfl⟩
  ·exact (hs.2 b (Nat.ne_of_lt (Nat.lt_of_lt_of_le (Heap.lt_size e) I.ok.above))).trans (I.base.keep b o e n hb hx)
  ·obtain ⟨sl,e1⟩:=I.base.slot b o e n hb hx
   exact ⟨sl,(hs.2 b (Nat.ne_of_lt (Nat.lt_of_lt_of_le (Heap.lt_size e) I.ok.above))).trans e1⟩
  ·obtain ⟨o',e1⟩:=I.base.there b o e hx
   exact ⟨o',(hs.2 b (Nat.ne_of_lt (Nat.lt_of_lt_of_le (Heap.lt_size e) I.ok.above))).trans e1⟩
  ·by_cases hj:j=i
   ·subst hj
    rw [hi] at e1;cases e1
    rw [List.getElem?_set_self hiσ] at e2
    cases e2
    exact ⟨u,r,.inl ⟨hk,by simp⟩⟩
   ·rw [List.getElem?_set_ne (Ne.symm hj)] at e2
    obtain ⟨u',r',q⟩:=hl j y v' e1 e2 e3
    refine ⟨u',r',?_⟩
    rcases q with ⟨k,e⟩ | ⟨k,c,e,z⟩
    ·refine .inl ⟨k,?_⟩
     have:y≠x:=fun e=>hj (tI hN e1 (e▸hi))
     simp [this,e]
    ·exact .inr ⟨k,c,e,z.sameBut hs (cne y c e)⟩
  ·obtain ⟨w',z⟩:=I.cell y c e
   exact ⟨w',z.sameBut hs (cne y c e)⟩
  ·obtain ⟨e,n,ne,nf,d⟩:=I.pin p hp
   exact ⟨(hs.2 p.1 ne).trans e,n,ne,nf,d⟩
 ·have hfn:X.fn x=true:=by
   rcases hf with z | z
   ·exact z
   ·rw [z] at hk;cases hk
  obtain ⟨c,hc⟩:=I.ok.has x (.inl hk)
  obtain ⟨w',z⟩:=I.cell x c hc
  refine wpAny_storeName_cell I.ok.kind hk hc z (fun h' hc' hs=>?_)
  obtain ⟨oc,hoc,hocd⟩:=id z
  refine h {s with heap:=h'} ⟨I.ok,I.os,I.bare,⟨fun b o e n hb hx=>?_,fun b o e n hb hx=>?_,I.base.free,fun b o e hx=>?_,I.base.tups,I.base.frzs,I.base.tbls⟩,⟨m,hn.sameBut hs (Ne.symm (cne x c hc)),fun j y v' e1 e2 e3=>?_⟩,fun y c' e=>?_,I.free,I.freeC,fun p hp=>?_,tracked ⟨oc,hoc,I.freeC x c hc⟩ hs,by simpa using I.len⟩ ⟨c,hs,.inr hc⟩
  ·exact (hs.2 b (Nat.ne_of_lt (Nat.lt_of_lt_of_le (Heap.lt_size e) (I.ok.cab x c hfn hc)))).trans (I.base.keep b o e n hb hx)
  ·obtain ⟨sl,e1⟩:=I.base.slot b o e n hb hx
   exact ⟨sl,(hs.2 b (Nat.ne_of_lt (Nat.lt_of_lt_of_le (Heap.lt_size e) (I.ok.cab x c hfn hc)))).trans e1⟩
  ·obtain ⟨o',e1⟩:=I.base.there b o e hx
   exact ⟨o',(hs.2 b (Nat.ne_of_lt (Nat.lt_of_lt_of_le (Heap.lt_size e) (I.ok.cab x c hfn hc)))).trans e1⟩
  ·by_cases hj:j=i
   ·subst hj
    rw [hi] at e1;cases e1
    rw [List.getElem?_set_self hiσ] at e2
    cases e2
    exact ⟨u,r,.inr ⟨.inl hk,c,hc,hc'⟩⟩
   ·rw [List.getElem?_set_ne (Ne.symm hj)] at e2
    obtain ⟨u',r',q⟩:=hl j y v' e1 e2 e3
    refine ⟨u',r',?_⟩
    rcases q with q | ⟨k,c',e,z'⟩
    ·exact .inl q
    ·refine .inr ⟨k,c',e,z'.sameBut hs ?_⟩
     rintro rfl
     exact hj (tI hN e1 (I.ok.inj _ _ _ e hc▸hi))
  ·by_cases hcc:c'=c
   ·subst hcc;exact ⟨_,hc'⟩
   ·obtain ⟨w2,z2⟩:=I.cell y c' e
    exact ⟨w2,z2.sameBut hs hcc⟩
  ·obtain ⟨e,n,ne,nf,d⟩:=I.pin p hp
   refine ⟨(hs.2 p.1 ?_).trans e,n,ne,nf,d⟩
   intro q
   rw [q,hoc] at e
   have q':oc=p.2:=Option.some.inj e
   exact d w' (by rw [←q'];exact hocd)
theorem tJ {M:Model}{A:Around}{E:Value->Shared->Prop}{i:Nat}{x:Str}{v:V}{u:Value}{Q:Unit->Shared->Prop}(I:Inv X pins σ H s)(hN:X.N.Nodup)(hi:X.N[i]?=some x)(hx:Loc X.env.scope x)(r:bf v u)
  (h:∀s',Inv X pins (σ.set i (some v)) H s'->Q () s') (hf:X.fn x=true\/X.env.scope.names.lookup x=some .local:=by first | exact .inl rfl | exact .inr rfl | assumption):wpAny M A (storeName X.env x u) Q E s:=
 qU I hN hi hx r (fun s' I' _=>h s' I') hf
theorem Inv.call' {s':Shared}{ch:List Addr}(I:Inv X pins σ H s)(ho:s'.os=s.os)(u:Un (frs X.stack) ch H H' s.heap s'.heap)(hok:HOk X.prog X.w H' s'.heap)(hg:AllBare s'.gens)
  (hch:∀b∈ch,(b∈X.ex\/X.s₀.heap.objs.size<=b)/\b≠X.env.locals/\(∀x c,X.env.cells.lookup x=some c->c≠b)/\∀p∈X.pn++pins,p.1≠b):Inv X pins σ H' s':=by
 obtain ⟨h',g',d',t',o'⟩:=s'
 have e:o'=s.os:=ho
 subst e
 exact I.call (g':=g') (t':=t') (d':=d') u hok hg hch
end
noncomputable abbrev XK:=Value->Option Addr->Hp->Prop
noncomputable abbrev St:=List (Option V)
noncomputable abbrev VK:=V->Hp->Prop
noncomputable abbrev TE:=St->Hp->VK->Prop
noncomputable abbrev TT:=St->Hp->(Bool->Hp->Prop)->Prop
noncomputable abbrev TA:=St->Hp->(List V->Hp->Prop)->Prop
structure kQ where
 nx:St->Hp->Prop
 rt:VK
 bk:St->Hp->Prop:=fun _ _=>False
 ct:St->Hp->Prop:=fun _ _=>False
noncomputable abbrev TS:=kQ->St->Hp->Prop
def EP (X:Cx)(pins:List (Addr×Obj))(σ:St)(Q:VK)(u:Value)(s':Shared):Prop:=∃v H',Inv X pins σ H' s'/\bf v u/\Q v H'
def TP (X:Cx)(pins:List (Addr×Obj))(σ:St)(Q:Bool->Hp->Prop)(b:Bool)(s':Shared):Prop:=∃H',Inv X pins σ H' s'/\Q b H'
def AP (X:Cx)(pins:List (Addr×Obj))(σ:St)(Q:List V->Hp->Prop)(us:List Value)(s':Shared):Prop:=∃vs H',Inv X pins σ H' s'/\ba vs us/\Q vs H'
def SP (X:Cx)(pins:List (Addr×Obj))(D:kQ)(f:Flow)(s':Shared):Prop:=
 match f with
 | .next=>∃σ' H',Inv X pins σ' H' s'/\D.nx σ' H'
 | .brk=>∃σ' H',Inv X pins σ' H' s'/\D.bk σ' H'
 | .cont=>∃σ' H',Inv X pins σ' H' s'/\D.ct σ' H'
 | .ret u=>∃v σ' H',Inv X pins σ' H' s'/\bf v u/\D.rt v H'
def PE (X:Cx)(e:Expr)(t:TE):Prop:=
 ∀(pins:List (Addr×Obj)) (s:Shared) (σ:St) (H:Hp) (Q:VK),Inv X pins σ H s->t σ H Q->wpAny (model X.prog X.w) X.A (eval e X.env) (EP X pins σ Q) X.xe s
def PT (X:Cx)(e:Expr)(t:TT):Prop:=
 ∀(pins:List (Addr×Obj)) (s:Shared) (σ:St) (H:Hp) (Q:Bool->Hp->Prop),Inv X pins σ H s->t σ H Q->wpAny (model X.prog X.w) X.A (isTrue e X.env (eval e X.env)) (TP X pins σ Q) X.xe s
def PW (X:Cx)(e:Expr)(t:TT):Prop:=
 ∀(bX:Sem Value) (pins:List (Addr×Obj)) (s:Shared) (σ:St) (H:Hp) (Q:Bool->Hp->Prop),Inv X pins σ H s->t σ H Q->wpAny (model X.prog X.w) X.A (isTrue e X.env bX) (TP X pins σ Q) X.xe s
theorem PW.pt {X:Cx}{e:Expr}{t:TT}(h:PW X e t):PT X e t:=h _
def PA (X:Cx)(es:List Expr)(t:TA):Prop:=
 ∀(pos:Pos) (pins:List (Addr×Obj)) (s:Shared) (σ:St) (H:Hp) (Q:List V->Hp->Prop),Inv X pins σ H s->t σ H Q->wpAny (model X.prog X.w) X.A (spliced (backTo pos (starEach es X.env))) (AP X pins σ Q) X.xe s
def PS (X:Cx)(st:Stmt)(t:TS):Prop:=
 ∀(pins:List (Addr×Obj)) (s:Shared) (σ:St) (H:Hp) (D:kQ),Inv X pins σ H s->t D σ H->wpAny (model X.prog X.w) X.A (exec st X.env) (SP X pins D) X.xe s
def PSs (X:Cx)(st:List Stmt)(t:TS):Prop:=
 ∀(pins:List (Addr×Obj)) (s:Shared) (σ:St) (H:Hp) (D:kQ),Inv X pins σ H s->t D σ H->wpAny (model X.prog X.w) X.A (execs st X.env) (SP X pins D) X.xe s
theorem thn {α:Type}{t:Sem α}{Q Q':α->Shared->Prop}{M:Model}{A:Around}{E:Value->Shared->Prop}{s:Shared}(h:wpAny M A t Q E s)(hQ:∀a s,Q a s->Q' a s):wpAny M A t Q' E s:=wpAny_mono h hQ fun _ _ x=>x
section
variable {X:Cx}
theorem bin {a b:Expr}{ta tb:TE}(ha:PE X a ta)(hb:PE X b tb){pins:List (Addr×Obj)}{s:Shared}{σ:St}{H:Hp}{R:V->V->Hp->Prop}(I:Inv X pins σ H s)(h:ta σ H fun x H1=>tb σ H1 fun y H2=>R x y H2)
  {α:Type} {Q:α->Shared->Prop} {f:Value->Value->Sem α}
  (hf:∀v u s2 x y H2,Inv X pins σ H2 s2->bf x v->bf y u->R x y H2->wpAny (model X.prog X.w) X.A (f v u) Q X.xe s2) :
  wpAny (model X.prog X.w) X.A (eval a X.env) (fun v s₁=>wpAny (model X.prog X.w) X.A (eval b X.env) (fun u s₂=>wpAny (model X.prog X.w) X.A (f v u) Q X.xe s₂) X.xe s₁) X.xe s:=by
 refine thn (ha pins s σ H _ I h) fun v s1 ⟨x,H1,I1,r1,q1⟩=>?_
 refine thn (hb pins s1 σ H1 _ I1 q1) fun u s2 ⟨y,H2,I2,r2,q2⟩=>?_
 exact hf v u s2 x y H2 I2 r1 r2 q2
noncomputable def Bz (i:Nat):TE:=fun σ H Q=>∃v,σ[i]?=some (some v)/\Q v H
noncomputable def tC (v:V):TE:=fun _ H Q=>Q v H
theorem BA {i:Nat}{x:Str}{pos:Pos}(hN:X.N[i]?=some x)(hv:Vis X.env.scope x)(hd:(x == ("__debug__":Str))=false:=by decide)(hcd:(x == ("__classdict__":Str))=false:=by decide):PE X (.Name x pos) (Bz i):=by
 intro pins s σ H Q I h
 obtain ⟨v,e,h⟩:=h
 obtain ⟨m,hn,hl⟩:=I.loc
 obtain ⟨u,r,l⟩:=hl i x v hN e hv
 have fin:EP X pins σ Q u s:=⟨v,H,I,r,h⟩
 rcases l with ⟨hk,hm⟩ | ⟨hk,c,hc,hcell⟩
 ·exact wpAny_Name (wpAny_loadName_local I.ok.kind hk hn hm fin) hd
 ·rcases hk with hk | hk
  ·exact wpAny_Name (wpAny_loadName_cell I.ok.kind hk hc hcell fin) hd
  ·exact wpAny_Name (wpAny_loadName_free I.ok.kind hk hc hcell fin hcd) hd
theorem ai {i j pos}:PE X (.Constant (.int i) j pos) (tC (.int i)):=fun _ _ _ H _ I h=>wpAny_Constant_int ⟨.int i,H,I.tok _,⟨_,rfl⟩,h⟩
theorem gx {b j pos}:PE X (.Constant (.bool b) j pos) (tC (.bl b)):=fun _ _ _ H _ I h=>Constant_bool ⟨.bl b,H,I,rfl,h⟩
theorem fI {j pos}:PE X (.Constant .none j pos) (tC .non):=fun _ _ _ H _ I h=>Constant_none ⟨.non,H,I,rfl,h⟩
theorem aI {x j pos}:PE X (.Constant (.str x) j pos) (tC (.str x)):=fun _ _ _ H _ I h=>Calls.Constant_str ⟨.str x,H,I.tok _,⟨_,rfl⟩,h⟩
def Gl (X:Cx)(x:Str):Prop:=X.env.kindOf x=some .globalImplicit
theorem ot {E:Value->Shared->Prop}{pins:List (Addr×Obj)}{s:Shared}{σ:St}{H:Hp}{x:Str}{u:Value}{pos:Pos}{Q:Value->Shared->Prop}(I:Inv X pins σ H s)(hg:Gl X x)(hm:X.mg x=some u)(h:Q u s)
  (hd:(x == ("__debug__":Str))=false:=by decide):wpAny (model X.prog X.w) X.A (eval (.Name x pos) X.env) Q E s:=
 Calls.Name_function_global I.ok.kind hg (Calls.loadGlobal_global (by rw [I.ok.glob];exact I.mod.glob.keeps I.bk) hm h) hd
theorem js {E:Value->Shared->Prop}{pins:List (Addr×Obj)}{s:Shared}{σ:St}{H:Hp}{x:Str}{u:Value}{pos:Pos}{Q:Value->Shared->Prop}(I:Inv X pins σ H s)(hg:Gl X x)(hm:X.mg x=none)(hv:bootBuiltins x=some u)(h:Q u s)
  (hn:x≠"__name__":=by decide) (hd:(x == ("__debug__":Str))=false:=by decide):wpAny (model X.prog X.w) X.A (eval (.Name x pos) X.env) Q E s:=by
 obtain ⟨mb,h1,h2⟩:=I.mod.blt
 exact Calls.Name_function_global I.ok.kind hg (Calls.loadGlobal_builtin (by rw [I.ok.glob];exact I.mod.glob.keeps I.bk) hm (by rw [I.ok.blt];exact h1.keeps I.bk) ((h2 x hn).trans hv) h) hd
theorem zy {x:Str}{v:V}{u:Value}{pos:Pos}(hg:Gl X x)(hm:X.mg x=some u)(r:bf v u)(hd:(x == ("__debug__":Str))=false:=by decide):PE X (.Name x pos) (tC v):=
 fun _ _ _ H _ I h=>ot I hg hm ⟨v,H,I,r,h⟩ hd
theorem cM {x:Str}{v:V}{u:Value}{pos:Pos}(hg:Gl X x)(hm:X.mg x=none)(hv:bootBuiltins x=some u)(r:bf v u)(hn:x≠"__name__":=by decide)(hd:(x == ("__debug__":Str))=false:=by decide):PE X (.Name x pos) (tC v):=
 fun _ _ _ H _ I h=>js I hg hm hv ⟨v,H,I,r,h⟩ hn hd
variable {a b:Expr}{ta tb:TE}{pos:Pos}
def PC (X:Cx)(op:CmpOp)(a b:Expr)(t:TE):Prop:=
 ∀(pins:List (Addr×Obj)) (s:Shared) (σ:St) (H:Hp) (Q:VK),Inv X pins σ H s->t σ H Q->
  wpAny (model X.prog X.w) X.A (eval a X.env) (fun v s₁=>wpAny (model X.prog X.w) X.A (eval b X.env) (fun u s₂=>wpAny (model X.prog X.w) X.A (compareOp op v u) (EP X pins σ Q) X.xe s₂) X.xe s₁) X.xe s
theorem xH (b:Expr){op:CmpOp}(h:op≠.In)(h2:op≠.NotIn):behindInMarks op b=false:=by
 have e1:(op == CmpOp.In)=false:=by cases op<;>first | rfl | exact absurd rfl h
 have e2:(op == CmpOp.NotIn)=false:=by cases op<;>first | rfl | exact absurd rfl h2
 cases b<;>simp [behindInMarks,e1,e2]
noncomputable def tB (t:TE):TT:=fun σ H Q=>t σ H fun x H1=>∃c,x=.bl c/\Q c H1
theorem Eo {op:CmpOp}{t:TE}(h:PC X op a b t)(h1:behindInMarks op b=false:=by first | exact xH _ (by decide) (by decide) | rfl):PT X (.Compare a [op] [b] pos) (tB t):=by
 intro pins s σ H Q I hw
 refine wpAny_isTrue_Compare1 (thn (h pins s σ H _ I hw) fun v s1 h1=>thn h1 fun u s2 h2=>thn h2 fun c s3 ⟨x,H1,I1,r1,q1⟩=>?_) h1
 obtain ⟨d,rfl,q⟩:=q1
 cases r1
 exact wpAny_truthy_bool ⟨H1,I1,q⟩
theorem BB {e:Expr}{t:TE}(h:PE X e t)(he:∀bX,isTrue e X.env bX=(do let v ←bX;standAt e.pos;holding [v] (truthy v)):=by intro _;rfl):PT X e (tB t):=by
 intro pins s σ H Q I hw
 refine isTrue_plain (thn (h pins s σ H _ I hw) fun v s1 ⟨x,H1,I1,r1,q1⟩=>?_) (he _)
 obtain ⟨d,rfl,q⟩:=q1
 cases r1
 exact wpAny_truthy_bool ⟨H1,I1,q⟩
variable {tA tB':TT}{mG:List Expr}
noncomputable def De (t u:TT):TT:=fun σ H Q=>t σ H fun c H1=>if c=true then u σ H1 Q else Q false H1
noncomputable def tOr (t u:TT):TT:=fun σ H Q=>t σ H fun c H1=>if c=true then Q true H1 else u σ H1 Q
noncomputable def Df (t:TT):TT:=fun σ H Q=>t σ H fun c H1=>Q (!c) H1
theorem ou (ha:PT X a tA):PW X (.BoolOp .And [a] pos) tA:=by
 intro wh pins s σ H Q I h
 refine isTrue_and (thn (ha pins s σ H Q I h) fun c s1 e=>?_)
 cases c with
 | true=>exact isTrue_and_nil e
 | false=>exact e
theorem gM (ha:PT X a tA):PW X (.BoolOp .Or [a] pos) tA:=by
 intro wh pins s σ H Q I h
 refine isTrue_or (thn (ha pins s σ H Q I h) fun c s1 e=>?_)
 cases c with
 | false=>exact isTrue_or_nil e
 | true=>exact e
theorem rJ (ha:PT X a tA)(hb:PW X (.BoolOp .And (b::mG) pos) tB'):PW X (.BoolOp .And (a::b::mG) pos) (De tA tB'):=by
 intro wh pins s σ H Q I h
 refine isTrue_and (thn (ha pins s σ H _ I h) fun c s1 ⟨H1,I1,q1⟩=>?_)
 cases c with
 | true=>exact hb wh pins s1 σ H1 Q I1 q1
 | false=>exact ⟨H1,I1,q1⟩
theorem jk (ha:PT X a tA)(hb:PW X (.BoolOp .Or (b::mG) pos) tB'):PW X (.BoolOp .Or (a::b::mG) pos) (tOr tA tB'):=by
 intro wh pins s σ H Q I h
 refine isTrue_or (thn (ha pins s σ H _ I h) fun c s1 ⟨H1,I1,q1⟩=>?_)
 cases c with
 | true=>exact ⟨H1,I1,q1⟩
 | false=>exact hb wh pins s1 σ H1 Q I1 q1
theorem cR (ha:PT X a tA):PT X (.UnaryOp .Not a pos) (Df tA):=by
 intro pins s σ H Q I h
 exact isTrue_not (ha pins s σ H (fun c H1=>Q (!c) H1) I h)
noncomputable def A1 (ta tb:TE):TE:=fun σ H Q=>ta σ H fun x H1=>∃c,x=.bl c/\if c=true then tb σ H1 Q else Q (.bl false) H1
noncomputable def A2 (ta:TE):TE:=fun σ H Q=>ta σ H fun x H1=>∃c,x=.bl c/\Q (.bl (!c)) H1
theorem oG {op}{t:TE}(h:PE X a t):PE X (.BoolOp op [a] pos) t:=fun pins s σ H Q I hw=>BoolOp_one (h pins s σ H Q I hw)
theorem BC (ha:PE X a ta)(hb:PE X (.BoolOp .And (b::mG) pos) tb):PE X (.BoolOp .And (a::b::mG) pos) (A1 ta tb):=by
 intro pins s σ H Q I h
 refine BoolOp_and (thn (ha pins s σ H _ I h) fun v s1 ⟨x,H1,I1,r1,q1⟩=>?_)
 obtain ⟨c,rfl,q1⟩:=q1
 cases r1
 refine wpAny_truthy_bool ?_
 cases c with
 | true=>exact hb pins s1 σ H1 Q I1 q1
 | false=>exact ⟨.bl false,H1,I1,rfl,q1⟩
theorem BD (ha:PE X a ta):PE X (.UnaryOp .Not a pos) (A2 ta):=by
 intro pins s σ H Q I h
 refine UnaryOp_ (thn (ha pins s σ H _ I h) fun v s1 ⟨x,H1,I1,r1,q1⟩=>?_)
 obtain ⟨c,rfl,q1⟩:=q1
 cases r1
 exact not_of (wpAny_truthy_bool ⟨.bl (!c),H1,I1,rfl,q1⟩)
noncomputable def tIf (t:TT)(ta tb:TE):TE:=fun σ H Q=>t σ H fun c H1=>if c=true then ta σ H1 Q else tb σ H1 Q
theorem tK {c:Expr}(hc:PT X c tA)(ha:PE X a ta)(hb:PE X b tb):PE X (.IfExp c a b pos) (tIf tA ta tb):=by
 intro pins s σ H Q I h
 refine wpAny_IfExp (thn (hc pins s σ H _ I h) fun d s1 ⟨H1,I1,q1⟩=>?_)
 cases d with
 | true=>exact ha pins s1 σ H1 Q I1 q1
 | false=>exact hb pins s1 σ H1 Q I1 q1
end
def SqL (K:W.Frag)(H:Hp)(a:Addr)(xs:List V):Prop:=
 Rd H a (.lst xs)\/
  ∃(o:Obj) (its:Array Value) (n:Nat),K.lookup a=some o/\o.cls=.type "list"/\o.dict=none/\o.data=.seq its n/\its.size<=sizeLine/\ba xs its.toList
def SqT (K:W.Frag)(H:Hp)(a:Addr)(xs:List V):Prop:=
 Rd H a (.tup xs)\/
  ∃(o:Obj) (its:Array Value) (n:Nat),K.lookup a=some o/\o.cls=.type "tuple"/\o.data=.seq its n/\its.size<=sizeLine/\ba xs its.toList
noncomputable def Ep:Value->Option V
 | .none=>some .non
 | .bool b=>some (.bl b)
 | .int i _=>some (.int i)
 | .str x _=>some (.str x)
 | .bytes b _=>some (.byt b)
 | .float b _=>some (.flt b)
 | .ref a=>some (.ref a)
 | .type n=>some (.ty n)
 | _=>none
theorem bf.abs {x:V}{u:Value}(r:bf x u):Ep u=some x:=by
 cases x with
 | non=>cases r;rfl
 | bl _=>cases r;rfl
 | int _=>obtain ⟨t,rfl⟩:=r;rfl
 | str _=>obtain ⟨t,rfl⟩:=r;rfl
 | byt _=>obtain ⟨t,rfl⟩:=r;rfl
 | flt _=>obtain ⟨t,rfl⟩:=r;rfl
 | ref _=>cases r;rfl
 | ty _=>cases r;rfl
theorem bf.inj {x y:V}{u:Value}(r:bf x u)(q:bf y u):x=y:=Option.some.inj (r.abs.symm.trans q.abs)
theorem ba.inj:∀{xs ys:List V} {us:List Value},ba xs us->ba ys us->xs=ys
 | _,_,_,.nil,.nil=>rfl
 | _,_,_,.cons r t,.cons r' t'=>by rw [r.inj r',ba.inj t t']
section
variable {X:Cx}{pins:List (Addr×Obj)}{σ:St}{H:Hp}{s:Shared}{a:Addr}{xs ys:List V}
theorem SqL.of {K:W.Frag}(h:H a=some (.lst xs)):SqL K H a xs:=.inl (.inl h)
theorem SqT.of {K:W.Frag}(h:H a=some (.tup xs)):SqT K H a xs:=.inl (.inl h)
theorem Inv.list (I:Inv X pins σ H s)(h:SqL X.K H a xs):∃its:List Value,ba xs its/\PlainL s.heap a its.toArray/\xs.length<=sizeLine:=by
 rcases h with h | ⟨o,its,n,hk,hc,hd,hs,hz,r⟩
 ·obtain ⟨z,its,n,r,e⟩:=h.ok I.hok
  exact ⟨its,r,⟨_,n,e,rfl,rfl,rfl⟩,z⟩
 ·refine ⟨its.toList,r,⟨o,n,I.kIn a o hk,hc,hd,by simpa using hs⟩,?_⟩
  have e:=r.length
  simp only [Array.length_toList] at e
  omega
theorem Inv.tuple (I:Inv X pins σ H s)(h:SqT X.K H a xs):∃its:List Value,ba xs its/\IsTup s.heap a its.toArray/\xs.length<=sizeLine:=by
 rcases h with h | ⟨o,its,n,hk,hc,hs,hz,r⟩
 ·obtain ⟨z,its,r,p⟩:=h.ok I.hok
  exact ⟨its,r,p.tup,z⟩
 ·refine ⟨its.toList,r,⟨o,I.kIn a o hk,hc,n,by simpa using hs⟩,?_⟩
  have e:=r.length
  simp only [Array.length_toList] at e
  omega
theorem Inv.list_inj (I:Inv X pins σ H s)(h:SqL X.K H a xs)(h':SqL X.K H a ys):xs=ys:=by
 obtain ⟨its,r,⟨o,n,e,_,_,d⟩,_⟩:=I.list h
 obtain ⟨its',r',⟨o',n',e',_,_,d'⟩,_⟩:=I.list h'
 rw [e] at e';cases e'
 rw [d] at d'
 injection d' with d1 _
 have:its=its':=by simpa using congrArg Array.toList d1
 subst this
 exact r.inj r'
end
noncomputable abbrev Cx.wish (X:Cx)(E:Value->Shared->Prop):Cx:={X with xe:=E}
noncomputable abbrev Cx.nox (X:Cx):Cx:=X.wish fun _ _=>False
theorem Cx.Ok.wish {X:Cx}(ok:X.Ok)(E:Value->Shared->Prop):(X.wish E).Ok:=
 ⟨ok.mod,ok.kind,ok.glob,ok.blt,ok.above,ok.inj,ok.has,ok.cab,ok.hd,ok.frames,ok.stk,ok.exf,ok.bs,ok.bsz,ok.noex,ok.exfs,ok.funs,ok.frf⟩
theorem Cx.Ok.unwish {X:Cx}{E:Value->Shared->Prop}(ok:(X.wish E).Ok):X.Ok:=
 ⟨ok.mod,ok.kind,ok.glob,ok.blt,ok.above,ok.inj,ok.has,ok.cab,ok.hd,ok.frames,ok.stk,ok.exf,ok.bs,ok.bsz,ok.noex,ok.exfs,ok.funs,ok.frf⟩
section
variable {X:Cx}{pins:List (Addr×Obj)}{σ:St}{H:Hp}{s:Shared}{E:Value->Shared->Prop}
theorem Inv.wish (I:Inv X pins σ H s)(E:Value->Shared->Prop):Inv (X.wish E) pins σ H s:=⟨I.ok.wish E,I.os,I.bare,I.base,I.loc,I.cell,I.free,I.freeC,I.pin,I.hok,I.len⟩
theorem Inv.unwish (I:Inv (X.wish E) pins σ H s):Inv X pins σ H s:=⟨I.ok.unwish,I.os,I.bare,I.base,I.loc,I.cell,I.free,I.freeC,I.pin,I.hok,I.len⟩
theorem SP.unwish {D:kQ}{f:Flow}{s':Shared}(h:SP (X.wish E) pins D f s'):SP X pins D f s':=by
 cases f with
 | next=>obtain ⟨σ',H',I,q⟩:=h;exact ⟨σ',H',I.unwish,q⟩
 | brk=>obtain ⟨σ',H',I,q⟩:=h;exact ⟨σ',H',I.unwish,q⟩
 | cont=>obtain ⟨σ',H',I,q⟩:=h;exact ⟨σ',H',I.unwish,q⟩
 | ret u=>obtain ⟨v,σ',H',I,r,q⟩:=h;exact ⟨v,σ',H',I.unwish,r,q⟩
theorem PSs.nox {st:List Stmt}{t:TS}(h:PSs X.nox st t):PSs X st t:=fun pins s σ H D I hw=>
 wpAny_mono (h pins s σ H D (I.wish _) hw) (fun _ _ q=>q.unwish) fun _ _ z=>False.elim z
end
section
variable {X:Cx}{st:Stmt}{mG:List Stmt}{t u:TS}{e:Expr}{te:TE}{pos:Pos}
noncomputable def A3:TS:=fun D σ H=>D.nx σ H
noncomputable def Dg (t u:TS):TS:=fun D σ H=>t {D with nx:=u D} σ H
theorem aC:PSs X [] A3:=fun _ _ σ H _ I h=>wpAny_execs_nil ⟨σ,H,I,h⟩
theorem ae (h1:PS X st t)(h2:PSs X mG u):PSs X (st::mG) (Dg t u):=by
 intro pins s σ H D I h
 refine wpAny_execs_cons (thn (h1 pins s σ H {D with nx:=u D} I h) fun f s1 q=>?_)
 cases f with
 | next=>
  obtain ⟨σ',H',I',q⟩:=q
  exact h2 pins s1 σ' H' D I' q
 | ret v=>exact q
 | brk=>exact q
 | cont=>exact q
theorem ag (h1:PS X st t):PSs X [st] t:=by
 intro pins s σ H D I h
 refine wpAny_execs_cons (thn (h1 pins s σ H D I h) fun f s1 q=>?_)
 cases f with
 | next=>exact wpAny_execs_nil q
 | ret v=>exact q
 | brk=>exact q
 | cont=>exact q
theorem Inv.quiet {pins:List (Addr×Obj)}{σ:St}{H:Hp}{s:Shared}(I:Inv X pins σ H s):interactive X.env=false:=by simp [interactive,I.ok.kind]
noncomputable def A4 (te:TE):TS:=fun D σ H=>te σ H fun _ H1=>D.nx σ H1
theorem aX (he:PE X e te)(hs:swapsWith e none pos.line X.env=pure false:=by rfl):PS X (.Expr e pos) (A4 te):=by
 intro pins s σ H D I h
 exact wpAny_Expr_any (thn (he pins s σ H _ I h) fun v s1 ⟨x,H1,I1,r1,q1⟩=>⟨σ,H1,I1,q1⟩) I.quiet hs
noncomputable def Dh (te:TE):TS:=fun D σ H=>te σ H D.rt
theorem aB (he:PE X e te):PS X (.Return (some e) pos) (Dh te):=by
 intro pins s σ H D I h
 exact wpAny_Return_some (thn (he pins s σ H _ I h) fun v s1 ⟨x,H1,I1,r1,q1⟩=>⟨x,σ,H1,I1,r1,q1⟩)
noncomputable def A5:TS:=fun D _ H=>D.rt .non H
theorem zz:PS X (.Return none pos) A5:=fun _ _ σ H _ I h=>wpAny_Return_none ⟨.non,σ,H,I,rfl,h⟩
noncomputable def Di (c:TT)(t u:TS):TS:=fun D σ H=>c σ H fun b H1=>if b=true then t D σ H1 else u D σ H1
theorem aV {c:Expr}{a b:List Stmt}{tc:TT}(hc:PT X c tc)(ha:PSs X a t)(hb:PSs X b u):PS X (.If c a b pos) (Di tc t u):=by
 intro pins s σ H D I h
 refine wpAny_If (thn (hc pins s σ H _ I h) fun d s1 ⟨H1,I1,q1⟩=>?_)
 cases d with
 | true=>exact ha pins s1 σ H1 D I1 q1
 | false=>exact hb pins s1 σ H1 D I1 q1
end
noncomputable abbrev TG:=V->St->Hp->(St->Hp->Prop)->Prop
noncomputable abbrev TGs:=List V->St->Hp->(St->Hp->Prop)->Prop
def PG (X:Cx)(target:Expr)(t:TG):Prop:=
 ∀(pins:List (Addr×Obj)) (s:Shared) (σ:St) (H:Hp) (v:V) (u:Value) (Q:St->Hp->Prop),Inv X pins σ H s->bf v u->t v σ H Q->
  wpAny (model X.prog X.w) X.A (assign target X.env u) (fun _ s'=>∃σ' H',Inv X pins σ' H' s'/\Q σ' H') X.xe s
def PGs (X:Cx)(ts:List Expr)(t:TGs):Prop:=
 ∀(pins:List (Addr×Obj)) (s:Shared) (σ:St) (H:Hp) (vs:List V) (us:List Value) (Q:St->Hp->Prop),Inv X pins σ H s->ba vs us->t vs σ H Q->
  wpAny (model X.prog X.w) X.A (assignInOrder ((assignEach ts X.env).map (·.2)) us) (fun _ s'=>∃σ' H',Inv X pins σ' H' s'/\Q σ' H') X.xe s
noncomputable abbrev BE:=V->V->V->Hp->(Hp->Prop)->Prop
def BF (X:Cx)(t:BE):Prop:=
 ∀(pins:List (Addr×Obj)) (s:Shared) (σ:St) (H:Hp) (o i v:V) (ov iv u:Value) (Q:Hp->Prop),Inv X pins σ H s->bf o ov->bf i iv->bf v u->t o i v H Q->
  wpAny (model X.prog X.w) X.A (setItem ov iv u) (fun _ s'=>∃H',Inv X pins σ H' s'/\Q H') X.xe s
section
variable {X:Cx}{pos:Pos}
noncomputable def dZ (i:Nat):TG:=fun v σ H Q=>Q (σ.set i (some v)) H
theorem aG {i:Nat}{x:Str}(hN:X.N.Nodup)(hi:X.N[i]?=some x)(hx:Loc X.env.scope x)(hf:X.fn x=true\/X.env.scope.names.lookup x=some .local:=by first | exact .inl rfl | exact .inr rfl | assumption):PG X (.Name x pos) (dZ i):=by
 intro pins s σ H v u Q I r h
 exact wpAny_assign_Name (tJ I hN hi hx r (fun s' I'=>⟨_,H,I',h⟩) hf)
noncomputable def BG:TGs:=fun vs σ H Q=>vs=[]/\Q σ H
noncomputable def tL (t:TG)(u:TGs):TGs:=fun vs σ H Q=>∃v r,vs=v::r/\t v σ H fun σ' H'=>u r σ' H' Q
theorem zB:PGs X [] BG:=by
 intro pins s σ H vs us Q I r h
 obtain ⟨e,h⟩:=h
 subst e
 cases r
 exact assignInOrder_nil ⟨σ,H,I,h⟩
theorem xI {e:Expr}{es:List Expr}{t:TG}{u:TGs}(h1:PG X e t)(h2:PGs X es u)
  (hs:(assignEach (e::es) X.env).map (·.2)=assign e X.env::(assignEach es X.env).map (·.2):=by rfl):PGs X (e::es) (tL t u):=by
 intro pins s σ H vs us Q I r h
 obtain ⟨v,vr,e1,h⟩:=h
 subst e1
 cases r with
 | cons r rr=>
  rw [hs]
  refine assignInOrder_cons (thn (h1 pins s σ H _ _ _ I r h) fun _ s1 ⟨σ1,H1,I1,q1⟩=>?_)
  exact h2 pins s1 σ1 H1 _ _ Q I1 rr q1
noncomputable def BH (K:W.Frag)(n:Nat)(t:TGs):TG:=fun v σ H Q=>∃a xs,v=.ref a/\SqT K H a xs/\xs.length=n/\t xs σ H Q
theorem BI {es:List Expr}{k:Nat}{t:TGs}{n:Nat}(hc:X.calm=true)(h:PGs X es t)
  (hn:(assignEach es X.env).length=n:=by rfl) (hst:(assignEach es X.env).findIdx? (·.1)=none:=by rfl):PG X (.Tuple es k pos) (BH X.K n t):=by
 intro pins s σ H v u Q I r hw
 obtain ⟨a,xs,e1,hq,hl,hw⟩:=hw
 subst e1
 cases r
 obtain ⟨its,rv,ht,hz⟩:=I.tuple hq
 refine assign_Tuple_tuple (I.ok.hd hc) ht (by simp [hn,←hl,rv.length]) hst fun h' hx=>?_
 have I1:Inv X pins σ H {s with heap:=h'}:=I.kept (t':=s.toks) fun b o e=>hx b o (Nat.ne_of_lt (Heap.lt_size e)) e
 exact h pins _ σ H xs _ Q I1 (by simpa using rv) hw
noncomputable def Dj (to ti:TE)(t:BE):TG:=fun v σ H Q=>to σ H fun o H1=>ti σ H1 fun i H2=>t o i v H2 fun H3=>Q σ H3
theorem oH {o i:Expr}{to ti:TE}{t:BE}(ho:PE X o to)(hi:PE X i ti)(hs:BF X t)
  (ha:∀v,assign (.Subscript o i pos) X.env v=(do
   let ov ←holding [v] (eval o X.env)
   let iv ←holding [v,ov] (eval i X.env)
   standAt pos
   holding [v,ov,iv] (setItem ov iv v)
   release [v,ov,iv] []):=by intro _;rfl):PG X (.Subscript o i pos) (Dj to ti t):=by
 intro pins s σ H v u Q I r h
 rw [ha]
 refine wpAny_bind (wpAny_holding (thn (ho pins s σ H _ I h) fun ov s1 ⟨x,H1,I1,r1,q1⟩=>?_))
 refine wpAny_bind (wpAny_holding (thn (hi pins s1 σ H1 _ I1 q1) fun iv s2 ⟨y,H2,I2,r2,q2⟩=>?_))
 refine wpAny_bind (wpAny_standAt (wpAny_bind (wpAny_holding (thn (hs pins s2 σ H2 x y v ov iv u _ I2 r1 r2 r q2) fun _ s3 ⟨H3,I3,q3⟩=>?_))))
 exact wpAny_release ⟨σ,H3,I3,q3⟩
noncomputable def xJ (te:TE)(g:TG):TS:=fun D σ H=>te σ H fun x H1=>g x σ H1 D.nx
theorem mH {tg e:Expr}{te:TE}{g:TG}(he:PE X e te)(hg:PG X tg g)(hs:swapsWithSole [tg] e pos.line X.env=pure false:=by rfl)(hw:swappedStores [tg] e X.env=pure none:=by rfl)
  (h1:(assignEach [tg] X.env).map (·.2)=[assign tg X.env]:=by rfl):PS X (.Assign [tg] e pos) (xJ te g):=by
 intro pins s σ H D I h
 refine wpAny_Assign_stores (thn (he pins s σ H _ I h) fun v s1 ⟨x,H1,I1,r1,q1⟩=>?_) hs hw
 rw [h1]
 exact thn (hg pins s1 σ H1 x v _ I1 r1 q1) fun _ s2 q=>q
theorem aD {i:Nat}{x:Str}{e:Expr}{te:TE}{pos':Pos}(hN:X.N.Nodup)(hi:X.N[i]?=some x)(hx:Loc X.env.scope x)(he:PE X e te)(hs:swapsWith e (some (.Name x pos')) pos.line X.env=pure false:=by rfl)(hf:X.fn x=true\/X.env.scope.names.lookup x=some .local:=by first | exact .inl rfl | exact .inr rfl | assumption) :
  PS X (.Assign [.Name x pos'] e pos) (xJ te (dZ i)):=by
 intro pins s σ H D I h
 refine wpAny_Assign_Name (thn (he pins s σ H _ I h) fun v s1 ⟨y,H1,I1,r1,q1⟩=>?_) hs
 exact tJ I1 hN hi hx r1 (fun s2 I2=>⟨_,H1,I2,q1⟩) hf
end
structure It where
 go:Nat->Hp->Prop
 yld:Nat->Hp->V->Hp->Prop
 stop:Nat->Hp->Prop
def lJ (X:Cx)(pins:List (Addr×Obj))(H:Hp)(b:Addr):Prop:=
 H b=none/\b≠X.env.locals/\b∉X.fs/\(b∈X.ex\/X.s₀.heap.objs.size<=b)/\(∀x c,X.env.cells.lookup x=some c->c≠b)/\∀p∈X.pn++pins,p.1≠b
theorem Inv.fpOk {X:Cx}{pins:List (Addr×Obj)}{σ:St}{H H':Hp}{s:Shared}{b:Addr}(I:Inv X pins σ H s)(hb:s.heap.objs.size<=b)(hn:H' b=none):lJ X pins H' b:=by
 refine ⟨hn,Nat.ne_of_gt (Nat.lt_of_lt_of_le I.lt hb),I.nofs hb,.inr (Nat.le_trans I.sz hb),fun x c e z=>?_,fun p hp z=>?_⟩
 ·obtain ⟨v,q⟩:=I.cell x c e
  exact absurd (Nat.lt_of_lt_of_le q.lt (by rw [z];exact hb)) (Nat.lt_irrefl _)
 ·exact absurd (Nat.lt_of_lt_of_le (Heap.lt_size (I.pin p hp).1) (by rw [z];exact hb)) (Nat.lt_irrefl _)
structure wN (P:Program)(w:World)(K:W.Frag)(tg:Expr)(J:It)(fp:List Addr)(it:Addr)(tn:Nat->Heap->Prop):Prop where
 mem:it∈fp
 obj:∀i h,tn i h->∀b∈fp,∃o,h.get? b=some o/\∀v,o.data≠.cell v
 keep:∀i h h',tn i h->(∀b∈fp,∀o,h.get? b=some o->h'.get? b=some o)->tn i h'
 item:∀(X:Cx),X.prog=P->X.w=w->X.K=K->X.calm=true->∀(i:Nat) (pins:List (Addr×Obj)) (s:Shared) (σ:St) (H:Hp) (E:Value->Shared->Prop),Inv X pins σ H s->(∀b∈fp,lJ X pins H b)->tn i s.heap->J.go i H->
  wpAny (model P w) X.A (pyNext (.ref it)) (fun r s1=>∃u,r=some u/\
   wpAny (model P w) X.A (letOwnedTupleGo tg (.ref it) u) (fun _ s2=>∃x H',Inv X pins σ H' s2/\bf x u/\J.yld i H x H'/\tn (i+1) s2.heap/\∀b∈fp,H' b=none) E s1) E s
 done:∀(X:Cx),X.prog=P->X.w=w->X.K=K->X.calm=true->∀(i:Nat) (pins:List (Addr×Obj)) (s:Shared) (σ:St) (H:Hp) (E:Value->Shared->Prop),Inv X pins σ H s->(∀b∈fp,lJ X pins H b)->tn i s.heap->J.stop i H->
  wpAny (model P w) X.A (pyNext (.ref it)) (fun r s1=>r=none/\Inv X pins σ H s1) E s
 self:∀(A:Around) (i:Nat) (s:Shared) (Q:Value->Shared->Prop) (E:Value->Shared->Prop),tn i s.heap->Q (.ref it) s->wpAny (model P w) A (pyIter (.ref it)) Q E s
noncomputable abbrev TI:=St->Hp->(It->Hp->Prop)->Prop
def PIE (X:Cx)(pins:List (Addr×Obj))(σ:St)(tg:Expr)(R:It->Hp->Prop)(itv:Value)(s2:Shared):Prop:=
 ∃(it:Addr) (fp:List Addr) (tn:Nat->Heap->Prop) (J:It) (H':Hp),itv=.ref it/\Inv X pins σ H' s2/\wN X.prog X.w X.K tg J fp it tn/\tn 0 s2.heap/\(∀b∈fp,lJ X pins H' b)/\R J H'
def PI (X:Cx)(tg iter:Expr)(wi:TI):Prop:=
 ∀(pins:List (Addr×Obj)) (s:Shared) (σ:St) (H:Hp) (R:It->Hp->Prop),Inv X pins σ H s->wi σ H R->
  wpAny (model X.prog X.w) X.A (eval iter X.env) (fun v s1=>wpAny (model X.prog X.w) X.A (pyIter v) (PIE X pins σ tg R) X.xe s1) X.xe s
theorem xK {M:Model}{A:Around}{E:Value->Shared->Prop}{s:Shared}{tg:Expr}{it:Addr}{u:Value}{o:Obj}{n:String}{vs:Array Value}{Q:Unit->Shared->Prop}(ho:s.heap.get? it=some o)(hc:o.cls=.type n)(hd:o.data=.fields vs)
  (hn:["enumerate","zip","dict_itemiterator","dict_reverseitemiterator","odict_iterator","itertools.zip_longest","itertools.pairwise"].contains n=false) (hQ:Q () s):wpAny M A (letOwnedTupleGo tg (.ref it) u) Q E s:=by
 unfold letOwnedTupleGo
 cases tg<;>first
  | exact wpAny_pure hQ
  | (cases u<;>first
    | exact wpAny_pure hQ
    | (refine wpAny_bind (wpAny_load ho ?_)
       rw [hc,hd]
       show wpAny M A (if (["enumerate","zip","dict_itemiterator","dict_reverseitemiterator","odict_iterator","itertools.zip_longest","itertools.pairwise"].contains n && vs[0]? == some (rawInt _))=true then _ else _) Q E s
       rw [if_neg (by intro h;rw [hn,Bool.false_and] at h;cases h)]
       exact wpAny_pure hQ))
noncomputable def Itl (K:W.Frag)(a:Addr):It:=
 ⟨fun i H=>∃xs x,SqL K H a xs/\xs[i]?=some x,fun i H x H'=>H'=H/\∀xs,SqL K H a xs->xs[i]?=some x,fun i H=>∃xs,SqL K H a xs/\xs.length<=i⟩
noncomputable def Itt (K:W.Frag)(a:Addr):It:=
 ⟨fun i H=>∃xs x,SqT K H a xs/\xs[i]?=some x,fun i H x H'=>H'=H/\∀xs,SqT K H a xs->xs[i]?=some x,fun i H=>∃xs,SqT K H a xs/\xs.length<=i⟩
noncomputable def Itr (lo:Int)(n:Nat):It:=⟨fun i _=>i < n,fun i H x H'=>H'=H/\x=.int (lo+i),fun i _=>n<=i⟩
theorem wO {P:Program}{w:World}{K:W.Frag}{tg:Expr}(a it:Addr):wN P w K tg (Itl K a) [it] it (fun i h=>h.IsListIter it a i) where
 mem:=by simp
 obj:=fun i h st b hb=>by
  have e:b=it:=by simpa using hb
  subst e
  obtain ⟨o,e,c,d⟩:=st
  exact ⟨o,e,fun v z=>by rw [d] at z;cases z⟩
 keep:=fun i h h' st k=>st.at fun o e=>k it (by simp) o e
 item:=by
  intro X hP hw hK hc i pins s σ H E I hf st hg
  subst hP hw hK
  obtain ⟨xs,x,hq,hx⟩:=hg
  obtain ⟨its,rv,p,hz⟩:=I.list hq
  obtain ⟨u,hu,ru⟩:=rv.get hx
  obtain ⟨f0,f1,f2,f3,f4,f5⟩:=hf it (by simp)
  refine wpAny_pyNext_list_item st p.isList (x:=u) (by simpa using hu) fun h' st' sb=>?_
  have I1:Inv X pins σ H {s with heap:=h'}:=I.turned (t':=s.toks) (fun b o hb e=>(sb.2 b hb).trans e) f0 f1 f3 f4 f5
  obtain ⟨o,e,c,d⟩:=id st'
  exact ⟨u,rfl,xK (s:={s with heap:=h'}) e c d (by decide) ⟨x,H,I1,ru,⟨rfl,fun ys hy=>by rw [I.list_inj hy hq];exact hx⟩,st',fun b hb=>(hf b hb).1⟩⟩
 done:=by
  intro X hP hw hK hc i pins s σ H E I hf st hg
  subst hP hw hK
  obtain ⟨xs,hq,hx⟩:=hg
  obtain ⟨its,rv,p,hz⟩:=I.list hq
  obtain ⟨f0,f1,f2,f3,f4,f5⟩:=hf it (by simp)
  have hl:=rv.length
  exact wpAny_pyNext_list_end (I.ok.hd hc) st p.isList (by simp;omega) fun h' eb=>⟨rfl,I.turned (t':=s.toks) (fun b o hb e=>eb b o hb e) f0 f1 f3 f4 f5⟩
 self:=fun _ _ _ _ _ st h=>wpAny_pyIter_listiter st h
theorem uN {P:Program}{w:World}{K:W.Frag}{tg:Expr}(it:Addr)(lo:Int)(n:Nat):wN P w K tg (Itr lo n) [it] it (fun i h=>IsRangeIter h it (lo+(i:Nat) * 1) ((n:Int) - (i:Nat)) 1) where
 mem:=by simp
 obj:=fun i h st b hb=>by
  have e:b=it:=by simpa using hb
  subst e
  exact ⟨_,st,fun v z=>by
   have z':Data.fields _=Data.cell v:=z
   cases z'⟩
 keep:=fun i h h' st k=>k it (by simp) _ st
 item:=by
  intro X hP hw hK hc i pins s σ H E I hf st hg
  subst hP hw hK
  obtain ⟨f0,f1,f2,f3,f4,f5⟩:=hf it (by simp)
  have W:=Walks.range (prog:=X.prog) (w:=X.w) (I.ok.hd hc) it lo 1 n
  refine W.item i s _ _ hg st fun v h' tk hv st' kk=>?_
  obtain ⟨t,rfl⟩:=hv
  have I1:Inv X pins σ H {s with heap:=h',toks:=tk}:=I.turned (fun b o hb e=>kk b o (by simpa using hb) e) f0 f1 f3 f4 f5
  refine ⟨_,rfl,xK (s:={s with heap:=h',toks:=tk}) (n:="range_iterator") st' rfl rfl (by decide) ⟨.int (lo+i),H,I1,⟨t,?_⟩,⟨rfl,rfl⟩,st',fun b hb=>(hf b hb).1⟩⟩
  rw [Int.mul_one]
 done:=by
  intro X hP hw hK hc i pins s σ H E I hf st hg
  subst hP hw hK
  obtain ⟨f0,f1,f2,f3,f4,f5⟩:=hf it (by simp)
  exact wpAny_pyNext_range_end (I.ok.hd hc) st (by have:n<=i:=hg;omega) fun h' eb=>⟨rfl,I.turned (t':=s.toks) (fun b o hb e=>eb b o hb e) f0 f1 f3 f4 f5⟩
 self:=fun _ _ _ _ _ st h=>wpAny_pyIter_rangeiter st h
section
variable {X:Cx}{tg:Expr}
noncomputable def A6 (K:W.Frag)(tl:TE):TI:=fun σ H R=>tl σ H fun x H1=>∃a,x=.ref a/\(∃xs,SqL K H1 a xs)/\R (Itl K a) H1
theorem zC {l:Expr}{tl:TE}(hl:PE X l tl):PI X tg l (A6 X.K tl):=by
 intro pins s σ H R I h
 refine thn (hl pins s σ H _ I h) fun v s1 ⟨x,H1,I1,r1,q1⟩=>?_
 obtain ⟨a,e,⟨xs,hq⟩,q⟩:=q1
 subst e
 cases r1
 obtain ⟨its,rv,p,hz⟩:=I1.list hq
 refine wpAny_pyIter_list p.isList ?_
 refine ⟨s1.heap.objs.size,[s1.heap.objs.size],_,_,H1,rfl,I1.kept (t':=s1.toks) fun b o e=>Heap.get?_push_of_some _ e,wO a _,⟨_,Heap.get?_push_size _ rfl,rfl,rfl⟩,fun b hb=>?_,q⟩
 have e:b=s1.heap.objs.size:=by simpa using hb
 subst e
 exact I1.fpOk (Nat.le_refl _) (I1.hok.fresh (Nat.le_refl _))
theorem tM {pins:List (Addr×Obj)}{σ:St}{H:Hp}{s:Shared}{R:It->Hp->Prop}{E:Value->Shared->Prop}{lo hi:Int}{t u v:Tok}{tk:Nat}(I:Inv X pins σ H s)(h1:-(2 ^ 62)<=lo)(h2:lo < 2 ^ 62)(h3:-(2 ^ 62)<=hi)(h4:hi < 2 ^ 62)
  (q:R (Itr lo (hi - lo).toNat) H):wpAny (model X.prog X.w) X.A (pyIter (.ref s.heap.objs.size)) (PIE X pins σ tg R) E {s with heap:=s.heap.push {cls:=.type "range",data:=.fields #[.int lo t,.int hi u,.int 1 v]},toks:=tk}:=by
 refine wpAny_pyIter_range (IsRange.new ..) (small_one h1 h2 h3 h4) ?_
 have I1:Inv X pins σ H {s with heap:=s.heap.push {cls:=.type "range",data:=.fields #[.int lo t,.int hi u,.int 1 v]},toks:=tk}:=I.kept fun b o e=>Heap.get?_push_of_some _ e
 refine ⟨(s.heap.push {cls:=.type "range",data:=.fields #[.int lo t,.int hi u,.int 1 v]}).objs.size,[(s.heap.push {cls:=.type "range",data:=.fields #[.int lo t,.int hi u,.int 1 v]}).objs.size],_,_,H,rfl,
  I1.kept (t':=tk) fun b o e=>Heap.get?_push_of_some _ e,uN _ lo (hi - lo).toNat,?_,fun b hb=>?_,q⟩
 ·have e1:lo+((0:Nat):Int) * 1=lo:=by simp
  have e2:(((hi - lo).toNat:Nat):Int) - ((0:Nat):Int)=Builtin.Range.rangeSize lo hi 1:=by rw [rangeSize_one];split<;>omega
  show IsRangeIter _ _ (lo+((0:Nat):Int) * 1) ((((hi - lo).toNat:Nat):Int) - ((0:Nat):Int)) 1
  rw [e1,e2]
  exact Heap.get?_push_size _ rfl
 ·have e:b=(s.heap.push {cls:=.type "range",data:=.fields #[.int lo t,.int hi u,.int 1 v]}).objs.size:=by simpa using hb
  subst e
  exact I1.fpOk (Nat.le_refl _) (I1.hok.fresh (Nat.le_refl _))
noncomputable def A7 (ta:TA):TI:=fun σ H R=>ta σ H fun vs H1=>∃j:Int,vs=[.int j]/\-(2 ^ 62)<=j/\j < 2 ^ 62/\R (Itr 0 j.toNat) H1
noncomputable def A8 (ta:TA):TI:=fun σ H R=>ta σ H fun vs H1=>∃i j:Int,vs=[.int i,.int j]/\(-(2 ^ 62)<=i/\i < 2 ^ 62/\-(2 ^ 62)<=j/\j < 2 ^ 62)/\R (Itr i (j - i).toNat) H1
theorem wQ {a:Expr}{ta:TA}{p pos:Pos}(hg:Gl X "range")(hm:X.mg "range"=none)(ha:PA X [a] ta)(hs:starEach [a] X.env=[(false,eval a X.env)]:=by rfl):PI X tg (.Call (.Name "range" p) [a] [] pos) (A7 ta):=by
 intro pins s σ H R I h
 refine Call_ (js I hg hm boot_range (PyProof.Rows.callWith_type1 (thn (ha pos pins s σ H _ I h) fun us s1 ⟨vs,H1,I1,r1,q1⟩=>?_) hs rfl))
 obtain ⟨j,e,q1,q2,q⟩:=q1
 subst e
 cases r1 with
 | cons r rr=>
  cases rr
  obtain ⟨t,rfl⟩:=r
  exact call_range_1 (tM I1 (by omega) (by omega) q1 q2 (by simpa using q))
theorem wR {a b:Expr}{ta:TA}{p pos:Pos}(hg:Gl X "range")(hm:X.mg "range"=none)(ha:PA X [a,b] ta)(hs:starEach [a,b] X.env=[(false,eval a X.env),(false,eval b X.env)]:=by rfl)(hs2:starEach [b] X.env=[(false,eval b X.env)]:=by rfl) :
  PI X tg (.Call (.Name "range" p) [a,b] [] pos) (A8 ta):=by
 intro pins s σ H R I h
 refine Call_ (js I hg hm boot_range (PyProof.Rows.callWith_type1 (thn (ha pos pins s σ H _ I h) fun us s1 ⟨vs,H1,I1,r1,q1⟩=>?_) (by rw [hs,hs2]) (by rw [hs2];rfl)))
 obtain ⟨i,j,e,⟨q1,q2,q3,q4⟩,q⟩:=q1
 subst e
 cases r1 with
 | cons r rr=>
  cases rr with
  | cons r' rr=>
   cases rr
   obtain ⟨t,rfl⟩:=r
   obtain ⟨t',rfl⟩:=r'
   exact call_range_2 (tM I1 q1 q2 q3 q4 q)
noncomputable def Dk (wi:TI)(g:TG)(tb:TS):TS:=fun D σ H=>wi σ H fun J H1=>∃W:Nat->Nat->St->Hp->Prop,(∃m,W 0 m σ H1)/\∀i m σ H,W i m σ H->
 (J.stop i H/\D.nx σ H)\/(J.go i H/\∃N:St->Hp->Prop,(∀σ' H',N σ' H'->∃m',m' < m/\W (i+1) m' σ' H')/\∀x H',J.yld i H x H'->g x σ H' fun σ2 H2=>tb {D with nx:=N,ct:=N,bk:=D.nx} σ2 H2)
noncomputable def mI (fp:List Addr)(h:Heap):List (Addr×Obj):=fp.filterMap fun b=>(h.get? b).map fun o=>(b,o)
theorem eg {fp:List Addr}{h:Heap}{b:Addr}{o:Obj}(hb:b∈fp)(e:h.get? b=some o):(b,o)∈mI fp h:=List.mem_filterMap.mpr ⟨b,hb,by rw [e];rfl⟩
theorem wU {fp:List Addr}{h:Heap}{p:Addr×Obj}(hp:p∈mI fp h):p.1∈fp/\h.get? p.1=some p.2:=by
 obtain ⟨b,hb,e⟩:=List.mem_filterMap.mp hp
 cases q:h.get? b with
 | none=>rw [q] at e;cases e
 | some o=>
  rw [q] at e
  have e':(b,o)=p:=Option.some.inj e
  subst e'
  exact ⟨hb,q⟩
theorem Inv.pinned {pins:List (Addr×Obj)}{σ:St}{H:Hp}{s:Shared}{fp:List Addr}(I:Inv X pins σ H s)(hf:∀b∈fp,lJ X pins H b)(ho:∀b∈fp,∃o,s.heap.get? b=some o/\∀v,o.data≠.cell v):Inv X (pins++mI fp s.heap) σ H s:=
 I.pins_of fun p hp=>(List.mem_append.mp hp).elim (fun z=>I.pin p (List.mem_append_right _ z)) fun z=>by
  obtain ⟨hb,e⟩:=wU z
  obtain ⟨f0,f1,f2,_⟩:=hf p.1 hb
  obtain ⟨o,e',d⟩:=ho p.1 hb
  rw [e] at e';cases e'
  exact ⟨e,f0,f1,f2,d⟩
theorem Inv.unpinned {pins pl:List (Addr×Obj)}{σ:St}{H:Hp}{s:Shared}(I:Inv X (pins++pl) σ H s):Inv X pins σ H s:=I.pins_of fun p hp=>I.pin p (List.mem_append_right _ (List.mem_append_left _ hp))
theorem dB {iter:Expr}{body:List Stmt}{wi:TI}{g:TG}{tb:TS}{pos:Pos}(hp:PassesOwn (model X.prog X.w) X.A X.env X.xe)(hc:X.calm=true)(hi:PI X tg iter wi)(hg:PG X tg g)(hb:PSs X body tb)
  (hs:∀x,foldedSetIterable iter X.env x=pure x:=by intro _;rfl):PS X (.For tg iter body [] pos) (Dk wi g tb):=by
 intro pins s σ H D I h
 refine wpAny_For (thn (hi pins s σ H _ I h) fun v s1 h1=>thn h1 fun itv s2 h2=>?_) hs
 obtain ⟨it,fp,tn,J,H2,e,I2,T,st2,f2,W,⟨m0,w0⟩,turn⟩:=h2
 subst e
 have stat:∀{H':Hp},(∀b∈fp,H' b=none)->∀b∈fp,lJ X pins H' b:=fun hn b hb=>⟨hn b hb,(f2 b hb).2⟩
 refine codeAny_forLoop_any (fun n s'=>∃i σ' H',Inv X pins σ' H' s'/\tn i s'.heap/\(∀b∈fp,H' b=none)/\W i n σ' H') ?_ m0 ⟨0,σ,H2,I2,st2,fun b hb=>(f2 b hb).1,w0⟩
 rintro n s3 ⟨i,σ3,H3,I3,st3,fr3,w3⟩
 rcases turn i n σ3 H3 w3 with ⟨stop,qn⟩ | ⟨go,N,hN,step⟩
 ·refine wpAny_passesOwn hp (thn (T.done X rfl rfl rfl hc i pins s3 σ3 H3 X.xe I3 (stat fr3) st3 stop) fun r s4 ⟨hr,I4⟩=>?_)
  subst hr
  exact wpAny_execs_nil ⟨σ3,H3,I4,qn⟩
 ·refine wpAny_passesOwn hp (thn (T.item X rfl rfl rfl hc i pins s3 σ3 H3 X.xe I3 (stat fr3) st3 go) fun r s4 ⟨u,hr,h4⟩=>?_)
  subst hr
  refine wpAny_passesOwn hp (thn h4 fun _ s5 ⟨x,H5,I5,r5,y5,st5,fr5⟩=>?_)
  have I5':=I5.pinned (stat fr5) (T.obj _ _ st5)
  refine wpAny_passesOwn hp (thn (hg _ s5 σ3 H5 x u _ I5' r5 (step x H5 y5)) fun _ s6 ⟨σ6,H6,I6,q6⟩=>?_)
  refine wpAny_passesOwn hp (thn (hb _ s6 σ6 H6 _ I6 q6) fun f s7 q7=>?_)
  have again:∀{σ7:St} {H7:Hp},Inv X (pins++mI fp s5.heap) σ7 H7 s7->N σ7 H7->∃m,m < n/\∃i σ' H',Inv X pins σ' H' s7/\tn i s7.heap/\(∀b∈fp,H' b=none)/\W i m σ' H':=fun {σ7 H7} I7 n7=>by
   obtain ⟨m',hm,w7⟩:=hN σ7 H7 n7
   refine ⟨m',hm,i+1,σ7,H7,I7.unpinned,T.keep _ _ _ st5 fun b hb o e=>(I7.pin (b,o) (List.mem_append_right _ (List.mem_append_right _ (eg hb e)))).1,fun b hb=>?_,w7⟩
   obtain ⟨o,e,d⟩:=T.obj _ _ st5 b hb
   exact (I7.pin (b,o) (List.mem_append_right _ (List.mem_append_right _ (eg hb e)))).2.1
  cases f with
  | next=>obtain ⟨σ7,H7,I7,n7⟩:=q7;exact again I7 n7
  | cont=>obtain ⟨σ7,H7,I7,n7⟩:=q7;exact again I7 n7
  | brk=>obtain ⟨σ7,H7,I7,q7⟩:=q7;exact ⟨σ7,H7,I7.unpinned,q7⟩
  | ret v=>obtain ⟨x7,σ7,H7,I7,r7,q7⟩:=q7;exact ⟨x7,σ7,H7,I7.unpinned,r7,q7⟩
end
theorem xM {K:W.Frag}{a:Addr}{xs:List V}{g:TG}{tb:TS}{D:kQ}{σ:St}{H:Hp}(Pv:Nat->St->Hp->Prop)(h0:Pv 0 σ H)(hl:∀i σ H,i<=xs.length->Pv i σ H->SqL K H a xs)
  (hs:∀i x σ H,xs[i]?=some x->Pv i σ H->g x σ H fun σ2 H2=>tb {D with nx:=Pv (i+1),ct:=Pv (i+1),bk:=D.nx} σ2 H2) (hd:∀σ H,Pv xs.length σ H->D.nx σ H) :
  ∃W:Nat->Nat->St->Hp->Prop,(∃m,W 0 m σ H)/\∀i m σ H,W i m σ H->
   ((Itl K a).stop i H/\D.nx σ H)\/((Itl K a).go i H/\∃N:St->Hp->Prop,(∀σ' H',N σ' H'->∃m',m' < m/\W (i+1) m' σ' H')/\∀x H',(Itl K a).yld i H x H'->g x σ H' fun σ2 H2=>tb {D with nx:=N,ct:=N,bk:=D.nx} σ2 H2):=by
 refine ⟨fun i m σ H=>m=xs.length - i/\i<=xs.length/\Pv i σ H,⟨xs.length,by simp,Nat.zero_le _,h0⟩,?_⟩
 rintro i m σ H ⟨rfl,hi,p⟩
 have q:=hl i σ H hi p
 by_cases hlt:i < xs.length
 ·refine .inr ⟨⟨xs,xs[i],q,by simp [hlt]⟩,Pv (i+1),fun σ' H' p'=>⟨xs.length - (i+1),by omega,rfl,hlt,p'⟩,fun x H' y=>?_⟩
  obtain ⟨e,y⟩:=y
  subst e
  exact hs i x σ _ (y xs q) p
 ·have e:i=xs.length:=by omega
  subst e
  exact .inl ⟨⟨xs,q,Nat.le_refl _⟩,hd σ H p⟩
theorem wV {lo:Int}{n:Nat}{g:TG}{tb:TS}{D:kQ}{σ:St}{H:Hp}(Pv:Nat->St->Hp->Prop)(h0:Pv 0 σ H)
  (hs:∀i σ H,i < n->Pv i σ H->g (.int (lo+i)) σ H fun σ2 H2=>tb {D with nx:=Pv (i+1),ct:=Pv (i+1),bk:=D.nx} σ2 H2) (hd:∀σ H,Pv n σ H->D.nx σ H) :
  ∃W:Nat->Nat->St->Hp->Prop,(∃m,W 0 m σ H)/\∀i m σ H,W i m σ H->
   ((Itr lo n).stop i H/\D.nx σ H)\/((Itr lo n).go i H/\∃N:St->Hp->Prop,(∀σ' H',N σ' H'->∃m',m' < m/\W (i+1) m' σ' H')/\∀x H',(Itr lo n).yld i H x H'->g x σ H' fun σ2 H2=>tb {D with nx:=N,ct:=N,bk:=D.nx} σ2 H2):=by
 refine ⟨fun i m σ H=>m=n - i/\i<=n/\Pv i σ H,⟨n,by simp,Nat.zero_le _,h0⟩,?_⟩
 rintro i m σ H ⟨rfl,hi,p⟩
 by_cases hlt:i < n
 ·refine .inr ⟨hlt,Pv (i+1),fun σ' H' p'=>⟨n - (i+1),by omega,rfl,hlt,p'⟩,fun x H' y=>?_⟩
  obtain ⟨e,y⟩:=y
  subst e y
  exact hs i σ _ hlt p
 ·have e:i=n:=by omega
  subst e
  exact .inl ⟨Nat.le_refl _,hd σ H p⟩
noncomputable abbrev R2:=V->V->Hp->VK->Prop
def OpR (X:Cx)(f:Value->Value->Sem Value)(r:R2):Prop:=
 ∀(pins:List (Addr×Obj)) (s:Shared) (σ:St) (H:Hp) (x y:V) (v u:Value) (Q:VK),Inv X pins σ H s->bf x v->bf y u->r x y H Q->
  wpAny (model X.prog X.w) X.A (f v u) (EP X pins σ Q) X.xe s
def UnR (X:Cx)(f:Value->Sem Value)(r:V->Hp->VK->Prop):Prop:=
 ∀(pins:List (Addr×Obj)) (s:Shared) (σ:St) (H:Hp) (x:V) (v:Value) (Q:VK),Inv X pins σ H s->bf x v->r x H Q->
  wpAny (model X.prog X.w) X.A (f v) (EP X pins σ Q) X.xe s
def fJ (X:Cx)(f:Value)(r:List V->Hp->VK->Prop):Prop:=
 ∀(pins:List (Addr×Obj)) (s:Shared) (σ:St) (H:Hp) (xs:List V) (us:List Value) (Q:VK),Inv X pins σ H s->ba xs us->r xs H Q->
  wpAny (model X.prog X.w) X.A (call f us) (EP X pins σ Q) X.xe s
def Er (X:Cx)(r:V->Hp->(Bool->Hp->Prop)->Prop):Prop:=
 ∀(pins:List (Addr×Obj)) (s:Shared) (σ:St) (H:Hp) (x:V) (v:Value) (Q:Bool->Hp->Prop),Inv X pins σ H s->bf x v->r x H Q->
  wpAny (model X.prog X.w) X.A (truthy v) (TP X pins σ Q) X.xe s
noncomputable def tOp (r:R2)(ta tb:TE):TE:=fun σ H Q=>ta σ H fun x H1=>tb σ H1 fun y H2=>r x y H2 Q
noncomputable def tUn (r:V->Hp->VK->Prop)(ta:TE):TE:=fun σ H Q=>ta σ H fun x H1=>r x H1 Q
noncomputable def rI (C:Int->Int->Prop)(g:Int->Int->V):R2:=fun x y H Q=>∃i j,x=.int i/\y=.int j/\C i j/\Q (g i j) H
noncomputable def rI0 (g:Int->Int->V):R2:=fun x y H Q=>∃i j,x=.int i/\y=.int j/\Q (g i j) H
noncomputable def rU (g:Int->V):V->Hp->VK->Prop:=fun x H Q=>∃i,x=.int i/\Q (g i) H
section
variable {X:Cx}{a b c:Expr}{ta tb tc:TE}{pos:Pos}
theorem BJ (ha:PE X a ta)(hb:PE X b tb){pins:List (Addr×Obj)}{s:Shared}{σ:St}{H:Hp}{R:V->V->Hp->Prop}(I:Inv X pins σ H s)
  (h:ta σ H fun x H1=>tb σ H1 fun y H2=>R x y H2) {Q:Value->Shared->Prop} {f:Value->Value->Sem Value}
  (hf:∀v u s2 x y H2,Inv X pins σ H2 s2->bf x v->bf y u->R x y H2->wpAny (model X.prog X.w) X.A (f v u) Q X.xe s2) :
  wpAny (model X.prog X.w) X.A (eval a X.env) (fun v s₁=>wpAny (model X.prog X.w) X.A (eval b X.env) (fun u s₂=>wpAny (model X.prog X.w) X.A (f v u) Q X.xe s₂) X.xe s₁) X.xe s:=by
 refine thn (ha pins s σ H _ I h) fun v s1 ⟨x,H1,I1,r1,q1⟩=>?_
 refine thn (hb pins s1 σ H1 _ I1 q1) fun u s2 ⟨y,H2,I2,r2,q2⟩=>?_
 exact hf v u s2 x y H2 I2 r1 r2 q2
theorem aP {op:Operator}{r:R2}(ho:OpR X (binaryOp op) r)(ha:PE X a ta)(hb:PE X b tb):PE X (.BinOp a op b pos) (tOp r ta tb):=by
 intro pins s σ H Q I h
 exact wpAny_BinOp (BJ ha hb I h fun v u s2 x y H2 I2 rx ry q=>ho pins s2 σ H2 x y v u Q I2 rx ry q)
theorem lK {op:UnaryOp}{r:V->Hp->VK->Prop}(ho:UnR X (unaryOp op) r)(ha:PE X a ta):PE X (.UnaryOp op a pos) (tUn r ta):=by
 intro pins s σ H Q I h
 exact UnaryOp_ (thn (ha pins s σ H _ I h) fun v s1 ⟨x,H1,I1,r1,q1⟩=>ho pins s1 σ H1 x v Q I1 r1 q1)
theorem opI {f:Value->Value->Sem Value}{C:Int->Int->Prop}{g:Int->Int->Int}
  (rule:∀(i j:Int) (t u:Tok) (s:Shared) (Q:Value->Shared->Prop) (E:Value->Shared->Prop),C i j->Q (.int (g i j) s.toks) {s with toks:=s.toks+1}->wpAny (model X.prog X.w) X.A (f (.int i t) (.int j u)) Q E s) :
  OpR X f (rI C fun i j=>.int (g i j)):=by
 intro pins s σ H x y v u Q I rx ry h
 obtain ⟨i,j,rfl,rfl,hc,q⟩:=h
 obtain ⟨t,rfl⟩:=rx
 obtain ⟨t',rfl⟩:=ry
 exact rule i j t t' s _ _ hc ⟨.int (g i j),H,I.tok _,⟨_,rfl⟩,q⟩
theorem Dl {f:Value->Value->Sem Value}{g:Int->Int->Int}
  (rule:∀(i j:Int) (t u:Tok) (s:Shared) (Q:Value->Shared->Prop) (E:Value->Shared->Prop),Q (.int (g i j) s.toks) {s with toks:=s.toks+1}->wpAny (model X.prog X.w) X.A (f (.int i t) (.int j u)) Q E s) :
  OpR X f (rI0 fun i j=>.int (g i j)):=by
 intro pins s σ H x y v u Q I rx ry h
 obtain ⟨i,j,rfl,rfl,q⟩:=h
 obtain ⟨t,rfl⟩:=rx
 obtain ⟨t',rfl⟩:=ry
 exact rule i j t t' s _ _ ⟨.int (g i j),H,I.tok _,⟨_,rfl⟩,q⟩
theorem zD {f:Value->Value->Sem Value}{g:Int->Int->Bool}
  (rule:∀(i j:Int) (t u:Tok) (s:Shared) (Q:Value->Shared->Prop) (E:Value->Shared->Prop),Q (.bool (g i j)) s->wpAny (model X.prog X.w) X.A (f (.int i t) (.int j u)) Q E s) :
  OpR X f (rI0 fun i j=>.bl (g i j)):=by
 intro pins s σ H x y v u Q I rx ry h
 obtain ⟨i,j,rfl,rfl,q⟩:=h
 obtain ⟨t,rfl⟩:=rx
 obtain ⟨t',rfl⟩:=ry
 exact rule i j t t' s _ _ ⟨.bl (g i j),H,I,rfl,q⟩
def xN (i j:Int):Prop:=0 < j/\j < 1073741824
def Es (i j:Int):Prop:=0<=j/\j<=1000000/\i.natAbs < 2 ^ 64
def oI (i j:Int):Prop:=(-(2 ^ 64) < i/\i < 2 ^ 64)\/(-(2 ^ 64) < j/\j < 2 ^ 64)
theorem oI.ok {i j:Int}(h:oI i j):IntMulOk i j:=by
 rcases h with ⟨h1,h2⟩ | ⟨h1,h2⟩
 ·exact .of_left (intBits_le_64 h1 h2)
 ·exact .of_right (intBits_le_64 h1 h2)
theorem BK:OpR X (binaryOp .Add) (rI0 fun i j=>.int (i+j)):=Dl fun _ _ _ _ _ _ _ q=>add_int q
theorem BL:OpR X (binaryOp .Sub) (rI0 fun i j=>.int (i - j)):=Dl fun _ _ _ _ _ _ _ q=>sub_int q
theorem uO:OpR X (binaryOp .Mult) (rI oI fun i j=>.int (i * j)):=opI fun _ _ _ _ _ _ _ hc q=>mul_int q hc.ok
theorem zE:OpR X (binaryOp .FloorDiv) (rI xN fun i j=>.int (i / j)):=opI fun i j _ _ _ _ _ hc q=>by
 have h1:(0:Int) < j:=hc.1
 have h2:j < 1073741824:=hc.2
 exact floordiv_int (by omega) (by rw [Int.fdiv_eq_ediv_of_nonneg i (by omega)];exact q) (.inl (PyProof.noPylong_small (by omega)))
theorem xO:OpR X (binaryOp .Mod) (rI (fun _ j=>0 < j) fun i j=>.int (i % j)):=opI fun i j _ _ _ _ _ hc q=>by
 have h1:(0:Int) < j:=hc
 exact mod_int' (by omega) (by rw [Int.fmod_eq_emod_of_nonneg i (by omega)];exact q)
theorem unI {f:Value->Sem Value}{g:Int->Int}
  (rule:∀(i:Int) (t:Tok) (s:Shared) (Q:Value->Shared->Prop) (E:Value->Shared->Prop),Q (.int (g i) s.toks) {s with toks:=s.toks+1}->wpAny (model X.prog X.w) X.A (f (.int i t)) Q E s) :
  UnR X f (rU fun i=>.int (g i)):=by
 intro pins s σ H x v Q I rx h
 obtain ⟨i,rfl,q⟩:=h
 obtain ⟨t,rfl⟩:=rx
 exact rule i t s _ _ ⟨.int (g i),H,I.tok _,⟨_,rfl⟩,q⟩
theorem BM:UnR X (unaryOp .USub) (rU fun i=>.int (-i)):=unI fun _ _ _ _ _ q=>neg_int q
end
noncomputable def qm:V->V->Bool
 | .non,.non=>true | .non,.int _=>true | .int _,.non=>true | .non,.bl _=>true | .bl _,.non=>true | .non,.str _=>true | .str _,.non=>true
 | .int _,.int _=>true | .bl _,.bl _=>true | .str _,.str _=>true | .byt _,.byt _=>true
 | .int _,.str _=>true | .str _,.int _=>true | .bl _,.str _=>true | .str _,.bl _=>true
 | _,_=>false
noncomputable def rEq:R2:=fun x y H Q=>qm x y=true/\Q (.bl (decide (x=y))) H
noncomputable def rNe:R2:=fun x y H Q=>qm x y=true/\Q (.bl (!decide (x=y))) H
theorem vT {i j:Int}:decide (V.int i=V.int j)=(i == j):=by
 rw [Bool.eq_iff_iff]
 simp
theorem xP {i j:Bool}:decide (V.bl i=V.bl j)=(i == j):=by
 rw [Bool.eq_iff_iff]
 simp
theorem vU {i j:Str}:decide (V.str i=V.str j)=(i == j):=by
 rw [Bool.eq_iff_iff]
 simp
theorem vV {i j:Array UInt8}:decide (V.byt i=V.byt j)=(i.toList == j.toList):=by
 rw [Bool.eq_iff_iff]
 cases i
 cases j
 simp
section
variable {X:Cx}{a b c:Expr}{ta tb tc:TE}{pos:Pos}
theorem bj {pins:List (Addr×Obj)}{σ:St}{H:Hp}{s:Shared}{Q:VK}{k k':Bool}(I:Inv X pins σ H s)(q:Q (.bl k) H)(e:k=k'):EP X pins σ Q (.bool k') s:=by
 subst e
 exact ⟨.bl k,H,I,rfl,q⟩
theorem A9:OpR X (compareOp .Eq) rEq:=by
 intro pins s σ H x y v u Q I rx ry h
 obtain ⟨hs,q⟩:=h
 cases x with
 | non=>
  cases rx
  cases y with
  | non=>cases ry;exact PySem.EqNone.eq_none_none (bj I q (by simp))
  | bl j=>cases ry;exact PySem.EqNone.eq_none_bool (bj I q (by simp))
  | int j=>obtain ⟨t',rfl⟩:=ry;exact PySem.EqNone.eq_none_int (bj I q (by simp))
  | str j=>obtain ⟨t',rfl⟩:=ry;exact PySem.EqNone.eq_none_str (bj I q (by simp))
  | _=>exact absurd (show false=true from hs) Bool.false_ne_true
 | bl i=>
  cases rx
  cases y with
  | non=>cases ry;exact PySem.EqNone.eq_bool_none (bj I q (by simp))
  | bl j=>cases ry;exact eq_bool (bj I q xP)
  | str j=>obtain ⟨t',rfl⟩:=ry;exact PySem.EqMixed.eq_bool_str (bj I q (by simp))
  | _=>exact absurd (show false=true from hs) Bool.false_ne_true
 | int i=>
  obtain ⟨t,rfl⟩:=rx
  cases y with
  | non=>cases ry;exact PySem.EqNone.eq_int_none (bj I q (by simp))
  | int j=>obtain ⟨t',rfl⟩:=ry;exact eq_int (bj I q vT)
  | str j=>obtain ⟨t',rfl⟩:=ry;exact PySem.EqMixed.eq_int_str (bj I q (by simp))
  | _=>exact absurd (show false=true from hs) Bool.false_ne_true
 | str i=>
  obtain ⟨t,rfl⟩:=rx
  cases y with
  | non=>cases ry;exact PySem.EqNone.eq_str_none (bj I q (by simp))
  | bl j=>cases ry;exact PySem.EqMixed.eq_str_bool (bj I q (by simp))
  | int j=>obtain ⟨t',rfl⟩:=ry;exact PySem.EqMixed.eq_str_int (bj I q (by simp))
  | str j=>obtain ⟨t',rfl⟩:=ry;exact eq_str (bj I q vU)
  | _=>exact absurd (show false=true from hs) Bool.false_ne_true
 | byt i=>
  obtain ⟨t,rfl⟩:=rx
  cases y with
  | byt j=>obtain ⟨t',rfl⟩:=ry;exact W.eq_bytes (bj I q vV)
  | _=>exact absurd (show false=true from hs) Bool.false_ne_true
 | _=>cases y<;>exact absurd (show false=true from hs) Bool.false_ne_true
theorem Dm:OpR X (compareOp .NotEq) rNe:=by
 intro pins s σ H x y v u Q I rx ry h
 obtain ⟨hs,q⟩:=h
 cases x with
 | non=>
  cases rx
  cases y with
  | non=>cases ry;exact PySem.EqNone.ne_none_none (bj I q (by simp))
  | bl j=>cases ry;exact PySem.EqNone.ne_none_bool (bj I q (by simp))
  | int j=>obtain ⟨t',rfl⟩:=ry;exact PySem.EqNone.ne_none_int (bj I q (by simp))
  | str j=>obtain ⟨t',rfl⟩:=ry;exact PySem.EqNone.ne_none_str (bj I q (by simp))
  | _=>exact absurd (show false=true from hs) Bool.false_ne_true
 | bl i=>
  cases rx
  cases y with
  | non=>cases ry;exact PySem.EqNone.ne_bool_none (bj I q (by simp))
  | bl j=>cases ry;exact ne_bool (bj I q (congrArg not xP))
  | str j=>obtain ⟨t',rfl⟩:=ry;exact PySem.EqMixed.ne_bool_str (bj I q (by simp))
  | _=>exact absurd (show false=true from hs) Bool.false_ne_true
 | int i=>
  obtain ⟨t,rfl⟩:=rx
  cases y with
  | non=>cases ry;exact PySem.EqNone.ne_int_none (bj I q (by simp))
  | int j=>obtain ⟨t',rfl⟩:=ry;exact ne_int (bj I q (congrArg not vT))
  | str j=>obtain ⟨t',rfl⟩:=ry;exact PySem.EqMixed.ne_int_str (bj I q (by simp))
  | _=>exact absurd (show false=true from hs) Bool.false_ne_true
 | str i=>
  obtain ⟨t,rfl⟩:=rx
  cases y with
  | non=>cases ry;exact PySem.EqNone.ne_str_none (bj I q (by simp))
  | bl j=>cases ry;exact PySem.EqMixed.ne_str_bool (bj I q (by simp))
  | int j=>obtain ⟨t',rfl⟩:=ry;exact PySem.EqMixed.ne_str_int (bj I q (by simp))
  | str j=>obtain ⟨t',rfl⟩:=ry;exact ne_str (bj I q (congrArg not vU))
  | _=>exact absurd (show false=true from hs) Bool.false_ne_true
 | byt i=>
  obtain ⟨t,rfl⟩:=rx
  cases y with
  | byt j=>obtain ⟨t',rfl⟩:=ry;exact W.ne_bytes (bj I q (congrArg not vV))
  | _=>exact absurd (show false=true from hs) Bool.false_ne_true
 | _=>cases y<;>exact absurd (show false=true from hs) Bool.false_ne_true
theorem Ba:OpR X (compareOp .Lt) (rI0 fun i j=>.bl (decide (i < j))):=zD fun _ _ _ _ _ _ _ q=>lt_int q
theorem Bb:OpR X (compareOp .LtE) (rI0 fun i j=>.bl (decide (i<=j))):=zD fun _ _ _ _ _ _ _ q=>le_int q
theorem Dn:OpR X (compareOp .Gt) (rI0 fun i j=>.bl (decide (j < i))):=zD fun _ _ _ _ _ _ _ q=>gt_int q
theorem Bc:OpR X (compareOp .GtE) (rI0 fun i j=>.bl (decide (j<=i))):=zD fun _ _ _ _ _ _ _ q=>ge_int q
theorem BN:OpR X (compareOp .Is) (fun x y H Q=>y=.non/\Q (.bl (decide (x=.non))) H):=by
 intro pins s σ H x y v u Q I rx ry h
 obtain ⟨rfl,q⟩:=h
 cases ry
 refine is_none_gen (bj I q ?_)
 cases x<;>first
  | (cases rx;rfl)
  | (obtain ⟨t,rfl⟩:=rx;rfl)
theorem zF:OpR X (compareOp .IsNot) (fun x y H Q=>y=.non/\Q (.bl (!decide (x=.non))) H):=by
 intro pins s σ H x y v u Q I rx ry h
 obtain ⟨rfl,q⟩:=h
 cases ry
 refine isnot_none_gen (bj I q ?_)
 cases x<;>first
  | (cases rx;rfl)
  | (obtain ⟨t,rfl⟩:=rx;rfl)
theorem cD (b:Expr){op:CmpOp}(h:op≠.In:=by decide)(h2:op≠.NotIn:=by decide):behindInMarks op b=false:=by
 have e1:(op == CmpOp.In)=false:=by cases op<;>first | rfl | exact absurd rfl h
 have e2:(op == CmpOp.NotIn)=false:=by cases op<;>first | rfl | exact absurd rfl h2
 cases b<;>simp [behindInMarks,e1,e2]
theorem fj {op:CmpOp}{r:R2}(ho:OpR X (compareOp op) r)(ha:PE X a ta)(hb:PE X b tb)(hm:behindInMarks op b=false):PE X (.Compare a [op] [b] pos) (tOp r ta tb):=by
 intro pins s σ H Q I h
 exact wpAny_Compare1 (BJ ha hb I h fun v u s2 x y H2 I2 rx ry q=>ho pins s2 σ H2 x y v u Q I2 rx ry q) hm
noncomputable def jt (t:TE):TT:=fun σ H Q=>t σ H fun x H'=>∃k,x=.bl k/\Q k H'
theorem fm {op:CmpOp}{r:R2}(ho:OpR X (compareOp op) r)(ha:PE X a ta)(hb:PE X b tb)(hm:behindInMarks op b=false):PT X (.Compare a [op] [b] pos) (jt (tOp r ta tb)):=by
 intro pins s σ H Q I h
 refine wpAny_isTrue_Compare1 (thn (ha pins s σ H _ I h) fun v s1 ⟨x,H1,I1,r1,q1⟩=>thn (hb pins s1 σ H1 _ I1 q1) fun u s2 ⟨y,H2,I2,r2,q2⟩=>
  thn (ho pins s2 σ H2 x y v u _ I2 r1 r2 q2) fun c s3 ⟨z,H3,I3,r3,k,e,q3⟩=>?_) hm
 subst e
 cases r3
 exact wpAny_truthy_bool ⟨H3,I3,q3⟩
def Dp (K:W.Frag)(x:V)(H:Hp)(k:Bool):Prop:=
 match x with
 | .non=>k=false
 | .bl b=>k=b
 | .int i=>k=(i != 0)
 | .str y=>y.length<=sizeLine/\k=((y.length:Int) != 0)
 | .byt y=>y.size<=sizeLine/\k=((y.size:Int) != 0)
 | .ref p=>(∃xs,SqL K H p xs/\k=!xs.isEmpty)\/(∃xs,SqT K H p xs/\k=!xs.isEmpty)\/∃kvs,H p=some (.dK kvs)/\k=!kvs.isEmpty
 | _=>False
theorem uP {κ:Type}{kvs:List (κ×V)}{vs:List (κ×Value)}(r:KV kvs vs):(!vs.isEmpty)=!kvs.isEmpty:=by
 cases r<;>rfl
theorem oJ {xs:List V}{its:List Value}(r:ba xs its):(!its.toArray.isEmpty)=!xs.isEmpty:=by
 cases r<;>simp
theorem mJ:(sizeLine:Nat) < 2 ^ 63:=by rw [sizeLine_eq];decide
theorem BO:Er X (fun x H Q=>∃k,Dp X.K x H k/\Q k H):=by
 intro pins s σ H x v Q I rx h
 obtain ⟨k,e,q⟩:=h
 have hl:=mJ
 have hs:sizeLine=16777216:=sizeLine_eq
 cases x with
 | non=>
  cases rx
  have e':k=false:=e
  subst e'
  exact truthy_none ⟨H,I,q⟩
 | bl b=>
  cases rx
  have e':k=b:=e
  subst e'
  exact wpAny_truthy_bool ⟨H,I,q⟩
 | int i=>
  obtain ⟨t,rfl⟩:=rx
  have e':k=(i != 0):=e
  subst e'
  exact PySem.P.truthy_int ⟨H,I,q⟩
 | str y=>
  obtain ⟨t,rfl⟩:=rx
  obtain ⟨hy,e'⟩:y.length<=sizeLine/\k=((y.length:Int) != 0):=e
  subst e'
  exact PySem.P.truthy_str (by omega) ⟨H,I.tok _,q⟩
 | byt y=>
  obtain ⟨t,rfl⟩:=rx
  obtain ⟨hy,e'⟩:y.size<=sizeLine/\k=((y.size:Int) != 0):=e
  subst e'
  exact W.truthy_bytes (by omega) ⟨H,I.tok _,q⟩
 | ref p=>
  cases rx
  have e':(∃xs,SqL X.K H p xs/\k=!xs.isEmpty)\/(∃xs,SqT X.K H p xs/\k=!xs.isEmpty)\/∃kvs,H p=some (.dK kvs)/\k=!kvs.isEmpty:=e
  rcases e' with ⟨xs,hx,e'⟩ | ⟨xs,hx,e'⟩ | ⟨kvs,hx,e'⟩
  ·subst e'
   obtain ⟨its,r,pl,hz⟩:=I.list hx
   have hlen:=r.length
   exact wpAny_truthy_list pl.isList (by simp only [List.size_toArray];omega) ⟨H,I.tok _,by rw [oJ r];exact q⟩
  ·subst e'
   obtain ⟨its,r,pl,hz⟩:=I.tuple hx
   have hlen:=r.length
   exact truthy_tuple pl (by simp only [List.size_toArray];omega) ⟨H,I.tok _,by rw [oJ r];exact q⟩
  ·subst e'
   obtain ⟨hz,hS,vs,r,m⟩:kvs.length<=sizeLine/\(p == sysModules)=false/\∃vs,KV kvs vs/\s.heap.DictOf (rG X.prog X.w) p vs:=I.hok p _ hx
   have hlen:kvs.length=vs.length:=Paired.length r
   exact wpAny_truthy_dict hS m (by omega) ⟨H,I.tok _,by rw [uP r];exact q⟩
 | _=>exact (show False from e).elim
theorem tN (ha:PE X a ta)(he:∀bX,isTrue a X.env bX=(do let v ←bX;standAt a.pos;holding [v] (truthy v))) :
  PT X a (fun σ H Q=>ta σ H fun x H'=>∃k,Dp X.K x H' k/\Q k H'):=by
 intro pins s σ H Q I h
 exact isTrue_plain (thn (ha pins s σ H _ I h) fun v s1 ⟨x,H1,I1,r1,q1⟩=>BO pins s1 σ H1 x v Q I1 r1 q1) (he _)
theorem tO {x:V}{us:List Value}(r:ba [x] us):∃u,us=[u]/\bf x u:=by
 cases r with
 | cons r1 r2=>cases r2;exact ⟨_,rfl,r1⟩
theorem vW {x y:V}{us:List Value}(r:ba [x,y] us):∃u w',us=[u,w']/\bf x u/\bf y w':=by
 cases r with
 | cons r1 r2=>
  cases r2 with
  | cons r3 r4=>cases r4;exact ⟨_,_,rfl,r1,r3⟩
theorem xQ:fJ X (.builtin "abs") (fun xs H Q=>∃i,xs=[.int i]/\Q (.int (if i < 0 then -i else i)) H):=by
 intro pins s σ H xs us Q I r h
 obtain ⟨i,rfl,q⟩:=h
 obtain ⟨u,rfl,t,rfl⟩:=tO r
 exact call_abs_int fun u tk=>⟨.int (if i < 0 then -i else i),H,I.tok _,⟨_,rfl⟩,q⟩
theorem wW (hc:X.calm=true):fJ X (.builtin "min") (fun xs H Q=>∃i j,xs=[.int i,.int j]/\Q (.int (if j < i then j else i)) H):=by
 intro pins s σ H xs us Q I r h
 obtain ⟨i,j,rfl,q⟩:=h
 obtain ⟨u,w',rfl,⟨t,rfl⟩,⟨t',rfl⟩⟩:=vW r
 refine min_two_ints (I.ok.hd hc) fun h' tk k=>⟨_,H,I.kept k,?_,q⟩
 by_cases hj:j < i
 ·rw [if_pos hj,if_pos hj];exact ⟨_,rfl⟩
 ·rw [if_neg hj,if_neg hj];exact ⟨_,rfl⟩
theorem wX:fJ X (.type "int") (fun xs H Q=>(∃i,xs=[.int i]/\Q (.int i) H)\/∃k,xs=[.bl k]/\Q (.int (if k then 1 else 0)) H):=by
 intro pins s σ H xs us Q I r h
 rcases h with ⟨i,rfl,q⟩ | ⟨k,rfl,q⟩
 ·obtain ⟨u,rfl,t,rfl⟩:=tO r
  exact call_int_int ⟨.int i,H,I,⟨_,rfl⟩,q⟩
 ·obtain ⟨u,rfl,r1⟩:=tO r
  cases r1
  exact call_int_bool ⟨.int (if k then 1 else 0),H,I.tok _,⟨_,rfl⟩,q⟩
end
structure uQ (h:Heap)(x dx C:Addr)(mA:Str->Option Value):Prop where
 obj:h.get? x=some (W.instObj C dx)
 ns:h.Ns1 dx mA
 ne:dx≠x
theorem wY {h:Heap}{dx:Addr}{mA:Str->Option Value}(n:h.Ns1 dx mA):∃od,h.get? dx=some od/\∀name,W.lookIn name od=some (mA name):=by
 obtain ⟨o,es,ep,ho,hd,hk,_,hm⟩:=n
 refine ⟨o,ho,fun name=>?_⟩
 have e:=hm name
 unfold nsFind findBy at e
 rw [←Array.find?_toList] at e
 unfold W.lookIn
 rw [hd]
 dsimp only
 split
 ·rename_i y q
  rw [q] at e
  exact congrArg some e
 ·rename_i q
  rw [q] at e
  have a:es.toList.any (·.refKey)=false:=by
   rw [List.any_eq_false]
   intro y hy
   obtain ⟨z,t,hkey⟩:=hk y (Array.mem_toList_iff.mp hy)
   simp [DictEntry.refKey,hkey]
  have a':¬es.toList.any (·.refKey)=true:=by rw [a];exact Bool.false_ne_true
  rw [if_neg a']
  exact congrArg some e
theorem uQ.look {h:Heap}{x dx C:Addr}{mA:Str->Option Value}(I:uQ h x dx C mA):∃od,W.InstAt h x (W.instObj C dx) C (some od)/\∀name,W.lookIn name od=some (mA name):=
 let ⟨od,ho,hl⟩:=wY I.ns
 ⟨od,⟨I.obj,rfl,rfl,ho⟩,hl⟩
section
variable {prog:Program}{w:World}{A:Around}{E:Value->Shared->Prop}{s:Shared}{K:W.Frag}{x dx C f:Addr}{mA:Str->Option Value}{name:Str}{v:Value}
theorem zG {expr:Bool}{Q:Value->Shared->Prop}(X:K.In s.heap)(I:uQ s.heap x dx C mA)(hg:W.plainGet K C name=true)(hh:W.hasDictIn K C=true)
  (ha:W.findIn K (.ref C) name=some none) (hv:mA name=some v) (hv':W.handedIn v=true) (h:Q v {s with toks:=s.toks+1}) :
  wpAny (model prog w) A (getAttr (.ref x) name expr) Q E s:=by
 obtain ⟨od,J,hl⟩:=I.look
 exact W.get_value X J (W.plainGet_of hg).1 (W.findObj_own hh ha rfl (by rw [hl,hv])) hv' h
theorem xR {pl:Sem Bool}{Q:Value×List Value->Shared->Prop}(X:K.In s.heap)(I:uQ s.heap x dx C mA)(hg:W.plainGet K C name=true)
  (hf:W.findIn K (.ref C) name=some (some (.ref f))) (ht:W.isFn K (.ref f)=true) (hv:mA name=none) (h:Q (.ref f,[.ref x]) s) :
  wpAny (model prog w) A (getMethod (.ref x) name pl) Q E s:=by
 obtain ⟨od,J,hl⟩:=I.look
 exact W.method_fn X J (W.plainGet_of hg).1 (W.plainGet_of hg).2 hf (beq_iff_eq.mp ht) (by show (W.lookIn name od).map (·.isSome)=some false;rw [hl,hv];rfl) h
theorem zH {ns:List Str}{Q:Unit->Shared->Prop}(X:K.In s.heap)(I:uQ s.heap x dx C mA)
  (hs:W.findIn K (.ref C) "__setattr__"=some (some (.builtin "object.__setattr__"))) (hp:W.plainOver K C=true) (ht:W.takerIn K C name=some none) (hh:W.hasDictIn K C=true)
  (hw:PySem.Within mA ns) (hsz:ns.length<=sizeLine)
  (h:∀h',uQ h' x dx C (fun y=>if y=name then some v else mA y)->Heap.SameBut dx s.heap h'->Q () {s with heap:=h',toks:=s.toks+2}) :
  wpAny (model prog w) A (setAttr (.ref x) name v) Q E s:=by
 obtain ⟨od,J,hl⟩:=I.look
 refine W.set_plain X J hs (W.osa_open (s:={s with toks:=s.toks+1}) (r:=none) X J hp ht fun b=>?_)
 obtain ⟨cd,hc,hd'⟩:=W.any_some hh
 have hx:s.heap.get? x=some ⟨.ref C,some dx,.plain,#[]⟩:=I.obj
 refine wpAny_bind (wpAny_pure (wpAny_bind (wpAny_bind (wpAny_loadPart hx (wpAny_bind (W.Looks.here (s:={s with toks:=s.toks+1}) (W.looks_clsIn X hc) ?_))))))
 rw [hd']
 refine wpAny_pure (a:=some dx) (wpAny_bind (wpAny_pure (wpAny_bind ?_)))
 refine wpAny_nsSet1 (s:={s with toks:=s.toks+1}) I.ns fun h' hn2 hs2=>?_
 obtain ⟨oD,esD,epD,hoD,hdD,hcD⟩:=hn2.count (PySem.Within.cons name v hw)
 refine wpAny_bind (wpAny_lookBehind hoD (by rw [hdD];exact pastItsLine_dict (Nat.le_trans hcD (by rw [List.length_cons];omega))) ?_)
 exact wpAny_pure (h _ ⟨(hs2.2 _ (Ne.symm I.ne)).trans I.obj,hn2,I.ne⟩ hs2)
theorem xS {R:Result->Shared->Prop}{vs:List Value}{kw:List (Str×Value)}(X:K.In s.heap)(hm:W.makesIn K C=true)
  (hi:W.findIn K (.ref C) "__init__"=some (some (.ref f))) (hf:W.typeIn K (.ref f)=some (.type "function"))
  (h:codeAny (model prog w) (A.under (.builtin "type.__call__" ⟨.ref C::vs,kw⟩)) (.call (.ref f) ⟨.ref (s.heap.objs.size+1)::vs,kw⟩) (W.InitBack (s.heap.objs.size+1) R)
   {s with heap:=(s.heap.push W.emptyDict).push (W.instObj C s.heap.objs.size)}) :
  codeAny (model prog w) A (.call (.ref C) ⟨vs,kw⟩) R s:=by
 obtain ⟨hh,g,d,t,os⟩:=s
 exact W.make_core (W.makes_of X hm) (W.looks_findIn X hi) (fun self=>W.bind_fn X self hf) (.inl rfl) h
end
noncomputable def aT (f:Str)(v:V):List (Str×V)->List (Str×V)
 | []=>[(f,v)]
 | (g,x)::r=>if g=f then (g,v)::r else (g,x)::aT f v r
theorem nE (f g:Str)(v:V):∀fs:List (Str×V),(aT f v fs).lookup g=if g=f then some v else fs.lookup g
 | []=>by
  show List.lookup g [(f,v)]=_
  by_cases h:g=f
  ·have hb:(g == f)=true:=beq_iff_eq.mpr h
   simp only [List.lookup,hb,if_pos h]
  ·have hb:(g == f)=false:=beq_eq_false_iff_ne.mpr h
   simp only [List.lookup,hb,if_neg h]
 | (k,x)::r=>by
  have ih:=nE f g v r
  rw [show aT f v ((k,x)::r)=(if k=f then (k,v)::r else (k,x)::aT f v r) from rfl]
  by_cases hk:k=f
  ·rw [if_pos hk]
   by_cases h:g=k
   ·have hb:(g == k)=true:=beq_iff_eq.mpr h
    simp only [List.lookup,hb,if_pos (h.trans hk)]
   ·have hb:(g == k)=false:=beq_eq_false_iff_ne.mpr h
    simp only [List.lookup,hb,if_neg (fun e:g=f=>h (e.trans hk.symm))]
  ·rw [if_neg hk]
   by_cases h:g=k
   ·have hb:(g == k)=true:=beq_iff_eq.mpr h
    simp only [List.lookup,hb,if_neg (fun e:g=f=>hk (h.symm.trans e))]
   ·have hb:(g == k)=false:=beq_eq_false_iff_ne.mpr h
    simp only [List.lookup,hb]
    exact ih
theorem mK (f:Str)(v:V):∀fs:List (Str×V),f∈(aT f v fs).map (·.1)/\∀g,g∈fs.map (·.1)->g∈(aT f v fs).map (·.1)
 | []=>⟨by simp [aT],fun g h=>by simp at h⟩
 | (k,x)::r=>by
  obtain ⟨i1,i2⟩:=mK f v r
  rw [show aT f v ((k,x)::r)=(if k=f then (k,v)::r else (k,x)::aT f v r) from rfl]
  by_cases hk:k=f
  ·rw [if_pos hk]
   subst hk
   exact ⟨by simp,fun g h=>by simpa using h⟩
  ·rw [if_neg hk]
   refine ⟨?_,fun g h=>?_⟩
   ·rw [List.map_cons]
    exact List.mem_cons_of_mem _ i1
   ·rw [List.map_cons] at h ⊢
    rcases List.mem_cons.mp h with e | e
    ·exact List.mem_cons.mpr (.inl e)
    ·exact List.mem_cons_of_mem _ (i2 g e)
theorem ju (f:Str)(v:V):∀fs:List (Str×V),(aT f v fs).length<=fs.length+1
 | []=>by simp [aT]
 | (k,x)::r=>by
  have ih:=ju f v r
  rw [show aT f v ((k,x)::r)=(if k=f then (k,v)::r else (k,x)::aT f v r) from rfl]
  by_cases hk:k=f
  ·rw [if_pos hk,List.length_cons,List.length_cons];omega
  ·rw [if_neg hk,List.length_cons,List.length_cons];omega
theorem ql.some_of {v:V}{o:Option Value}(r:ql (some v) o):∃u,o=some u/\bf v u:=by
 cases o with
 | none=>exact (show False from r).elim
 | some u=>exact ⟨u,rfl,r⟩
theorem ql.none_of {o:Option Value}(r:ql none o):o=none:=by
 cases o with
 | none=>rfl
 | some u=>exact (show False from r).elim
theorem wZ {v:V}{u:Value}(r:bf v u):W.handedIn u=true:=by
 cases v with
 | non=>cases (show u=Value.none from r);rfl
 | bl b=>cases (show u=Value.bool b from r);rfl
 | int i=>obtain ⟨t,e⟩:=(show ∃t,u=Value.int i t from r);cases e;rfl
 | str x=>obtain ⟨t,e⟩:=(show ∃t,u=Value.str x t from r);cases e;rfl
 | byt b=>obtain ⟨t,e⟩:=(show ∃t,u=Value.bytes b t from r);cases e;rfl
 | flt b=>obtain ⟨t,e⟩:=(show ∃t,u=Value.float b t from r);cases e;rfl
 | ref a=>cases (show u=Value.ref a from r);rfl
 | ty n=>cases (show u=Value.type n from r);rfl
section
variable {P:Program}{w:World}{H H':Hp}{h h':Heap}{a C dx:Addr}{fs fs':List (Str×V)}
theorem ow (hok:HOk P w H h)(e:H a=some (.ins C dx fs)):∃mA,uQ h a dx C mA/\(∀f,ql (fs.lookup f) (mA f))/\PySem.Within mA (fs.map (·.1))/\fs.length<=1000/\H dx=some (.own a):=by
 obtain ⟨d,z,ne,ob,mA,n,r,q⟩:=(show c4 P w H h a (.ins C dx fs) from hok a _ e)
 exact ⟨mA,⟨ob,n,ne⟩,r,q,z,d⟩
end
structure Cls (K:W.Frag)(C:Addr):Prop where
 pg:W.plainGet K C Str.empty=true
 hd:W.hasDictIn K C=true
 po:W.plainOver K C=true
 sa:W.findIn K (.ref C) "__setattr__"=some (some (.builtin "object.__setattr__"))
theorem Cls.get {K:W.Frag}{C:Addr}(c:Cls K C)(f:Str):W.plainGet K C f=true:=c.pg
def aL (K:W.Frag)(C:Addr)(f:Str):Prop:=W.findIn K (.ref C) f=some none
theorem aL.taker {K:W.Frag}{C:Addr}{f:Str}(n:aL K C f):W.takerIn K C f=some none:=by
 unfold W.takerIn
 rw [show W.findIn K (.ref C) f=some none from n]
 rfl
structure uR (K:W.Frag)(C:Addr)(m:Str)(f:Addr):Prop where
 at_:W.findIn K (.ref C) m=some (some (.ref f))
 fn:W.isFn K (.ref f)=true
 kp:W.keepIn K (.ref f)=true
section
variable {X:Cx}{pins:List (Addr×Obj)}{σ:St}{H:Hp}{s:Shared}{a C dx:Addr}{fs:List (Str×V)}{f:Str}{v:V}{A:Around}{E:Value->Shared->Prop}
theorem uS {b:Bool}{Q:Value->Shared->Prop}(I:Inv X pins σ H s)(e:H a=some (.ins C dx fs))(c:Cls X.K C)(n:aL X.K C f)(l:fs.lookup f=some v)
  (h:∀u s',Inv X pins σ H s'->bf v u->Q u s'):wpAny (model X.prog X.w) A (getAttr (.ref a) f b) Q E s:=by
 obtain ⟨mA,O,r,_,_,_⟩:=ow I.hok e
 obtain ⟨u,hu,ru⟩:=ql.some_of (v:=v) (o:=mA f) (by rw [←l];exact r f)
 exact zG I.kIn O (c.get f) c.hd n hu (wZ ru) (h u _ (I.tok _) ru)
theorem kR {m:Str}{g:Addr}{pl:Sem Bool}{Q:Value×List Value->Shared->Prop}(I:Inv X pins σ H s)(e:H a=some (.ins C dx fs))(c:Cls X.K C)(k:uR X.K C m g)(l:fs.lookup m=none)
  (h:Q (.ref g,[.ref a]) s):wpAny (model X.prog X.w) A (getMethod (.ref a) m pl) Q E s:=by
 obtain ⟨mA,O,r,_,_,_⟩:=ow I.hok e
 have hn:mA m=none:=ql.none_of (by rw [←l];exact r m)
 exact xR I.kIn O (c.get m) k.at_ k.fn hn h
theorem uT {y:V}{u:Value}{Q:Unit->Shared->Prop}(I:Inv X pins σ H s)(e:H a=some (.ins C dx fs))(c:Cls X.K C)(n:aL X.K C f)(hl:fs.length < 1000)(ry:bf y u)
  (h:∀s',Inv X pins σ (upd H a (.ins C dx (aT f y fs))) s'->Q () s'):wpAny (model X.prog X.w) A (setAttr (.ref a) f u) Q E s:=by
 obtain ⟨mA,O,r,wi,_,ho⟩:=ow I.hok e
 have hz:(fs.map (·.1)).length<=sizeLine:=by rw [List.length_map,sizeLine_eq];omega
 refine zH I.kIn O c.sa c.po n.taker c.hd wi hz fun h' O' sb=>h _ ?_
 have hd:∃o,h'.get? dx=some o:=let ⟨o,_,_,e',_⟩:=O'.ns;⟨o,e'⟩
 refine I.write (x:=a) (e:=dx) (by rw [e];exact True.intro) (.inr ho) (fun b q hb z=>(sb.2 b hb).trans z) hd ?_
 refine ⟨by rw [az O.ne];exact ho,?_,O.ne,O'.obj,_,O'.ns,fun g=>?_,fun g hg=>?_⟩
 ·have:=ju f y fs;omega
 ·show ql ((aT f y fs).lookup g) (if g=f then some u else mA g)
  rw [nE]
  by_cases q:g=f
  ·rw [if_pos q,if_pos q];exact ry
  ·rw [if_neg q,if_neg q];exact r g
 ·by_cases q:g=f
  ·rw [q];exact (mK f y fs).1
  ·refine (mK f y fs).2 g (wi g fun z=>hg ?_)
   show (if g=f then some u else mA g)=none
   rw [if_neg q];exact z
theorem Inv.made (I:Inv X pins σ H s):Inv X pins σ (upd (upd H s.heap.objs.size (.own (s.heap.objs.size+1))) (s.heap.objs.size+1) (.ins C s.heap.objs.size []))
  {s with heap:=(s.heap.push W.emptyDict).push (W.instObj C s.heap.objs.size)}:=by
 have e1:(s.heap.push W.emptyDict).get? s.heap.objs.size=some W.emptyDict:=Heap.get?_push_size s.heap rfl
 have e2:((s.heap.push W.emptyDict).push (W.instObj C s.heap.objs.size)).get? (s.heap.objs.size+1)=some (W.instObj C s.heap.objs.size):=by
  have:=Heap.get?_push_size (s.heap.push W.emptyDict) (o:=W.instObj C s.heap.objs.size) rfl
  rwa [Heap.size_push] at this
 have e3:(s.heap.push W.emptyDict).Ns s.heap.objs.size (fun _=>none):=⟨W.emptyDict,#[],_,e1,rfl,(fun e he=>absurd he (by simp)),fun _=>rfl⟩
 have I1:=I.laid (a:=s.heap.objs.size) (o:=.own (s.heap.objs.size+1)) (h':=s.heap.push W.emptyDict) (t':=s.toks) (fun b u q=>Heap.get?_push_of_some _ q) (Nat.le_refl _) ⟨_,e1⟩
 refine I1.laid (a:=s.heap.objs.size+1) (o:=.ins C s.heap.objs.size []) (t':=s.toks) (fun b u q=>Heap.get?_push_of_some _ q) (Nat.le_of_eq (Heap.size_push _ _)) ?_
 have ne:s.heap.objs.size≠s.heap.objs.size+1:=Nat.ne_of_lt (Nat.lt_succ_self _)
 refine ⟨by rw [az ne,ah],Nat.zero_le _,ne,e2,fun _=>none,(Heap.Ns1.of_empty e3).at fun o q=>Heap.get?_push_of_some _ q,fun _=>True.intro,fun y hy=>absurd rfl hy⟩
theorem zI {prog:Program}{w:World}{env:Env}{e:Expr}{f:Str}{pos:Pos}{s:Shared}{Q:Value->Shared->Prop}(hb:attributeBase e f env (eval e env)=eval e env)
  (h:wpAny (model prog w) A (eval e env) (fun o s₁=>wpAny (model prog w) A (getAttr o f true) Q E s₁) E s):wpAny (model prog w) A (eval (.Attribute e f pos) env) Q E s:=
 Attribute_any_ h (by rw [arm_eval_Attribute,hb])
end
noncomputable def Dq (K:W.Frag)(ta:TE)(f:Str):TE:=fun σ H Q=>ta σ H fun x H1=>∃a C dx fs v,x=.ref a/\H1 a=some (.ins C dx fs)/\Cls K C/\aL K C f/\fs.lookup f=some v/\Q v H1
noncomputable def Dr (K:W.Frag)(ta tv:TE)(f:Str):TS:=fun D σ H=>tv σ H fun y H1=>ta σ H1 fun x H2=>∃a C dx fs,x=.ref a/\H2 a=some (.ins C dx fs)/\Cls K C/\aL K C f/\fs.length < 1000/\
 D.nx σ (upd H2 a (.ins C dx (aT f y fs)))
section
variable {X:Cx}{o e value:Expr}{f:Str}{pos pos' tpos:Pos}{ta tv:TE}
theorem BP (he:PE X e ta)(hb:attributeBase e f X.env (eval e X.env)=eval e X.env):PE X (.Attribute e f pos) (Dq X.K ta f):=by
 intro pins s σ H Q I h
 refine zI hb (thn (he pins s σ H _ I h) fun u s1 ⟨x,H1,I1,rx,a,C,dx,fs,v,ex,ea,c,n,l,q⟩=>?_)
 subst ex
 obtain rfl:u=Value.ref a:=rx
 exact uS I1 ea c n l fun u' s2 I2 ru=>⟨v,H1,I2,ru,q⟩
theorem BQ (ha:PE X o ta)(hv:PE X value tv)(hs:swapsWith value (some (.Attribute o f pos')) pos.line X.env=pure false):PS X (.Assign [.Attribute o f pos'] value pos) (Dr X.K ta tv f):=by
 intro pins s σ H D I h
 refine plainObj_wpAny_Assign_Attribute (thn (hv pins s σ H _ I h) fun u s1 ⟨y,H1,I1,ry,q⟩=>thn (ha pins s1 σ H1 _ I1 q) fun ov s2 ⟨x,H2,I2,rx,a,C,dx,fs,ex,ea,c,n,l,q2⟩=>?_) hs
 subst ex
 obtain rfl:ov=Value.ref a:=rx
 exact uT I2 ea c n l ry fun s3 I3=>⟨σ,_,I3,q2⟩
theorem Be {pl:Sem Bool}{m:Str}{apos:Pos}{args:List Expr}{pins:List (Addr×Obj)}{s:Shared}{σ:St}{H:Hp}{Q:Value->Shared->Prop}{te:TE}(he:PE X e te)(I:Inv X pins σ H s)
  (h:te σ H fun x H1=>∃a C dx fs g,x=.ref a/\H1 a=some (.ins C dx fs)/\Cls X.K C/\uR X.K C m g/\fs.lookup m=none/\
   ∀s1,Inv X pins σ H1 s1->wpAny (model X.prog X.w) X.A (callWith pos (.ref g) [.ref a] (backTo pos (starEach args X.env)) (backToKw pos (keywordEach [] X.env))) Q X.xe s1)
  (ht:eval (.Call (.Attribute e m apos) args [] pos) X.env=(do
   let ov ←eval e X.env
   standAt apos.atName
   let (f,first) ←holding [ov] (getMethod ov m pl)
   callWith pos f first (backTo pos (starEach args X.env)) (backToKw pos (keywordEach [] X.env)))) :
  wpAny (model X.prog X.w) X.A (eval (.Call (.Attribute e m apos) args [] pos) X.env) Q X.xe s:=by
 refine W.methodCall_KW (pl:=pl) (thn (he pins s σ H _ I h) fun u s1 ⟨x,H1,I1,rx,a,C,dx,fs,g,ex,ea,c,k,l,q⟩=>?_) ht
 subst ex
 obtain rfl:u=Value.ref a:=rx
 exact kR I1 ea c k l (q s1 I1)
end
section
variable {X:Cx}{pins:List (Addr×Obj)}{σ:St}{H:Hp}{s:Shared}{A:Around}{E:Value->Shared->Prop}{Q:Value->Shared->Prop}{c:Value}{b:Bool}
inductive mL (K:W.Frag)(H:Hp):V->Value->Prop where
 | non:mL K H .non (.type "NoneType")
 | bl (x:Bool):mL K H (.bl x) (.type "bool")
 | int (i:Int):mL K H (.int i) (.type "int")
 | str (x:Str):mL K H (.str x) (.type "str")
 | flt (x:UInt64):mL K H (.flt x) (.type "float")
 | lst {a:Addr} {xs:List V} (e:H a=some (.lst xs)):mL K H (.ref a) (.type "list")
 | frz {a:Addr} {o:Obj} {xs:List V} (e:H a=some (.frz o (.lst xs))):mL K H (.ref a) (.type "list")
 | tup {a:Addr} {xs:List V} (e:H a=some (.tup xs)):mL K H (.ref a) (.type "tuple")
 | dK {a:Addr} {kvs:List (Key×V)} (e:H a=some (.dK kvs)):mL K H (.ref a) (.type "dict")
 | dT {a:Addr} {kvs:List (List Key×V)} (e:H a=some (.dT kvs)):mL K H (.ref a) (.type "dict")
 | ins {a C dx:Addr} {fs:List (Str×V)} (e:H a=some (.ins C dx fs)) (cl:Cls K C) (ha:W.findIn K (.ref C) "__class__"=some (some (.builtin "object.__class__")))
   (hn:W.specialIn K (.builtin "object.__class__") "__get__"=some (some (.builtin "getset_descriptor.__get__"))) (htk:W.takesIn K (.builtin "object.__class__")=some true)
   (hm:W.mroIn K C (.type "object")=some true):mL K H (.ref a) (.ref C)
theorem w6 {x:V}{u t:Value}(I:Inv X pins σ H s)(rx:bf x u)(ty:mL X.K H x t)(e:W.kitOne X.K t c=some b)(h:∀tk,Q (.bool b) {s with toks:=tk}) :
  wpAny (model X.prog X.w) A (call (.builtin "isinstance") [u,c]) Q E s:=by
 cases ty with
 | non=>cases (show u=Value.none from rx);exact W.kia_one W.kitx_none I.kIn True.intro e (fun z=>nomatch z) h
 | bl y=>cases (show u=Value.bool y from rx);exact W.kia_one W.kitx_bool I.kIn True.intro e (fun z=>nomatch z) h
 | int i=>obtain ⟨t,q⟩:=(show ∃t,u=Value.int i t from rx);cases q;exact W.kia_one W.kitx_int I.kIn True.intro e (fun z=>nomatch z) h
 | str y=>obtain ⟨t,q⟩:=(show ∃t,u=Value.str y t from rx);cases q;exact W.kia_one W.kitx_str I.kIn True.intro e (fun z=>nomatch z) h
 | flt y=>obtain ⟨t,q⟩:=(show ∃t,u=Value.float y t from rx);cases q;exact W.kia_one W.kitx_float I.kIn True.intro e (fun z=>nomatch z) h
 | @lst a xs ea=>
  cases (show u=Value.ref a from rx)
  obtain ⟨_,_,n,_,h1⟩:=(show c4 X.prog X.w H s.heap a (.lst xs) from I.hok a _ ea)
  exact W.kia_one W.kitx_list I.kIn ⟨_,h1,rfl⟩ e (fun z=>nomatch z) h
 | @frz a ob xs ea=>
  cases (show u=Value.ref a from rx)
  obtain ⟨_,_,_,n,_,h1⟩:=(show c4 X.prog X.w H s.heap a (.frz ob (.lst xs)) from I.hok a _ ea)
  exact W.kia_one W.kitx_list I.kIn ⟨_,h1,rfl⟩ e (fun z=>nomatch z) h
 | @tup a xs ea=>
  cases (show u=Value.ref a from rx)
  obtain ⟨_,_,_,p⟩:=(show c4 X.prog X.w H s.heap a (.tup xs) from I.hok a _ ea)
  obtain ⟨o,h1,h2,_⟩:=p.tup
  exact W.kia_one W.kitx_tuple I.kIn ⟨o,h1,h2⟩ e (fun z=>nomatch z) h
 | @dK a kvs ea=>
  cases (show u=Value.ref a from rx)
  obtain ⟨_,_,vs,_,p⟩:=(show c4 X.prog X.w H s.heap a (.dK kvs) from I.hok a _ ea)
  obtain ⟨o,es,ep,h1,h2,_⟩:=p
  exact W.kia_one W.kitx_dict I.kIn ⟨o,h1,h2.1⟩ e (fun z=>nomatch z) h
 | @dT a kvs ea=>
  cases (show u=Value.ref a from rx)
  obtain ⟨_,_,xs,_,o,es,ep,h1,h2,_⟩:=(show c4 X.prog X.w H s.heap a (.dT kvs) from I.hok a _ ea)
  exact W.kia_one W.kitx_dict I.kIn ⟨o,h1,h2.1⟩ e (fun z=>nomatch z) h
 | @ins a C dx fs ea cl ha hn htk hm=>
  cases (show u=Value.ref a from rx)
  obtain ⟨mA,O,_⟩:=ow I.hok ea
  obtain ⟨od,J,_⟩:=O.look
  exact W.kia_one (W.kitx_own (cl.get _) cl.hd ha hn htk hm) I.kIn J e (fun z=>nomatch z) h
end
structure cL (k:Nat)(A:Around):Prop where
 hd:A.handled=none
 dp:A.depth+3 * k+5 < recursionLimit
 un:A.units+16 * k+200 < cLine
theorem cL.mono {j k:Nat}{A:Around}(r:cL k A)(h:j<=k):cL j A:=⟨r.hd,by have:=r.dp;omega,by have:=r.un;omega⟩
theorem cL.deeper {k:Nat}{A:Around}(r:cL (k+1) A)(env:Env):cL k (A.deeper env):=
 ⟨r.hd,by have:=r.dp;show A.depth+1+3 * k+5 < _;omega,by have:=r.un;show A.units+3+16 * k+200 < _;omega⟩
theorem uU {A:Around}{C:Addr}{us:List Value}{kw:List (Str×Value)}:(A.under (.builtin "type.__call__" ⟨.ref C::us,kw⟩)).depth=A.depth+1:=by
 first | rfl | simp [Around.under,Code.weight,Code.isCreation,Code.isGuard,Code.isCaller,Code.frames,Code.isFrame,guardIds]
theorem uV {A:Around}{C:Addr}{us:List Value}{kw:List (Str×Value)}:(A.under (.builtin "type.__call__" ⟨.ref C::us,kw⟩)).units=A.units+1:=by
 first | rfl | simp [Around.under,Code.cUnits,Code.frames,Code.isFrame]
theorem cL.make {k:Nat}{A:Around}(r:cL (k+1) A)(C:Addr)(us:List Value)(kw:List (Str×Value)):cL k (A.under (.builtin "type.__call__" ⟨.ref C::us,kw⟩)):=
 ⟨r.hd,by have:=r.dp;rw [uU];omega,by have:=r.un;rw [uV];omega⟩
theorem cL.depth {k:Nat}{A:Around}(r:cL k A):A.depth < recursionLimit:=by have:=r.dp;omega
theorem cL.units0 {k:Nat}{A:Around}(r:cL k A):A.units < cLine:=by have:=r.un;omega
noncomputable def oK:TA:=fun _ H Q=>Q [] H
noncomputable def ip (ta:TE)(tr:TA):TA:=fun σ H Q=>ta σ H fun x H1=>tr σ H1 fun xs H2=>Q (x::xs) H2
section
variable {X:Cx}{e:Expr}{es:List Expr}{te:TE}{t:TA}{pos:Pos}
theorem jv:PA X [] oK:=fun _ _ _ _ H Q I h=>Calls.spliced_nil ⟨[],H,I,.nil,h⟩
theorem gy (ha:PE X e te)(hr:PA X es t)(hs:starEach (e::es) X.env=(false,eval e X.env)::starEach es X.env:=by rfl):PA X (e::es) (ip te t):=by
 intro pos pins s σ H Q I h
 rw [hs]
 show wpAny _ _ (spliced ((false,eval e X.env)::backTo pos (starEach es X.env))) _ _ s
 refine Calls.spliced_cons (thn (ha pins s σ H _ I h) fun u s1 ⟨x,H1,I1,r1,q1⟩=>?_)
 exact thn (hr pos pins s1 σ H1 _ I1 q1) fun us s2 ⟨xs,H2,I2,r2,q2⟩=>⟨x::xs,H2,I2,.cons r1 r2,q2⟩
noncomputable def Ds (t:TA):TE:=fun σ H Q=>t σ H fun xs H1=>xs.length<=sizeLine/\∀p,H1 p=none->Q (.ref p) (upd H1 p (.tup xs))
noncomputable def Du (t:TA):TE:=fun σ H Q=>t σ H fun xs H1=>xs.length<=sizeLine/\∀p,H1 p=none->Q (.ref p) (upd H1 p (.lst xs))
theorem bN {x1}(h:PA X es t):PE X (.Tuple es x1 pos) (Ds t):=by
 intro pins s σ H Q I hq
 refine wpAny_Tuple_spliced (thn (h pos pins s σ H _ I hq) fun us s1 ⟨xs,H1,I1,r,z,q⟩=>⟨by rw [←r.length];exact z,?_⟩)
 have hf:H1 s1.heap.objs.size=none:=I1.hok.fresh (Nat.le_refl _)
 refine ⟨.ref s1.heap.objs.size,upd H1 s1.heap.objs.size (.tup xs),I1.laid (t':=s1.toks) (fun b u e=>Heap.get?_push_of_some _ e) (Nat.le_refl _) ?_,rfl,q _ hf⟩
 exact ⟨z,us,r,⟨_,Heap.get?_push_size _ rfl,⟨rfl,_,rfl⟩,rfl⟩⟩
theorem cv (h:PA X es t):PE X (.List es pos) (Du t):=by
 intro pins s σ H Q I hq
 refine wpAny_List_spliced (thn (h pos pins s σ H _ I hq) fun us s1 ⟨xs,H1,I1,r,z,q⟩=>⟨by rw [←r.length];exact z,?_⟩)
 have hf:H1 s1.heap.objs.size=none:=I1.hok.fresh (Nat.le_refl _)
 refine ⟨.ref s1.heap.objs.size,upd H1 s1.heap.objs.size (.lst xs),I1.laid (t':=s1.toks) (fun b u e=>Heap.get?_push_of_some _ e) (Nat.le_refl _) ?_,rfl,q _ hf⟩
 exact ⟨z,us,0,r,Heap.get?_push_size _ rfl⟩
end
noncomputable abbrev Sp:=List V->Hp->VK->XK->Prop
noncomputable abbrev CXT:=List Env->Hp->Shared->XK->Value->Shared->Prop
structure uW (P:Program)(w:World)(K:W.Frag)(mg:Str->Option Value)(base:Heap)(A:Around)(outer:List Env)(s:Shared)(H:Hp):Prop where
 frames:A.frames=some outer
 mod:Mod K mg base
 bs:∀b o,base.get? b=some o->s.heap.get? b=some o/\H b=none
 bsz:base.objs.size<=s.heap.objs.size
 funs:s.heap.FunFrames base outer
 frf:∀b∈frs outer,H b=none
 hok:HOk P w H s.heap
 bare:AllBare s.gens
def CE (outer:List Env)(P:Program)(w:World)(H:Hp)(s:Shared)(Q:VK)(u:Value)(s':Shared):Prop:=
 ∃v H',s'.os=s.os/\AllBare s'.gens/\Un (frs outer) [] H H' s.heap s'.heap/\HOk P w H' s'.heap/\bf v u/\Q v H'
def CR (CX:CXT)(outer:List Env)(P:Program)(w:World)(H:Hp)(s:Shared)(Q:VK)(E:XK)(r:Result)(s':Shared):Prop:=
 match r with
 | .ok (.ret u)=>CE outer P w H s Q u s'
 | .ok _=>False
 | .error e=>CX outer H s E e s'
structure fo (P:Program)(w:World)(K:W.Frag)(mg:Str->Option Value)(base:Heap)(CX:CXT)(k:Nat)(f:Addr)(fd:FuncData)(ps:List Str)(sp:Sp):Prop where
 len:∀vs H Q E,sp vs H Q E->vs.length=ps.length
 run:∀(A:Around) (outer:List Env) (s:Shared) (H:Hp) (args:Args) (us:List Value) (vs:List V) (Q:VK) (E:XK),cL k A->uW P w K mg base A outer s H->BindsTo s fd args (ps.zip us)->ba vs us->sp vs H Q E->
  codeAny (model P w) A (.call (.ref f) args) (CR CX outer P w H s Q E) s
theorem fo.imp {P:Program}{w:World}{K:W.Frag}{mg:Str->Option Value}{base:Heap}{CX:CXT}{k:Nat}{f:Addr}{fd:FuncData}{ps:List Str}{sp sp':Sp}(F:fo P w K mg base CX k f fd ps sp)
  (h:∀vs H Q E,sp' vs H Q E->sp vs H Q E):fo P w K mg base CX k f fd ps sp':=
 ⟨fun vs H Q E q=>F.len vs H Q E (h _ _ _ _ q),fun A outer s H args us vs Q E hr he hb hv hs=>F.run A outer s H args us vs Q E hr he hb hv (h _ _ _ _ hs)⟩
theorem uW.make {P:Program}{w:World}{K:W.Frag}{mg:Str->Option Value}{base:Heap}{A:Around}{outer:List Env}{s:Shared}{H:Hp}(e:uW P w K mg base A outer s H)(C:Addr)(us:List Value)(kw:List (Str×Value)) :
  uW P w K mg base (A.under (.builtin "type.__call__" ⟨.ref C::us,kw⟩)) outer s H:=⟨by first | exact e.frames | (simpa [Around.under,Code.envs,Code.isFrame,pushEnvs] using e.frames),e.mod,e.bs,e.bsz,e.funs,e.frf,e.hok,e.bare⟩
section
variable {X:Cx}{pins:List (Addr×Obj)}{σ:St}{H:Hp}{s s':Shared}
theorem Inv.env0 (I:Inv X pins σ H s):uW X.prog X.w X.K X.mg X.base X.A X.stack s H:=
 ⟨I.ok.frames,I.ok.mod,I.bs,Nat.le_trans I.ok.bsz I.sz,I.stack,I.stkFree,I.hok,I.bare⟩
theorem Inv.after {Q:VK}{u:Value}(I:Inv X pins σ H s)(h:CE X.stack X.prog X.w H s Q u s'):EP X pins σ Q u s':=by
 obtain ⟨v,H',os,bare,un,hok,r,q⟩:=h
 obtain ⟨hh,g,d,t,os'⟩:=s'
 obtain rfl:os'=s.os:=os
 exact ⟨v,H',I.call (h':=hh) (g':=g) (d':=d) (t':=t) (ch:=[]) un hok bare (fun b z=>absurd z (by simp)),r,q⟩
end
noncomputable def vX (sp:Sp)(dvs:List V)(E:XK)(t:TA):TE:=fun σ H Q=>t σ H fun vs H1=>sp (vs++dvs) H1 Q E
noncomputable def qV (C:Addr)(m:Str)(sp:Sp)(dvs:List V)(E:XK)(ta:TE)(t:TA):TE:=fun σ H Q=>ta σ H fun x H1=>∃a dx fs,x=.ref a/\H1 a=some (.ins C dx fs)/\fs.lookup m=none/\
 t σ H1 fun vs H2=>sp (x::(vs++dvs)) H2 Q E
noncomputable def xT (C:Addr)(sp:Sp)(dvs:List V)(E:XK)(t:TA):TE:=fun σ H Q=>t σ H fun vs H1=>∀x dx,H1 x=none->H1 dx=none->dx≠x->
 sp (.ref x::(vs++dvs)) (upd (upd H1 dx (.own x)) x (.ins C dx [])) (fun v H2=>v=.non/\Q (.ref x) H2) E
def cS (K:W.Frag)(fd:FuncData)(ps:List Str)(ds:List Value):Prop:=
 ∀(s:Shared) (us:List Value),K.In s.heap->(us++ds).length=ps.length->BindsTo s fd ⟨us,[]⟩ (ps.zip (us++ds))
theorem cS.all {K:W.Frag}{fd:FuncData}{ps:List Str}(h:∀us:List Value,us.length=ps.length->bindArgs fd ⟨us,[]⟩=pure (ps.zip us)):cS K fd ps []:=fun s us _ hl=>by
 rw [List.append_nil] at hl ⊢
 exact .of_eq (h us hl)
def dM (CX:CXT)(X:Cx)(E:XK):Prop:=∀(pins:List (Addr×Obj)) (σ:St) (H:Hp) (s:Shared) (e:Value) (s':Shared),Inv X pins σ H s->CX X.stack H s E e s'->X.xe e s'
section
variable {X:Cx}{CX:CXT}{k:Nat}{f C:Addr}{fd:FuncData}{ps:List Str}{sp:Sp}{dvs:List V}{ds:List Value}{E:XK}{x m:Str}{p pos apos:Pos}{e o:Expr}{es:List Expr}{ta:TE}{t:TA}
theorem uX {pins:List (Addr×Obj)}{σ:St}{H:Hp}{s:Shared}{Q:VK}{us:List Value}{vs:List V}(F:fo X.prog X.w X.K X.mg X.base CX k f fd ps sp)(hr:cL k X.A)(hb:cS X.K fd ps ds)(hd:ba dvs ds)(hx:dM CX X E)
  (I:Inv X pins σ H s) (r:ba vs us) (h:sp (vs++dvs) H Q E):wpAny (model X.prog X.w) X.A (call (.ref f) us) (EP X pins σ Q) X.xe s:=by
 have r2:ba (vs++dvs) (us++ds):=r.append hd
 have hl:(us++ds).length=ps.length:=by rw [←r2.length];exact F.len _ _ _ _ h
 refine wpAny_call (codeAny_mono (F.run X.A X.stack s H ⟨us,[]⟩ (us++ds) (vs++dvs) Q E hr I.env0 (hb s us I.kIn hl) r2 h) fun r s' hq=>?_)
 cases r with
 | error e=>exact hx pins σ H s e s' I hq
 | ok fl=>
  cases fl with
  | ret u=>exact I.after hq
  | next=>exact False.elim hq
  | brk=>exact False.elim hq
  | cont=>exact False.elim hq
theorem zJ (F:fo X.prog X.w X.K X.mg X.base CX k f fd ps sp)(hr:cL k X.A)(hg:Gl X x)(hm:X.mg x=some (.ref f))(hk:W.keepIn X.K (.ref f)=true)(hb:cS X.K fd ps ds)(hd:ba dvs ds)(hx:dM CX X E)
  (ha:PA X (e::es) t) (hdb:(x == ("__debug__":Str))=false:=by decide) (he:starEach (e::es) X.env=(false,eval e X.env)::starEach es X.env:=by rfl) (hpl:(backTo pos (starEach es X.env)).any (·.1)=false:=by rfl) :
  PE X (.Call (.Name x p) (e::es) [] pos) (vX sp dvs E t):=by
 intro pins s σ H Q I h
 refine wpAny_Call_Name_kw (ot I hg hm ?_ hdb)
 refine W.callWith_K (h₀:=X.base) I.ok.mod.kin hk (thn (ha pos pins s σ H _ I h) fun us s1 ⟨vs,H1,I1,r,q⟩=>⟨I1.kIn,?_⟩) he hpl
 exact uX F hr hb hd hx I1 r q
theorem zK {pl:Sem Bool}(he:PE X o ta)(c:Cls X.K C)(hm:uR X.K C m f)(F:fo X.prog X.w X.K X.mg X.base CX k f fd ps sp)(hr:cL k X.A)(hb:cS X.K fd ps ds)(hd:ba dvs ds)(hx:dM CX X E)(ha:PA X (e::es) t)
  (hst:starEach (e::es) X.env=(false,eval e X.env)::starEach es X.env:=by rfl) (hpl:(backTo pos (starEach es X.env)).any (·.1)=false:=by rfl)
  (ht:eval (.Call (.Attribute o m apos) (e::es) [] pos) X.env=(do
   let ov ←eval o X.env
   standAt apos.atName
   let (f,first) ←holding [ov] (getMethod ov m pl)
   callWith pos f first (backTo pos (starEach (e::es) X.env)) (backToKw pos (keywordEach [] X.env))):=by rfl) :
  PE X (.Call (.Attribute o m apos) (e::es) [] pos) (qV C m sp dvs E ta t):=by
 intro pins s σ H Q I h
 refine W.methodCall_KW (pl:=pl) (thn (he pins s σ H _ I h) fun u s1 ⟨x,H1,I1,rx,a,dx,fs,ex,ea,l,q⟩=>?_) ht
 subst ex
 obtain rfl:u=Value.ref a:=rx
 refine kR I1 ea c hm l ?_
 refine W.callWith_K (first:=[.ref a]) (h₀:=X.base) I.ok.mod.kin hm.kp (thn (ha pos pins s1 σ H1 _ I1 q) fun us s2 ⟨vs,H2,I2,r,q2⟩=>⟨I2.kIn,?_⟩) hst hpl
 exact uX (us:=.ref a::us) (vs:=.ref a::vs) F hr hb hd hx I2 (.cons rfl r) q2
theorem xU {pl:Sem Bool}(he:PE X o ta)(c:Cls X.K C)(hm:uR X.K C m f)(F:fo X.prog X.w X.K X.mg X.base CX k f fd ps sp)(hr:cL k X.A)(hb:cS X.K fd ps ds)(hd:ba dvs ds)(hx:dM CX X E)
  (ht:eval (.Call (.Attribute o m apos) [] [] pos) X.env=(do
   let ov ←eval o X.env
   standAt apos.atName
   let (f,first) ←holding [ov] (getMethod ov m pl)
   callWith pos f first (backTo pos (starEach [] X.env)) (backToKw pos (keywordEach [] X.env))):=by rfl) :
  PE X (.Call (.Attribute o m apos) [] [] pos) (qV C m sp dvs E ta oK):=by
 intro pins s σ H Q I h
 refine W.methodCall_KW (pl:=pl) (thn (he pins s σ H _ I h) fun u s1 ⟨x,H1,I1,rx,a,dx,fs,ex,ea,l,q⟩=>?_) ht
 subst ex
 obtain rfl:u=Value.ref a:=rx
 refine kR I1 ea c hm l ?_
 exact W.callWith_K0 (first:=[.ref a]) I1.kIn hm.kp (uX (us:=[.ref a]) (vs:=[.ref a]) F hr hb hd hx I1 (.cons rfl .nil) q)
structure Mk (K:W.Frag)(C f:Addr):Prop where
 makes:W.makesIn K C=true
 init:W.findIn K (.ref C) "__init__"=some (some (.ref f))
 fn:W.isFn K (.ref f)=true
 kp:W.keepIn K (.ref C)=true
theorem xV {pins:List (Addr×Obj)}{σ:St}{H:Hp}{s:Shared}{Q:VK}{us:List Value}{vs:List V}(M:Mk X.K C f)(F:fo X.prog X.w X.K X.mg X.base CX k f fd ps sp)(hr:cL (k+1) X.A)(hb:cS X.K fd ps ds)(hd:ba dvs ds)
  (hx:dM CX X E) (I:Inv X pins σ H s) (r:ba vs us)
  (h:∀x dx,H x=none->H dx=none->dx≠x->sp (.ref x::(vs++dvs)) (upd (upd H dx (.own x)) x (.ins C dx [])) (fun v H2=>v=.non/\Q (.ref x) H2) E) :
  wpAny (model X.prog X.w) X.A (call (.ref C) us) (EP X pins σ Q) X.xe s:=by
 have hq:=h (s.heap.objs.size+1) s.heap.objs.size (I.hok.fresh (Nat.le_succ _)) (I.hok.fresh (Nat.le_refl _)) (Nat.ne_of_lt (Nat.lt_succ_self _))
 have I2:=Inv.made (C:=C) I
 have r2:ba (V.ref (s.heap.objs.size+1)::(vs++dvs)) (Value.ref (s.heap.objs.size+1)::(us++ds)):=.cons rfl (r.append hd)
 have hl:(Value.ref (s.heap.objs.size+1)::us++ds).length=ps.length:=by
  have e:=r2.length
  rw [F.len _ _ _ _ hq] at e
  exact e.symm
 refine wpAny_call (xS (f:=f) I.kIn M.makes M.init (beq_iff_eq.mp M.fn) (codeAny_mono (F.run _ X.stack _ _ ⟨Value.ref (s.heap.objs.size+1)::us,[]⟩ (Value.ref (s.heap.objs.size+1)::(us++ds)) _ _ E (hr.make C us [])
  (I2.env0.make C us []) (hb _ (Value.ref (s.heap.objs.size+1)::us) I2.kIn hl) r2 hq) fun r s' hq'=>?_))
 cases r with
 | error e=>exact hx pins σ _ _ e s' I2 hq'
 | ok fl=>
  cases fl with
  | ret u=>
   obtain ⟨v,H',I3,rv,ev,q3⟩:=I2.after hq'
   subst ev
   exact ⟨rv,⟨V.ref (s.heap.objs.size+1),H',I3,rfl,q3⟩⟩
  | next=>exact False.elim hq'
  | brk=>exact False.elim hq'
  | cont=>exact False.elim hq'
theorem zL (M:Mk X.K C f)(F:fo X.prog X.w X.K X.mg X.base CX k f fd ps sp)(hr:cL (k+1) X.A)(hg:Gl X x)(hm:X.mg x=some (.ref C))(hb:cS X.K fd ps ds)(hd:ba dvs ds)(hx:dM CX X E)
  (ha:PA X (e::es) t) (hdb:(x == ("__debug__":Str))=false:=by decide) (he:starEach (e::es) X.env=(false,eval e X.env)::starEach es X.env:=by rfl) (hpl:(backTo pos (starEach es X.env)).any (·.1)=false:=by rfl) :
  PE X (.Call (.Name x p) (e::es) [] pos) (xT C sp dvs E t):=by
 intro pins s σ H Q I h
 refine wpAny_Call_Name_kw (ot I hg hm ?_ hdb)
 refine W.callWith_K (h₀:=X.base) I.ok.mod.kin M.kp (thn (ha pos pins s σ H _ I h) fun us s1 ⟨vs,H1,I1,r,q⟩=>⟨I1.kIn,?_⟩) he hpl
 exact xV M F hr hb hd hx I1 r q
end
structure au (N P:List Str)(sc:Scope):Prop where
 kind:sc.kind=.function
 co:sc.isCoroutine=false
 gen:sc.isGenerator=false
 nd:N.Nodup
 pre:N.take P.length=P
 par:∀x∈P,sc.names.lookup x=some .local\/sc.names.lookup x=some .cell
 nofree:∀y∈sc.names,y.2≠.free
theorem qW {kindOf:Str->Option NameKind}{x:Str}:∀{binds:List (Str×Value)} {m:Str->Option Value},(∀v,(x,v)∉binds)->bindL kindOf binds m x=m x
 | [],_,_=>rfl
 | (n,v)::r,m,h=>by
  unfold bindL
  rw [qW fun w hw=>h w (List.mem_cons_of_mem _ hw)]
  split
  ·have:x≠n:=by rintro rfl;exact h v List.mem_cons_self
   simp [this]
  ·rfl
theorem qX {kindOf:Str->Option NameKind}{x:Str}:∀{binds:List (Str×Value)} {m:Str->Option Value},(∀v,(x,v)∉binds)->bindC kindOf binds m x=m x
 | [],_,_=>rfl
 | (n,v)::r,m,h=>by
  unfold bindC
  rw [qX fun w hw=>h w (List.mem_cons_of_mem _ hw)]
  split
  ·rfl
  ·have:x≠n:=by rintro rfl;exact h v List.mem_cons_self
   simp [this]
theorem qY {kindOf:Str->Option NameKind}{x:Str}{v:Value}:∀{P:List Str} {vs:List Value} {i:Nat} {m:Str->Option Value},P.Nodup->P[i]?=some x->vs[i]?=some v->kindOf x=some .local->
  bindL kindOf (P.zip vs) m x=some v
 | [],_,_,_,_,h,_,_=>by simp at h
 | _::_,[],_,_,_,_,h,_=>by simp at h
 | p::P,w::vs,0,m,nd,h1,h2,hk=>by
  simp at h1 h2;subst h1;subst h2
  show bindL kindOf ((p,w)::P.zip vs) m p=_
  unfold bindL
  rw [qW fun v hv=>(List.nodup_cons.mp nd).1 (List.of_mem_zip hv).1,if_pos hk]
  simp
 | p::P,w::vs,i+1,m,nd,h1,h2,hk=>by
  show bindL kindOf ((p,w)::P.zip vs) m x=_
  unfold bindL
  exact qY (i:=i) (List.nodup_cons.mp nd).2 (by simpa using h1) (by simpa using h2) hk
theorem qZ {kindOf:Str->Option NameKind}{x:Str}{v:Value}:∀{P:List Str} {vs:List Value} {i:Nat} {m:Str->Option Value},P.Nodup->P[i]?=some x->vs[i]?=some v->kindOf x≠some .local->
  bindC kindOf (P.zip vs) m x=some v
 | [],_,_,_,_,h,_,_=>by simp at h
 | _::_,[],_,_,_,_,h,_=>by simp at h
 | p::P,w::vs,0,m,nd,h1,h2,hk=>by
  simp at h1 h2;subst h1;subst h2
  show bindC kindOf ((p,w)::P.zip vs) m p=_
  unfold bindC
  rw [qX fun v hv=>(List.nodup_cons.mp nd).1 (List.of_mem_zip hv).1,if_neg hk]
  simp
 | p::P,w::vs,i+1,m,nd,h1,h2,hk=>by
  show bindC kindOf ((p,w)::P.zip vs) m x=_
  unfold bindC
  exact qZ (i:=i) (List.nodup_cons.mp nd).2 (by simpa using h1) (by simpa using h2) hk
noncomputable def jl (N:List Str)(vs:List V):St:=vs.map some++List.replicate (N.length - vs.length) none
noncomputable def qo (CX:CXT)(P:Program)(w:World)(K:W.Frag)(mg:Str->Option Value)(base:Heap)(N:List Str)(qual:Str)(scope:Scope)(f:Addr)(cd:Value)(A:Around)(outer:List Env)(s:Shared)(H:Hp)(E:XK):Cx where
 prog:=P
 w:=w
 K:=K
 mg:=mg
 base:=base
 A:=A.deeper (envOfC qual scope s.heap.objs.size f cd)
 N:=N
 s₀:=s
 H₀:=H
 env:=envOfC qual scope s.heap.objs.size f cd
 outer:=outer
 stack:=envOfC qual scope s.heap.objs.size f cd::outer
 ex:=[]
 calm:=true
 fn:=fun _=>true
 pn:=[]
 xe:=fun e s'=>wpAny (model P w) (A.deeper (envOfC qual scope s.heap.objs.size f cd)) (leaving (envOfC qual scope s.heap.objs.size f cd) e) (fun _ s''=>CX outer H s E e s'') (fun e' s''=>CX outer H s E e' s'') s'
theorem tP {sc:Scope}{n:Nat}{x:Str}(h:sc.names.lookup x=some .cell):∃c,(cellsFrom n sc.names []).lookup x=some c:=by
 have q:=W.cellsFrom_some sc.names n [] (.inl h)
 exact Option.isSome_iff_exists.mp q
theorem w8 {CX:CXT}{P:Program}{w:World}{K:W.Frag}{mg:Str->Option Value}{base:Heap}{N ps:List Str}{qual:Str}{scope:Scope}{f:Addr}{cd:Value}{A:Around}{outer:List Env}{s s1:Shared}{H:Hp}{E:XK}{us:List Value}{vs:List V}
  (S:au N ps scope) (hd:A.handled=none) (e0:uW P w K mg base A outer s H) (hl:vs.length=ps.length) (r:ba vs us)
  (x:InCallC s s.heap.objs.size (bindL (envOfC qual scope s.heap.objs.size f cd).kindOf (ps.zip us) fun _=>none) (cellsFrom (s.heap.objs.size+1) scope.names []) (bindC (envOfC qual scope s.heap.objs.size f cd).kindOf (ps.zip us) fun _=>none) s1) :
  Inv (qo CX P w K mg base N qual scope f cd A outer s H E) [] (jl N vs) H s1:=by
 have hpl:ps.length<=N.length:=by have:=congrArg List.length S.pre;rw [List.length_take] at this;omega
 obtain ⟨h1,tk,rfl,hk⟩:=x.done
 have noA:∀b:Addr,b∉(qo CX P w K mg base N qual scope f cd A outer s H E).ex:=fun b z=>absurd (show b∈([]:List Addr) from z) (by simp)
 refine ⟨⟨e0.mod,S.kind,rfl,rfl,Nat.le_refl _,fun y z c h1 h2=>?_,fun y hy=>?_,fun y c _ h=>?_,fun _=>hd,Around.frames_deeper e0.frames,.inr ⟨rfl,rfl⟩,fun b z=>absurd z (noA b),e0.bs,e0.bsz,fun b _ _=>noA b,fun b z=>absurd z (noA b),e0.funs,e0.frf⟩,
  rfl,e0.bare,Un.kept hk,⟨_,x.toInCall.ns,fun i y v h1 h2 h3=>?_⟩,fun y c h=>⟨_,x.cell y c h⟩,e0.hok.fresh (Nat.le_refl _),fun y c h=>?_,fun p hp=>absurd (show p∈([]:List (Addr×Obj)) from hp) (by simp),e0.hok.kept hk,?_⟩
 ·exact name_of_addr x.apart (PySem.mem_of_lookup h1) (PySem.mem_of_lookup h2)
 ·have hy:scope.names.lookup y=some .cell\/scope.names.lookup y=some .free:=hy
  rcases hy with hy | hy
  ·exact tP hy
  ·exact absurd rfl (S.nofree _ (PySem.mem_of_lookup hy))
 ·exact Nat.le_of_lt (x.above y c (PySem.mem_of_lookup h))
 ·have hi:i < vs.length:=by
   unfold jl at h2
   by_cases hi:i < vs.length
   ·exact hi
   ·rw [List.getElem?_append_right (by simpa using hi)] at h2
    rw [List.getElem?_replicate] at h2
    split at h2<;>cases h2
  have ha:vs[i]?=some v:=by
   unfold jl at h2
   rw [List.getElem?_append_left (by simpa using hi),List.getElem?_map] at h2
   cases e:vs[i]? with
   | none=>rw [e] at h2;cases h2
   | some a=>rw [e] at h2;cases h2;rfl
  obtain ⟨u,hu,rv⟩:=r.get ha
  have hp:ps[i]?=some y:=by
   rw [←S.pre,List.getElem?_take_of_lt (by omega)];exact h1
  have ndP:ps.Nodup:=by rw [←S.pre];exact S.nd.sublist (List.take_sublist _ _)
  refine ⟨u,rv,?_⟩
  rcases S.par y (List.mem_of_getElem? hp) with k | k
  ·exact .inl ⟨k,qY ndP hp hu k⟩
  ·obtain ⟨c,e⟩:=tP (n:=s.heap.objs.size+1) k
   refine .inr ⟨.inl k,c,e,?_⟩
   have q:=x.cell y c e
   rw [qZ ndP hp hu (by show scope.names.lookup y≠_;rw [k];decide)] at q
   exact q
 ·exact e0.hok.fresh (Nat.le_of_lt (x.above y c (PySem.mem_of_lookup h)))
 ·unfold jl
  show _=N.length
  rw [List.length_append,List.length_map,List.length_replicate]
  omega
theorem Bf {CX:CXT}{P:Program}{w:World}{K:W.Frag}{mg:Str->Option Value}{base:Heap}{k:Nat}{f:Addr}{name qual:Str}{params:Arguments}{body:List Stmt}{scope:Scope}{dV kV doc pm cdv ct oc:Value}{an od:Option Addr}
  {osl:Array (Option Value)} {N ps:List Str} {sp:Sp} (lk:K.lookup f=some ⟨oc,od,.func (W.fnOf name qual params body scope dV kV doc pm an cdv ct),osl⟩) (hcd:W.codeIn K cdv qual=true) (S:au N ps scope)
  (len:∀vs H Q E,sp vs H Q E->vs.length=ps.length)
  (hbody:∀(A:Around) (outer:List Env) (s:Shared) (H:Hp) (vs:List V) (Q:VK) (E:XK),cL k (A.deeper (envOfC qual scope s.heap.objs.size f cdv))->sp vs H Q E->
   ∃t,PSs (qo CX P w K mg base N qual scope f cdv A outer s H E) body t/\t {nx:=fun _ H'=>Q .non H',rt:=Q} (jl N vs) H) :
  fo P w K mg base CX (k+1) f (W.fnOf name qual params body scope dV kV doc pm an cdv ct) ps sp:=by
 refine ⟨len,fun A outer s H args us vs Q E hr e0 hb r hsp=>?_⟩
 have hl:=len _ _ _ _ hsp
 have KX:K.In s.heap:=e0.mod.kin.keeps fun b o e=>(e0.bs b o e).1
 have lim:s.heap.NoLimit:=e0.mod.nolimit.keeps fun b o e=>(e0.bs b o e).1
 have hkind:∀y∈ps.zip us,scope.names.lookup y.1=some .local\/(scope.names.lookup y.1=some .cell/\((cellsFrom (s.heap.objs.size+1) scope.names []).lookup y.1).isSome=true):=fun ⟨n,v⟩ hy=>by
  rcases S.par n (List.of_mem_zip hy).1 with q | q
  ·exact .inl q
  ·exact .inr ⟨q,W.cellsFrom_some _ _ _ (.inl q)⟩
 refine codeAny_call_function hr.depth (KX _ _ lk) rfl S.co S.gen rfl (W.codeRec_of KX hcd) (hb _ _ _ _ ?_)
 refine wpAny_newFunctionEnv_cells S.kind hkind fun env he s1 x=>?_
 subst he
 refine ⟨lim.keeps x.toInCall.keep,codeAny_func ?_⟩
 obtain ⟨t,ht,hq⟩:=hbody A outer s H vs Q E (hr.deeper _) hsp
 have I:Inv (qo CX P w K mg base N qual scope f cdv A outer s H E) [] (jl N vs) H s1:=w8 S hr.hd e0 hl r x
 refine wpAny_mono (ht [] s1 (jl N vs) H _ I hq) (fun fl s' hs=>?_) fun e s' hs=>hs
 have fin:∀{σ':St} {H':Hp} {v:V} {u:Value},Inv (qo CX P w K mg base N qual scope f cdv A outer s H E) [] σ' H' s'->bf v u->Q v H'->CE outer P w H s Q u s':=
  fun {σ' H' v u} J rv q=>⟨v,H',J.os,J.bare,J.base,J.hok,rv,q⟩
 cases fl with
 | ret u=>
  obtain ⟨v,σ',H',J,rv,q⟩:=hs
  exact fin J rv q
 | next=>
  obtain ⟨σ',H',J,q⟩:=hs
  exact fin (v:=V.non) (u:=Value.none) J rfl q
 | brk=>
  obtain ⟨_,_,_,q⟩:=hs
  exact False.elim q
 | cont=>
  obtain ⟨_,_,_,q⟩:=hs
  exact False.elim q
section
variable {X:Cx}{x:Str}{p pos:Pos}{e:Expr}{es:List Expr}{t:TA}{id T:String}{r:List V->Hp->VK->Prop}
noncomputable def tCB (r:List V->Hp->VK->Prop)(t:TA):TE:=fun σ H Q=>t σ H fun vs H1=>r vs H1 Q
theorem ay (hc:fJ X (.builtin id) r)(hg:Gl X x)(hm:X.mg x=none)(hv:bootBuiltins x=some (.builtin id))(ha:PA X (e::es) t)(hn:x≠"__name__":=by decide)(hdb:(x == ("__debug__":Str))=false:=by decide)
  (he:starEach (e::es) X.env=(false,eval e X.env)::starEach es X.env:=by rfl) (hpl:(backTo pos (starEach es X.env)).any (·.1)=false:=by rfl):PE X (.Call (.Name x p) (e::es) [] pos) (tCB r t):=by
 intro pins s σ H Q I h
 refine wpAny_Call_Name_kw (js I hg hm hv ?_ hn hdb)
 exact PyProof.Rows.callWith_builtin1 (thn (ha pos pins s σ H _ I h) fun us s1 ⟨vs,H1,I1,r1,q1⟩=>hc pins s1 σ H1 vs us Q I1 r1 q1) he hpl
theorem cJ (hc:fJ X (.type T) r)(hg:Gl X x)(hm:X.mg x=none)(hv:bootBuiltins x=some (.type T))(ha:PA X (e::es) t)(hn:x≠"__name__":=by decide)(hdb:(x == ("__debug__":Str))=false:=by decide)
  (he:starEach (e::es) X.env=(false,eval e X.env)::starEach es X.env:=by rfl) (hpl:(backTo pos (starEach es X.env)).any (·.1)=false:=by rfl):PE X (.Call (.Name x p) (e::es) [] pos) (tCB r t):=by
 intro pins s σ H Q I h
 refine wpAny_Call_Name_kw (js I hg hm hv ?_ hn hdb)
 exact PyProof.Rows.callWith_type1 (thn (ha pos pins s σ H _ I h) fun us s1 ⟨vs,H1,I1,r1,q1⟩=>hc pins s1 σ H1 vs us Q I1 r1 q1) he hpl
end
end L2
namespace HT
open PySem PyProof.Rows
section
open PySem.SeqAt
open PySem.AutoSeq1 (wpAny_loadPart')
open PySem.MeetsSeq PySem.MeetsSeq2 PySem.MeetsSeq3
end
section
variable {prog:Program}{w:World}{A:Around}{E:Value->Shared->Prop}{s:Shared}
noncomputable def sIx (n d:Nat):Option Int->Nat
 | none=>d
 | some v=>if v < 0 then (v+(n:Int)).toNat else min v.toNat n
theorem zM (n d k:Nat):sIx n d (some (k:Int))=min k n:=by
 show (if (k:Int) < 0 then ((k:Int)+(n:Int)).toNat else min (k:Int).toNat n)=min k n
 rw [if_neg (by omega),Int.toNat_natCast]
theorem zN (v:Int)(n d:Nat):(if v < 0 then max (v+(n:Int)) 0 else min v (n:Int))=((sIx n d (some v):Nat):Int):=by
 show (if v < 0 then max (v+(n:Int)) 0 else min v (n:Int))=(((if v < 0 then (v+(n:Int)).toNat else min v.toNat n):Nat):Int)
 by_cases hv:v < 0
 ·simp only [if_pos hv];omega
 ·simp only [if_neg hv];omega
end
end HT
namespace L2
open PySem PySem.Spec PyProof.Rows
noncomputable abbrev TO:=St->Hp->(Option Int->Hp->Prop)->Prop
def PO (X:Cx)(e:Option Expr)(t:TO):Prop:=
 ∀(pins:List (Addr×Obj)) (s:Shared) (σ:St) (H:Hp) (Q:Option Int->Hp->Prop),Inv X pins σ H s->t σ H Q->
  wpAny (model X.prog X.w) X.A (evalPart e X.env) (fun u s'=>∃o H',Inv X pins σ H' s'/\IsPart u o/\Q o H') X.xe s
noncomputable def zO:TO:=fun _ H Q=>Q none H
noncomputable def Bg (t:TE):TO:=fun σ H Q=>t σ H fun x H1=>∃i,x=.int i/\Q (some i) H1
theorem uY {ns:List Int}:∀{us:List Value},ba (ns.map V.int) us->IntsAre us ns:=by
 induction ns with
 | nil=>intro us r;rw [List.map_nil] at r;cases r;exact .nil
 | cons n ns ih=>
  intro us r
  rw [List.map_cons] at r
  cases r with
  | cons r1 r2=>
   obtain ⟨t,e⟩:=r1
   subst e
   exact .cons n t (ih r2)
section
variable {X:Cx}{e:Expr}{te:TE}{lo hi:Option Expr}{tl th:TO}{pos p2:Pos}
theorem zP (h:PE X e te):PO X (some e) (Bg te):=by
 intro pins s σ H Q I hw
 rw [evalPart_some]
 refine thn (h pins s σ H _ I hw) fun u s1 ⟨x,H1,I1,r1,q1⟩=>?_
 obtain ⟨i,rfl,q⟩:=q1
 obtain ⟨t,rfl⟩:=r1
 exact ⟨some i,H1,I1,.int i t,q⟩
def SlR (X:Cx)(r:V->Option Int->Option Int->Hp->VK->Prop):Prop:=
 ∀(pins:List (Addr×Obj)) (s:Shared) (σ:St) (H:Hp) (x:V) (v vl vu:Value) (lo hi:Option Int) (sl:Addr) (Q:VK),Inv X pins σ H s->bf x v->s.heap.IsSliceOf sl vl vu .none->IsPart vl lo->IsPart vu hi->r x lo hi H Q->
  ∃T id,typeLookup (.type T) "__getitem__"=pure (some (.builtin id))/\s.TypeIs v T/\wpAny (model X.prog X.w) X.A (getItem v (.ref sl)) (EP X pins σ Q) X.xe s
noncomputable def tSl (r:V->Option Int->Option Int->Hp->VK->Prop)(te:TE)(tl th:TO):TE:=fun σ H Q=>te σ H fun x H1=>tl σ H1 fun l H2=>th σ H2 fun u H3=>r x l u H3 Q
theorem tQ {r:V->Option Int->Option Int->Hp->VK->Prop}(hr:SlR X r)(he:PE X e te)(hl:PO X lo tl)(hu:PO X hi th):PE X (.Subscript e (.Slice lo hi none p2) pos) (tSl r te tl th):=by
 intro pins s σ H Q I h
 refine Subscript_ (thn (he pins s σ H _ I h) fun v s1 ⟨x,H1,I1,r1,q1⟩=>?_)
 refine wpAny_Slice (thn (hl pins s1 σ H1 _ I1 q1) fun vl s2 ⟨l,H2,I2,pl,q2⟩=>thn (hu pins s2 σ H2 _ I2 q2) fun vu s3 ⟨u,H3,I3,pu,q3⟩=>?_)
 rw [evalPart_none]
 refine wpAny_pure ?_
 have I4:Inv X pins σ H3 {s3 with heap:=s3.heap.push {cls:=.type "slice",data:=.fields #[vl,vu,.none]}}:=I3.kept (t':=s3.toks) fun b ob q=>Heap.get?_push_of_some _ q
 obtain ⟨T,id,hT,ht,hg⟩:=hr pins {s3 with heap:=s3.heap.push {cls:=.type "slice",data:=.fields #[vl,vu,.none]}} σ H3 x v vl vu l u s3.heap.objs.size Q I4 r1 (Heap.IsSliceOf.new ..) pl pu q3
 show wpAny (model X.prog X.w) X.A (subscriptTail e (.Slice lo hi none p2) v (.ref s3.heap.objs.size)) (EP X pins σ Q) X.xe {s3 with heap:=s3.heap.push {cls:=.type "slice",data:=.fields #[vl,vu,.none]}}
 exact tail_any (ops:=[.ref s3.heap.objs.size,v]) ht hT hg (by with_unfolding_all rfl)
noncomputable def tR (xs:List V)(lo hi:Option Int):List V:=(xs.drop (HT.sIx xs.length 0 lo)).take (HT.sIx xs.length xs.length hi - HT.sIx xs.length 0 lo)
theorem eA (xs:List V)(lo hi:Option Int):(tR xs lo hi).length<=xs.length:=by
 unfold tR
 rw [List.length_take,List.length_drop]
 omega
end
noncomputable def ixN (n:Nat)(i:Int):Option Nat:=if 0<=i then (if i < n then some i.toNat else none) else if -(n:Int)<=i then some (i+n).toNat else none
noncomputable def atI {α:Type}(xs:List α)(i:Int):Option α:=(ixN xs.length i).bind fun j=>xs[j]?
theorem vY {n:Nat}{i:Int}{j:Nat}(h:ixN n i=some j):seqIndex? i n=some j/\j < n/\-(n:Int)<=i/\i < n:=by
 unfold ixN at h
 by_cases h0:0<=i
 ·rw [if_pos h0] at h
  by_cases h1:i < n
  ·rw [if_pos h1] at h
   have e:i.toNat=j:=Option.some.inj h
   exact ⟨by rw [seqIndex_of h0 h1,e],by omega,by omega,h1⟩
  ·rw [if_neg h1] at h;cases h
 ·rw [if_neg h0] at h
  by_cases h1:-(n:Int)<=i
  ·rw [if_pos h1] at h
   have e:(i+n).toNat=j:=Option.some.inj h
   exact ⟨by rw [seqIndex_neg (by omega) h1,e],by omega,h1,by omega⟩
  ·rw [if_neg h1] at h;cases h
theorem rK {α:Type}{xs:List α}{i:Int}{v:α}(h:atI xs i=some v):∃j,seqIndex? i xs.length=some j/\xs[j]?=some v/\j < xs.length/\-(xs.length:Int)<=i/\i < xs.length:=by
 unfold atI at h
 cases e:ixN xs.length i with
 | none=>rw [e] at h;cases h
 | some j=>
  rw [e] at h
  obtain ⟨h1,h2,h3,h4⟩:=vY e
  exact ⟨j,h1,h,h2,h3,h4⟩
theorem vZ {α:Type}{xs:List α}{j:Nat}{v:α}(h:xs[j]?=some v):atI xs (j:Int)=some v:=by
 have hj:j < xs.length:=(List.getElem?_eq_some_iff.mp h).1
 have e:ixN xs.length (j:Int)=some j:=by
  unfold ixN
  rw [if_pos (by omega),if_pos (by omega)];simp
 unfold atI;rw [e];exact h
theorem xW {α:Type}(xs:List α)(v:α):atI (xs++[v]) (-1)=some v:=by
 have hl:(xs++[v]).length=xs.length+1:=by simp
 have e:ixN (xs++[v]).length (-1)=some xs.length:=by
  unfold ixN
  rw [hl,if_neg (by decide),if_pos (by omega)]
  congr 1
  omega
 unfold atI
 rw [e]
 show (xs++[v])[xs.length]?=some v
 simp
def v3 (b:Expr):Prop:=∀o i,subscripted b false o i=operate [o,i] (getItem o i)
def IxR (X:Cx)(r:R2):Prop:=
 ∀(value slice:Expr) (pins:List (Addr×Obj)) (s:Shared) (σ:St) (H:Hp) (x y:V) (v u:Value) (Q:VK),Inv X pins σ H s->bf x v->bf y u->r x y H Q->
  subscripted slice false v u=operate [v,u] (getItem v u)->wpAny (model X.prog X.w) X.A (subscriptTail value slice v u) (EP X pins σ Q) X.xe s
def MtR (X:Cx)(id:String)(r:V->List V->Hp->VK->Prop):Prop:=
 ∀(pins:List (Addr×Obj)) (s:Shared) (σ:St) (H:Hp) (x:V) (xs:List V) (v:Value) (us:List Value) (Q:VK),Inv X pins σ H s->bf x v->ba xs us->r x xs H Q->
  wpAny (model X.prog X.w) X.A (call (.builtin id) (v::us)) (EP X pins σ Q) X.xe s
section
variable {X:Cx}{a b:Expr}{ta tb:TE}{pos:Pos}
theorem IxR.or {r r':R2}(h:IxR X r)(h':IxR X r'):IxR X (fun x y H Q=>r x y H Q\/r' x y H Q):=by
 intro value slice pins s σ H x y v u Q I rx ry q hs
 rcases q with q | q
 ·exact h value slice pins s σ H x y v u Q I rx ry q hs
 ·exact h' value slice pins s σ H x y v u Q I rx ry q hs
theorem Dv {r:R2}(hr:IxR X r)(ha:PE X a ta)(hb:PE X b tb)(hs:v3 b):PE X (.Subscript a b pos) (tOp r ta tb):=by
 intro pins s σ H Q I h
 exact Subscript_ (BJ ha hb I h fun v u s2 x y H2 I2 rx ry q=>hr a b pins s2 σ H2 x y v u Q I2 rx ry q (hs _ _))
noncomputable def BR (K:W.Frag):R2:=fun x y H Q=>∃p xs i v,x=.ref p/\y=.int i/\SqL K H p xs/\atI xs i=some v/\Q v H
noncomputable def BS (K:W.Frag):R2:=fun x y H Q=>∃p xs i v,x=.ref p/\y=.int i/\SqT K H p xs/\atI xs i=some v/\Q v H
noncomputable def Dw:R2:=fun x y H Q=>∃z i c,x=.str z/\y=.int i/\z.length<=sizeLine/\atI z.cps.toList i=some c/\Q (.str ⟨#[c]⟩) H
theorem v5:IxR X (BR X.K):=by
 intro value slice pins s σ H x y v u Q I rx ry h hs
 obtain ⟨p,xs,i,z,rfl,rfl,hq,he,q⟩:=h
 cases rx
 obtain ⟨t,rfl⟩:=ry
 obtain ⟨its,r,pl,hz⟩:=I.list hq
 obtain ⟨j,h1,h2,h3,h4,h5⟩:=rK he
 obtain ⟨w,ew,rw'⟩:=r.get h2
 have hl:=r.length
 have hn:=mJ
 have fin:EP X pins σ Q w s:=⟨z,H,I,rw',q⟩
 by_cases h0:0<=i
 ·have hj:i.toNat=j:=by
   rw [seqIndex_of h0 h5] at h1
   exact Option.some.inj h1
  exact item_listR pl.isList h0 (by omega) (by rw [hj];simpa using ew) fin hs
 ·have hj:(i+(its.toArray.size:Int)).toNat=j:=by
   rw [seqIndex_neg (by omega) h4] at h1
   rw [List.size_toArray,←hl]
   exact Option.some.inj h1
  exact subscriptTail_builtinR (x:=w) pl.isList.typeIs slot_list_getitem.lookup
   (wpAny_getItem_list_neg (Q:=fun r s'=>r=w/\EP X pins σ Q r s') pl.isList (by omega) (by rw [List.size_toArray]<;>omega) (by omega) (by rw [hj];simpa using ew) ⟨rfl,fin⟩) hs
theorem xX:IxR X (BS X.K):=by
 intro value slice pins s σ H x y v u Q I rx ry h hs
 obtain ⟨p,xs,i,z,rfl,rfl,hq,he,q⟩:=h
 cases rx
 obtain ⟨t,rfl⟩:=ry
 obtain ⟨its,r,pl,hz⟩:=I.tuple hq
 obtain ⟨j,h1,h2,h3,h4,h5⟩:=rK he
 obtain ⟨w,ew,rw'⟩:=r.get h2
 have hl:=r.length
 have hn:=mJ
 have fin:EP X pins σ Q w s:=⟨z,H,I,rw',q⟩
 exact subscriptTail_builtinR (x:=w) pl.typeIs slot_tuple_getitem.lookup
  (getItem_tuple (j:=j) (Q:=fun r s'=>r=w/\EP X pins σ Q r s') pl (by omega) (by omega) (by rw [List.size_toArray,←hl];exact h1) (by simpa using ew) ⟨rfl,fin⟩) hs
theorem BU:IxR X Dw:=by
 intro value slice pins s σ H x y v u Q I rx ry h hs
 obtain ⟨z,i,c,rfl,rfl,hz,he,q⟩:=h
 obtain ⟨t,rfl⟩:=rx
 obtain ⟨t',rfl⟩:=ry
 obtain ⟨j,h1,h2,h3,h4,h5⟩:=rK he
 have hl:z.cps.toList.length=z.length:=by simp [Str.length]
 rw [hl] at h1 h4 h5
 have hn:=mJ
 exact tail_any (typeIs_str s z t) slot_str_getitem.lookup (getItem_str (c:=c) (by
  have e1:decide (i < -(2 ^ 63:Int))=false:=decide_eq_false (by omega)
  have e2:decide (i≥2 ^ 63)=false:=decide_eq_false (by omega)
  rw [e1,e2,Bool.or_false]) (by rw [h1];simpa using h2) ⟨.str ⟨#[c]⟩,H,I.tok _,⟨_,rfl⟩,q⟩) hs
noncomputable def rIx (K:W.Frag):R2:=fun x y H Q=>BR K x y H Q\/BS K x y H Q\/Dw x y H Q
theorem xY:IxR X (rIx X.K):=v5.or (xX.or BU)
theorem uZ (its:List Value)(n j:Nat)(u:Value):Obj.mapSeq (·.setIfInBounds j u) {cls:=.type "list",data:=.seq its.toArray n}={cls:=.type "list",data:=.seq (its.set j u).toArray n}:=by
 simp [Obj.mapSeq]
theorem Inv.lst {pins:List (Addr×Obj)}{σ:St}{H:Hp}{s:Shared}{p:Addr}{xs:List V}(I:Inv X pins σ H s)(h:H p=some (.lst xs)) :
  ∃(its:List Value) (n:Nat),ba xs its/\s.heap.get? p=some {cls:=.type "list",data:=.seq its.toArray n}/\xs.length<=sizeLine:=by
 obtain ⟨z,its,n,r,e⟩:=I.hok p _ h
 exact ⟨its,n,r,e,z⟩
theorem Inv.lstUpd {pins:List (Addr×Obj)}{σ:St}{H:Hp}{s:Shared}{p:Addr}{xs ys:List V}{its its':List Value}{n n':Nat}{f:Obj->Obj}(I:Inv X pins σ H s)(h:H p=some (.lst xs))
  (ho:s.heap.get? p=some {cls:=.type "list",data:=.seq its.toArray n}) (hf:f {cls:=.type "list",data:=.seq its.toArray n}={cls:=.type "list",data:=.seq its'.toArray n'}) (r:ba ys its') (hz:ys.length<=sizeLine) (t:Nat) :
  Inv X pins σ (upd H p (.lst ys)) {s with heap:=s.heap.update p f,toks:=t}:=by
 have e:(s.heap.update p f).get? p=some {cls:=.type "list",data:=.seq its'.toArray n'}:=by
  rw [Heap.get?_update_self f ho (by rw [hf]<;>rfl),hf]
 refine I.write (x:=p) (e:=p) (by rw [h];trivial) (.inl rfl) (fun b u hb q=>(Heap.get?_update_other _ _ (Ne.symm hb)).trans q) ⟨_,e⟩ ?_
 exact ⟨hz,its',n',r,e⟩
noncomputable def Bh:V->V->V->Hp->(Hp->Prop)->Prop:=fun o i v H Q=>∃p xs k j,o=.ref p/\i=.int k/\H p=some (.lst xs)/\ixN xs.length k=some j/\Q (upd H p (.lst (xs.set j v)))
theorem xZ:BF X Bh:=by
 intro pins s σ H o i v ov iv u Q I ro ri rv h
 obtain ⟨p,xs,k,j,rfl,rfl,hp,hj,q⟩:=h
 cases ro
 obtain ⟨t,rfl⟩:=ri
 obtain ⟨its,n,r,ho,hz⟩:=I.lst hp
 obtain ⟨h1,h2,h3,h4⟩:=vY hj
 have hl:=r.length
 have hn:=mJ
 have I':Inv X pins σ (upd H p (.lst (xs.set j v))) {s with heap:=s.heap.update p (Obj.mapSeq (·.setIfInBounds j u))}:=
  I.lstUpd hp ho (uZ its n j u) (r.set rv j) (by rw [List.length_set];exact hz) s.toks
 by_cases h0:0<=k
 ·have hk:k.toNat=j:=by
   rw [seqIndex_of h0 h4] at h1
   exact Option.some.inj h1
  exact W.ki_setAt ho h0 (by omega) (by rw [List.size_toArray,←hl];exact h4) (by rw [hk];exact ⟨_,I',q⟩)
 ·have hk:(k+(its.toArray.size:Int)).toNat=j:=by
   rw [seqIndex_neg (by omega) h3] at h1
   rw [List.size_toArray,←hl]
   exact Option.some.inj h1
  exact W.ki_setBack ho (by omega) (by rw [List.size_toArray,←hl];exact h3) (by omega) (by rw [hk];exact ⟨_,I',q⟩)
theorem rL (lo hi:Option Int)(n:Nat):(sliceBounds lo hi none n).1=((HT.sIx n 0 lo:Nat):Int)/\(sliceBounds lo hi none n).2.1=((HT.sIx n n hi:Nat):Int)/\(sliceBounds lo hi none n).2.2=1:=by
 refine ⟨?_,?_,rfl⟩
 ·cases lo with
  | none=>simp [sliceBounds,HT.sIx]
  | some i=>
   simp only [sliceBounds,HT.sIx,Option.getD_none,show (1:Int) > 0 by decide,if_true]
   by_cases h:i < 0
   ·simp only [h,if_true]<;>omega
   ·simp only [h,if_false]<;>omega
 ·cases hi with
  | none=>simp [sliceBounds,HT.sIx]
  | some i=>
   simp only [sliceBounds,HT.sIx,Option.getD_none,show (1:Int) > 0 by decide,if_true]
   by_cases h:i < 0
   ·simp only [h,if_true]<;>omega
   ·simp only [h,if_false]<;>omega
theorem qp (its:List Value)(lo hi:Option Int):slicePick its.toArray lo hi none=((its.drop (HT.sIx its.length 0 lo)).take (HT.sIx its.length its.length hi - HT.sIx its.length 0 lo)).toArray:=by
 obtain ⟨h1,h2,h3⟩:=rL lo hi its.toArray.size
 unfold slicePick
 rw [h1,h2,h3]
 simp only [sliceRange_one,pick_run,List.size_toArray]<;>rfl
noncomputable def Dx (K:W.Frag):V->Option Int->Option Int->Hp->VK->Prop:=fun x lo hi H Q=>∃a xs,x=.ref a/\SqL K H a xs/\∀p,H p=none->Q (.ref p) (upd H p (.lst (tR xs lo hi)))
theorem zQ:SlR X (Dx X.K):=by
 intro pins s σ H x v vl vu lo hi sl Q I rx hs pl pu h
 obtain ⟨a,xs,rfl,hx,q⟩:=h
 cases rx
 obtain ⟨its,r,ht,hz⟩:=I.list hx
 have hlen:=r.length
 refine ⟨"list",_,slot_list_getitem.lookup,ht.isList.typeIs,?_⟩
 refine wpAny_getItem_list_slice ht.isList hs pl pu .none (by simp) ?_ (by rw [List.size_toArray]<;>omega)
 rw [qp,←hlen]
 refine ⟨.ref s.heap.objs.size,_,I.laid (t':=s.toks) (o:=.lst (tR xs lo hi)) (fun b ob q=>Heap.get?_push_of_some _ q) (Nat.le_refl _) ?_,rfl,q _ (I.hok.fresh (Nat.le_refl _))⟩
 exact ⟨Nat.le_trans (eA xs lo hi) hz,_,0,(r.drop (HT.sIx xs.length 0 lo)).take (HT.sIx xs.length xs.length hi - HT.sIx xs.length 0 lo),Heap.get?_push_size _ rfl⟩
noncomputable def bC:V->Bool
 | .non=>true
 | .bl _=>true
 | .int _=>true
 | .str _=>true
 | _=>false
noncomputable def eqV:V->V->Bool
 | .non,.non=>true
 | .bl a,.bl b=>a == b
 | .bl a,.int b=>(if a then 1 else 0) == b
 | .int a,.bl b=>a == (if b then 1 else 0)
 | .int a,.int b=>a == b
 | .str a,.str b=>a == b
 | _,_=>false
theorem mM {A:Around}{s:Shared}{y x:V}{u v:Value}(ry:bf y u)(rx:bf x v)(fy:bC y=true)(fx:bC x=true):SeqAt.EqAt A s u v (eqV y x):=by
 cases y with
 | non=>
  cases ry
  cases x with
  | non=>cases rx;exact SeqAt.EqAt.same _
  | bl b=>cases rx;exact SeqAt.EqAt.none_bool b
  | int b=>obtain ⟨t,rfl⟩:=rx;exact SeqAt.EqAt.none_int b t
  | str b=>obtain ⟨t,rfl⟩:=rx;exact SeqAt.EqAt.none_str b t
  | _=>exact absurd (show false=true from fx) Bool.false_ne_true
 | bl a=>
  cases ry
  cases x with
  | non=>cases rx;exact SeqAt.EqAt.bool_none a
  | bl b=>cases rx;exact SeqAt.EqAt.bool_bool a b
  | int b=>obtain ⟨t,rfl⟩:=rx;exact SeqAt.EqAt.bool_int a b t
  | str b=>obtain ⟨t,rfl⟩:=rx;exact SeqAt.EqAt.bool_str a b t
  | _=>exact absurd (show false=true from fx) Bool.false_ne_true
 | int a=>
  obtain ⟨t',rfl⟩:=ry
  cases x with
  | non=>cases rx;exact SeqAt.EqAt.int_none a t'
  | bl b=>cases rx;exact SeqAt.EqAt.int_bool a t' b
  | int b=>obtain ⟨t,rfl⟩:=rx;exact SeqAt.EqAt.int_int a t' b t
  | str b=>obtain ⟨t,rfl⟩:=rx;exact SeqAt.EqAt.int_str a t' b t
  | _=>exact absurd (show false=true from fx) Bool.false_ne_true
 | str a=>
  obtain ⟨t',rfl⟩:=ry
  cases x with
  | non=>cases rx;exact SeqAt.EqAt.str_none a t'
  | bl b=>cases rx;exact SeqAt.EqAt.str_bool a t' b
  | int b=>obtain ⟨t,rfl⟩:=rx;exact SeqAt.EqAt.str_int a t' b t
  | str b=>obtain ⟨t,rfl⟩:=rx;exact SeqAt.EqAt.str_str a t' b t
  | _=>exact absurd (show false=true from fx) Bool.false_ne_true
 | _=>exact absurd (show false=true from fy) Bool.false_ne_true
noncomputable def eqU (x:V)(u:Value):Bool:=match u with
 | .none=>eqV .non x
 | .bool b=>eqV (.bl b) x
 | .int i _=>eqV (.int i) x
 | .str z _=>eqV (.str z) x
 | _=>false
theorem yb {x y:V}{u:Value}(r:bf y u)(f:bC y=true):eqU x u=eqV y x:=by
 cases y with
 | non=>cases r;rfl
 | bl b=>cases r;rfl
 | int i=>obtain ⟨t,rfl⟩:=r;rfl
 | str z=>obtain ⟨t,rfl⟩:=r;rfl
 | _=>exact absurd (show false=true from f) Bool.false_ne_true
theorem lL {x:V}:∀{xs:List V} {us:List Value},ba xs us->xs.all bC=true->us.any (eqU x)=xs.any fun y=>eqV y x
 | _,_,.nil,_=>rfl
 | y::xs,u::us,.cons r t,f=>by
  rw [List.all_cons,Bool.and_eq_true] at f
  rw [List.any_cons,List.any_cons,yb r f.1,lL t f.2]
theorem jw {A:Around}{s:Shared}{x:V}{v:Value}(rx:bf x v)(fx:bC x=true):∀{xs:List V} {us:List Value},ba xs us->xs.all bC=true->∀u∈us,SeqAt.EqAt A s u v (eqU x u)
 | _,_,.nil,_=>fun u hu=>by cases hu
 | y::xs,u::us,.cons r t,f=>fun u' hu=>by
  rw [List.all_cons,Bool.and_eq_true] at f
  rcases List.mem_cons.mp hu with rfl | hu
  ·rw [yb r f.1];exact mM r rx f.1 fx
  ·exact jw rx fx t f.2 u' hu
noncomputable def inV (x:V)(xs:List V):Bool:=xs.any fun y=>eqV y x
noncomputable def rIn (K:W.Frag)(neg:Bool):R2:=fun x y H Q=>∃p xs,y=.ref p/\(SqL K H p xs\/SqT K H p xs)/\bC x=true/\xs.all bC=true/\Q (.bl (if neg then !inV x xs else inV x xs)) H
theorem w9:OpR X (compareOp .In) (rIn X.K false):=by
 intro pins s σ H x y v u Q I rx ry h
 obtain ⟨p,xs,rfl,hq,fx,fs,q⟩:=h
 cases ry
 rcases hq with hq | hq
 ·obtain ⟨its,r,pl,hz⟩:=I.list hq
  refine SeqAt.in_listAt (eqU x) pl.isList (fun w hw=>jw rx fx r fs w (by simpa using hw)) ⟨.bl _,H,I,rfl,?_⟩
  rw [show its.toArray.any (eqU x)=its.any (eqU x) by simp,lL r fs]
  exact q
 ·obtain ⟨its,r,pl,hz⟩:=I.tuple hq
  refine SeqAt.in_tupleAt (eqU x) pl (fun w hw=>jw rx fx r fs w (by simpa using hw)) ⟨.bl _,H,I,rfl,?_⟩
  rw [show its.toArray.any (eqU x)=its.any (eqU x) by simp,lL r fs]
  exact q
theorem rM:OpR X (compareOp .NotIn) (rIn X.K true):=by
 intro pins s σ H x y v u Q I rx ry h
 obtain ⟨p,xs,rfl,hq,fx,fs,q⟩:=h
 cases ry
 rcases hq with hq | hq
 ·obtain ⟨its,r,pl,hz⟩:=I.list hq
  refine SeqAt.notIn_listAt (eqU x) pl.isList (fun w hw=>jw rx fx r fs w (by simpa using hw)) ⟨.bl _,H,I,rfl,?_⟩
  rw [show its.toArray.any (eqU x)=its.any (eqU x) by simp,lL r fs]
  exact q
 ·obtain ⟨its,r,pl,hz⟩:=I.tuple hq
  refine SeqAt.notIn_tupleAt (eqU x) pl (fun w hw=>jw rx fx r fs w (by simpa using hw)) ⟨.bl _,H,I,rfl,?_⟩
  rw [show its.toArray.any (eqU x)=its.any (eqU x) by simp,lL r fs]
  exact q
theorem rN:fJ X (.builtin "len") (fun xs H Q=>∃p ys,xs=[.ref p]/\(SqL X.K H p ys\/SqT X.K H p ys)/\Q (.int ys.length) H):=by
 intro pins s σ H xs us Q I r h
 obtain ⟨p,ys,rfl,hq,q⟩:=h
 obtain ⟨u,rfl,rx⟩:=tO r
 cases rx
 have hn:=mJ
 rcases hq with hq | hq
 ·obtain ⟨its,r',pl,hz⟩:=I.list hq
  have hlen:=r'.length
  exact Calls.call_len_list pl.isList (by simp only [List.size_toArray]<;>omega) ⟨.int ys.length,H,I.tok _,⟨s.toks+1,by rw [List.size_toArray,hlen]⟩,q⟩
 ·obtain ⟨its,r',pl,hz⟩:=I.tuple hq
  have hlen:=r'.length
  exact len_tuple pl (by simp only [List.size_toArray]<;>omega) ⟨.int ys.length,H,I.tok _,⟨s.toks+1,by rw [List.size_toArray,hlen]⟩,q⟩
theorem rO:fJ X (.type "list") (fun xs H Q=>∃p ys,xs=[.ref p]/\(SqL X.K H p ys\/SqT X.K H p ys)/\∀l,H l=none->Q (.ref l) (upd H l (.lst ys))):=by
 intro pins s σ H xs us Q I r h
 obtain ⟨p,ys,rfl,hq,q⟩:=h
 obtain ⟨u,rfl,rx⟩:=tO r
 cases rx
 have fin:∀(its:List Value),ba ys its->ys.length<=sizeLine->∀(h':Heap) (c':Nat),(∀b o',s.heap.get? b=some o'->h'.get? b=some o')->
   h'.get? s.heap.objs.size=some {cls:=.type "list",dict:=none,data:=.seq its.toArray c',slots:=#[]}->EP X pins σ Q (.ref s.heap.objs.size) {s with heap:=h'}:=fun its r' hz h' c' kp e=>
  ⟨.ref s.heap.objs.size,_,I.laid (t':=s.toks) kp (Nat.le_refl _) (show c4 X.prog X.w _ h' _ (.lst ys) from ⟨hz,its,c',r',e⟩),rfl,q _ (I.hok.fresh (Nat.le_refl _))⟩
 rcases hq with hq | hq
 ·obtain ⟨its,r',pl,hz⟩:=I.list hq
  have hlen:=r'.length
  obtain ⟨o,ho,hc,n,hd⟩:=pl.isList
  exact call_list_seq p (.inl rfl) ho hc hd (fun h' c' kp e=>fin its r' hz h' c' kp e) (by simp only [List.size_toArray]<;>omega)
 ·obtain ⟨its,r',pl,hz⟩:=I.tuple hq
  have hlen:=r'.length
  obtain ⟨o,ho,hc,n,hd⟩:=pl
  exact call_list_seq p (.inr rfl) ho hc hd (fun h' c' kp e=>fin its r' hz h' c' kp e) (by simp only [List.size_toArray]<;>omega)
def tyV (K:W.Frag)(T:String)(x:V)(H:Hp):Prop:=match x with
 | .str _=>T="str"
 | .int _=>T="int"
 | .ref p=>(T="list"/\∃xs,SqL K H p xs)\/(T="tuple"/\∃o,K.lookup p=some o/\o.cls=.type "tuple"/\o.dict=none)\/
   (T="dict"/\((∃kvs,H p=some (.dK kvs))\/∃kvs,H p=some (.dT kvs)))\/(T="set"/\∃S n,H p=some (.set S n))
 | _=>False
theorem BV {pins:List (Addr×Obj)}{σ:St}{H:Hp}{s:Shared}{T:String}{x:V}{v:Value}(I:Inv X pins σ H s)(r:bf x v)(ty:tyV X.K T x H) :
  s.TypeIs v T/\∀a,v=.ref a->∃ob,s.heap.get? a=some ob/\ob.dict=none:=by
 cases x with
 | str z=>
  obtain ⟨t,rfl⟩:=r
  cases (show T="str" from ty)
  exact ⟨typeIs_str s z t,fun _ e=>nomatch e⟩
 | int i=>
  obtain ⟨t,rfl⟩:=r
  cases (show T="int" from ty)
  exact ⟨typeIs_int s i t,fun _ e=>nomatch e⟩
 | ref p=>
  cases r
  rcases ty with ⟨rfl,xs,hq⟩ | ⟨rfl,o,hk,hc,hd⟩ | ⟨rfl,hk⟩ | ⟨rfl,S,n,hk⟩
  ·obtain ⟨its,_,pl,_⟩:=I.list hq
   refine ⟨pl.isList.typeIs,fun a e=>?_⟩
   cases e
   obtain ⟨o,n,e,c,hd,_⟩:=pl
   exact ⟨o,e,hd⟩
  ·refine ⟨⟨o,I.kIn p o hk,hc⟩,fun a e=>?_⟩
   cases e
   exact ⟨o,I.kIn _ o hk,hd⟩
  ·have z:∃o,s.heap.get? p=some o/\o.ExactDict:=by
    rcases hk with ⟨kvs,hk⟩ | ⟨kvs,hk⟩
    ·obtain ⟨_,_,_,_,o,_,_,e,ex,_⟩:=I.hok p _ hk
     exact ⟨o,e,ex⟩
    ·obtain ⟨_,_,_,_,o,_,_,e,ex,_⟩:=I.hok p _ hk
     exact ⟨o,e,ex⟩
   obtain ⟨o,e,ex⟩:=z
   refine ⟨⟨o,e,ex.1⟩,fun a e2=>?_⟩
   cases e2
   exact ⟨o,e,ex.2.1⟩
  ·obtain ⟨o,_,_,_,e,ex,_⟩:=I.hok p _ hk
   refine ⟨⟨o,e,ex.1⟩,fun a e2=>?_⟩
   cases e2
   exact ⟨o,e,ex.2.1⟩
 | _=>exact False.elim ty
noncomputable def Et (K:W.Frag)(T:String)(r:V->List V->Hp->VK->Prop)(to:TE):TE:=fun σ H Q=>to σ H fun x H1=>tyV K T x H1/\r x [] H1 Q
noncomputable def tBM (K:W.Frag)(T:String)(r:V->List V->Hp->VK->Prop)(to:TE)(t:TA):TE:=fun σ H Q=>to σ H fun x H1=>tyV K T x H1/\t σ H1 fun xs H2=>r x xs H2 Q
variable {o e:Expr}{es:List Expr}{to:TE}{t:TA}{name:Str}{apos cpos:Pos}{T id:String}{r:V->List V->Hp->VK->Prop}
theorem tS (pa:PlainAttrs T)(slot:Slot T name id)(hty:typeOf (.builtin id)=pure (.type "method_descriptor"))(hm:MtR X id r)(ho:PE X o to)(ha:PA X (e::es) t)
  (hbase:attributeBase o name X.env (eval o X.env)=eval o X.env:=by rfl)
  (hfew:((backTo cpos (starEach (e::es) X.env)).all (fun x=>!x.1) && (backToKw cpos (keywordEach [] X.env)).all (fun x=>x.1.isSome)
   && decide ((e::es).length+([]:List Keyword).length+(if ([]:List Keyword).isEmpty then 0 else 1) < 30))=true:=by rfl)
  (hline:(apos.endLine == cpos.line)=true:=by rfl) (hs:starEach (e::es) X.env=(false,eval e X.env)::starEach es X.env:=by rfl) (hplain:(backTo cpos (starEach es X.env)).any (·.1)=false:=by rfl) :
  PE X (.Call (.Attribute o name apos) (e::es) [] cpos) (tBM X.K T r to t):=by
 intro pins s σ H Q I h
 refine wpAny_Call_method_late hbase hfew hline rfl (thn (ho pins s σ H _ I h) fun v s1 ⟨x,H1,I1,r1,ty,q1⟩=>?_)
 obtain ⟨h1,h2⟩:=BV I1 r1 ty
 refine ⟨T,id,pa,slot,hty,h1,h2,?_⟩
 have hA:=ha cpos pins s1 σ H1 _ I1 q1
 rw [hs] at hA ⊢
 refine Calls.callWith_builtin (by show (false || (backTo cpos (starEach es X.env)).any (·.1))=false;rw [hplain]<;>rfl) (Calls.evalArgs_plain ?_)
 exact thn hA fun us s2 ⟨vs,H2,I2,r2,q2⟩=>hm pins s2 σ H2 x vs v us Q I2 r1 r2 q2
end
def MtM (X:Cx)(id:String)(r:V->List V->Hp->VK->Prop):Prop:=
 ∀(pins:List (Addr×Obj)) (s:Shared) (σ:St) (H:Hp) (x:V) (xs:List V) (v:Value) (us:List Value) (Q:VK),Inv X pins σ H s->bf x v->ba xs us->r x xs H Q->
  wpAny (model X.prog X.w) X.A (call (.builtin id) (v::us)) (EP X pins σ Q) X.xe s
theorem ba.one:∀{x:V} {us:List Value},ba [x] us->∃u,us=[u]/\bf x u
 | _,_,.cons r .nil=>⟨_,rfl,r⟩
theorem ba.two:∀{x y:V} {us:List Value},ba [x,y] us->∃u v,us=[u,v]/\bf x u/\bf y v
 | _,_,_,.cons r (.cons q .nil)=>⟨_,_,rfl,r,q⟩
section
variable {X:Cx}{pins:List (Addr×Obj)}{σ:St}{H:Hp}{s:Shared}{l b:Addr}{xs ys zs:List V}
theorem Inv.lset {its its':List Value}{n:Nat}{f:Array Value->Array Value}{t':Nat}(I:Inv X pins σ H s)(hH:H l=some (.lst xs))
  (e:s.heap.get? l=some {cls:=.type "list",data:=.seq its.toArray n}) (hf:f its.toArray=its'.toArray) (hv:ba ys its') (hz:ys.length<=sizeLine) :
  Inv X pins σ (upd H l (.lst ys)) {s with heap:=s.heap.update l (Obj.mapSeq f),toks:=t'}:=by
 have q:=PySem.IsL.update e f
 rw [hf] at q
 refine I.write (x:=l) (e:=l) (by rw [hH];exact trivial) (.inl rfl) (fun b' u hb hu=>(Heap.get?_update_other s.heap (Obj.mapSeq f) (Ne.symm hb)).trans hu) ⟨_,q⟩ ?_
 exact ⟨hz,its',_,hv,q⟩
theorem Inv.lnew {its:List Value}{t':Nat}(I:Inv X pins σ H s)(hv:ba ys its)(hz:ys.length<=sizeLine) :
  Inv X pins σ (upd H s.heap.objs.size (.lst ys)) {s with heap:=s.heap.push {cls:=.type "list",data:=.seq its.toArray},toks:=t'}:=
 I.laid (fun _ _ q=>Heap.get?_push_of_some _ q) (Nat.le_refl _) ⟨hz,its,0,hv,Heap.get?_push_size _ rfl⟩
theorem Inv.fresh (I:Inv X pins σ H s):H s.heap.objs.size=none:=I.hok.fresh (Nat.le_refl _)
theorem Inv.lstM (I:Inv X pins σ H s)(hH:H l=some (.lst xs)):xs.length<=sizeLine/\∃(its:List Value) (n:Nat),ba xs its/\xs.length=its.length/\s.heap.get? l=some {cls:=.type "list",data:=.seq its.toArray n}:=by
 obtain ⟨z,its,n,r,e⟩:=I.hok l _ hH
 exact ⟨z,its,n,r,r.length,e⟩
theorem yc {n:Nat}(h:n<=sizeLine):Builtin.List.listTooLong n=false:=by
 unfold Builtin.List.listTooLong
 exact decide_eq_false (by omega)
end
section
variable {X:Cx}
noncomputable def v7:V->List V->Hp->VK->Prop:=fun x vs H Q=>∃l xs y,x=.ref l/\vs=[y]/\H l=some (.lst xs)/\xs.length < sizeLine/\Q .non (upd H l (.lst (xs++[y])))
theorem xa:MtM X "list.append" v7:=by
 intro pins s σ H x vs v us Q I rx rv h
 obtain ⟨l,xs,y,rfl,rfl,hH,hz,q⟩:=h
 cases rx
 obtain ⟨u,rfl,ru⟩:=rv.one
 obtain ⟨z,its,n,r,hl,e⟩:=I.lstM hH
 refine call_meets F.slot_list_append ⟨_,e,rfl⟩ F.entry_list_append (F.args_list_append_2 _ _) (PySem.list_append l its.toArray n u (by rw [List.size_toArray];omega)) ⟨e,?_⟩
 refine ⟨.non,_,I.lset (its':=its++[u]) hH e (by simp) (r.append (.cons ru .nil)) ?_,rfl,q⟩
 rw [List.length_append,List.length_singleton]
 omega
noncomputable def zR:V->List V->Hp->VK->Prop:=fun x vs H Q=>∃l b xs zs,x=.ref l/\vs=[.ref b]/\H l=some (.lst xs)/\H b=some (.lst zs)/\xs.length+zs.length<=sizeLine/\Q .non (upd H l (.lst (xs++zs)))
theorem Dc:MtM X "list.extend" zR:=by
 intro pins s σ H x vs v us Q I rx rv h
 obtain ⟨l,b,xs,zs,rfl,rfl,hH,hB,hz,q⟩:=h
 cases rx
 obtain ⟨u,rfl,ru⟩:=rv.one
 cases ru
 obtain ⟨z,its,n,r,hl,e⟩:=I.lstM hH
 obtain ⟨z2,its2,n2,r2,hl2,e2⟩:=I.lstM hB
 have hsz:its.toArray.size+its2.toArray.size<=sizeLine:=by rw [List.size_toArray,List.size_toArray];omega
 have hlong:¬(!its.toArray.isEmpty && Builtin.List.listTooLong (its.toArray.size+its2.toArray.size))=true:=by
  rw [yc hsz,Bool.and_false]
  exact Bool.false_ne_true
 refine call_meets F.slot_list_extend ⟨_,e,rfl⟩ F.entry_list_extend (F.args_list_extend_2 _ _)
  (AutoSeq1.list_extend_list_list_0 l its.toArray n b its2.toArray n2 hlong (by rw [List.size_toArray];omega) (by omega)) ⟨e,e2,?_⟩
 refine ⟨.non,_,I.lset (its':=its++its2) hH e (by simp) (r.append r2) ?_,rfl,q⟩
 rw [List.length_append]
 omega
noncomputable def Dy:R2:=fun x y H Q=>∃l b xs zs,x=.ref l/\y=.ref b/\H l=some (.lst xs)/\H b=some (.lst zs)/\xs.length+zs.length<=sizeLine/\∀p,H p=none->Q (.ref p) (upd H p (.lst (xs++zs)))
theorem BW:OpR X (binaryOp .Add) Dy:=by
 intro pins s σ H x y v u Q I rx ry h
 obtain ⟨l,b,xs,zs,rfl,rfl,hH,hB,hz,q⟩:=h
 cases rx
 cases ry
 obtain ⟨z,its,n,r,hl,e⟩:=I.lstM hH
 obtain ⟨z2,its2,n2,r2,hl2,e2⟩:=I.lstM hB
 refine PySem.P.add_list e e2 ?_ (by rw [List.size_toArray,List.size_toArray];omega)
 have ea:its.toArray++its2.toArray=(its++its2).toArray:=by simp
 rw [ea]
 exact ⟨.ref _,_,I.lnew (t':=s.toks) (r.append r2) (by rw [List.length_append];omega),rfl,q _ I.fresh⟩
end
section
variable {prog:Program}{w:World}{A:Around}{E:Value->Shared->Prop}{s:Shared}
set_option maxRecDepth 100000 in
end
end L2
namespace Att
open PySem PySem.W PySem.Calls PyProof.Rows
theorem n9 {P:Params}{h:Heap}:∀(ns:List Int) (vs:List Value),WellAll P h vs (ns.map WData.int)->IntsAre vs ns:=by
 intro ns
 induction ns with
 | nil=>
  intro vs w
  rw [List.map_nil] at w
  cases w
  exact .nil
 | cons n ns ih=>
  intro vs w
  rw [List.map_cons] at w
  cases w with
  | cons a b=>
   cases a
   exact .cons _ _ (ih _ b)
theorem xb {l:OpenLaw}{n:Nat}(hn:l.most=some n){P:Params}{h:Heap}{args:List WData}{vals:List Value}
  (hpre:l.row.toRowW.claim.pre args=true) (hwl:WellAll P h vals args) :
  ∃a vs ns,vals=[Value.ref a]/\args=[WData.list (ns.map WData.int)]/\h.get? a=some {cls:=.type "list",data:=.seq vs.toArray}/\IntsAre vs ns/\ns.length<=n:=by
 have hsh:WShape.hasAll [] args [.list .int]=true:=(pre_splitW hpre).1
 have hc:l.pre.holds [] {args:=args}=true:=(pre_splitW hpre).2
 obtain ⟨d,r,rfl,h1,h2⟩:=hasAllW_cons hsh
 obtain rfl:=hasAllW_nil h2
 obtain ⟨xs,rfl,h3⟩:=hasW_list h1
 obtain ⟨ns,rfl⟩:=items_int h3
 have hlen:ns.length<=n:=by
  unfold OpenLaw.pre at hc
  have h4:(WTm.not (.lt (.lit (.int (n:Int))) (.len (.arg 0)))).holds [] {args:=[.list (ns.map .int)]}=true:=by
   have h4:=(holds_andW hc).1
   rw [hn] at h4
   exact h4
  have h5:=condW_of h4 (w_not (w_lt w_lit (w_len_list (w_arg rfl))))
  rw [List.length_map] at h5
  refine Nat.le_of_not_lt fun q=>?_
  have q':(n:Int) < ((ns.length:Nat):Int):=by omega
  first
   | (rw [decide_eq_true q'] at h5;exact absurd h5 (by decide))
   | (simp at h5;omega)
 cases hwl with
 | cons w1 w2=>
  cases w2
  cases w1 with
  | list ho hall=>exact ⟨_,_,ns,rfl,rfl,ho,n9 ns _ hall,hlen⟩
theorem xc (l:OpenLaw)(args:List WData):l.row.toRowW.claim.post args (.bool true) args=true:=
 postW_of (r:=l.row.toRowW) (X:=(true == true))
  (show WShape.has [] (.bool true) .bool=true by first | rfl | decide | simp [WShape.has,WShape.arms,WShape.armsAll])
  (show (WTm.eq .res (.lit (.bool true))).value [] {args:=args,res:=some (.bool true),after:=args}=some (.bool (true == true)) from w_eq_bool (w_res rfl) w_lit) rfl
theorem tT {l:OpenLaw}{n:Nat}{q:Program}{loose:List Str}{XP:(Str->Option Value)->Heap->Prop}{YP:World->Heap->Prop}{d:DefRec}
  (hn:l.most=some n) (hdf:d.params.defaults=[])
  (call:∀(w:World) (s₀ s₁:Shared) (mg mb:Str->Option Value) (fa:Addr) (o:Obj) (pm cd doc:Value) (a:Addr) (vs:List Value) (ns:List Int),
   Ground q loose [] XP w s₀ mg mb s₁.heap->YP w s₁.heap->
   s₁.heap.get? fa=some o->o.data=.func (docDef d.name d.params d.body d.scope pm cd doc)->s₁.heap.CodeRec cd d.name->mg d.name=some (.ref fa)->
   s₁.heap.get? a=some {cls:=.type "list",data:=.seq vs.toArray}->IntsAre vs ns->ns.length<=n->s₁.gens=#[]->
   codeAny (model l.prog w) callerA (.call (.ref fa) ⟨[.ref a],[]⟩) (fun r s'=>r=.ok (.ret (.bool true))/\OldK s₁.heap s'.heap/\s'.os=s₁.os/\AllBare s'.gens) s₁) :
  WalkO q loose XP YP l.row.toRowW d [] (fun f vs=>PySem.call f vs):=by
 intro w s₀ s₁ mg mb G Y fa o pm cd doc dV kV ho hd hcd hD hmg hg args vals as hpre hlay hrd hwl hlo
 obtain rfl:dV=.none:=Dflts.none hD hdf
 obtain rfl:kV=.none:=Dflts.noKw hD
 obtain ⟨a,vs,ns,rfl,rfl,hobj,hints,hlen⟩:=xb hn hpre hwl
 refine enter_call (codeAny_mono (call w s₀ s₁ mg mb fa o pm cd doc a vs ns G Y ho (fd_plain hd) hcd hmg hobj hints hlen hg) fun r s' hq=>?_)
 obtain ⟨rfl,h2,h3,h4⟩:=hq
 exact ⟨.inl ⟨.bool true,.bool true,[],rfl,fun _=>rfl,.bool true,xc l _,fun _=>⟨List.Pairwise.nil,fun _ hm=>(nomatch hm)⟩⟩,h2,h3,h4⟩
end Att
namespace L2
open PySem PySem.Spec PyProof.Rows
theorem rd:∀{vs:List Value} {ns:List Int},IntsAre vs ns->ba (ns.map V.int) vs
 | _,_,.nil=>.nil
 | _,_,.cons n t h=>.cons ⟨t,rfl⟩ (rd h)
def BX (H:Hp):Prop:=∀b,H b=none\/∃o xs,H b=some (.frz o (.lst xs))
theorem yd {P:Program}{w:World}{K:W.Frag}{mg mb:Str->Option Value}{CX:CXT}{k:Nat}{fa a:Addr}{fd:FuncData}{x:Str}{sp:Sp}{s₁:Shared}{vs:List Value}{ns:List Int}
  (KX:K.In s₁.heap) (hns:s₁.heap.Ns mainGlobals mg) (hb:s₁.heap.Ns builtinsNs mb) (hbb:∀x:Str,x≠"__name__"->mb x=bootBuiltins x) (hlim:s₁.heap.NoLimit) (hg:s₁.gens=#[])
  (ha:s₁.heap.get? a=some {cls:=.type "list",data:=.seq vs.toArray}) (hi:IntsAre vs ns) (hl:ns.length<=sizeLine) (hr:cL k callerA)
  (F:∀base:Heap,K.In base->base.Ns mainGlobals mg->fo P w K mg base CX k fa fd [x] sp) (hbind:∀(s:Shared) (u:Value),BindsTo s fd ⟨[u],[]⟩ [(x,u)])
  (hsp:∀H:Hp,BX H->SqL K H a (ns.map V.int)->sp [.ref a] H (fun v _=>v=.bl true) fun _ _ _=>False)
  (hCX:∀H e s',CX [] H s₁ (fun _ _ _=>False) e s'->False) :
  codeAny (model P w) callerA (.call (.ref fa) ⟨[.ref a],[]⟩) (fun r s'=>r=.ok (.ret (.bool true))/\OldK s₁.heap s'.heap/\s'.os=s₁.os/\AllBare s'.gens) s₁:=by
 have rv:=rd hi
 have lenV:=hi.length
 have core:∀H:Hp,BX H->SqL K H a (ns.map V.int)->HOk P w H s₁.heap->(∀b,H b≠none->b=a)->(H a≠none->K.lookup a=none)->
   codeAny (model P w) callerA (.call (.ref fa) ⟨[.ref a],[]⟩) (fun r s'=>r=.ok (.ret (.bool true))/\OldK s₁.heap s'.heap/\s'.os=s₁.os/\AllBare s'.gens) s₁:=by
  intro H hO hS hok hA hK
  have base_of:∀{b:Addr} {o:Obj},s₁.heap.get? b=some o->H b=none->(rH s₁.heap H).get? b=some o:=fun e n=>xG e n
  have noA:∀{b:Addr} {o:Obj} {es:Array DictEntry} {ep:Nat},s₁.heap.get? b=some o->o.data=.dict es ep->H b=none:=fun {b o es ep} e d=>by
   cases q:H b with
   | none=>rfl
   | some u=>
    have e':b=a:=hA b (by rw [q];simp)
    subst e'
    rw [ha] at e;cases e
    have d':Data.seq vs.toArray _=Data.dict es ep:=d
    cases d'
  have nsK:∀{b:Addr} {m:Str->Option Value},s₁.heap.Ns b m->(rH s₁.heap H).Ns b m:=fun {b m} ⟨o,es,ep,e,d,r⟩=>⟨o,es,ep,base_of e (noA e d),d,r⟩
  have hKb:K.In (rH s₁.heap H):=fun b o e=>base_of (KX b o e) (by
   cases q:H b with
   | none=>rfl
   | some u=>
    have e':b=a:=hA b (by rw [q];simp)
    subst e'
    rw [hK (by rw [q];simp)] at e;cases e)
  have hM:Mod K mg (rH s₁.heap H):=⟨hKb,nsK hns,⟨mb,nsK hb,hbb⟩,let ⟨mc,h1,h2⟩:=hlim;⟨mc,nsK h1,h2⟩⟩
  have e0:uW P w K mg (rH s₁.heap H) callerA [] s₁ H:=⟨rfl,hM,fun b o e=>zw e,Nat.le_of_eq (wM _ _),trivial,fun b hb=>absurd (show b∈([]:List Addr) from hb) (by simp),hok,.of_eq hg⟩
  refine codeAny_mono ((F _ hKb (nsK hns)).run callerA [] s₁ H ⟨[.ref a],[]⟩ [.ref a] [.ref a] _ _ hr e0 (hbind s₁ (.ref a)) (.cons rfl .nil) (hsp H hO hS)) fun r s' h=>?_
  cases r with
  | error e=>exact (hCX H e s' h).elim
  | ok fl=>
   cases fl with
   | next=>exact False.elim h
   | brk=>exact False.elim h
   | cont=>exact False.elim h
   | ret u=>
    obtain ⟨v,H',os,bare,un,hok',r',q⟩:=h
    have q':v=.bl true:=q
    subst q'
    obtain rfl:u=Value.bool true:=r'
    refine ⟨rfl,OldK.of_keep fun b o e=>?_,os,bare⟩
    cases q:H b with
    | none=>exact un.keep b o e q (by intro z;exact absurd (show b∈([]:List Addr) from z) (by simp)) (by simp)
    | some u=>
     rcases hO b with z | ⟨ob,xs,z⟩
     ·rw [q] at z;cases z
     ·have z2:=un.frzs b ob _ z
      obtain ⟨e1,_⟩:=hok b _ z
      obtain ⟨e2,_⟩:=hok' b _ z2
      rw [e] at e1;cases e1
      exact e2
 cases hk:K.lookup a with
 | some o=>
  have e:=KX a o hk
  rw [ha] at e
  cases e
  refine core (fun _=>none) (fun _=>.inl rfl) (.inr ⟨_,vs.toArray,_,hk,rfl,rfl,rfl,by rw [List.size_toArray,lenV];exact hl,by simpa using rv⟩) (fun b u z=>by have z':(none:Option HO)=some u:=z;cases z') (fun b z=>absurd rfl z) fun z=>absurd rfl z
 | none=>
  refine core (fun b=>if b=a then some (.frz {cls:=.type "list",data:=.seq vs.toArray} (.lst (ns.map V.int))) else none) (fun b=>?_) (.inl (.inr ⟨{cls:=.type "list",data:=.seq vs.toArray},if_pos rfl⟩)) (fun b u z=>?_) (fun b z=>?_) fun _=>hk
  ·by_cases hb:b=a
   ·exact .inr ⟨_,_,if_pos hb⟩
   ·exact .inl (if_neg hb)
  ·by_cases hb:b=a
   ·have z':=(if_pos hb).symm.trans z
    cases z'
    subst hb
    exact ⟨ha,by rw [List.length_map];exact hl,vs,_,rv,ha⟩
   ·have z':=(if_neg hb).symm.trans z
    cases z'
  ·by_cases hb:b=a
   ·exact hb
   ·exact absurd (if_neg hb) z
theorem zS {l:W.OpenLaw}{n k:Nat}{q:Program}{loose:List Str}{XP:(Str->Option Value)->Heap->Prop}{YP:World->Heap->Prop}{d:DefRec}{K:Params->W.Frag}{CX:World->CXT}{sp:World->Sp}{x:Str}
  (hn:l.most=some n) (hn2:n<=sizeLine) (hdf:d.params.defaults=[]) (hr:cL k callerA)
  (hY:∀(w:World) (h:Heap),YP w h->(K w.params).In h)
  (F:∀(w:World) (mg:Str->Option Value) (fa:Addr) (h:Heap),(K w.params).In h->h.Ns mainGlobals mg->mg d.name=some (.ref fa)->
   ∃fd:FuncData,(∀(s:Shared) (u:Value),BindsTo s fd ⟨[u],[]⟩ [(x,u)])/\
    ∀base:Heap,(K w.params).In base->base.Ns mainGlobals mg->fo l.prog w (K w.params) mg base (CX w) k fa fd [x] (sp w))
  (hsp:∀(w:World) (H:Hp) (a:Addr) (ns:List Int),ns.length<=n->BX H->SqL (K w.params) H a (ns.map V.int)->sp w [.ref a] H (fun v _=>v=.bl true) fun _ _ _=>False)
  (hCX:∀(w:World) (H:Hp) (s:Shared) (e:Value) (s':Shared),CX w [] H s (fun _ _ _=>False) e s'->False) :
  W.WalkO q loose XP YP l.row.toRowW d [] (fun f vs=>PySem.call f vs):=by
 refine Att.tT hn hdf fun w s₀ s₁ mg mb fa o pm cd doc a vs ns G Y ho hd hcd hmg hobj hints hlen hg=>?_
 have KX:=hY w _ Y
 obtain ⟨fd,hb,hF⟩:=F w mg fa _ KX G.T.g hmg
 exact yd KX G.T.g G.T.b G.T.builtins G.T.nolimit hg hobj hints (Nat.le_trans hlen hn2) hr hF hb (fun H hO hS=>hsp w H a ns hlen hO hS) fun H e s'=>hCX w H s₁ e s'
noncomputable def aK (s:Stmt)(j:Nat):Stmt:=match s with
 | .ClassDef _ _ _ body _ _ _ _ _ _ _=>body.getD j (.Pass ⟨0,0,0,0⟩)
 | _=>.Pass ⟨0,0,0,0⟩
noncomputable def cE (s:Stmt):Arguments:=match s with
 | .FunctionDef _ a _ _ _ _ _ _ _ _=>a
 | _=>{posonlyargs:=[],args:=[],vararg:=none,kwonlyargs:=[],kw_defaults:=[],kwarg:=none,defaults:=[]}
noncomputable def bI (s:Stmt):List Stmt:=match s with
 | .FunctionDef _ _ b _ _ _ _ _ _ _=>b
 | _=>[]
noncomputable def aj (s:Stmt):Scope:=match s with
 | .FunctionDef _ _ _ _ _ _ sc _ _ _=>sc
 | _=>{kind:=.function,names:=[],isGenerator:=false,isCoroutine:=false}
noncomputable abbrev CX0:CXT:=fun _ _ _ _ _ _=>False
noncomputable abbrev E0:XK:=fun _ _ _=>False
theorem aY {X:Cx}:dM CX0 X E0:=fun _ _ _ _ _ _ _ h=>h.elim
structure Fun (K:W.Frag)(x qual:Str)(st:Stmt)(f:Addr)(fd:FuncData):Prop where
 ex:∃(oc:Value) (od:Option Addr) (kV doc pm:Value) (an:Option Addr) (cdv ct:Value) (osl:Array (Option Value)),
  fd=W.fnOf x qual (cE st) (bI st) (aj st) .none kV doc pm an cdv ct/\K.lookup f=some ⟨oc,od,.func fd,osl⟩/\W.codeIn K cdv qual=true
 kp:W.keepIn K (.ref f)=true
section
variable {P:Program}{w:World}{K:W.Frag}{mg:Str->Option Value}{base:Heap}
theorem Fun.ok {x qual:Str}{st:Stmt}{f:Addr}{fd:FuncData}{N ps:List Str}{k:Nat}{sp:Sp}(F:Fun K x qual st f fd)(S:au N ps (aj st))(len:∀vs H Q E,sp vs H Q E->vs.length=ps.length)
  (hbody:∀(cdv:Value) (A:Around) (outer:List Env) (s:Shared) (H:Hp) (vs:List V) (Q:VK) (E:XK),cL k (A.deeper (envOfC qual (aj st) s.heap.objs.size f cdv))->sp vs H Q E->
   ∃t,PSs (qo CX0 P w K mg base N qual (aj st) f cdv A outer s H E).nox (bI st) t/\t {nx:=fun _ H'=>Q .non H',rt:=Q} (jl N vs) H):fo P w K mg base CX0 (k+1) f fd ps sp:=by
 obtain ⟨oc,od,kV,doc,pm,an,cdv,ct,osl,rfl,lk,hcd⟩:=F.ex
 refine Bf lk hcd S len fun A outer s H vs Q E hr hsp=>?_
 obtain ⟨t,h,q⟩:=hbody cdv A outer s H vs Q E hr hsp
 exact ⟨t,h.nox,q⟩
theorem Fun.binds {x qual:Str}{st:Stmt}{f:Addr}{fd:FuncData}{ps:List Str}(F:Fun K x qual st f fd)
  (h:∀(kV doc pm:Value) (an:Option Addr) (cdv ct:Value) (us:List Value),us.length=ps.length->bindArgs (W.fnOf x qual (cE st) (bI st) (aj st) .none kV doc pm an cdv ct) ⟨us,[]⟩=pure (ps.zip us)):cS K fd ps []:=by
 obtain ⟨oc,od,kV,doc,pm,an,cdv,ct,osl,rfl,lk,hcd⟩:=F.ex
 exact .all (h kV doc pm an cdv ct)
theorem u0 {x qual:Str}{st:Stmt}{f:Addr}{oc:Value}{od an:Option Addr}{osl:Array (Option Value)}{kV doc pm cdv ct:Value}(l:K.lookup f=some ⟨oc,od,.func (W.fnOf x qual (cE st) (bI st) (aj st) .none kV doc pm an cdv ct),osl⟩)
  (c:W.codeIn K cdv qual=true) (k:W.keepIn K (.ref f)=true):Fun K x qual st f (W.fnOf x qual (cE st) (bI st) (aj st) .none kV doc pm an cdv ct):=⟨⟨oc,od,kV,doc,pm,an,cdv,ct,osl,rfl,l,c⟩,k⟩
end
theorem cX {n:Nat}(h:n<=1000):n < sizeLine:=Nat.lt_of_le_of_lt h (by decide)
section
variable {X:Cx}
theorem pv (i:Nat){x:Str}{pos:Pos}(hN:X.N[i]?=some x:=by rfl)(hv:Vis X.env.scope x:=by first | exact Or.inl rfl | exact Or.inr (Or.inl rfl) | exact Or.inr (Or.inr rfl))(hd:(x == ("__debug__":Str))=false:=by decide)
  (hcd:(x == ("__classdict__":Str))=false:=by decide):PE X (.Name x pos) (Bz i):=BA hN hv hd hcd
end
theorem Dz {A B:Prop}(h:B):if false=true then A else B:=by
 rw [if_neg Bool.false_ne_true]
 exact h
theorem DA {A B:Prop}(h:A):if true=true then A else B:=by
 rw [if_pos rfl]
 exact h
def aw (H H':Hp):Prop:=∀b o,H b=some o->H' b=some o
theorem aw.refl (H:Hp):aw H H:=fun _ _ h=>h
theorem aw.trans {H H1 H2:Hp}(a:aw H H1)(b:aw H1 H2):aw H H2:=fun c o h=>b c o (a c o h)
theorem aw.free {H H':Hp}(e:aw H H'){l:Addr}(h:H' l=Option.none):H l=Option.none:=by
 cases q:H l with
 | none=>rfl
 | some o=>
  rw [e l o q] at h
  cases h
theorem aw.seq {K:W.Frag}{H H':Hp}{a:Addr}{xs:List V}(e:aw H H')(h:SqL K H a xs):SqL K H' a xs:=by
 rcases h with (h | ⟨o,h⟩) | h
 ·exact .inl (.inl (e _ _ h))
 ·exact .inl (.inr ⟨o,e _ _ h⟩)
 ·exact .inr h
end L2
set_option maxHeartbeats 4000000
namespace L2
open PySem PySem.Spec PyProof.Rows
noncomputable def gq (cells:List (Str×Addr)):List (Str×NameKind)->List (Str×Addr)->List (Str×Addr)
 | [],acc=>acc
 | (n,k)::r,acc=>if (k == NameKind.free)=true then (match cells.lookup n with | some c=>gq cells r ((n,c)::acc) | none=>gq cells r acc) else gq cells r acc
theorem jx {scope:Scope}{env:Env}(h:∀y∈scope.names,y.2=.free->∃c,env.cells.lookup y.1=some c):closureFor scope env=pure (gq env.cells scope.names []):=by
 have key:∀(l:List (Str×NameKind)) (acc:List (Str×Addr)),(∀y∈l,y.2=.free->∃c,env.cells.lookup y.1=some c)->
   (forIn l acc fun x s=>if (x.snd == NameKind.free)=true then do
       let c ←cellOf env x.fst
       pure (ForInStep.yield ((x.fst,c)::s))
      else pure (ForInStep.yield s))=(pure (gq env.cells l acc):Sem _):=by
  intro l
  induction l with
  | nil=>intro acc _;rfl
  | cons y r ih=>
   intro acc hy
   obtain ⟨n,k⟩:=y
   have ih':=fun a=>ih a fun z hz=>hy z (List.mem_cons_of_mem _ hz)
   by_cases hk:(k == NameKind.free)=true
   ·obtain ⟨c,hc⟩:=hy (n,k) List.mem_cons_self (by simpa using hk)
    have hc':env.cells.lookup n=some c:=hc
    simp only [List.forIn_cons,hk,if_true,cellOf,hc',pure_bind,gq]
    exact ih' _
   ·simp only [List.forIn_cons,hk,if_false,pure_bind,gq]
    exact ih' _
 simp only [closureFor]
 rw [key _ _ h]
 rfl
theorem lM {cells:List (Str×Addr)}:∀{l:List (Str×NameKind)} {acc:List (Str×Addr)} {x:Str} {c:Addr},(∀x c,acc.lookup x=some c->cells.lookup x=some c)->(gq cells l acc).lookup x=some c->cells.lookup x=some c
 | [],acc,x,c,h,e=>h x c e
 | (n,k)::r,acc,x,c,h,e=>by
  unfold gq at e
  split at e
  ·split at e
   ·rename_i d hd
    refine lM (l:=r) (acc:=(n,d)::acc) (fun y b hy=>?_) e
    rw [List.lookup_cons] at hy
    split at hy
    ·rename_i z
     have zn:y=n:=by simpa using z
     cases hy
     rw [zn];exact hd
    ·exact h y b hy
   ·exact lM h e
  ·exact lM h e
theorem lO {cells:List (Str×Addr)}{x:Str}:∀{l:List (Str×NameKind)} {acc:List (Str×Addr)},(∃c,acc.lookup x=some c)->∃c,(gq cells l acc).lookup x=some c
 | [],acc,h=>h
 | (n,k)::r,acc,h=>by
  unfold gq
  split
  ·split
   ·rename_i d hd
    refine lO (l:=r) ?_
    rw [List.lookup_cons]
    split
    ·exact ⟨_,rfl⟩
    ·exact h
   ·exact lO h
  ·exact lO h
theorem fK {cells:List (Str×Addr)}{x:Str}:∀{l:List (Str×NameKind)} {acc:List (Str×Addr)},l.lookup x=some .free->(∃c,cells.lookup x=some c)->∃c,(gq cells l acc).lookup x=some c
 | [],acc,h,_=>by simp at h
 | (n,k)::r,acc,h,hc=>by
  rw [List.lookup_cons] at h
  unfold gq
  split at h
  ·rename_i z
   have zn:x=n:=by simpa using z
   cases h
   subst zn
   obtain ⟨c,hc⟩:=hc
   rw [if_pos (by decide),hc]
   refine lO ⟨c,?_⟩
   rw [List.lookup_cons]
   simp
  ·split
   ·split
    ·exact fK h hc
    ·exact fK h hc
   ·exact fK h hc
theorem c5 {env:Env}:∀{names:List (Str×NameKind)} {x:Str},names.lookup x=some .free->
  (names.map fun (n,k)=>if (k == NameKind.free && env.scope.kind == .function && env.kindOf n == some .cell) then (n,NameKind.cell) else (n,k)).lookup x=some .cell\/
  (names.map fun (n,k)=>if (k == NameKind.free && env.scope.kind == .function && env.kindOf n == some .cell) then (n,NameKind.cell) else (n,k)).lookup x=some .free
 | [],_,h=>by simp at h
 | (n,k)::r,x,h=>by
  have ih:=@c5 env r x
  show List.lookup x ((if (k == NameKind.free && env.scope.kind == .function && env.kindOf n == some .cell)=true then (n,NameKind.cell) else (n,k))::_)=_\/List.lookup x ((if (k == NameKind.free && env.scope.kind == .function && env.kindOf n == some .cell)=true then (n,NameKind.cell) else (n,k))::_)=_
  cases hx:x == n with
  | true=>
   simp only [List.lookup_cons,hx] at h
   cases h
   by_cases hc:(NameKind.free == NameKind.free && env.scope.kind == .function && env.kindOf n == some .cell)=true
   ·rw [if_pos hc];left;simp only [List.lookup_cons,hx]
   ·rw [if_neg hc];right;simp only [List.lookup_cons,hx]
  | false=>
   simp only [List.lookup_cons,hx] at h
   by_cases hc:(k == NameKind.free && env.scope.kind == .function && env.kindOf n == some .cell)=true
   ·rw [if_pos hc];simp only [List.lookup_cons,hx];exact ih h
   ·rw [if_neg hc];simp only [List.lookup_cons,hx];exact ih h
theorem c6 {env:Env}:∀{names:List (Str×NameKind)} {x:Str},(∀y∈names,y.2≠NameKind.cell)->
  ((names.map fun (n,k)=>if (k == NameKind.free && env.scope.kind == .function && env.kindOf n == some .cell) then (n,NameKind.cell) else (n,k)).lookup x=some .cell\/
  (names.map fun (n,k)=>if (k == NameKind.free && env.scope.kind == .function && env.kindOf n == some .cell) then (n,NameKind.cell) else (n,k)).lookup x=some .free)->names.lookup x=some .free
 | [],_,_,h=>by simp at h
 | (n,k)::r,x,hn,h=>by
  have ih:=@c6 env r x fun y hy=>hn y (List.mem_cons_of_mem _ hy)
  have h':List.lookup x ((if (k == NameKind.free && env.scope.kind == .function && env.kindOf n == some .cell)=true then (n,NameKind.cell) else (n,k))::(r.map fun (n,k)=>if (k == NameKind.free && env.scope.kind == .function && env.kindOf n == some .cell) then (n,NameKind.cell) else (n,k)))=some .cell\/List.lookup x ((if (k == NameKind.free && env.scope.kind == .function && env.kindOf n == some .cell)=true then (n,NameKind.cell) else (n,k))::(r.map fun (n,k)=>if (k == NameKind.free && env.scope.kind == .function && env.kindOf n == some .cell) then (n,NameKind.cell) else (n,k)))=some .free:=h
  cases hx:x == n with
  | true=>
   simp only [List.lookup_cons,hx]
   by_cases hc:(k == NameKind.free && env.scope.kind == .function && env.kindOf n == some .cell)=true
   ·have hk:k=NameKind.free:=by
     rw [Bool.and_eq_true,Bool.and_eq_true] at hc
     simpa using hc.1.1
    rw [hk]
   ·rw [if_neg hc] at h'
    simp only [List.lookup_cons,hx] at h'
    rcases h' with h' | h'
    ·exact absurd (Option.some.inj h') (hn (n,k) List.mem_cons_self)
    ·exact h'
  | false=>
   simp only [List.lookup_cons,hx]
   by_cases hc:(k == NameKind.free && env.scope.kind == .function && env.kindOf n == some .cell)=true
   ·rw [if_pos hc] at h';simp only [List.lookup_cons,hx] at h';exact ih h'
   ·rw [if_neg hc] at h';simp only [List.lookup_cons,hx] at h';exact ih h'
noncomputable def blk (X:Cx)(Nc:List Str)(scope:Scope)(C:Addr)(s₀:Shared)(H₀:Hp)(ex:List Addr):Cx:=
 {X with N:=Nc,s₀:=s₀,H₀:=H₀,env:=compEnvC scope (gq X.env.cells scope.names []) C X.env,outer:=X.stack,ex:=ex,fn:=fun _=>false,pn:=[],xe:=fun _ _=>False}
noncomputable def bE (cm:List (Option Nat))(σ:St):St:=cm.map fun o=>match o with
 | none=>none
 | some i=>(σ[i]?).getD none
def Wk (σ σ':St):Prop:=σ.length=σ'.length/\∀(i:Nat) (v:V),σ[i]?=some (some v)->σ'[i]?=some (some v)
noncomputable def tU (wi:TI)(g:TG)(tc:TT)(te:TE)(cm:List (Option Nat)):TE:=fun σ H Q=>wi σ H fun J H1=>∃W:Nat->Nat->List V->Hp->Prop,(∃m,W 0 m [] H1)/\∀i m acc H,W i m acc H->
 (J.stop i H/\∀p,H p=none->Q (.ref p) (upd H p (.lst acc)))\/
 (J.go i H/\acc.length < sizeLine/\∀x H',J.yld i H x H'->g x (bE cm σ) H' fun σ2 H2=>Wk (bE cm σ) σ2/\tc σ2 H2 fun b H3=>if b=true then te σ2 H3 fun v H4=>∃m',m' < m/\W (i+1) m' (acc++[v]) H4 else ∃m',m' < m/\W (i+1) m' acc H3)
def PIf (X:Cx)(ifs:List Expr)(t:TT):Prop:=
 ∀(pins:List (Addr×Obj)) (s:Shared) (σ:St) (H:Hp) (Q:Bool->Hp->Prop),Inv X pins σ H s->t σ H Q->
  wpAny (model X.prog X.w) X.A (forIn ifs true fun c r=>if r=true then do let ok ←isTrue c X.env (eval c X.env);pure (ForInStep.yield ok) else pure (ForInStep.yield r)) (TP X pins σ Q) X.xe s
noncomputable def qq:TT:=fun _ H Q=>Q true H
theorem gz {X:Cx}:PIf X [] qq:=fun _ _ σ H _ I h=>wpAny_pure ⟨H,I,h⟩
theorem rP {X:Cx}{c:Expr}{t:TT}(h:PT X c t):PIf X [c] t:=fun pins s σ H Q I q=>wpAny_tests_one (h pins s σ H Q I q)
theorem Inv.track {X:Cx}{pins:List (Addr×Obj)}{σ:St}{H:Hp}{s:Shared}{D:Addr}{o:HO}(I:Inv X pins σ H s)(hn:H D=none)(h0:X.s₀.heap.objs.size<=D)(hL:D≠X.env.locals)
  (hcl:∀x c,X.env.cells.lookup x=some c->c≠D) (hp:∀p∈X.pn++pins,p.1≠D) (new:c4 X.prog X.w (upd H D o) s.heap D o):Inv X pins σ (upd H D o) s:=by
 have hb:∀b u,X.s₀.heap.get? b=some u->b≠D:=fun b u e=>Nat.ne_of_lt (Nat.lt_of_lt_of_le (Heap.lt_size e) h0)
 refine ⟨I.ok,I.os,I.bare,⟨I.base.keep,I.base.slot,fun b u e n hx=>?_,I.base.there,fun b xs e=>?_,fun b u xs e=>?_,fun b ps e=>?_⟩,I.loc,I.cell,?_,fun x c e=>?_,fun p hpp=>?_,fun b u e=>?_,I.len⟩
 ·rw [az (hb b u e)];exact I.base.free b u e n hx
 ·have q:=I.base.tups b xs e;rw [az (ak q hn)];exact q
 ·have q:=I.base.frzs b u xs e;rw [az (ak q hn)];exact q
 ·obtain ⟨more,q⟩:=I.base.tbls b ps e;exact ⟨more,by rw [az (ak q hn)];exact q⟩
 ·rw [az (Ne.symm hL)];exact I.free
 ·rw [az (hcl x c e)];exact I.freeC x c e
 ·obtain ⟨a,b,c⟩:=I.pin p hpp
  exact ⟨a,by rw [az (hp p hpp)];exact b,c⟩
 ·by_cases hb:b=D
  ·subst hb;rw [ah] at e;cases e;exact new
  ·rw [az hb] at e
   exact (I.hok b u e).stay (fun c v _ q=>q) (fun c q=>by rw [az (ak q hn)];exact q) fun c xs q=>by rw [az (ak q hn)];exact q
section
variable {X:Cx}
theorem zT {tg iter elt:Expr}{ifs:List Expr}{scope:Scope}{pos:Pos}{Nc:List Str}{cm:List (Option Nat)}{wi:TI}{g:TG}{tc:TT}{te:TE}
  (hc:X.calm=true) (hi:PI X tg iter wi) (hkind:scope.kind=.function) (hcell:∀y∈scope.names,y.2≠.cell) (hnames:∀y∈scope.names,y.2=.local->scope.names.lookup y.1=some .local)
  (hfree:∀y∈scope.names,y.2=.free->X.env.kindOf y.1=some .cell\/X.env.kindOf y.1=some .free) (hlen:cm.length=Nc.length)
  (hcm:∀(j:Nat) (x:Str) (i:Nat),Nc[j]?=some x->cm[j]?=some (some i)->X.N[i]?=some x/\scope.names.lookup x=some .free/\(X.env.kindOf x=some .cell\/X.env.kindOf x=some .free))
  (hg:∀C s₀ H₀ ex,PG (blk X Nc scope C s₀ H₀ ex) tg g) (ht:∀C s₀ H₀ ex,PIf (blk X Nc scope C s₀ H₀ ex) ifs tc) (he:∀C s₀ H₀ ex,PE (blk X Nc scope C s₀ H₀ ex) elt te)
  (hs:∀x,foldedSetIterable iter X.env x=pure x:=by intro _;rfl):PE X (.ListComp elt [⟨tg,iter,ifs,0⟩] scope pos) (tU wi g tc te cm):=by
 intro pins s σ H Q I h
 rw [eval_ListComp]
 have hfr:∀y∈scope.names,y.2=.free->∃c,X.env.cells.lookup y.1=some c:=fun y hy e=>I.ok.has y.1 (hfree y hy e)
 refine wpAny_comprehension_free (use:=none) rfl hs (jx hfr) hkind hnames (thn (hi pins s σ H _ I h) fun v s1 h1=>thn h1 fun itv s2 h2=>?_)
 obtain ⟨it,fp,tn,J,H2,e,I2,T,st2,f2,W,⟨m0,w0⟩,turn⟩:=h2
 subst e
 refine wpAny_newObj_type (wpAny_newFunctionEnv hcell (by intro y hy;simp at hy) (fun h₁ hns₁ hsb₁=>?_) hkind)
 dsimp only at hns₁ hsb₁ ⊢
 have hk3:∀b u,s2.heap.get? b=some u->(s2.heap.push {cls:=.type "list",dict:=none,data:=.seq ([]:List Value).toArray}).get? b=some u:=fun b u q=>Heap.get?_push_of_some _ q
 have I3:Inv X pins σ H2 {s2 with heap:=s2.heap.push {cls:=.type "list",dict:=none,data:=.seq ([]:List Value).toArray},toks:=s2.toks}:=I2.kept hk3
 have hD3:(s2.heap.push {cls:=.type "list",dict:=none,data:=.seq ([]:List Value).toArray}).get? s2.heap.objs.size=some {cls:=.type "list",data:=.seq ([]:List Value).toArray}:=Heap.get?_push_size _ rfl
 have hCs:(s2.heap.push {cls:=.type "list",dict:=none,data:=.seq ([]:List Value).toArray}).objs.size=s2.heap.objs.size+1:=Heap.size_push _ _
 have hDn:H2 s2.heap.objs.size=none:=I2.hok.fresh (Nat.le_refl _)
 have st3:tn 0 (s2.heap.push {cls:=.type "list",dict:=none,data:=.seq ([]:List Value).toArray}):=T.keep _ _ _ st2 fun b _ o q=>hk3 b o q
 have fpD:∀b∈fp,b < s2.heap.objs.size:=fun b hb=>by
  obtain ⟨o,e,_⟩:=T.obj _ _ st2 b hb
  exact Heap.lt_size e
 have DX:lJ X pins H2 s2.heap.objs.size:=I2.fpOk (Nat.le_refl _) hDn
 generalize hs3:s2.heap.push {cls:=.type "list",dict:=none,data:=.seq ([]:List Value).toArray}=h3 at *
 generalize hDg:s2.heap.objs.size=D at *
 have exX:∀b∈D::fp,lJ X pins H2 b:=fun b hb=>by
  rcases List.mem_cons.mp hb with z | z
  ·rw [z];exact DX
  ·exact f2 b z
 have exC:∀b∈D::fp,b < h3.objs.size:=fun b hb=>by
  rcases List.mem_cons.mp hb with z | z
  ·rw [z,hCs];exact Nat.lt_succ_self _
  ·rw [hCs];exact Nat.lt_succ_of_lt (fpD b z)
 have exS:∀b∈D::fp,b∉frs X.stack:=fun b hb z=>by
  obtain ⟨_,n1,n2,_⟩:=exX b hb
  rcases List.mem_cons.mp (I2.stkSub b z) with y | y
  ·exact n1 y
  ·exact n2 y
 have clo:∀x c,(gq X.env.cells scope.names []).lookup x=some c->X.env.cells.lookup x=some c:=fun x c e=>lM (acc:=[]) (fun _ _ z=>by simp at z) e
 have keep1:∀b u,h3.get? b=some u->h₁.get? b=some u:=fun b u q=>
  (hsb₁.2 b (Nat.ne_of_lt (Heap.lt_size q))).trans (Heap.get?_push_of_some _ q)
 let s3:Shared:={s2 with heap:=h3}
 let X':Cx:=blk X Nc scope h3.objs.size s3 H2 (D::fp)
 have hX':X'=blk X Nc scope h3.objs.size s3 H2 (D::fp):=rfl
 have okX:X'.Ok:=by
  refine ⟨I3.ok.mod,hkind,I3.ok.glob,I3.ok.blt,Nat.le_refl _,fun x y c e1 e2=>I3.ok.inj x y c (clo x c e1) (clo y c e2),fun x hx=>?_,fun x c e=>(Bool.false_ne_true e).elim,I3.ok.hd,I3.ok.frames,.inl rfl,fun b hb=>⟨Nat.ne_of_lt (exC b hb),fun x c e=>(exX b hb).2.2.2.2.1 x c (clo x c e)⟩,
   I3.bs,?_,fun b o e hb=>?_,exS,I3.stack,I3.stkFree⟩
  ·have hx':scope.names.lookup x=some .free:=c6 (env:=X.env) hcell hx
   have hmem:(x,NameKind.free)∈scope.names:=by
    have:∀(l:List (Str×NameKind)),l.lookup x=some .free->(x,NameKind.free)∈l:=by
     intro l
     induction l with
     | nil=>intro z;simp at z
     | cons a r ih=>
      obtain ⟨n,k⟩:=a
      intro z
      rw [List.lookup_cons] at z
      split at z
      ·rename_i y
       have yn:x=n:=by simpa using y
       cases z
       rw [yn];exact List.mem_cons_self
      ·exact List.mem_cons_of_mem _ (ih z)
    exact this _ hx'
   exact fK hx' (hfr (x,.free) hmem rfl)
  ·exact Nat.le_trans I3.ok.bsz I3.sz
  ·rcases (exX b hb).2.2.2.1 with z | z
   ·exact I3.ok.noex b o e z
   ·exact absurd (Nat.lt_of_lt_of_le (Heap.lt_size (I3.ok.bs b o e).1) z) (Nat.lt_irrefl _)
 have hσl:(bE cm σ).length=Nc.length:=by
  unfold bE
  rw [List.length_map];exact hlen
 have I4:Inv X' [] (bE cm σ) H2 {s2 with heap:=h₁,toks:=s2.toks+([]:List (Str×Value)).length}:=by
  refine ⟨okX,rfl,I3.bare,Un.kept keep1,⟨_,hns₁,fun j x v e1 e2 e3=>?_⟩,fun x c e=>?_,?_,fun x c e=>I3.freeC x c (clo x c e),(fun p hp=>absurd (show p∈([]:List (Addr×Obj)) from hp) (by simp)),I3.hok.kept keep1,hσl⟩
  ·have e2':∃i,cm[j]?=some (some i)/\σ[i]?=some (some v):=by
    unfold bE at e2
    rw [List.getElem?_map] at e2
    cases q:cm[j]? with
    | none=>rw [q] at e2;simp at e2
    | some o=>
     rw [q] at e2
     cases o with
     | none=>simp at e2
     | some i=>
      refine ⟨i,rfl,?_⟩
      simp only [Option.map_some,Option.some.injEq] at e2
      cases q2:σ[i]? with
      | none=>rw [q2] at e2;simp at e2
      | some o2=>rw [q2] at e2;simp at e2;rw [e2]
   obtain ⟨i,ej,ei⟩:=e2'
   obtain ⟨n1,n2,n3⟩:=hcm j x i e1 ej
   obtain ⟨m,hn,hl⟩:=I3.loc
   have n3':Vis X.env.scope x:=by
    rcases n3 with z | z
    ·exact .inr (.inl z)
    ·exact .inr (.inr z)
   obtain ⟨u,r,l⟩:=hl i x v n1 ei n3'
   refine ⟨u,r,?_⟩
   rcases l with ⟨l,_⟩ | ⟨_,c,ec,ic⟩
   ·rcases n3 with z | z
    ·rw [l] at z;cases z
    ·rw [l] at z;cases z
   ·obtain ⟨c',ec'⟩:=fK (cells:=X.env.cells) (acc:=[]) n2 ⟨c,ec⟩
    have hcc:=clo x c' ec'
    rw [ec] at hcc;cases hcc
    obtain ⟨oc,hoc,hdc⟩:=ic
    refine .inr ⟨?_,c,ec',oc,keep1 _ _ hoc,hdc⟩
    exact c5 (env:=X.env) n2
  ·obtain ⟨v,oc,hoc,hdc⟩:=I3.cell x c (clo x c e)
   exact ⟨v,oc,keep1 _ _ hoc,hdc⟩
  ·exact I3.hok.fresh (Nat.le_refl _)
 have stat:∀{H':Hp} {pl:List (Addr×Obj)},(∀b∈fp,H' b=none)->(∀p∈pl,p.1=D)->∀b∈fp,lJ X' pl H' b:=fun {H' pl} hn hpl b hb=>
  ⟨hn b hb,Nat.ne_of_lt (exC b (List.mem_cons_of_mem _ hb)),exS b (List.mem_cons_of_mem _ hb),.inl (List.mem_cons_of_mem _ hb),fun x c e=>(f2 b hb).2.2.2.2.1 x c (clo x c e),fun p hp z=>by
   have:p∈pl:=(List.mem_append.mp hp).elim (fun z=>absurd (show p∈([]:List (Addr×Obj)) from z) (by simp)) fun z=>z
   have e:=hpl p this
   rw [e] at z
   exact absurd (fpD b hb) (by rw [←z];exact Nat.lt_irrefl _)⟩
 have hDC:D≠h3.objs.size:=by rw [hCs];exact Nat.ne_of_lt (Nat.lt_succ_self _)
 have hDs:D∉frs X.stack:=exS D List.mem_cons_self
 have loop:∀s5:Shared,s5={s2 with heap:=h₁,toks:=s2.toks+([]:List (Str×Value)).length}->
   codeAny (model X.prog X.w) X.A (.compLoop (.ListComp elt [⟨tg,iter,ifs,0⟩] scope pos) 0 (.ref it) (.ref D) (compEnvC scope (gq X.env.cells scope.names []) h3.objs.size X.env))
    (compPost (model X.prog X.w) X.A X.xe none (EP X pins σ Q) (.ref D) h3.objs.size) s5:=by
  rintro s5 rfl
  refine codeAny_loop rfl (fun n s'=>∃i acc its k H',Inv X' [] (bE cm σ) H' s'/\tn i s'.heap/\(∀b∈fp,H' b=none)/\s'.heap.get? D=some {cls:=.type "list",data:=.seq (List.toArray its) k}/\H' D=none/\ba acc its/\acc.length<=sizeLine/\W i n acc H') (fun n s' hI=>?_) m0
   ⟨0,[],[],0,H2,I4,T.keep _ _ _ st3 fun b _ o q=>keep1 b o q,fun b hb=>(f2 b hb).1,keep1 _ _ hD3,hDn,.nil,Nat.zero_le _,w0⟩
  obtain ⟨i,acc,its,k,H5,J5,t5,fr5,d5,dn5,va5,ac5,w5⟩:=hI
  show wpAny _ X.A ((compTurn (.ListComp elt [⟨tg,iter,ifs,0⟩] scope pos) 0 (.ref it) (.ref D) (compEnvC scope (gq X.env.cells scope.names []) h3.objs.size X.env)).onRaise (fun x=>do noteFrame x (compEnvC scope (gq X.env.cells scope.names []) h3.objs.size X.env);theTreesLotGoes x)) _ _ s'
  refine wpAny_noted ?_
  rw [compTurn_list]
  have nocell:∀v,({cls:=.type "list",data:=.seq (List.toArray its) k}:Obj).data≠.cell v:=fun v z=>nomatch z
  have P5:Inv X' [(D,{cls:=.type "list",data:=.seq (List.toArray its) k})] (bE cm σ) H5 s':=J5.pins_of fun p hp=>by
   have e:p=(D,{cls:=.type "list",data:=.seq (List.toArray its) k}):=by simpa using hp
   subst e
   exact ⟨d5,dn5,hDC,hDs,nocell⟩
  have pl1:∀p∈[((D,{cls:=.type "list",data:=.seq (List.toArray its) k}):Addr×Obj)],p.1=D:=fun p hp=>by
   have e:p=(D,{cls:=.type "list",data:=.seq (List.toArray its) k}):=by simpa using hp
   rw [e]
  rcases turn i n acc H5 w5 with ⟨stop,qn⟩ | ⟨go,hsz,step⟩
  ·refine wpAny_bind (wpAny_standAt (wpAny_bind (wpAny_mono (T.done X' rfl rfl rfl hc i _ s' _ H5 (fun _ _=>False) P5 (stat fr5 pl1) t5 stop) (fun r s6 ⟨hr,J6⟩=>?_) fun _ _ f=>f.elim)))
   subst hr
   refine wpAny_pure ?_
   obtain ⟨mC,hnC,_⟩:=J6.loc
   refine ⟨mC,hnC,fun h' hsb=>?_⟩
   have hCn:H5 h3.objs.size=none:=J6.free
   have toh:∀b u,b≠h3.objs.size->s6.heap.get? b=some u->h'.get? b=some u:=fun b u hb q=>(hsb.2 b hb).trans q
   have hok':HOk X.prog X.w H5 h':=fun a o e=>(J6.hok a o e).stay (fun b u hb q=>toh b u (by
    rintro rfl
    rcases hb with z | z
    ·rw [←z,hCn] at e;cases e
    ·rw [hCn] at z;cases z) q) (fun _ q=>q) fun _ _ q=>q
   have ltC:∀{b:Addr} {u:Obj},h3.get? b=some u->b≠h3.objs.size:=fun q=>Nat.ne_of_lt (Heap.lt_size q)
   have un':Un (frs X.stack) (D::fp) H2 H5 h3 h':=by
    have u:=J6.base
    refine ⟨fun b o e n hb hx=>toh b o (ltC e) (u.keep b o e n hb hx),fun b o e n hb hx=>?_,u.free,fun b o e hx=>?_,u.tups,u.frzs,u.tbls⟩
    ·obtain ⟨sl,q⟩:=u.slot b o e n hb hx
     exact ⟨sl,toh b _ (ltC e) q⟩
    ·obtain ⟨o',q⟩:=u.there b o e hx
     exact ⟨o',toh b _ (ltC e) q⟩
   have J7:Inv X pins σ H5 {s6 with heap:=h'}:=Inv.call' (s':={s6 with heap:=h'}) (ch:=D::fp) I3 J6.os un' hok' J6.bare fun b hb=>by
    obtain ⟨_,n1,n2,n3,n4,n5⟩:=exX b hb
    exact ⟨n3,n1,n4,n5⟩
   obtain ⟨dg,dg2,_⟩:=J6.pin (D,{cls:=.type "list",data:=.seq (List.toArray its) k}) (by simp)
   obtain ⟨_,n1,n2,n3,n4,n5⟩:=exX D List.mem_cons_self
   have n3':X.s₀.heap.objs.size<=D:=by
    have:=I2.sz
    rw [hDg] at this
    exact this
   refine ⟨.ref D,_,J7.track (o:=.lst acc) dg2 n3' n1 n4 n5 ⟨ac5,its,k,va5,toh _ _ hDC dg⟩,rfl,qn D dg2⟩
  ·refine wpAny_bind (wpAny_standAt (wpAny_bind (wpAny_mono (T.item X' rfl rfl rfl hc i _ s' _ H5 (fun _ _=>False) P5 (stat fr5 pl1) t5 go) (fun r s6 ⟨u,hr,h6⟩=>?_) fun _ _ f=>f.elim)))
   subst hr
   refine wpAny_bind (wpAny_mono h6 (fun _ s7 ⟨x,H7,J7,r7,y7,t7,fr7⟩=>?_) fun _ _ f=>f.elim)
   have P7:=J7.pinned (stat fr7 pl1) (T.obj _ _ t7)
   refine wpAny_bind (wpAny_mono (hg _ _ _ _ _ s7 _ H7 x u _ P7 r7 (step x H7 y7)) (fun _ s8 ⟨σ8,H8,J8,wk8,q8⟩=>?_) fun _ _ f=>f.elim)
   refine wpAny_bind (wpAny_mono (ht _ _ _ _ _ s8 σ8 H8 _ J8 q8) (fun b s9 ⟨H9,J9,q9⟩=>?_) fun _ _ f=>f.elim)
   have back:∀{Ha:Hp} {sa:Shared},Inv X' ([(D,{cls:=.type "list",data:=.seq (List.toArray its) k})]++mI fp s7.heap) σ8 Ha sa->
     Inv X' [] (bE cm σ) Ha sa/\tn (i+1) sa.heap/\(∀b∈fp,Ha b=none)/\sa.heap.get? D=some {cls:=.type "list",data:=.seq (List.toArray its) k}/\Ha D=none:=fun {Ha sa} Ja=>by
    refine ⟨(Ja.weak wk8.1 wk8.2).pins_of fun p hp=>absurd hp (by simp),T.keep _ _ _ t7 fun b hb o e=>(Ja.pin (b,o) (List.mem_append_right _ (List.mem_append_right _ (eg hb e)))).1,fun b hb=>?_,?_⟩
    ·obtain ⟨o,e,d⟩:=T.obj _ _ t7 b hb
     exact (Ja.pin (b,o) (List.mem_append_right _ (List.mem_append_right _ (eg hb e)))).2.1
    ·obtain ⟨z1,z2,_⟩:=Ja.pin (D,{cls:=.type "list",data:=.seq (List.toArray its) k}) (by simp)
     exact ⟨z1,z2⟩
   cases b with
   | false=>
    simp only [Bool.false_eq_true,if_false] at q9 ⊢
    obtain ⟨m',hm,w'⟩:=q9
    obtain ⟨z0,z1,z2,z3,z4⟩:=back J9
    exact wpAny_pure ⟨rfl,m',hm,i+1,acc,its,k,H9,z0,z1,z2,z3,z4,va5,ac5,w'⟩
   | true=>
    simp only [if_true] at q9 ⊢
    refine wpAny_bind (wpAny_bind (wpAny_mono (he _ _ _ _ _ s9 σ8 H9 _ J9 q9) (fun y s10 ⟨v,H10,J10,rv,q10⟩=>wpAny_bind ?_) fun _ _ f=>f.elim))
    obtain ⟨m',hm,w'⟩:=q10
    obtain ⟨z0,z1,z2,z3,z4⟩:=back J10
    have hli:=va5.length
    refine call_meets F.slot_list_append ⟨_,z3,rfl⟩ F.entry_list_append (F.args_list_append_2 _ _) (PySem.list_append D its.toArray k y (by rw [List.size_toArray];omega)) ⟨z3,?_⟩
    obtain ⟨k',q⟩:∃k',(s10.heap.update D (Obj.mapSeq (·.push y))).get? D=some {cls:=.type "list",data:=.seq (List.toArray (its++[y])) k'}:=by
     have q:=PySem.IsL.update z3 (·.push y)
     have e:its.toArray.push y=(its++[y]).toArray:=by simp
     rw [e] at q
     exact ⟨_,q⟩
    refine wpAny_pure (wpAny_pure ⟨rfl,m',hm,i+1,acc++[v],its++[y],k',H10,z0.turned (it:=D) (fun b o hb hu=>(Heap.get?_update_other s10.heap (Obj.mapSeq (·.push y)) (Ne.symm hb)).trans hu) z4 hDC (.inl List.mem_cons_self) (fun x c e=>(exX D List.mem_cons_self).2.2.2.2.1 x c (clo x c e)) (fun p hp=>absurd (show p∈([]:List (Addr×Obj)) from hp) (by simp)),
     T.keep _ _ _ z1 fun b hb o e=>(Heap.get?_update_other s10.heap (Obj.mapSeq (·.push y)) (Nat.ne_of_gt (fpD b hb))).trans e,z2,q,z4,va5.append (.cons rv .nil),by rw [List.length_append,List.length_singleton];omega,w'⟩)
 exact codeAny_compStart_list (loop _ rfl) (T.self X.A 0 _ _ _ (T.keep _ _ _ st3 fun b _ o q=>keep1 b o q) (loop _ rfl))
end
theorem BY {lo:Int}{n:Nat}{g:TG}{tc:TT}{te:TE}{cm:List (Option Nat)}{σ:St}{H:Hp}{Q:VK}(Pv:Nat->List V->Hp->Prop)(h0:Pv 0 [] H)
  (hs:∀i acc H,i < n->Pv i acc H->acc.length < sizeLine/\g (.int (lo+i)) (bE cm σ) H fun σ2 H2=>Wk (bE cm σ) σ2/\tc σ2 H2 fun b H3=>if b=true then te σ2 H3 fun v H4=>Pv (i+1) (acc++[v]) H4 else Pv (i+1) acc H3)
  (mono:∀x σ H N N',(∀σ2 H2,N σ2 H2->N' σ2 H2)->g x σ H N->g x σ H N':=by exact fun _ _ _ _ _ h q=>h _ _ q)
  (monoc:∀σ H N N',(∀b H2,N b H2->N' b H2)->tc σ H N->tc σ H N') (monoe:∀σ H N N',(∀v H2,N v H2->N' v H2)->te σ H N->te σ H N')
  (hd:∀acc H,Pv n acc H->∀p,H p=none->Q (.ref p) (upd H p (.lst acc))) :
  ∃W:Nat->Nat->List V->Hp->Prop,(∃m,W 0 m [] H)/\∀i m acc H,W i m acc H->
   ((Itr lo n).stop i H/\∀p,H p=none->Q (.ref p) (upd H p (.lst acc)))\/
   ((Itr lo n).go i H/\acc.length < sizeLine/\∀x H',(Itr lo n).yld i H x H'->g x (bE cm σ) H' fun σ2 H2=>Wk (bE cm σ) σ2/\tc σ2 H2 fun b H3=>if b=true then te σ2 H3 fun v H4=>∃m',m' < m/\W (i+1) m' (acc++[v]) H4 else ∃m',m' < m/\W (i+1) m' acc H3):=by
 refine ⟨fun i m acc H=>m=n - i/\i<=n/\Pv i acc H,⟨n,by simp,Nat.zero_le _,h0⟩,?_⟩
 rintro i m acc H ⟨rfl,hi,p⟩
 by_cases hlt:i < n
 ·obtain ⟨hz,q⟩:=hs i acc H hlt p
  refine .inr ⟨hlt,hz,fun x H' y=>?_⟩
  obtain ⟨e,y⟩:=y
  subst e y
  refine mono _ _ _ _ _ (fun σ2 H2 ⟨wk,q⟩=>⟨wk,monoc _ _ _ _ (fun b H3 q=>?_) q⟩) q
  cases b with
  | true=>exact monoe _ _ _ _ (fun v H4 q=>⟨n - (i+1),by omega,rfl,hlt,q⟩) q
  | false=>exact ⟨n - (i+1),by omega,rfl,hlt,q⟩
 ·have e:i=n:=by omega
  subst e
  exact .inl ⟨Nat.le_refl _,hd acc H p⟩
theorem oM {lo:Int}{n:Nat}{te:TE}{cm:List (Option Nat)}{σ:St}{H:Hp}{Q:VK}(f:Nat->V)(hn:n<=sizeLine){j:Nat}(hj:(bE cm σ)[j]?=some none)
  (hs:∀i,i < n->∀N:VK,N (f i) H->te ((bE cm σ).set j (some (.int (lo+i)))) H N)
  (hd:∀p,H p=none->Q (.ref p) (upd H p (.lst ((List.range n).map f)))) :
  ∃W:Nat->Nat->List V->Hp->Prop,(∃m,W 0 m [] H)/\∀i m acc H,W i m acc H->
   ((Itr lo n).stop i H/\∀p,H p=none->Q (.ref p) (upd H p (.lst acc)))\/
   ((Itr lo n).go i H/\acc.length < sizeLine/\∀x H',(Itr lo n).yld i H x H'->dZ j x (bE cm σ) H' fun σ2 H2=>Wk (bE cm σ) σ2/\qq σ2 H2 fun b H3=>if b=true then te σ2 H3 fun v H4=>∃m',m' < m/\W (i+1) m' (acc++[v]) H4 else ∃m',m' < m/\W (i+1) m' acc H3):=by
 refine ⟨fun i m acc H'=>m=n - i/\i<=n/\H'=H/\acc=(List.range i).map f,⟨n,by simp,Nat.zero_le _,rfl,rfl⟩,?_⟩
 rintro i m acc H' ⟨rfl,hi,rfl,rfl⟩
 by_cases hlt:i < n
 ·refine .inr ⟨hlt,by rw [List.length_map,List.length_range];omega,fun x H' y=>?_⟩
  obtain ⟨e,y⟩:=y
  subst e y
  refine ⟨⟨by simp,fun k v e=>?_⟩,?_⟩
  ·by_cases hk:j=k
   ·subst hk;rw [hj] at e;cases e
   ·rw [List.getElem?_set_ne hk];exact e
  ·unfold qq;dsimp only
   split
   ·refine hs i hlt _ ⟨n - (i+1),by omega,rfl,hlt,rfl,?_⟩
    rw [List.range_succ,List.map_append];rfl
   ·rename_i z;exact absurd rfl z
 ·have e:i=n:=by omega
  subst e
  exact .inl ⟨Nat.le_refl _,hd⟩
theorem qr {K:W.Frag}{a:Addr}{xs:List V}{tc:TT}{te:TE}{cm:List (Option Nat)}{σ:St}{H:Hp}{Q:VK}(p:V->Bool)(f:V->V)(hl:SqL K H a xs)(hn:xs.length<=sizeLine){j:Nat}(hj:(bE cm σ)[j]?=some none)
  (hc:∀x,x∈xs->∀N:Bool->Hp->Prop,N (p x) H->tc ((bE cm σ).set j (some x)) H N)
  (hs:∀x,x∈xs->p x=true->∀N:VK,N (f x) H->te ((bE cm σ).set j (some x)) H N)
  (hd:∀b,H b=none->Q (.ref b) (upd H b (.lst ((xs.filter p).map f)))) :
  ∃W:Nat->Nat->List V->Hp->Prop,(∃m,W 0 m [] H)/\∀i m acc H,W i m acc H->
   ((Itl K a).stop i H/\∀p,H p=none->Q (.ref p) (upd H p (.lst acc)))\/
   ((Itl K a).go i H/\acc.length < sizeLine/\∀x H',(Itl K a).yld i H x H'->dZ j x (bE cm σ) H' fun σ2 H2=>Wk (bE cm σ) σ2/\tc σ2 H2 fun b H3=>if b=true then te σ2 H3 fun v H4=>∃m',m' < m/\W (i+1) m' (acc++[v]) H4 else ∃m',m' < m/\W (i+1) m' acc H3):=by
 refine ⟨fun i m acc H'=>m=xs.length - i/\i<=xs.length/\H'=H/\acc=((xs.take i).filter p).map f,⟨xs.length,by simp,Nat.zero_le _,rfl,by simp⟩,?_⟩
 rintro i m acc H' ⟨rfl,hi,rfl,rfl⟩
 by_cases hlt:i < xs.length
 ·have hx:xs[i]?=some xs[i]:=by simp [hlt]
  have hle:(((xs.take i).filter p).map f).length < sizeLine:=by
   rw [List.length_map]
   have:=List.length_filter_le p (xs.take i)
   rw [List.length_take] at this
   omega
  refine .inr ⟨⟨xs,xs[i],hl,hx⟩,hle,fun x H' y=>?_⟩
  obtain ⟨e,y⟩:=y
  subst e
  have hy:=y xs hl
  rw [hx] at hy;cases hy
  have hmem:xs[i]∈xs:=List.getElem_mem hlt
  refine ⟨⟨by simp,fun k v e=>?_⟩,hc _ hmem _ ?_⟩
  ·by_cases hk:j=k
   ·subst hk;rw [hj] at e;cases e
   ·rw [List.getElem?_set_ne hk];exact e
  ·have hstep:((xs.take (i+1)).filter p).map f=((xs.take i).filter p).map f++(if p xs[i] then [f xs[i]] else []):=by
    rw [take_succ_filter p xs i _ hx,List.map_append]
    cases p xs[i]<;>rfl
   cases hp:p xs[i] with
   | true=>
    refine DA (hs _ hmem hp _ ⟨xs.length - (i+1),by omega,rfl,hlt,rfl,?_⟩)
    rw [hstep,hp];rfl
   | false=>
    refine Dz ⟨xs.length - (i+1),by omega,rfl,hlt,rfl,?_⟩
    rw [hstep,hp];simp
 ·have e:i=xs.length:=by omega
  subst e
  refine .inl ⟨⟨xs,hl,Nat.le_refl _⟩,?_⟩
  rw [List.take_length]
  exact hd
theorem lP {lo:Int}{n:Nat}{tc:TT}{te:TE}{cm:List (Option Nat)}{σ:St}{H:Hp}{Q:VK}(p:Nat->Bool)(f:Nat->V)(hn:n<=sizeLine){j:Nat}(hj:(bE cm σ)[j]?=some none)
  (hc:∀i,i < n->∀N:Bool->Hp->Prop,N (p i) H->tc ((bE cm σ).set j (some (.int (lo+i)))) H N)
  (hs:∀i,i < n->p i=true->∀N:VK,N (f i) H->te ((bE cm σ).set j (some (.int (lo+i)))) H N)
  (hd:∀b,H b=none->Q (.ref b) (upd H b (.lst (((List.range n).filter p).map f)))) :
  ∃W:Nat->Nat->List V->Hp->Prop,(∃m,W 0 m [] H)/\∀i m acc H,W i m acc H->
   ((Itr lo n).stop i H/\∀p,H p=none->Q (.ref p) (upd H p (.lst acc)))\/
   ((Itr lo n).go i H/\acc.length < sizeLine/\∀x H',(Itr lo n).yld i H x H'->dZ j x (bE cm σ) H' fun σ2 H2=>Wk (bE cm σ) σ2/\tc σ2 H2 fun b H3=>if b=true then te σ2 H3 fun v H4=>∃m',m' < m/\W (i+1) m' (acc++[v]) H4 else ∃m',m' < m/\W (i+1) m' acc H3):=by
 refine ⟨fun i m acc H'=>m=n - i/\i<=n/\H'=H/\acc=((List.range i).filter p).map f,⟨n,by simp,Nat.zero_le _,rfl,by simp⟩,?_⟩
 rintro i m acc H' ⟨rfl,hi,rfl,rfl⟩
 by_cases hlt:i < n
 ·have hle:(((List.range i).filter p).map f).length < sizeLine:=by
   rw [List.length_map]
   have:=List.length_filter_le p (List.range i)
   rw [List.length_range] at this
   omega
  refine .inr ⟨hlt,hle,fun x H' y=>?_⟩
  obtain ⟨e,y⟩:=y
  subst e y
  refine ⟨⟨by simp,fun k v e=>?_⟩,hc _ hlt _ ?_⟩
  ·by_cases hk:j=k
   ·subst hk;rw [hj] at e;cases e
   ·rw [List.getElem?_set_ne hk];exact e
  ·have hstep:((List.range (i+1)).filter p).map f=((List.range i).filter p).map f++(if p i then [f i] else []):=by
    rw [List.range_succ,List.filter_append,List.map_append]
    cases hp:p i<;>simp [hp]
   cases hp:p i with
   | true=>
    refine DA (hs _ hlt hp _ ⟨n - (i+1),by omega,rfl,hlt,rfl,?_⟩)
    rw [hstep,hp];rfl
   | false=>
    refine Dz ⟨n - (i+1),by omega,rfl,hlt,rfl,?_⟩
    rw [hstep,hp];simp
 ·have e:i=n:=by omega
  subst e
  exact .inl ⟨Nat.le_refl _,hd⟩
section
variable {X:Cx}
noncomputable def BZ (K:W.Frag):List V->Hp->VK->Prop:=fun xs H Q=>∃x n t b,xs=[x,.ty n]/\mL K H x t/\W.kitOne K t (.type n)=some b/\Q (.bl b) H
theorem tV:fJ X (.builtin "isinstance") (BZ X.K):=by
 intro pins s σ H xs us Q I r h
 obtain ⟨x,n,t,b,rfl,ty,e,q⟩:=h
 obtain ⟨u,v,rfl,ru,rv⟩:=vW r
 cases rv
 exact w6 I ru ty e fun tk=>⟨.bl b,H,I.tok tk,rfl,q⟩
theorem ye {K:W.Frag}{n:String}:W.kitOne K (.type n) (.type n)=some true:=by
 unfold W.kitOne
 rw [if_pos (by simp)]
theorem rQ {K:W.Frag}:W.kitOne K (.type "int") (.type "bool")=some false:=by
 with_unfolding_all rfl
def Bi (i j:Int):Prop:=0 < j/\j < 2 ^ 200
theorem yf:OpR X (binaryOp .FloorDiv) (rI Bi fun i j=>.int (i / j)):=opI fun i j _ _ _ _ _ hc q=>by
 have hj:j.natAbs.log2 < 9000:=by
  have h1:j.natAbs < 2 ^ 200:=by have:=hc.2;have:=hc.1;omega
  have h0:j.natAbs≠0:=by have:=hc.1;omega
  exact Nat.lt_of_lt_of_le ((Nat.log2_lt h0).mpr h1) (by decide)
 have e:i.fdiv j=i / j:=Int.fdiv_eq_ediv_of_nonneg _ (Int.le_of_lt hc.1)
 exact floordiv_int (by have:=hc.1;omega) (by rw [e];exact q) (.inl (PyProof.noPylong_of_log2 hj))
end
theorem bu:bootBuiltins "len"=some (.builtin "len"):=by decide +kernel
theorem bp:bootBuiltins "isinstance"=some (.builtin "isinstance"):=by decide +kernel
theorem u4:bootBuiltins "min"=some (.builtin "min"):=by decide +kernel
theorem u5:bootBuiltins "abs"=some (.builtin "abs"):=by decide +kernel
theorem rR:bootBuiltins "int"=some (.type "int"):=by decide +kernel
theorem rS:bootBuiltins "bool"=some (.type "bool"):=by decide +kernel
theorem yg:bootBuiltins "str"=some (.type "str"):=by decide +kernel
theorem dq:bootBuiltins "list"=some (.type "list"):=by decide +kernel
theorem oN:bootBuiltins "tuple"=some (.type "tuple"):=by decide +kernel
theorem B0:bootBuiltins "zip"=some (.type "zip"):=by decide +kernel
theorem rT:bootBuiltins "enumerate"=some (.type "enumerate"):=by decide +kernel
noncomputable def yh (X:Cx)(scope:Scope):Bool:=scope.names.all fun y=>y.2 != .free || (X.env.kindOf y.1 == some .cell || X.env.kindOf y.1 == some .free)
noncomputable def DB (X:Cx)(scope:Scope)(Nc:List Str)(cm:List (Option Nat)):Bool:=(Nc.zip cm).all fun p=>match p.2 with
 | none=>true
 | some i=>X.N[i]? == some p.1 && (scope.names.lookup p.1 == some .free && (X.env.kindOf p.1 == some .cell || X.env.kindOf p.1 == some .free))
theorem nF {X:Cx}{tg iter elt:Expr}{ifs:List Expr}{scope:Scope}{pos:Pos}(Nc:List Str)(cm:List (Option Nat)){wi:TI}{g:TG}{tc:TT}{te:TE}
  (hi:PI X tg iter wi) (hg:∀C s₀ H₀ ex,PG (blk X Nc scope C s₀ H₀ ex) tg g) (ht:∀C s₀ H₀ ex,PIf (blk X Nc scope C s₀ H₀ ex) ifs tc) (he:∀C s₀ H₀ ex,PE (blk X Nc scope C s₀ H₀ ex) elt te)
  (hc:X.calm=true:=by rfl) (hkind:scope.kind=.function:=by rfl) (hcell:∀y∈scope.names,y.2≠.cell:=by decide +kernel) (hnames:∀y∈scope.names,y.2=.local->scope.names.lookup y.1=some .local:=by decide +kernel)
  (hfree:yh X scope=true:=by rfl) (hlen:cm.length=Nc.length:=by rfl) (hcm:DB X scope Nc cm=true:=by rfl)
  (hs:∀x,foldedSetIterable iter X.env x=pure x:=by intro _;rfl):PE X (.ListComp elt [⟨tg,iter,ifs,0⟩] scope pos) (tU wi g tc te cm):=by
 refine zT hc hi hkind hcell hnames (fun y hy e=>?_) hlen (fun j x i e1 e2=>?_) hg ht he hs
 ·have h:=List.all_eq_true.mp hfree y hy
  rw [e] at h
  simpa using h
 ·have hj:(Nc.zip cm)[j]?=some (x,some i):=by
   rw [List.getElem?_zip_eq_some];exact ⟨e1,e2⟩
  have h:=List.all_eq_true.mp hcm _ (List.mem_of_getElem? hj)
  simpa using h
theorem B1 {CX:CXT}{P:Program}{w:World}{K:W.Frag}{mg:Str->Option Value}{base:Heap}{N:List Str}{qual:Str}{scope:Scope}{f:Addr}{cd:Value}{A:Around}{outer:List Env}{s:Shared}{H:Hp}{E:XK} :
  (qo CX P w K mg base N qual scope f cd A outer s H E).K=K:=rfl
theorem ck {ns:List Int}{k:Int}(h0:0<=k)(h1:k < ns.length):atI (ns.map V.int) k=some (.int (ns.getD k.toNat 0)):=by
 have hl:k.toNat < ns.length:=by omega
 have q:(ns.map V.int)[k.toNat]?=some (.int (ns.getD k.toNat 0)):=by
  rw [List.getElem?_map,List.getD_eq_getElem?_getD,List.getElem?_eq_getElem hl]
  rfl
 have q2:=vZ q
 rw [show ((k.toNat:Nat):Int)=k by omega] at q2
 exact q2
theorem oO {ns:List Int}{k:Nat}(h1:k < ns.length):atI (ns.map V.int) (k:Int)=some (.int (ns.getD k 0)):=by
 have:=ck (ns:=ns) (k:=(k:Int)) (by omega) (by omega)
 simpa using this
theorem yi {ns:List Int}{k:Nat}(h:ns.length<=k):ns.getD k 0=0:=by
 rw [List.getD_eq_getElem?_getD,List.getElem?_eq_none_iff.mpr h];rfl
structure bG (ds:List Int):Prop where
 l2:2<=ds.length
 l6:ds.length<=6
 lo:∀d∈ds,0<=d
 hi:∀d∈ds,d<=500
 up:ds.Pairwise (· < ·)
theorem bG.get {ds:List Int}(h:bG ds){i:Nat}(hi:i < ds.length):0<=ds.getD i 0/\ds.getD i 0<=500:=by
 rw [List.getD_eq_getElem?_getD,List.getElem?_eq_getElem hi,Option.getD_some]
 exact ⟨h.lo _ (List.getElem_mem hi),h.hi _ (List.getElem_mem hi)⟩
theorem bG.lt {ds:List Int}(h:bG ds){i j:Nat}(hij:i < j)(hj:j < ds.length):ds.getD i 0 < ds.getD j 0:=by
 have hi:i < ds.length:=Nat.lt_trans hij hj
 rw [List.getD_eq_getElem?_getD,List.getElem?_eq_getElem hi,List.getD_eq_getElem?_getD,List.getElem?_eq_getElem hj,Option.getD_some,Option.getD_some]
 exact List.pairwise_iff_getElem.mp h.up i j hi hj hij
noncomputable def bX (ds:List Int):Int:=ds.getD (ds.length - 1) 0
theorem bG.even {n:Nat}{g:Int}(h2:2<=n)(h6:n<=6)(g1:1<=g)(g2:g<=100):bG ((List.range n).map fun (i:Nat)=>g * (i:Int)):=by
 refine ⟨by simpa using h2,by simpa using h6,fun d hd=>?_,fun d hd=>?_,?_⟩
 ·obtain ⟨i,hi,rfl⟩:=List.mem_map.mp hd
  exact Int.mul_nonneg (by omega) (by omega)
 ·obtain ⟨i,hi,rfl⟩:=List.mem_map.mp hd
  have hi':=List.mem_range.mp hi
  have a:g * (i:Int)<=g * 5:=Int.mul_le_mul_of_nonneg_left (by omega) (by omega)
  omega
 ·rw [List.pairwise_map]
  refine List.Pairwise.imp_of_mem (fun {a b} ha hb hab=>?_) List.pairwise_lt_range
  exact Int.mul_lt_mul_of_pos_left (by omega) (by omega)
structure iI (ds:List Int)(l:Int):Prop where
 lo:∀d∈ds,0<=d
 hi:∀d∈ds,d<=l
 up:ds.Pairwise (· < ·)
 l0:-1<=l
theorem iI.nil:iI [] (-1):=⟨by simp,by simp,List.Pairwise.nil,by omega⟩
theorem iI.snoc {ds:List Int}{l r:Int}(h:iI ds l)(h0:0<=r):iI (ds++[l+1+r]) (l+1+r):=by
 have l0:=h.l0
 refine ⟨fun d hd=>?_,fun d hd=>?_,?_,by omega⟩
 ·rcases List.mem_append.mp hd with z | z
  ·exact h.lo d z
  ·have:d=l+1+r:=by simpa using z
   omega
 ·rcases List.mem_append.mp hd with z | z
  ·have:=h.hi d z;omega
  ·have:d=l+1+r:=by simpa using z
   omega
 ·rw [List.pairwise_append]
  refine ⟨h.up,by simp,fun a ha b hb=>?_⟩
  have hb':b=l+1+r:=by simpa using hb
  have:=h.hi a ha;omega
theorem iI.shaft {ds:List Int}{l:Int}(h:iI ds l)(hl:l<=500)(h2:2<=ds.length)(h6:ds.length<=6):bG ds:=
 ⟨h2,h6,h.lo,fun d hd=>Int.le_trans (h.hi d hd) hl,h.up⟩
theorem bG.ends {ds:List Int}(h:bG ds):bG ([0]++(ds.drop 1).take (ds.length - 1 - 1)++[500]):=by
 have l2:=h.l2
 have l6:=h.l6
 have hlen:((ds.drop 1).take (ds.length - 1 - 1)).length=ds.length - 2:=by
  rw [List.length_take,List.length_drop];omega
 have hmem:∀d,d∈(ds.drop 1).take (ds.length - 1 - 1)->0 < d/\d < 500:=fun d hd=>by
  obtain ⟨i,hi,rfl⟩:=List.getElem_of_mem hd
  rw [hlen] at hi
  have e:((ds.drop 1).take (ds.length - 1 - 1))[i]'(by rw [hlen];exact hi)=ds.getD (1+i) 0:=by
   rw [List.getElem_take,List.getElem_drop,List.getD_eq_getElem?_getD,List.getElem?_eq_getElem (by omega)]
   rfl
  rw [e]
  have a:=h.lt (i:=0) (j:=1+i) (by omega) (by omega)
  have b:=h.lt (i:=1+i) (j:=ds.length - 1) (by omega) (by omega)
  have c:=(h.get (i:=0) (by omega)).1
  have d:=(h.get (i:=ds.length - 1) (by omega)).2
  omega
 refine ⟨by simp [hlen]<;>omega,by simp [hlen]<;>omega,fun d hd=>?_,fun d hd=>?_,?_⟩
 ·rcases List.mem_append.mp hd with z | z
  ·rcases List.mem_append.mp z with z | z
   ·have:d=0:=by simpa using z
    omega
   ·have:=hmem d z;omega
  ·have:d=500:=by simpa using z
   omega
 ·rcases List.mem_append.mp hd with z | z
  ·rcases List.mem_append.mp z with z | z
   ·have:d=0:=by simpa using z
    omega
   ·have:=hmem d z;omega
  ·have:d=500:=by simpa using z
   omega
 ·rw [List.pairwise_append,List.pairwise_append]
  refine ⟨⟨by simp,(h.up.drop).take,fun a ha b hb=>?_⟩,by simp,fun a ha b hb=>?_⟩
  ·have ha':a=0:=by simpa using ha
   have:=hmem b hb;omega
  ·have hb':b=500:=by simpa using hb
   rcases List.mem_append.mp ha with z | z
   ·have:a=0:=by simpa using z
    omega
   ·have:=hmem a z;omega
def v8 (J:It)(g:TG)(tb:TS)(D:kQ)(σ:St)(H1:Hp):Prop:=∃W:Nat->Nat->St->Hp->Prop,(∃m,W 0 m σ H1)/\∀i m σ H,W i m σ H->
 (J.stop i H/\D.nx σ H)\/(J.go i H/\∃N:St->Hp->Prop,(∀σ' H',N σ' H'->∃m',m' < m/\W (i+1) m' σ' H')/\∀x H',J.yld i H x H'->g x σ H' fun σ2 H2=>tb {D with nx:=N,ct:=N,bk:=D.nx} σ2 H2)
theorem zU (wi:TI)(g:TG)(tb:TS)(D:kQ)(σ:St)(H:Hp):Dk wi g tb D σ H=wi σ H fun J H1=>v8 J g tb D σ H1:=rfl
def nG (J:It)(g:TG)(tc:TT)(te:TE)(cm:List (Option Nat))(σ:St)(Q:VK)(H1:Hp):Prop:=∃W:Nat->Nat->List V->Hp->Prop,(∃m,W 0 m [] H1)/\∀i m acc H,W i m acc H->
 (J.stop i H/\∀p,H p=none->Q (.ref p) (upd H p (.lst acc)))\/
 (J.go i H/\acc.length < sizeLine/\∀x H',J.yld i H x H'->g x (bE cm σ) H' fun σ2 H2=>Wk (bE cm σ) σ2/\tc σ2 H2 fun b H3=>if b=true then te σ2 H3 fun v H4=>∃m',m' < m/\W (i+1) m' (acc++[v]) H4 else ∃m',m' < m/\W (i+1) m' acc H3)
theorem yj (wi:TI)(g:TG)(tc:TT)(te:TE)(cm:List (Option Nat))(σ:St)(H:Hp)(Q:VK):tU wi g tc te cm σ H Q=wi σ H fun J H1=>nG J g tc te cm σ Q H1:=rfl
theorem cw {lo:Int}{n:Nat}{g:TG}{tb:TS}{D:kQ}{σ:St}{H:Hp}(Pv:Nat->St->Hp->Prop)(h0:Pv 0 σ H)
  (hs:∀i σ H,i < n->Pv i σ H->g (.int (lo+i)) σ H fun σ2 H2=>tb {D with nx:=Pv (i+1),ct:=Pv (i+1),bk:=D.nx} σ2 H2) (hd:∀σ H,Pv n σ H->D.nx σ H):v8 (Itr lo n) g tb D σ H:=wV Pv h0 hs hd
theorem ka {K:W.Frag}{a:Addr}(xs:List V){g:TG}{tb:TS}{D:kQ}{σ:St}{H:Hp}(Pv:Nat->St->Hp->Prop)(h0:Pv 0 σ H)(hl:∀i σ H,i<=xs.length->Pv i σ H->SqL K H a xs)
  (hs:∀i x σ H,xs[i]?=some x->Pv i σ H->g x σ H fun σ2 H2=>tb {D with nx:=Pv (i+1),ct:=Pv (i+1),bk:=D.nx} σ2 H2) (hd:∀σ H,Pv xs.length σ H->D.nx σ H):v8 (Itl K a) g tb D σ H:=xM Pv h0 hl hs hd
theorem rV {lo:Int}{n:Nat}{te:TE}{cm:List (Option Nat)}{σ:St}{H:Hp}{Q:VK}(f:Nat->V)(hn:n<=sizeLine){j:Nat}(hj:(bE cm σ)[j]?=some none)
  (hs:∀i,i < n->∀N:VK,N (f i) H->te ((bE cm σ).set j (some (.int (lo+i)))) H N)
  (hd:∀p,H p=none->Q (.ref p) (upd H p (.lst ((List.range n).map f)))):nG (Itr lo n) (dZ j) qq te cm σ Q H:=oM f hn hj hs hd
theorem jm {lo:Int}{n:Nat}{tc:TT}{te:TE}{cm:List (Option Nat)}{σ:St}{H:Hp}{Q:VK}(p:Nat->Bool)(f:Nat->V)(hn:n<=sizeLine){j:Nat}(hj:(bE cm σ)[j]?=some none)
  (hc:∀i,i < n->∀N:Bool->Hp->Prop,N (p i) H->tc ((bE cm σ).set j (some (.int (lo+i)))) H N)
  (hs:∀i,i < n->p i=true->∀N:VK,N (f i) H->te ((bE cm σ).set j (some (.int (lo+i)))) H N)
  (hd:∀b,H b=none->Q (.ref b) (upd H b (.lst (((List.range n).filter p).map f)))):nG (Itr lo n) (dZ j) tc te cm σ Q H:=lP p f hn hj hc hs hd
theorem nH {K:W.Frag}{a:Addr}{xs:List V}{tc:TT}{te:TE}{cm:List (Option Nat)}{σ:St}{H:Hp}{Q:VK}(p:V->Bool)(f:V->V)(hl:SqL K H a xs)(hn:xs.length<=sizeLine){j:Nat}(hj:(bE cm σ)[j]?=some none)
  (hc:∀x,x∈xs->∀N:Bool->Hp->Prop,N (p x) H->tc ((bE cm σ).set j (some x)) H N)
  (hs:∀x,x∈xs->p x=true->∀N:VK,N (f x) H->te ((bE cm σ).set j (some x)) H N)
  (hd:∀b,H b=none->Q (.ref b) (upd H b (.lst ((xs.filter p).map f)))):nG (Itl K a) (dZ j) tc te cm σ Q H:=qr p f hl hn hj hc hs hd
section
variable {K:W.Frag}{H:Hp}{Q:VK}
theorem tW {i:Int}(q:Q (.bl true) H):BZ K [.int i,.ty "int"] H Q:=⟨_,_,_,_,rfl,.int i,ye,q⟩
theorem rW {i:Int}(q:Q (.bl false) H):BZ K [.int i,.ty "bool"] H Q:=⟨_,_,_,_,rfl,.int i,rQ,q⟩
end
theorem upo {H:Hp}{a b:Addr}{o u:HO}(h:H b=some u)(hn:H a=none):upd H a o b=some u:=by rw [az (ak h hn)];exact h
theorem upn {H:Hp}{a b:Addr}{o:HO}(h:upd H a o b=none):H b=none:=by
 by_cases e:b=a
 ·subst e;rw [ah] at h;cases h
 ·rw [az e] at h;exact h
theorem aw.lay {H H':Hp}{a:Addr}{o:HO}(s:aw H H')(hn:H' a=none):aw H (upd H' a o):=fun b u e=>upo (s b u e) hn
theorem aw.rewr {H H':Hp}{a:Addr}{o:HO}(s:aw H H')(hn:H a=none):aw H (upd H' a o):=fun b u e=>by rw [az (ak e hn)];exact s b u e
theorem zV {n d:Nat}(h:1<=n):HT.sIx n d (some 1)=1:=by
 have:=HT.zM n d 1
 rw [show ((1:Nat):Int)=1 from rfl] at this
 omega
theorem B2 {n d:Nat}(h:1<=n):HT.sIx n d (some (-1))=n - 1:=by
 have:=HT.zN (-1) n d
 rw [if_pos (by decide)] at this
 omega
theorem tX (ds:List Int)(h:2<=ds.length):tR (ds.map V.int) (some 1) (some (-1))=((ds.drop 1).take (ds.length - 1 - 1)).map V.int:=by
 unfold tR
 rw [List.length_map,zV (by omega),B2 (by omega),List.map_take,List.map_drop]
theorem rX {ds:List Int}(h:0 < ds.length):atI (ds.map V.int) (-1)=some (.int (bX ds)):=by
 unfold atI ixN
 rw [if_neg (by decide),List.length_map,if_pos (by omega),Option.bind_some,List.getElem?_map,show (-1+(ds.length:Int)).toNat=ds.length - 1 by omega,List.getElem?_eq_getElem (by omega)]
 unfold bX
 rw [List.getD_eq_getElem?_getD,List.getElem?_eq_getElem (by omega)]
 rfl
theorem rY (a b:Int):eqV (.int a) (.int b)=decide (a=b):=by
 simp [eqV,Bool.beq_eq_decide_eq]
theorem rZ (d:Int)(ds:List Int):inV (.int d) (ds.map V.int)=decide (d∈ds):=by
 unfold inV
 rw [List.any_map]
 by_cases h:d∈ds
 ·rw [decide_eq_true h,List.any_eq_true]
  exact ⟨d,h,by simp [rY]⟩
 ·rw [decide_eq_false h,List.any_eq_false]
  intro x hx
  simp [rY]
  rintro rfl
  exact h hx
theorem iJ {xs:List Int}{i:Nat}{x:V}(h:(xs.map V.int)[i]?=some x):∃z,x=V.int z/\xs[i]?=some z/\z∈xs:=by
 rw [List.getElem?_map] at h
 cases e:xs[i]? with
 | none=>rw [e] at h;cases h
 | some z=>rw [e] at h;exact ⟨z,(Option.some.inj h).symm,rfl,List.mem_of_getElem? e⟩
theorem v9 (d x y:Int):inV (.int d) [.int x,.int y]=decide (d=x\/d=y):=by
 have:=rZ d [x,y]
 simpa [eq_comm] using this
end L2
namespace L2
theorem zW {x y i:Int}(h:i=0\/i=1):∃m,(m=x\/m=y)/\atI [V.int x,V.int y] i=some (.int m):=by
 rcases h with rfl | rfl
 ·exact ⟨x,.inl rfl,rfl⟩
 ·exact ⟨y,.inr rfl,rfl⟩
theorem xf {x y z i:Int}(h:i=0\/i=1\/i=2):∃m,(m=x\/m=y\/m=z)/\atI [V.int x,V.int y,V.int z] i=some (.int m):=by
 rcases h with rfl | rfl | rfl
 ·exact ⟨x,.inl rfl,rfl⟩
 ·exact ⟨y,.inr (.inl rfl),rfl⟩
 ·exact ⟨z,.inr (.inr rfl),rfl⟩
end L2
namespace L2
open PySem PySem.Spec PyProof.Rows
noncomputable def CXf (P:Program)(w:World):CXT:=fun outer H s E e s'=>
 ∃(x:Addr) (cls a0:Value) (H':Hp) (B:Heap),e=.ref x/\s'.os=s.os/\AllBare s'.gens/\Un (frs outer) [] H H' s.heap s'.heap/\HOk P w H' s'.heap/\Heap.FlyingW B outer x cls a0 s'.heap/\
  (∀b o,s'.heap.get? b=some o->(H' b≠none\/∃o0,s.heap.get? b=some o0)->b∉frs outer->B.get? b=some o)/\(∀o,s.heap.get? x≠some o)/\H' x=none/\E cls none H'
theorem c4.there {P:Program}{w:World}{H:Hp}{h:Heap}{a:Addr}{o:HO}(l:c4 P w H h a o):∃ob,h.get? a=some ob:=by
 cases o with
 | lst xs=>obtain ⟨_,its,n,_,e⟩:=l;exact ⟨_,e⟩
 | tup xs=>obtain ⟨_,its,_,ob,e,_⟩:=l;exact ⟨_,e⟩
 | dK kvs=>obtain ⟨_,_,_,_,ob,_,_,e,_⟩:=l;exact ⟨_,e⟩
 | dT kvs=>obtain ⟨_,_,_,_,ob,_,_,e,_⟩:=l;exact ⟨_,e⟩
 | set S n=>obtain ⟨ob,_,_,_,e,_⟩:=l;exact ⟨_,e⟩
 | ins C dx fs=>obtain ⟨_,_,_,e,_⟩:=l;exact ⟨_,e⟩
 | own y=>exact l
 | xd fs=>obtain ⟨mA,⟨od,_,_,e,_⟩,_⟩:=l;exact ⟨_,e⟩
 | rng lo hi=>obtain ⟨_,_,_,e⟩:=l;exact ⟨_,e⟩
 | frz ob u=>obtain ⟨e,_⟩:=l;exact ⟨_,e⟩
 | tbl ps=>exact ⟨_,l⟩
 | met f y=>exact ⟨_,l⟩
 | ext φ=>obtain ⟨_,h,_⟩:=l;exact h
section
variable {P:Program}{w:World}{K:W.Frag}{mg:Str->Option Value}{base:Heap}{N:List Str}{qual:Str}{scope:Scope}{f:Addr}{cd:Value}{A:Around}{outer:List Env}{s:Shared}{H:Hp}{E:XK}
noncomputable abbrev cxF (P:Program)(w:World)(K:W.Frag)(mg:Str->Option Value)(base:Heap)(N:List Str)(qual:Str)(scope:Scope)(f:Addr)(cd:Value)(A:Around)(outer:List Env)(s:Shared)(H:Hp)(E:XK):Cx:=
 qo (CXf P w) P w K mg base N qual scope f cd A outer s H E
theorem wa {pins:List (Addr×Obj)}{σ:St}{H1:Hp}{s1:Shared}{h2:Heap}{x:Addr}{cls a0:Value}{B:Heap}(I:Inv (cxF P w K mg base N qual scope f cd A outer s H E) pins σ H1 s1)
  (hB:∀b o,s1.heap.get? b=some o->(H1 b≠none\/∃o0,s.heap.get? b=some o0)->b∉frs (cxF P w K mg base N qual scope f cd A outer s H E).stack->B.get? b=some o)
  (hfl:Heap.FlyingW B outer x cls a0 h2) (hsl:∀b o,s1.heap.get? b=some o->(∀vs,o.data≠.fields vs)->∃sl,h2.get? b=some {o with slots:=sl}) (hx:∀o,s.heap.get? x≠some o) (hx1:H1 x=none) (q:E cls none H1) :
  CXf P w outer H s E (.ref x) {s1 with heap:=h2}:=by
 have neL:∀b o,s.heap.get? b=some o->b≠s.heap.objs.size:=fun b o e=>Nat.ne_of_lt (Heap.lt_size e)
 have stk:∀b,b∈frs (cxF P w K mg base N qual scope f cd A outer s H E).stack->b=s.heap.objs.size\/b∈frs outer:=fun b hb=>by
  rcases List.mem_cons.mp (I.stkSub b hb) with z | z
  ·exact .inl z
  ·exact .inr z
 have hfree:H1 s.heap.objs.size=none:=I.free
 have st:B.StaysIn h2:=hfl.1
 have frD:∀b∈frs outer,∃o,s.heap.get? b=some o/\∀vs,o.data≠.fields vs:=fun b hb=>(I.ok.funs.mem hb).2
 have u:=I.base
 have nf:∀b o,s.heap.get? b=some o->b∉frs outer->b∉frs (cxF P w K mg base N qual scope f cd A outer s H E).stack:=fun b o e hb z=>(stk b z).elim (neL b o e) hb
 have up:∀b∈frs outer,∀o,s.heap.get? b=some o->∃sl,h2.get? b=some {o with slots:=sl}:=fun b hb o e=>by
  obtain ⟨o',e',d⟩:=frD b hb
  rw [e] at e';cases e'
  obtain ⟨sl,q1⟩:=u.any (b:=b) e (I.ok.frf b hb) (by intro z;exact nomatch z)
  obtain ⟨sl',q2⟩:=hsl b _ q1 d
  exact ⟨sl',q2⟩
 refine ⟨x,cls,a0,H1,B,rfl,I.os,I.bare,⟨fun b o e n hb _=>?_,fun b o e n hb _=>up b hb o e,u.free,fun b o e _=>?_,u.tups,u.frzs,u.tbls⟩,fun b o e=>?_,hfl,fun b o e hh hb=>?_,hx,hx1,q⟩
 ·exact st b o (hB b o (u.keep b o e n hb (by intro z;exact nomatch z)) (.inr ⟨o,e⟩) (nf b o e hb))
 ·by_cases hb:b∈frs outer
  ·obtain ⟨sl,q⟩:=up b hb o e
   exact ⟨_,q⟩
  ·obtain ⟨o',e'⟩:=u.there b o e (by intro z;exact nomatch z)
   exact ⟨o',st b o' (hB b o' e' (.inr ⟨o,e⟩) (nf b o e hb))⟩
 ·have ne:b≠s.heap.objs.size:=fun z=>by rw [z,hfree] at e;cases e
  have inB:∀c v,H1 c≠none->s1.heap.get? c=some v->h2.get? c=some v:=fun c v hc q=>st c v (hB c v q (.inl hc) fun z=>by
   rcases stk c z with y | y
   ·rw [y] at hc;exact hc hfree
   ·obtain ⟨o',e',_⟩:=frD c y
    exact hc (u.free c o' e' (I.ok.frf c y) (by intro z;exact nomatch z)))
  refine (I.hok b o e).stay (fun c v hc q=>inB c v ?_ q) (fun _ q=>q) fun _ _ q=>q
  rcases hc with z | z
  ·rw [z,e];simp
  ·rw [z];simp
 ·
  have there1:∃o1,s1.heap.get? b=some o1:=by
   rcases hh with z | ⟨o0,z⟩
   ·cases q:H1 b with
    | none=>exact absurd q z
    | some v=>exact (I.hok b v q).there
   ·exact u.there b o0 z (by intro z;exact nomatch z)
  obtain ⟨o1,e1⟩:=there1
  have nfb:b∉frs (cxF P w K mg base N qual scope f cd A outer s H E).stack:=fun z=>by
   rcases stk b z with y | y
   ·rcases hh with t | ⟨o0,t⟩
    ·rw [y] at t;exact t hfree
    ·exact neL b o0 t y
   ·exact hb y
  have e2:=hB b o1 e1 hh nfb
  have e3:=st b o1 e2
  have e':h2.get? b=some o:=e
  rw [e3] at e';cases e'
  exact e2
theorem xg {pins:List (Addr×Obj)}{σ:St}{H1:Hp}{s1:Shared}{h':Heap}{x:Addr}{cls:Value}{args:List Value}(I:Inv (cxF P w K mg base N qual scope f cd A outer s H E) pins σ H1 s1)
  (hx:Heap.MadeExcOf s1.heap h' x cls args) (q:E cls none H1):(cxF P w K mg base N qual scope f cd A outer s H E).xe (.ref x) {s1 with heap:=h'}:=by
 have hn:=hx.new
 have hin:∀env∈(cxF P w K mg base N qual scope f cd A outer s H E).stack,∀b,env.frame=some b->b∈frs (cxF P w K mg base N qual scope f cd A outer s H E).stack:=fun env he b hb=>List.mem_filterMap.mpr ⟨env,he,hb⟩
 have hx1:H1 x=none:=by
  cases q:H1 x with
  | none=>rfl
  | some v=>
   obtain ⟨ob,e⟩:=(I.hok x v q).there
   rw [hn] at e;cases e
 refine wpAny_leaves_madeW (base:=W.hideAll s1.heap (frs (cxF P w K mg base N qual scope f cd A outer s H E).stack)) (h:=s1.heap) (s:={s1 with heap:=h'}) I.ok.frames rfl (fun b o q=>W.of_hideAll _ q) (W.funFrames_hide I.stack hin) hx fun h2 t f1 f2 f3 f4=>?_
 refine wa (s1:=s1) I (fun b o e _ hb=>W.hideAll_get _ e hb) f1 (fun b o e d=>f4 b o (hx.keeps b o e) d) (fun o e=>?_) hx1 q
 obtain ⟨o',e'⟩:=I.base.there x o e (by intro z;exact nomatch z)
 rw [hn] at e';cases e'
theorem bH:dM (CXf P w) (cxF P w K mg base N qual scope f cd A outer s H E) E:=by
 rintro pins σ H1 s1 e s2 I ⟨x,cls,a0,H2,B,rfl,os,bare,un,hok,hfl,hB,hx,hx2,q⟩
 have I2:Inv (cxF P w K mg base N qual scope f cd A outer s H E) pins σ H2 s2:=I.call' os un hok bare fun b hb=>absurd hb (by simp)
 refine wpAny_leaves_onW (s:=s2) I.ok.frames rfl hfl fun h2 f1 f2=>?_
 refine wa I2 (fun b o e hh hb=>hB b o e ?_ hb) f1 (fun b o e d=>f2 b o e d) (fun o e=>?_) hx2 q
 ·rcases hh with z | ⟨o0,z⟩
  ·exact .inl z
  ·obtain ⟨o1,e1⟩:=I.base.there b o0 z (by intro z;exact nomatch z)
   exact .inr ⟨o1,e1⟩
 ·obtain ⟨o1,e1⟩:=I.base.there x o e (by intro z;exact nomatch z)
  exact hx o1 e1
theorem u6:PassesOwn (model P w) (cxF P w K mg base N qual scope f cd A outer s H E).A (cxF P w K mg base N qual scope f cd A outer s H E).env (cxF P w K mg base N qual scope f cd A outer s H E).xe:=PassesOwn.leaving
structure ExC (K:W.Frag)(C:Addr):Prop where
 ex:∃(nm q:Str) (N:Addr) (bs bm:List Value) (hdct:Bool) (sn:List Str) (sub:List Value) (ab:Bool) (col:Option Bool) (dd:Option Addr) (k0 k1 k2 k3 k5:Option Value) (mN:Str->Option Value),
  ∀h,K.In h->h.get? C=some (excClassObj nm q C N bs bm hdct sn sub ab col dd k0 k1 k2 k3 k5 "ValueError.__new__")/\h.Ns N mN/\(∀n∈quietNames,mN n=none)/\OwnTailQ h [.type "ValueError",.type "Exception",.type "BaseException",.type "object"] bm
noncomputable def kb (es:Array DictEntry):Bool:=es.toList.all fun e=>match e.key with | .str _ _=>true | _=>false
theorem Bj {K:W.Frag}{h:Heap}{N:Addr}{c:Value}{d:Option Addr}{es:Array DictEntry}{ep:Nat}{sl:Array (Option Value)}(X:K.In h)(l:K.lookup N=some ⟨c,d,.dict es ep,sl⟩)(k:kb es=true):h.Ns N (nsFind es):=by
 refine ⟨_,es,ep,X _ _ l,rfl,fun e he=>?_,fun _=>rfl⟩
 have z:=List.all_eq_true.mp k e (by simpa using he)
 split at z
 ·rename_i n t q;exact ⟨n,t,q⟩
 ·cases z
theorem B3 {K:W.Frag}{C N C0 N0:Addr}{nm q:Str}{bs:List Value}{hdct:Bool}{sn:List Str}{sub:List Value}{ab:Bool}{col:Option Bool}{dd:Option Addr}{k0 k1 k2 k3 k5:Option Value}
  {c1 c2 c0:Value} {d1 d2 dd0:Option Addr} {es es0:Array DictEntry} {ep ep0:Nat} {sl1 sl2 sl0:Array (Option Value)} {cd0:ClassData}
  (lC:K.lookup C=some (excClassObj nm q C N bs [.ref C0,.type "ValueError",.type "Exception",.type "BaseException",.type "object"] hdct sn sub ab col dd k0 k1 k2 k3 k5 "ValueError.__new__"))
  (lN:K.lookup N=some ⟨c1,d1,.dict es ep,sl1⟩) (kN:kb es=true) (iN:(quietNames.all fun n=>(nsFind es n).isNone)=true)
  (l0:K.lookup C0=some ⟨c0,dd0,.cls cd0,sl0⟩) (e0:cd0.ns=N0) (lN0:K.lookup N0=some ⟨c2,d2,.dict es0 ep0,sl2⟩) (kN0:kb es0=true) (iN0:(quietNames.all fun n=>(nsFind es0 n).isNone)=true):ExC K C:=
 ⟨nm,q,N,bs,_,hdct,sn,sub,ab,col,dd,k0,k1,k2,k3,k5,nsFind es,fun h X=>⟨X _ _ lC,Bj X lN kN,fun n hn=>Option.isNone_iff_eq_none.mp (List.all_eq_true.mp iN n hn),.own (X _ _ l0) (e0▸Bj X lN0 kN0) (fun n hn=>Option.isNone_iff_eq_none.mp (List.all_eq_true.mp iN0 n hn)) .base⟩⟩
noncomputable def yk (E:XK)(C:Addr)(t:TA):TS:=fun _ σ H=>t σ H fun vs H1=>vs.length<=sizeLine/\E (.ref C) none H1
theorem aU {x:Str}{C:Addr}{e:Expr}{es:List Expr}{t:TA}{np cpos pos:Pos}(O:ExC K C)(hg:Gl (cxF P w K mg base N qual scope f cd A outer s H E) x)(hm:mg x=some (.ref C))
  (ha:PA (cxF P w K mg base N qual scope f cd A outer s H E) (e::es) t) (hdb:(x == ("__debug__":Str))=false:=by decide)
  (he:starEach (e::es) (cxF P w K mg base N qual scope f cd A outer s H E).env=(false,eval e (cxF P w K mg base N qual scope f cd A outer s H E).env)::starEach es (cxF P w K mg base N qual scope f cd A outer s H E).env:=by rfl)
  (hpl:(backTo cpos (starEach es (cxF P w K mg base N qual scope f cd A outer s H E).env)).any (·.1)=false:=by rfl) :
  PS (cxF P w K mg base N qual scope f cd A outer s H E) (.Raise (some (.Call (.Name x np) (e::es) [] cpos)) none pos) (yk E C t):=by
 intro pins s1 σ H1 D I h
 obtain ⟨nm,q,N,bs,bm,hdct,sn,sub,ab,col,dd,k0,k1,k2,k3,k5,mN,O⟩:=O.ex
 obtain ⟨_,_,hni,T0⟩:=O _ I.kIn
 refine wpAny_Raise_call_subU (C:=C) (nm:=nm) (q:=q) (N:=N) (bs:=bs) (bm:=bm) (hdct:=hdct) (sn:=sn) (sub:=sub) (ab:=ab) (col:=col) (dd:=dd) (k0:=k0) (k1:=k1) (k2:=k2) (k3:=k3) (k5:=k5)
  PySem.F.excBase_ValueError (by decide +kernel) PySem.F.excBase_ValueError (mN:=mN) (T0.tail.hasType PySem.F.excBase_ValueError.hasBase) (I.ok.hd rfl) (by rw [he];show (false || (backTo cpos (starEach es _)).any (·.1))=false;rw [hpl];rfl) (hni _ (.head _)) (ot I hg hm ⟨rfl,?_⟩ hdb)
 have ha':=ha cpos pins s1 σ H1 _ I h
 rw [he] at ha' ⊢
 refine Calls.evalArgs_plain (wpAny_mono ha' (fun us s2 h2=>?_) fun _ _ y=>y)
 obtain ⟨vs,H2,I2,rv,hlen,qE⟩:=h2
 obtain ⟨a1,a2,_,a4⟩:=O _ I2.kIn
 exact ⟨rfl,by rw [←rv.length];exact hlen,a1,a2,a4.tail,fun h' e hx=>xg I2 hx qE⟩
theorem Fun.okF {x qual:Str}{st:Stmt}{f:Addr}{fd:FuncData}{N ps:List Str}{k:Nat}{sp:Sp}(F:Fun K x qual st f fd)(S:au N ps (aj st))(len:∀vs H Q E,sp vs H Q E->vs.length=ps.length)
  (hbody:∀(cdv:Value) (A:Around) (outer:List Env) (s:Shared) (H:Hp) (vs:List V) (Q:VK) (E:XK),cL k (A.deeper (envOfC qual (aj st) s.heap.objs.size f cdv))->sp vs H Q E->
   ∃t,PSs (cxF P w K mg base N qual (aj st) f cdv A outer s H E) (bI st) t/\t {nx:=fun _ H'=>Q .non H',rt:=Q} (jl N vs) H):fo P w K mg base (CXf P w) (k+1) f fd ps sp:=by
 obtain ⟨oc,od,kV,doc,pm,an,cdv,ct,osl,rfl,lk,hcd⟩:=F.ex
 refine Bf lk hcd S len fun A outer s H vs Q E hr hsp=>?_
 exact hbody cdv A outer s H vs Q E hr hsp
end
noncomputable abbrev XT:=Value->St->Hp->Prop
section
variable {X:Cx}{pins pins':List (Addr×Obj)}{σ:St}{H:Hp}{s:Shared}{E':XT}{e:Value}
noncomputable def Eu (y:Addr)(cls:Value):HO:=.ext fun h=>∃o vs,h.get? y=some o/\o.cls=cls/\o.data=.fields vs
end
section
variable {X:Cx}
noncomputable def Ew (K:W.Frag)(C:Addr)(i:Nat)(tb:XT->TS)(th:TS):TS:=fun D σ H=>
 tb (fun cls σ' H'=>W.exmOne K cls (.ref C)=some true/\∀y,H' y=none->
  th {nx:=fun σ H=>D.nx (σ.set i none) H,rt:=D.rt,bk:=fun σ H=>D.bk (σ.set i none) H,ct:=fun σ H=>D.ct (σ.set i none) H} (σ'.set i (some (.ref y))) (upd H' y (Eu y cls))) D σ H
noncomputable def B4 (sp:Sp)(dvs:List V)(E':XT)(t:TA):TE:=fun σ H Q=>t σ H fun vs H1=>sp (vs++dvs) H1 Q fun cls _ H'=>E' cls σ H'
end
end L2
namespace L2
open PySem PySem.W PySem.Spec PyProof.Rows
structure ExI (K:Frag)(C:Addr):Prop where
 ex:ExC K C
 ca:findIn K (.ref C) "__class__"=some (some (.builtin "object.__class__"))
 mo:mroIn K C (.type "object")=some true
end L2
namespace L2
open PySem PySem.Spec PyProof.Rows
theorem cB {X:Cx}{x:Str}{v:V}{pos:Pos}(hg:Gl X x)(h:∃u,X.mg x=some u/\bf v u)(hd:(x == ("__debug__":Str))=false:=by decide):PE X (.Name x pos) (tC v):=
 let ⟨_,hm,r⟩:=h
 zy hg hm r hd
noncomputable def eqL:List V->List V->Bool
 | [],[]=>true
 | x::xs,y::ys=>eqV x y && eqL xs ys
 | _,_=>false
theorem ox:∀{xs ys:List V},eqL xs ys=true->xs.length=ys.length
 | [],[],_=>rfl
 | _::_,_::_,h=>by
  unfold eqL at h
  rw [Bool.and_eq_true] at h
  simp [ox h.2]
 | [],_::_,h=>by cases h
 | _::_,[],h=>by cases h
noncomputable def B5 (K:W.Frag):R2:=fun x y H Q=>∃a b xs ys,x=.ref a/\y=.ref b/\SqL K H a xs/\SqL K H b ys/\xs.all bC=true/\ys.all bC=true/\Q (.bl (eqL xs ys)) H
theorem oy:∀{xs ys:List V},xs.length=ys.length->(List.range xs.length).all (fun j=>eqV (xs.getD j .non) (ys.getD j .non))=eqL xs ys
 | [],[],_=>rfl
 | x::xs,y::ys,h=>by
  have ih:=oy (xs:=xs) (ys:=ys) (by simpa using h)
  rw [List.length_cons,List.range_succ_eq_map,List.all_cons,List.all_map]
  show (eqV x y && (List.range xs.length).all (fun j=>eqV (xs.getD j .non) (ys.getD j .non)))=(eqV x y && eqL xs ys)
  rw [ih]
 | [],_::_,h=>by simp at h
 | _::_,[],h=>by simp at h
theorem B6 {X:Cx}(hu:X.A.units < cLine):OpR X (compareOp .Eq) (B5 X.K):=by
 intro pins s σ H x y u v Q I rx ry h
 obtain ⟨a,b,xs,ys,rfl,rfl,ha,hb,fa,fb,q⟩:=h
 cases rx;cases ry
 obtain ⟨ia,ra,pa,za⟩:=I.list ha
 obtain ⟨ib,rb,pb,zb⟩:=I.list hb
 have la:=ra.length
 have lb:=rb.length
 by_cases hl:xs.length=ys.length
 ·refine PySem.SeqAt.eq_listAt (e:=fun j=>eqV (xs.getD j .non) (ys.getD j .non)) pa.isList pb.isList (by simp only [List.size_toArray];omega) hu (fun j h1 h2=>?_) ?_
  ·simp only [List.size_toArray] at h1 h2
   have hx:xs[j]?=some (xs.getD j .non):=by
    rw [List.getD_eq_getElem?_getD,List.getElem?_eq_getElem (by omega)];rfl
   have hy:ys[j]?=some (ys.getD j .non):=by
    rw [List.getD_eq_getElem?_getD,List.getElem?_eq_getElem (by omega)];rfl
   obtain ⟨u,eu,ru⟩:=ra.get hx
   obtain ⟨v,ev,rv⟩:=rb.get hy
   have e1:ia.toArray[j]=u:=by
    have:=List.getElem?_eq_some_iff.mp eu
    simpa using this.2
   have e2:ib.toArray[j]=v:=by
    have:=List.getElem?_eq_some_iff.mp ev
    simpa using this.2
   rw [e1,e2]
   exact mM ru rv (List.all_eq_true.mp fa _ (List.mem_of_getElem? hx)) (List.all_eq_true.mp fb _ (List.mem_of_getElem? hy))
  ·have e:(List.range ia.toArray.size).all (fun j=>eqV (xs.getD j .non) (ys.getD j .non))=eqL xs ys:=by
    rw [List.size_toArray,←la]
    exact oy hl
   rw [e]
   exact ⟨.bl (eqL xs ys),H,I,rfl,q⟩
 ·refine PySem.SeqAt.eq_list_lengthsAt pa.isList pb.isList (by simp only [List.size_toArray,bne_iff_ne,ne_eq];omega) hu ?_
  have e:eqL xs ys=false:=by
   cases z:eqL xs ys with
   | false=>rfl
   | true=>exact absurd (ox z) hl
  rw [e] at q
  exact ⟨.bl false,H,I,rfl,q⟩
noncomputable def Ex (K:W.Frag)(te:TE)(ts:TO):TE:=fun σ H Q=>te σ H fun x H1=>ts σ H1 fun k H2=>k=some (-1)/\∃a xs,x=.ref a/\SqL K H2 a xs/\∀p,H2 p=none->Q (.ref p) (upd H2 p (.lst xs.reverse))
end L2
namespace L2
theorem bG.of {ds:List Int}(l2:2<=ds.length)(l6:ds.length<=6)(b:∀i,i < ds.length->0<=ds.getD i 0/\ds.getD i 0<=500)(u:∀i,i+1 < ds.length->ds.getD i 0 < ds.getD (i+1) 0):bG ds:=by
 have get:∀i (h:i < ds.length),ds[i]=ds.getD i 0:=fun i h=>by rw [List.getD_eq_getElem?_getD,List.getElem?_eq_getElem h];rfl
 have up:∀k i,i+k+1 < ds.length->ds.getD i 0 < ds.getD (i+k+1) 0:=by
  intro k
  induction k with
  | zero=>intro i h;exact u i h
  | succ k ih=>
   intro i h
   have h1:=ih i (by omega)
   have h2:=u (i+k+1) (by omega)
   rw [show i+(k+1)+1=i+k+1+1 by omega]
   omega
 refine ⟨l2,l6,fun d hd=>?_,fun d hd=>?_,List.pairwise_iff_getElem.mpr fun i j hi hj hij=>?_⟩
 ·obtain ⟨i,hi,rfl⟩:=List.getElem_of_mem hd
  rw [get i hi];exact (b i hi).1
 ·obtain ⟨i,hi,rfl⟩:=List.getElem_of_mem hd
  rw [get i hi];exact (b i hi).2
 ·rw [get i hi,get j hj]
  have:=up (j - i - 1) i (by omega)
  rw [show i+(j - i - 1)+1=j by omega] at this
  exact this
end L2
namespace L2
end L2
namespace L2
open PySem PySem.W PySem.Spec PyProof.Rows
noncomputable def oP:V->Option String
 | .non=>some "NoneType"
 | .bl _=>some "bool"
 | .int _=>some "int"
 | .str _=>some "str"
 | _=>none
def TyX (K:Frag)(H:Hp)(x:V)(T:String):Prop:=oP x=some T\/(∃a xs,x=.ref a/\SqL K H a xs/\T="list")\/∃a xs,x=.ref a/\SqT K H a xs/\T="tuple"
noncomputable def gA:List String:=["NoneType","bool","int","str","list","tuple"]
noncomputable def tY (T n:String):Bool:=T == n || (T == "bool" && n == "int")
theorem wb {K:Frag}{T n:String}(hT:T∈gA)(hn:n∈gA):kitOne K (.type T) (.type n)=some (tY T n):=by
 simp only [gA,List.mem_cons,List.not_mem_nil,or_false] at hT hn
 rcases hT with rfl | rfl | rfl | rfl | rfl | rfl<;>rcases hn with rfl | rfl | rfl | rfl | rfl | rfl<;>with_unfolding_all rfl
theorem wc {K:Frag}{T:String}(hT:T∈gA):∀{ns:List String},(∀n∈ns,n∈gA)->kitAny K (.type T) (ns.map Value.type)=some (ns.any (tY T))
 | [],_=>rfl
 | n::r,h=>by
  have ih:=wc (K:=K) hT (ns:=r) fun m hm=>h m (List.mem_cons_of_mem _ hm)
  rw [List.map_cons,List.any_cons]
  unfold kitAny
  rw [wb hT (h n List.mem_cons_self)]
  cases e:tY T n with
  | true=>rfl
  | false=>rw [Bool.false_or];exact ih
section
variable {X:Cx}{pins:List (Addr×Obj)}{σ:St}{H:Hp}{s:Shared}
theorem rf {K:Frag}{x:V}{T:String}(h:TyX K H x T):T∈gA:=by
 rcases h with h | ⟨_,_,_,_,rfl⟩ | ⟨_,_,_,_,rfl⟩
 ·cases x<;>simp only [oP,Option.some.injEq,reduceCtorEq] at h<;>subst h<;>decide
 ·decide
 ·decide
theorem tZ (I:Inv X pins σ H s){x:V}{u:Value}{T:String}(rx:bf x u)(ty:TyX X.K H x T):∃φ:Heap->Prop,KitX X.K u (.type T) φ/\φ s.heap/\u≠.builtin "__main__.__loader__#opaque":=by
 rcases ty with h | ⟨a,xs,rfl,h,rfl⟩ | ⟨a,xs,rfl,h,rfl⟩
 ·cases x with
  | non=>cases rx;cases h;exact ⟨_,kitx_none,trivial,fun z=>nomatch z⟩
  | bl b=>cases rx;cases h;exact ⟨_,kitx_bool,trivial,fun z=>nomatch z⟩
  | int i=>obtain ⟨t,rfl⟩:=rx;cases h;exact ⟨_,kitx_int,trivial,fun z=>nomatch z⟩
  | str i=>obtain ⟨t,rfl⟩:=rx;cases h;exact ⟨_,kitx_str,trivial,fun z=>nomatch z⟩
  | _=>cases h
 ·cases rx
  obtain ⟨its,r,pl,hz⟩:=I.list h
  obtain ⟨o,ho,hc,_⟩:=pl.isList
  exact ⟨_,kitx_list,⟨o,ho,hc⟩,fun z=>nomatch z⟩
 ·cases rx
  obtain ⟨its,r,⟨o,ho,hc,_⟩,hz⟩:=I.tuple h
  exact ⟨_,kitx_tuple,⟨o,ho,hc⟩,fun z=>nomatch z⟩
noncomputable def DC (K:Frag):List V->Hp->VK->Prop:=fun xs H Q=>∃x n T,xs=[x,.ty n]/\TyX K H x T/\n∈gA/\Q (.bl (tY T n)) H
theorem fG:fJ X (.builtin "isinstance") (DC X.K):=by
 intro pins s σ H xs us Q I r h
 obtain ⟨x,n,T,rfl,ty,hn,q⟩:=h
 obtain ⟨u,v,rfl,ru,rv⟩:=vW r
 cases rv
 obtain ⟨φ,Z,p,ne⟩:=tZ I ru ty
 exact kia_one Z I.kIn p (wb (rf ty) hn) ne fun tk=>⟨.bl _,H,I.tok tk,rfl,q⟩
noncomputable def DD (K:Frag):List V->Hp->VK->Prop:=fun xs H Q=>∃(x:V) (tp:Addr) (ns:List String) (T:String),xs=[x,.ref tp]/\SqT K H tp (ns.map V.ty)/\TyX K H x T/\(∀n∈ns,n∈gA)/\Q (.bl (ns.any (tY T))) H
theorem we:∀{ns:List String} {its:List Value},ba (ns.map V.ty) its->its=ns.map Value.type
 | [],_,h=>by cases h;rfl
 | n::r,_,h=>by
  cases h with
  | cons a b=>rw [we b];cases a;rfl
theorem mO:fJ X (.builtin "isinstance") (DD X.K):=by
 intro pins s σ H xs us Q I r h
 obtain ⟨x,tp,ns,T,rfl,ht,ty,hn,q⟩:=h
 obtain ⟨u,v,rfl,ru,rv⟩:=vW r
 cases rv
 obtain ⟨φ,Z,p,ne⟩:=tZ I ru ty
 obtain ⟨its,rt,⟨o,ho,hc,n,hd⟩,hz⟩:=I.tuple ht
 obtain rfl:=we rt
 obtain ⟨c,d,dt,sl⟩:=o
 dsimp only at hc hd
 subst hc hd
 exact kia_tup Z I.kIn p ho (wc (rf ty) hn) ne fun tk=>⟨.bl _,H,I.tok tk,rfl,q⟩
end
inductive Dt where
 | flat (v:V)
 | lst (ds:List Dt)
 | tup (ds:List Dt)
inductive Rep (K:Frag)(H:Hp):Nat->V->Dt->Prop
 | flat {n:Nat} {v:V} (h:bC v=true):Rep K H n v (.flat v)
 | lst {n:Nat} {a:Addr} {xs:List V} {ds:List Dt} (hs:SqL K H a xs) (hb:xs.length<=100000) (hl:xs.length=ds.length) (hr:∀(i:Nat) x d,xs[i]?=some x->ds[i]?=some d->Rep K H n x d):Rep K H (n+1) (.ref a) (.lst ds)
 | tup {n:Nat} {a:Addr} {xs:List V} {ds:List Dt} (hs:SqT K H a xs) (hb:xs.length<=100000) (hl:xs.length=ds.length) (hr:∀(i:Nat) x d,xs[i]?=some x->ds[i]?=some d->Rep K H n x d):Rep K H (n+1) (.ref a) (.tup ds)
theorem aw.tup {K:Frag}{H H':Hp}{a:Addr}{xs:List V}(e:aw H H')(h:SqT K H a xs):SqT K H' a xs:=by
 rcases h with (h | ⟨o,h⟩) | h
 ·exact .inl (.inl (e _ _ h))
 ·exact .inl (.inr ⟨o,e _ _ h⟩)
 ·exact .inr h
theorem Rep.same {K:Frag}{H H':Hp}(s:aw H H'){n:Nat}{x:V}{d:Dt}(h:Rep K H n x d):Rep K H' n x d:=by
 induction h with
 | flat h=>exact .flat h
 | lst hs hb hl _ ih=>exact .lst (s.seq hs) hb hl ih
 | tup hs hb hl _ ih=>exact .tup (s.tup hs) hb hl ih
theorem yl {P:Program}{w:World}{K:Frag}{mg:Str->Option Value}{base:Heap}{CX:CXT}{k:Nat}{f:Addr}{fd:FuncData}{ps:List Str}:fo P w K mg base CX k f fd ps (fun _ _ _ _=>False):=
 ⟨fun _ _ _ _ h=>h.elim,fun _ _ _ _ _ _ _ _ _ _ _ _ _ h=>h.elim⟩
theorem iK {α:Type}{xs:List α}{k:Nat}{v:α}(h:xs[k]?=some v):atI xs (k:Int)=some v:=vZ h
end L2
namespace L2
open PySem PySem.Spec PyProof.Rows
noncomputable abbrev Ld:=Str×Int×Int
noncomputable def ldV (x:Ld):List V:=[.str x.1,.int x.2.1,.int x.2.2]
def jr (K:W.Frag)(H:Hp)(as:List Addr)(ls:List Ld):Prop:=as.length=ls.length/\∀(i:Nat) a x,as[i]?=some a->ls[i]?=some x->SqT K H a (ldV x)
def dr (K:W.Frag)(H:Hp)(l:Addr)(ls:List Ld):Prop:=∃as:List Addr,SqL K H l (as.map V.ref)/\jr K H as ls
def jy (m:Int)(x:Ld):Prop:=(0<=x.2.1/\x.2.1 < m)/\(0<=x.2.2/\x.2.2 < m)
theorem jr.same {K:W.Frag}{H H':Hp}{as:List Addr}{ls:List Ld}(s:aw H H')(h:jr K H as ls):jr K H' as ls:=⟨h.1,fun i a x e1 e2=>s.tup (h.2 i a x e1 e2)⟩
theorem dr.same {K:W.Frag}{H H':Hp}{l:Addr}{ls:List Ld}(s:aw H H')(h:dr K H l ls):dr K H' l ls:=by
 obtain ⟨as,a,b⟩:=h
 exact ⟨as,s.seq a,b.same s⟩
theorem jr.nil {K:W.Frag}{H:Hp}:jr K H [] []:=⟨rfl,fun i a x e _=>by simp at e⟩
theorem SqT.rew {K:W.Frag}{H:Hp}{a l:Addr}{xs ys:List V}{o:HO}(h:SqT K H a xs)(hl:H l=some (.lst ys)):SqT K (upd H l o) a xs:=by
 rcases h with (h | ⟨o',h⟩) | h
 ·refine .inl (.inl ?_)
  rw [az (fun e=>by rw [e,hl] at h;cases h)];exact h
 ·refine .inl (.inr ⟨o',?_⟩)
  rw [az (fun e=>by rw [e,hl] at h;cases h)];exact h
 ·exact .inr h
theorem r6 {J:It}{g:TG}{tc:TT}{te:TE}{cm:List (Option Nat)}{σ:St}{Q:VK}{H:Hp}(n:Nat)(Pv:Nat->List V->Hp->Prop)(h0:Pv 0 [] H)
  (hgo:∀i acc H,i < n->Pv i acc H->J.go i H) (hst:∀acc H,Pv n acc H->J.stop n H)
  (hs:∀i acc H,i < n->Pv i acc H->acc.length < sizeLine/\∀x H',J.yld i H x H'->∀M:List V->Hp->Prop,(∀acc' H',Pv (i+1) acc' H'->M acc' H')->g x (bE cm σ) H' fun σ2 H2=>Wk (bE cm σ) σ2/\tc σ2 H2 fun b H3=>if b=true then te σ2 H3 fun v H4=>M (acc++[v]) H4 else M acc H3)
  (hd:∀acc H,Pv n acc H->∀p,H p=none->Q (.ref p) (upd H p (.lst acc))):nG J g tc te cm σ Q H:=by
 refine ⟨fun i m acc H=>m=n - i/\i<=n/\Pv i acc H,⟨n,by simp,Nat.zero_le _,h0⟩,?_⟩
 rintro i m acc H ⟨rfl,hi,p⟩
 by_cases hlt:i < n
 ·obtain ⟨hz,q⟩:=hs i acc H hlt p
  refine .inr ⟨hgo i acc H hlt p,hz,fun x H' y=>q x H' y (fun acc' H4=>∃m',m' < n - i/\m'=n - (i+1)/\i+1<=n/\Pv (i+1) acc' H4) fun acc' H4 q=>⟨n - (i+1),by omega,rfl,hlt,q⟩⟩
 ·have e:i=n:=by omega
  subst e
  exact .inl ⟨hst acc H p,hd acc H p⟩
theorem ym {σ:St}{j:Nat}{x:V}(hj:σ[j]?=some none):Wk σ (σ.set j (some x)):=by
 refine ⟨by simp,fun k v e=>?_⟩
 by_cases hk:j=k
 ·subst hk;rw [hj] at e;cases e
 ·rw [List.getElem?_set_ne hk];exact e
theorem iq {K:W.Frag}{H:Hp}{a:Addr}{xs:List V}{n:Nat}(h:SqT K H a xs)(hb:xs.length<=100000)(hf:∀x∈xs,bC x=true):Rep K H (n+1) (.ref a) (.tup (xs.map Dt.flat)):=by
 refine .tup h hb (by rw [List.length_map]) fun i y d e1 e2=>?_
 rw [List.getElem?_map,e1] at e2
 cases e2
 exact .flat (hf y (List.mem_of_getElem? e1))
section
variable {X:Cx}{e:Expr}{te:TE}{p1 p2 pos1 pos2:Pos}
noncomputable def yo (K:W.Frag)(te:TE):TE:=fun σ H Q=>te σ H fun x H1=>∃(a:Addr) (ns:List Int),x=.ref a/\SqL K H1 a (ns.map V.int)/\ns.length < 64/\
 ∀(l:Addr) (ms:List Int),H1 l=none->ms.Pairwise (· < ·)->(∀k,k∈ms↔k∈ns)->Q (.ref l) (upd H1 l (.lst (ms.map V.int)))
end
section
variable {X:Cx}
theorem Inv.turnedL {pins:List (Addr×Obj)}{σ:St}{H:Hp}{s:Shared}{h':Heap}{t':Nat}{fp:List Addr}(I:Inv X pins σ H s)(k:∀b o,b∉fp->s.heap.get? b=some o->h'.get? b=some o)(hf:∀b∈fp,lJ X pins H b) :
  Inv X pins σ H {s with heap:=h',toks:=t'}:=by
 have nit:∀b u,H b=some u->b∉fp:=fun b u e z=>by rw [(hf b z).1] at e;cases e
 refine I.step (g':=s.gens) (d':=s.drawn) (ch:=fp) (fun b hb=>⟨(hf b hb).2.2.2.1,(hf b hb).2.1,(hf b hb).2.2.2.2.1,(hf b hb).2.2.2.2.2⟩) (fun b o _ _ hc e _=>k b o hc e) (fun b o _ _ hc e _=>⟨o.slots,k b o hc e⟩) (fun _ _ _ _ n=>n)
  (fun b o hc e=>⟨o,k b o hc e⟩) (fun _ _ e=>e) (fun _ _ _ e=>e) (fun b ps e=>⟨#[],by rw [e];simp⟩) (fun m hm=>?_) (fun b u e=>?_) I.bare
 ·obtain ⟨o,es,ep,ho,r⟩:=hm
  exact ⟨o,es,ep,k _ o (fun z=>(hf _ z).2.1 rfl) ho,r⟩
 ·refine (I.hok b u e).stay (fun c v hc q=>k c v ?_ q) (fun _ q=>q) fun _ _ q=>q
  rcases hc with z | z
  ·exact z▸nit b u e
  ·exact nit c _ z
theorem Inv.handed {pins:List (Addr×Obj)}{σ:St}{H:Hp}{s:Shared}{h':Heap}{t':Nat}{fp:List Addr}{xs:List V}{us:List Value}{T:Addr}{n:Nat}(I:Inv X pins σ H s)(k:∀b o,b∉fp->s.heap.get? b=some o->h'.get? b=some o)(hf:∀b∈fp,lJ X pins H b)
  (hT:s.heap.objs.size<=T) (hz:xs.length<=sizeLine) (r:ba xs us) (e:h'.get? T=some {cls:=.type "tuple",data:=.seq us.toArray n}):Inv X pins σ (upd H T (.tup xs)) {s with heap:=h',toks:=t'}:=by
 have I1:Inv X pins σ H {s with heap:=h',toks:=t'}:=I.turnedL k hf
 have hn:H T=none:=I.hok.fresh hT
 obtain ⟨f0,f1,f2,f3,f4,f5⟩:=I.fpOk hT hn
 have h0:X.s₀.heap.objs.size<=T:=Nat.le_trans I.sz hT
 exact I1.track hn h0 f1 f4 f5 ⟨hz,us,r,⟨_,e,⟨rfl,_,rfl⟩,rfl⟩⟩
noncomputable def Ite (K:W.Frag)(a:Addr):It:=
 ⟨fun i H=>∃xs x,SqL K H a xs/\xs[i]?=some x,fun i H y H'=>∃t x,y=.ref t/\H t=none/\H'=upd H t (.tup [.int (i:Nat),x])/\∀xs,SqL K H a xs->xs[i]?=some x,fun i H=>∃xs,SqL K H a xs/\xs.length<=i⟩
theorem xh {P:Program}{w:World}{K:W.Frag}{elts:List Expr}{x1:Nat}{tpos:Pos}(a e it:Addr)(hne:e≠it):wN P w K (.Tuple elts x1 tpos) (Ite K a) [e,it] e (fun i h=>(∃old,IsEnum h e it (i:Nat) old)/\h.IsListIter it a i) where
 mem:=by simp
 obj:=fun i h st b hb=>by
  obtain ⟨⟨old,h1⟩,o,h2,_,h3⟩:=st
  rcases List.mem_cons.mp hb with rfl | hb
  ·exact ⟨_,h1,fun v z=>by
    have z':Data.fields _=Data.cell v:=z
    cases z'⟩
  ·rw [List.mem_singleton] at hb
   subst hb
   exact ⟨o,h2,fun v z=>by rw [h3] at z;cases z⟩
 keep:=fun i h h' st k=>by
  obtain ⟨⟨old,h1⟩,h2⟩:=st
  exact ⟨⟨old,k e (by simp) _ h1⟩,h2.at fun o q=>k it (by simp) o q⟩
 item:=by
  intro X hP hw hK hc i pins s σ H E I hf st hg
  subst hP hw hK
  obtain ⟨xs,x,hq,hx⟩:=hg
  obtain ⟨its,rv,p,hz⟩:=I.list hq
  obtain ⟨u,hu,ru⟩:=rv.get hx
  obtain ⟨⟨old,h1⟩,h2⟩:=st
  have hel:e < s.heap.objs.size:=Heap.lt_size h1
  have hil:it < s.heap.objs.size:=by
   obtain ⟨o,q,_⟩:=h2
   exact Heap.lt_size q
  refine wpAny_pyNext_enum_item h1 h2 p.isList (x:=u) (by simpa using hu) hne fun h' g1 g2 g3 g4 g5=>?_
  have kf:∀b o,b∉[e,it]->s.heap.get? b=some o->h'.get? b=some o:=fun b o hb q=>g5 b o (fun z=>hb (by simp [z])) (fun z=>hb (by simp [z])) q
  have I1:Inv X pins σ (upd H s.heap.objs.size (.tup [.int (i:Nat),x])) {s with heap:=h',toks:=s.toks+1}:=I.handed (us:=[Value.int (i:Nat) s.toks,u]) kf hf (Nat.le_refl _) (by show 2<=sizeLine;decide) (.cons ⟨_,rfl⟩ (.cons ru .nil)) g3
  have hn:H s.heap.objs.size=none:=I.hok.fresh (Nat.le_refl _)
  have hf1:∀b∈[e,it],upd H s.heap.objs.size (.tup [.int (i:Nat),x]) b=none:=fun b hb=>by
   have hlt:b < s.heap.objs.size:=by
    rcases List.mem_cons.mp hb with rfl | hb
    ·exact hel
    ·rw [List.mem_singleton] at hb
     subst hb
     exact hil
   rw [az (Nat.ne_of_lt hlt)]
   exact (hf b hb).1
  refine ⟨_,rfl,wpAny_letOwnedTupleGo_enum (s:={s with heap:=h',toks:=s.toks+1}) g1 fun h2' q1 q2=>?_⟩
  have I2:Inv X pins σ (upd H s.heap.objs.size (.tup [.int (i:Nat),x])) {s with heap:=h2',toks:=s.toks+1}:=I1.turnedL (s:={s with heap:=h',toks:=s.toks+1}) (t':=s.toks+1) (fp:=[e,it]) (fun b o hb q=>(q2.2 b (fun z=>hb (by simp [z]))).trans q) fun b hb=>⟨hf1 b hb,(hf b hb).2⟩
  refine ⟨.ref s.heap.objs.size,_,I2,rfl,⟨_,x,rfl,hn,rfl,fun ys hy=>by rw [I.list_inj hy hq];exact hx⟩,⟨⟨u,?_⟩,?_⟩,hf1⟩
  ·have:((i+1:Nat):Int)=(i:Int)+1:=by omega
   rw [this]
   exact q1
  ·exact g2.at fun o q=>(q2.2 it (Ne.symm hne)).trans q
 done:=by
  intro X hP hw hK hc i pins s σ H E I hf st hg
  subst hP hw hK
  obtain ⟨xs,hq,hx⟩:=hg
  obtain ⟨its,rv,p,hz⟩:=I.list hq
  have hl:=rv.length
  obtain ⟨⟨old,h1⟩,h2⟩:=st
  exact wpAny_pyNext_enum_end (I.ok.hd hc) h1 h2 p.isList (by simp;omega) fun h' eb=>⟨rfl,I.turnedL (t':=s.toks) (fun b o hb q=>eb b o (fun z=>hb (by simp [z])) q) hf⟩
 self:=fun _ _ _ _ _ st h=>by
  obtain ⟨⟨old,h1⟩,h2⟩:=st
  exact wpAny_pyIter_enum h1 h
noncomputable def Bk (K:W.Frag)(te:TE):TI:=fun σ H R=>te σ H fun x H1=>∃a,x=.ref a/\(∃xs,SqL K H1 a xs)/\R (Ite K a) H1
theorem zX {a:Expr}{te:TE}{p pos tpos:Pos}{elts:List Expr}{x1:Nat}(hg:Gl X "enumerate")(hm:X.mg "enumerate"=none)(hb:bootBuiltins "enumerate"=some (.type "enumerate"))(he:PE X a te)(hs:starEach [a] X.env=[(false,eval a X.env)]:=by rfl) :
  PI X (.Tuple elts x1 tpos) (.Call (.Name "enumerate" p) [a] [] pos) (Bk X.K te):=by
 intro pins s σ H R I h
 refine Call_ (js I hg hm hb (PyProof.Rows.callWith_type1 ?_ hs rfl))
 rw [hs]
 refine Calls.spliced_cons (thn (he pins s σ H _ I h) fun u s1 ⟨x,H1,I1,r1,l,ex,⟨xs,hq⟩,q⟩=>?_)
 subst ex
 cases r1
 refine Calls.spliced_nil ?_
 obtain ⟨its,rv,pl,hz⟩:=I1.list hq
 refine call_enumerate_list pl.isList fun h' h1 h2 h3 h4=>?_
 refine wpAny_pyIter_enum h1 ?_
 have hne:s1.heap.objs.size+1≠s1.heap.objs.size:=Nat.ne_of_gt (Nat.lt_succ_self _)
 refine ⟨s1.heap.objs.size+1,[s1.heap.objs.size+1,s1.heap.objs.size],_,_,H1,rfl,I1.kept (t':=s1.toks) h4,xh l _ _ hne,⟨⟨_,h1⟩,h2⟩,fun b hb=>?_,q⟩
 rcases List.mem_cons.mp hb with rfl | hb
 ·exact I1.fpOk (Nat.le_succ _) (I1.hok.fresh (Nat.le_succ _))
 ·rw [List.mem_singleton] at hb
  subst hb
  exact I1.fpOk (Nat.le_refl _) (I1.hok.fresh (Nat.le_refl _))
noncomputable def Itz (K:W.Frag)(a b:Addr):It:=
 ⟨fun i H=>∃xs ys x y,SqL K H a xs/\SqL K H b ys/\xs[i]?=some x/\ys[i]?=some y,fun i H v H'=>∃t x y,v=.ref t/\H t=none/\H'=upd H t (.tup [x,y])/\(∀xs,SqL K H a xs->xs[i]?=some x)/\∀ys,SqL K H b ys->ys[i]?=some y,
  fun i H=>∃xs ys,SqL K H a xs/\SqL K H b ys/\(xs.length<=i\/ys.length<=i)⟩
theorem yp {P:Program}{w:World}{K:W.Frag}{elts:List Expr}{x1:Nat}{tpos:Pos}(l1 l2 z TI TO i1 i2:Addr)(D:ZipApart z TI TO i1 i2 l1 l2) :
  wN P w K (.Tuple elts x1 tpos) (Itz K l1 l2) [z,TI,TO,i1,i2] z (fun i h=>IsZip h z TI TO .none/\IsPair h TI (.ref i1) (.ref i2)/\(∃u v,IsPair h TO u v)/\h.IsListIter i1 l1 i/\h.IsListIter i2 l2 i) where
 mem:=by simp
 obj:=fun i h st b hb=>by
  obtain ⟨h1,h2,⟨u,v,h3⟩,⟨o4,h4,_,d4⟩,⟨o5,h5,_,d5⟩⟩:=st
  simp only [List.mem_cons,List.not_mem_nil,or_false] at hb
  rcases hb with rfl | rfl | rfl | rfl | rfl
  ·exact ⟨_,h1,fun v z=>by
    have z':Data.fields _=Data.cell v:=z
    cases z'⟩
  ·exact ⟨_,h2,fun v z=>by
    have z':Data.seq _ _=Data.cell v:=z
    cases z'⟩
  ·exact ⟨_,h3,fun v z=>by
    have z':Data.seq _ _=Data.cell v:=z
    cases z'⟩
  ·exact ⟨o4,h4,fun v z=>by rw [d4] at z;cases z⟩
  ·exact ⟨o5,h5,fun v z=>by rw [d5] at z;cases z⟩
 keep:=fun i h h' st k=>by
  obtain ⟨h1,h2,⟨u,v,h3⟩,h4,h5⟩:=st
  exact ⟨k z (by simp) _ h1,k TI (by simp) _ h2,⟨u,v,k TO (by simp) _ h3⟩,h4.at fun o q=>k i1 (by simp) o q,h5.at fun o q=>k i2 (by simp) o q⟩
 item:=by
  intro X hP hw hK hc i pins s σ H E I hf st hg
  subst hP hw hK
  obtain ⟨xs,ys,x,y,hq1,hq2,hx,hy⟩:=hg
  obtain ⟨its1,rv1,p1,hz1⟩:=I.list hq1
  obtain ⟨its2,rv2,p2,hz2⟩:=I.list hq2
  obtain ⟨u,hu,ru⟩:=rv1.get hx
  obtain ⟨v,hv,rv⟩:=rv2.get hy
  obtain ⟨h1,h2,⟨c1,c2,h3⟩,h4,h5⟩:=st
  have lt:∀b∈[z,TI,TO,i1,i2],b < s.heap.objs.size:=fun b hb=>by
   simp only [List.mem_cons,List.not_mem_nil,or_false] at hb
   rcases hb with rfl | rfl | rfl | rfl | rfl
   ·exact Heap.lt_size h1
   ·exact Heap.lt_size h2
   ·exact Heap.lt_size h3
   ·obtain ⟨o,q,_⟩:=h4;exact Heap.lt_size q
   ·obtain ⟨o,q,_⟩:=h5;exact Heap.lt_size q
  refine wpAny_pyNext_zip_item D h1 h2 h3 h4 h5 p1.isList p2.isList (x:=u) (y:=v) (by simpa using hu) (by simpa using hv) fun h' g1 g2 g3 g4 g5 g6 g7=>?_
  have kf:∀b o,b∉[z,TI,TO,i1,i2]->s.heap.get? b=some o->h'.get? b=some o:=fun b o hb q=>g7 b o (fun e=>hb (by simp [e])) (fun e=>hb (by simp [e])) (fun e=>hb (by simp [e])) (fun e=>hb (by simp [e])) q
  have I1:Inv X pins σ (upd H s.heap.objs.size (.tup [x,y])) {s with heap:=h',toks:=s.toks}:=I.handed (us:=[u,v]) kf hf (Nat.le_refl _) (by show 2<=sizeLine;decide) (.cons ru (.cons rv .nil)) g5
  have hn:H s.heap.objs.size=none:=I.hok.fresh (Nat.le_refl _)
  have hf1:∀b∈[z,TI,TO,i1,i2],upd H s.heap.objs.size (.tup [x,y]) b=none:=fun b hb=>by
   rw [az (Nat.ne_of_lt (lt b hb))]
   exact (hf b hb).1
  refine ⟨_,rfl,wpAny_letOwnedTupleGo_zip (s:={s with heap:=h'}) g1 fun h2' q1 q2=>?_⟩
  have I2:Inv X pins σ (upd H s.heap.objs.size (.tup [x,y])) {s with heap:=h2',toks:=s.toks}:=I1.turnedL (s:={s with heap:=h',toks:=s.toks}) (t':=s.toks) (fp:=[z,TI,TO,i1,i2]) (fun b o hb q=>(q2.2 b (fun e=>hb (by simp [e]))).trans q) fun b hb=>⟨hf1 b hb,(hf b hb).2⟩
  have k2:∀b o,b≠z->h'.get? b=some o->h2'.get? b=some o:=fun b o hb q=>(q2.2 b hb).trans q
  have gTI:IsPair h' TI (.ref i1) (.ref i2):=g7 TI _ D.TIz D.TITO D.TIi1 D.TIi2 h2
  refine ⟨.ref s.heap.objs.size,_,I2,rfl,⟨_,x,y,rfl,hn,rfl,fun zs hz=>by rw [I.list_inj hz hq1];exact hx,fun zs hz=>by rw [I.list_inj hz hq2];exact hy⟩,⟨q1,k2 _ _ D.TIz gTI,⟨u,v,k2 _ _ D.TOz g2⟩,g3.at fun o q=>k2 _ _ D.i1z q,g4.at fun o q=>k2 _ _ D.i2z q⟩,hf1⟩
 done:=by
  intro X hP hw hK hc i pins s σ H E I hf st hg
  subst hP hw hK
  obtain ⟨xs,ys,hq1,hq2,hend⟩:=hg
  obtain ⟨its1,rv1,p1,hz1⟩:=I.list hq1
  obtain ⟨its2,rv2,p2,hz2⟩:=I.list hq2
  have hl1:=rv1.length
  have hl2:=rv2.length
  obtain ⟨h1,h2,⟨c1,c2,h3⟩,h4,h5⟩:=st
  refine wpAny_pyNext_zip_end (I.ok.hd hc) D h1 h2 h3 h4 h5 p1.isList p2.isList ?_ fun h' eb=>⟨rfl,I.turnedL (t':=s.toks) (fun b o hb q=>eb b o (fun e=>hb (by simp [e])) (fun e=>hb (by simp [e])) (fun e=>hb (by simp [e])) (fun e=>hb (by simp [e])) q) hf⟩
  rcases hend with e | e
  ·left;simp;omega
  ·right;simp;omega
 self:=fun _ _ _ _ _ st h=>wpAny_pyIter_zip st.1 h
noncomputable def DE (K:W.Frag)(ta tb:TE):TI:=fun σ H R=>ta σ H fun x H1=>tb σ H1 fun y H2=>∃a b,x=.ref a/\y=.ref b/\(∃xs,SqL K H2 a xs)/\(∃ys,SqL K H2 b ys)/\R (Itz K a b) H2
theorem B7 {a b:Expr}{ta tb:TE}{p pos tpos:Pos}{elts:List Expr}{x1:Nat}(hg:Gl X "zip")(hm:X.mg "zip"=none)(hb:bootBuiltins "zip"=some (.type "zip"))(ha:PE X a ta)(hb2:PE X b tb)(hs:starEach [a,b] X.env=[(false,eval a X.env),(false,eval b X.env)]:=by rfl)(hs2:starEach [b] X.env=[(false,eval b X.env)]:=by rfl) :
  PI X (.Tuple elts x1 tpos) (.Call (.Name "zip" p) [a,b] [] pos) (DE X.K ta tb):=by
 intro pins s σ H R I h
 refine Call_ (js I hg hm hb (PyProof.Rows.callWith_type1 ?_ (by rw [hs,hs2]) (by rw [hs2];rfl)))
 rw [hs]
 refine Calls.spliced_cons (thn (ha pins s σ H _ I h) fun u s1 ⟨x,H1,I1,r1,q1⟩=>?_)
 refine Calls.spliced_cons (thn (hb2 pins s1 σ H1 _ I1 q1) fun v s2 ⟨y,H2,I2,r2,l1,l2,ex,ey,⟨xs,hq1⟩,⟨ys,hq2⟩,q⟩=>?_)
 subst ex ey
 cases r1
 cases r2
 refine Calls.spliced_nil ?_
 obtain ⟨its1,rv1,p1,hz1⟩:=I2.list hq1
 obtain ⟨its2,rv2,p2,hz2⟩:=I2.list hq2
 have a1:l1 < s2.heap.objs.size:=by obtain ⟨o,q,_⟩:=p1.isList;exact Heap.lt_size q
 have a2:l2 < s2.heap.objs.size:=by obtain ⟨o,q,_⟩:=p2.isList;exact Heap.lt_size q
 refine call_zip_2 p1.isList p2.isList fun h' h1 h2 h3 h4 h5 h6 h7=>?_
 refine wpAny_pyIter_zip h1 ?_
 have n0:∀l:Nat,l < s2.heap.objs.size->∀k:Nat,l≠s2.heap.objs.size+k:=fun l hl k=>by omega
 have n1:∀j k:Nat,j≠k->s2.heap.objs.size+j≠s2.heap.objs.size+k:=fun j k hjk=>by omega
 refine ⟨s2.heap.objs.size+4,[s2.heap.objs.size+4,s2.heap.objs.size+2,s2.heap.objs.size+3,s2.heap.objs.size+0,s2.heap.objs.size+1],_,_,H2,rfl,I2.kept (t':=s2.toks) h7,
  yp l1 l2 _ _ _ _ _ ⟨n1 2 4 (by decide),n1 3 4 (by decide),n1 0 4 (by decide),n1 1 4 (by decide),n1 2 3 (by decide),n1 2 0 (by decide),n1 2 1 (by decide),n1 3 0 (by decide),n1 3 1 (by decide),n1 0 1 (by decide),n0 _ a1 4,n0 _ a1 3,n0 _ a1 0,n0 _ a1 1,n0 _ a2 4,n0 _ a2 3,n0 _ a2 0,n0 _ a2 1⟩,⟨h1,h2,⟨_,_,h3⟩,h4,h5⟩,fun b hb=>?_,q⟩
 have hle:s2.heap.objs.size<=b:=by
  simp only [List.mem_cons,List.not_mem_nil,or_false] at hb
  rcases hb with rfl | rfl | rfl | rfl | rfl<;>exact Nat.le_add_right _ _
 exact I2.fpOk hle (I2.hok.fresh hle)
end
theorem t6 {J:It}{g:TG}{tb:TS}{D:kQ}{σ:St}{H:Hp}(n:Nat)(Pv:Nat->St->Hp->Prop)(h0:Pv 0 σ H)(hgo:∀i σ H,i < n->Pv i σ H->J.go i H)(hst:∀σ H,Pv n σ H->J.stop n H)
  (hs:∀i σ H,i < n->Pv i σ H->∀x H',J.yld i H x H'->g x σ H' fun σ2 H2=>tb {D with nx:=Pv (i+1),ct:=Pv (i+1),bk:=D.nx} σ2 H2) (hd:∀σ H,Pv n σ H->D.nx σ H):v8 J g tb D σ H:=by
 refine ⟨fun i m σ H=>m=n - i/\i<=n/\Pv i σ H,⟨n,by simp,Nat.zero_le _,h0⟩,?_⟩
 rintro i m σ H ⟨rfl,hi,p⟩
 by_cases hlt:i < n
 ·exact .inr ⟨hgo i σ H hlt p,Pv (i+1),fun σ' H' q=>⟨n - (i+1),by omega,rfl,hlt,q⟩,fun x H' y=>hs i σ H hlt p x H' y⟩
 ·have e:i=n:=by omega
  subst e
  exact .inl ⟨hst σ H p,hd σ H p⟩
section
variable {X:Cx}
noncomputable def yq (K:W.Frag):V->List V->Hp->VK->Prop:=fun x vs H Q=>∃(l:Addr) (ns:List Int) (k:Int),x=.ref l/\vs=[.int k]/\SqL K H l (ns.map V.int)/\k∈ns/\Q (.int (ns.idxOf k:Nat)) H
theorem yr:MtR X "list.index" (yq X.K):=by
 intro pins s σ H x vs v us Q I rx rv h
 obtain ⟨l,ns,k,rfl,rfl,hq,hk,q⟩:=h
 cases rx
 obtain ⟨u,rfl,t,rfl⟩:=rv.one
 obtain ⟨its,r,pl,hz⟩:=I.list hq
 have hi:IntsAre its ns:=uY r
 obtain ⟨⟨cls,dd,data,sl⟩,ho,hc,n,hd⟩:=id pl.isList
 simp only at hc hd
 subst hc hd
 have hlen:=hi.length
 have hj:ns.idxOf k < ns.length:=List.idxOf_lt_length_iff.mpr hk
 rw [List.length_map,sizeLine_eq] at hz
 refine call_meets PySem.F.slot_list_index ⟨_,ho,rfl⟩ PySem.F.entry_list_index (PySem.F.args_list_index_2 _ _)
  (PySem.SeqAt.list_indexAt l its.toArray n dd sl (.int k t) (isInt k) (ns.idxOf k) (by simpa [hlen] using hj) (by omega) ?_ ?_) ⟨ho,fun y hy=>(eq_isInt k t hi y (by simpa using hy)).at _ _,?_⟩
 ·show isInt k its[ns.idxOf k]=true
  rw [isInt_at k hi _ (by omega) hj]
  simpa using List.getElem_idxOf hj
 ·intro j hjs hlt
  show isInt k its[j]=false
  rw [isInt_at k hi j (by simpa using hjs) (by omega)]
  exact ne_of_lt_idxOf hlt _
 ·exact ⟨.int (ns.idxOf k:Nat),H,I.tok _,⟨_,rfl⟩,q⟩
end
def aq (p:Addr)(H H':Hp):Prop:=∀b o,b≠p->H b=some o->H' b=some o
theorem aq.of {p:Addr}{H H':Hp}(s:aw H H'):aq p H H':=fun b o _ e=>s b o e
theorem aq.trans {p:Addr}{H H1 H2:Hp}(a:aq p H H1)(b:aq p H1 H2):aq p H H2:=fun c o n e=>b c o n (a c o n e)
theorem aq.put {p:Addr}{H H':Hp}{o:HO}(s:aq p H H'):aq p H (upd H' p o):=fun b u n e=>by rw [az n];exact s b u n e
theorem Rd.keep {p a:Addr}{H H':Hp}{u:HO}(s:aq p H H')(n:a≠p)(h:Rd H a u):Rd H' a u:=by
 rcases h with h | ⟨o,h⟩
 ·exact .inl (s _ _ n h)
 ·exact .inr ⟨o,s _ _ n h⟩
theorem SqT.keep {K:W.Frag}{p a:Addr}{H H':Hp}{xs ys:List V}(s:aq p H H')(hp:H p=some (.lst ys))(h:SqT K H a xs):SqT K H' a xs:=by
 rcases h with h | h
 ·refine .inl (h.keep s fun z=>?_)
  subst z
  rcases h with h | ⟨o,h⟩
  ·rw [hp] at h;cases h
  ·rw [hp] at h;cases h
 ·exact .inr h
theorem Rd.keepI {p a C dx:Addr}{H H':Hp}{fs:List (Str×V)}{u:HO}(s:aq p H H')(hp:H p=some (.ins C dx fs))(hu:∀C dx fs,u≠.ins C dx fs)(h:Rd H a u):Rd H' a u:=by
 refine h.keep s fun z=>?_
 subst z
 rcases h with h | ⟨o,h⟩
 ·rw [hp] at h;cases h;exact hu _ _ _ rfl
 ·rw [hp] at h;cases h
theorem SqL.keepI {K:W.Frag}{p a C dx:Addr}{H H':Hp}{xs:List V}{fs:List (Str×V)}(s:aq p H H')(hp:H p=some (.ins C dx fs))(h:SqL K H a xs):SqL K H' a xs:=by
 rcases h with h | h
 ·exact .inl (h.keepI s hp fun _ _ _ z=>HO.noConfusion z)
 ·exact .inr h
theorem SqT.keepI {K:W.Frag}{p a C dx:Addr}{H H':Hp}{xs:List V}{fs:List (Str×V)}(s:aq p H H')(hp:H p=some (.ins C dx fs))(h:SqT K H a xs):SqT K H' a xs:=by
 rcases h with h | h
 ·exact .inl (h.keepI s hp fun _ _ _ z=>HO.noConfusion z)
 ·exact .inr h
theorem dr.keepI {K:W.Frag}{p l C dx:Addr}{H H':Hp}{ls:List Ld}{fs:List (Str×V)}(s:aq p H H')(hp:H p=some (.ins C dx fs))(h:dr K H l ls):dr K H' l ls:=by
 obtain ⟨as,a,b⟩:=h
 exact ⟨as,a.keepI s hp,b.1,fun i a x e1 e2=>(b.2 i a x e1 e2).keepI s hp⟩
structure cx (C:Addr)(H:Hp)(y kn wh:Addr)(ks:List Str)(ws:List Int)(m:Int):Prop where
 ob:∃dx,H y=some (.ins C dx [("kinds",.ref kn),("where",.ref wh),("many",.int m)])
 okn:H kn=some (.lst (ks.map V.str))
 owh:H wh=some (.lst (ws.map V.int))
theorem cx.same {C:Addr}{H H':Hp}{y kn wh:Addr}{ks:List Str}{ws:List Int}{m:Int}(h:cx C H y kn wh ks ws m)(s:aw H H'):cx C H' y kn wh ks ws m:=by
 obtain ⟨⟨dx,a⟩,b,c⟩:=h
 exact ⟨⟨dx,s _ _ a⟩,s _ _ b,s _ _ c⟩
theorem cx.off {C:Addr}{H H':Hp}{p y kn wh:Addr}{ks:List Str}{ws:List Int}{m:Int}{ys:List V}(h:cx C H y kn wh ks ws m)(s:aq p H H')(hp:H p=some (.lst ys))(n1:kn≠p)(n2:wh≠p):cx C H' y kn wh ks ws m:=by
 obtain ⟨⟨dx,a⟩,b,c⟩:=h
 exact ⟨⟨dx,s _ _ (fun z=>by rw [z,hp] at a;cases a) a⟩,s _ _ n1 b,s _ _ n2 c⟩
theorem cx.put {C:Addr}{H H':Hp}{y kn wh:Addr}{ks:List Str}{ws ws':List Int}{m:Int}(h:cx C H y kn wh ks ws m)(s:aq wh H H')(n1:kn≠wh)(e:H' wh=some (.lst (ws'.map V.int))):cx C H' y kn wh ks ws' m:=by
 obtain ⟨⟨dx,a⟩,b,c⟩:=h
 exact ⟨⟨dx,s _ _ (fun z=>by rw [z,c] at a;cases a) a⟩,s _ _ n1 b,e⟩
theorem yt {K:W.Frag}{l:Addr}{ls:List Ld}{te:TE}{cm:List (Option Nat)}{σ:St}{H:Hp}{Q:VK}(f:Ld->V)(hL:dr K H l ls)(hn:ls.length<=sizeLine)(hcm:bE cm σ=[none,none,none])
  (he:∀x∈ls,∀N:VK,N (f x) H->te [some (.str x.1),some (.int x.2.1),some (.int x.2.2)] H N)
  (hd:∀p,H p=none->Q (.ref p) (upd H p (.lst (ls.map f)))):nG (Itl K l) (BH K 3 (tL (dZ 0) (tL (dZ 1) (tL (dZ 2) BG)))) qq te cm σ Q H:=by
 obtain ⟨as,hS,hlen,hT⟩:=hL
 refine r6 ls.length (fun i acc H'=>H'=H/\acc=(ls.take i).map f) ⟨rfl,by simp⟩ ?_ ?_ ?_ ?_
 ·rintro i acc H' hi ⟨rfl,_⟩
  have ha:as[i]?=some as[i]:=List.getElem?_eq_getElem (by omega)
  exact ⟨_,.ref as[i],hS,by rw [List.getElem?_map,ha];rfl⟩
 ·rintro acc H' ⟨rfl,_⟩
  exact ⟨_,hS,by rw [List.length_map];omega⟩
 ·rintro i acc H' hi ⟨rfl,rfl⟩
  have ha:as[i]?=some as[i]:=List.getElem?_eq_getElem (by omega)
  have hx:ls[i]?=some ls[i]:=List.getElem?_eq_getElem hi
  refine ⟨by rw [List.length_map,List.length_take];omega,fun x H2 y M hM=>?_⟩
  obtain ⟨e,y⟩:=y
  subst e
  have hy:=y _ hS
  rw [List.getElem?_map,ha] at hy
  cases hy
  rw [hcm]
  refine ⟨_,_,rfl,hT i _ _ ha hx,rfl,_,_,rfl,_,_,rfl,_,_,rfl,rfl,⟨rfl,fun k v e=>?_⟩,?_⟩
  ·match k,e with
   | 0,e=>cases e
   | 1,e=>cases e
   | 2,e=>cases e
  ·unfold qq;dsimp only
   split
   ·refine he ls[i] (List.getElem_mem _) _ (hM _ _ ⟨rfl,?_⟩)
    rw [List.take_succ_eq_append_getElem hi,List.map_append];rfl
   ·rename_i z;exact absurd rfl z
 ·rintro acc H' ⟨rfl,rfl⟩ p hp
  rw [List.take_length]
  exact hd p hp
theorem oQ {n:Nat}{i:Int}(h0:0<=i)(h1:i < n):ixN n i=some i.toNat:=by
 unfold ixN
 rw [if_pos h0,if_pos h1]
theorem fH {ds:List Int}{i:Nat}(h:i < ds.length):ds.getD i 0∈ds:=by
 rw [List.getD_eq_getElem?_getD,List.getElem?_eq_getElem h]
 exact List.getElem_mem h
theorem oR {ds:List Int}{i:Nat}(h:i < ds.length):ds[i]?=some (ds.getD i 0):=by
 rw [List.getD_eq_getElem?_getD,List.getElem?_eq_getElem h];rfl
theorem rg {c:Int}(h0:0<=c)(h1:c < 2):atI [V.int 10,V.int 11] c=some (.int (10+c)):=by
 rcases (by omega:c=0\/c=1) with rfl | rfl<;>rfl
theorem xi {ws:List Int}{k:Int}{i:Nat}(hi:i < ws.length)(he:ws.getD i 0=k)(hn:∀j,j < i->ws.getD j 0≠k):ws.idxOf k=i:=by
 have hm:k∈ws:=he▸fH hi
 have hlt:ws.idxOf k < ws.length:=List.idxOf_lt_length_iff.mpr hm
 have e1:ws.getD (ws.idxOf k) 0=k:=by
  rw [List.getD_eq_getElem?_getD,List.getElem?_eq_getElem hlt]
  exact List.getElem_idxOf hlt
 rcases Nat.lt_trichotomy (ws.idxOf k) i with h | h | h
 ·exact absurd e1 (hn _ h)
 ·exact h
 ·have:=ne_of_lt_idxOf (ns:=ws) (k:=k) h (by omega)
  rw [List.getD_eq_getElem?_getD,List.getElem?_eq_getElem hi] at he
  exact absurd he (by simpa using this)
section
variable {X:Cx}
theorem u7 {tg iter elt:Expr}{ifs:List Expr}{scope:Scope}{pos spos py:Pos}{Nc:List Str}{cm:List (Option Nat)}{wi:TI}{g:TG}{tc:TT}{te:TE}{iy:Nat}{y:Str}(hN:X.N.Nodup)(hiy:X.N[iy]?=some y)(hly:X.env.scope.names.lookup y=some .local)
  (hsw:swapsWith (.ListComp elt [⟨tg,iter,ifs,0⟩] scope pos) (some (.Name y py)) spos.line X.env=pure true)
  (hc:X.calm=true) (hi:PI X tg iter wi) (hkind:scope.kind=.function) (hcell:∀y∈scope.names,y.2≠.cell) (hnames:∀y∈scope.names,y.2=.local->scope.names.lookup y.1=some .local)
  (hfree:∀y∈scope.names,y.2=.free->X.env.kindOf y.1=some .cell\/X.env.kindOf y.1=some .free) (hlen:cm.length=Nc.length)
  (hcm:∀(j:Nat) (x:Str) (i:Nat),Nc[j]?=some x->cm[j]?=some (some i)->X.N[i]?=some x/\scope.names.lookup x=some .free/\(X.env.kindOf x=some .cell\/X.env.kindOf x=some .free))
  (hg:∀C s₀ H₀ ex,PG (blk X Nc scope C s₀ H₀ ex) tg g) (ht:∀C s₀ H₀ ex,PIf (blk X Nc scope C s₀ H₀ ex) ifs tc) (he:∀C s₀ H₀ ex,PE (blk X Nc scope C s₀ H₀ ex) elt te)
  (hs:∀x,foldedSetIterable iter X.env x=pure x:=by intro _;rfl):PS X (.Assign [.Name y py] (.ListComp elt [⟨tg,iter,ifs,0⟩] scope pos) spos) (xJ (tU wi g tc te cm) (dZ iy)):=by
 intro pins s σ H D0 I h
 rw [exec_Assign_Name_used _ _ _ _ hsw]
 refine wpAny_bind (wpAny_standAt (wpAny_bind ?_))
 show wpAny _ X.A (do let _ ←comprehension (.ListComp elt [⟨tg,iter,ifs,0⟩] scope pos) scope X.env _ (newList []) false (eval iter X.env) (some (assign (.Name y py) X.env))) _ _ s
 refine wpAny_bind (wpAny_mono (Q:=fun _ s'=>SP X pins D0 .next s') ?_ (fun _ s' hq=>wpAny_pure (wpAny_pure hq)) fun _ _ e=>e)
 have hfr:∀y∈scope.names,y.2=.free->∃c,X.env.cells.lookup y.1=some c:=fun y hy e=>I.ok.has y.1 (hfree y hy e)
 refine wpAny_comprehension_free (use:=some (assign (.Name y py) X.env)) (Q:=fun _ s'=>SP X pins D0 .next s') rfl hs (jx hfr) hkind hnames (thn (hi pins s σ H _ I h) fun v s1 h1=>thn h1 fun itv s2 h2=>?_)
 obtain ⟨it,fp,tn,J,H2,e,I2,T,st2,f2,W,⟨m0,w0⟩,turn⟩:=h2
 subst e
 refine wpAny_newObj_type (wpAny_newFunctionEnv hcell (by intro y hy;simp at hy) (fun h₁ hns₁ hsb₁=>?_) hkind)
 dsimp only at hns₁ hsb₁ ⊢
 have hk3:∀b u,s2.heap.get? b=some u->(s2.heap.push {cls:=.type "list",dict:=none,data:=.seq ([]:List Value).toArray}).get? b=some u:=fun b u q=>Heap.get?_push_of_some _ q
 have I3:Inv X pins σ H2 {s2 with heap:=s2.heap.push {cls:=.type "list",dict:=none,data:=.seq ([]:List Value).toArray},toks:=s2.toks}:=I2.kept hk3
 have hD3:(s2.heap.push {cls:=.type "list",dict:=none,data:=.seq ([]:List Value).toArray}).get? s2.heap.objs.size=some {cls:=.type "list",data:=.seq ([]:List Value).toArray}:=Heap.get?_push_size _ rfl
 have hCs:(s2.heap.push {cls:=.type "list",dict:=none,data:=.seq ([]:List Value).toArray}).objs.size=s2.heap.objs.size+1:=Heap.size_push _ _
 have hDn:H2 s2.heap.objs.size=none:=I2.hok.fresh (Nat.le_refl _)
 have st3:tn 0 (s2.heap.push {cls:=.type "list",dict:=none,data:=.seq ([]:List Value).toArray}):=T.keep _ _ _ st2 fun b _ o q=>hk3 b o q
 have fpD:∀b∈fp,b < s2.heap.objs.size:=fun b hb=>by
  obtain ⟨o,e,_⟩:=T.obj _ _ st2 b hb
  exact Heap.lt_size e
 have DX:lJ X pins H2 s2.heap.objs.size:=I2.fpOk (Nat.le_refl _) hDn
 generalize hs3:s2.heap.push {cls:=.type "list",dict:=none,data:=.seq ([]:List Value).toArray}=h3 at *
 generalize hDg:s2.heap.objs.size=D at *
 have exX:∀b∈D::fp,lJ X pins H2 b:=fun b hb=>by
  rcases List.mem_cons.mp hb with z | z
  ·rw [z];exact DX
  ·exact f2 b z
 have exC:∀b∈D::fp,b < h3.objs.size:=fun b hb=>by
  rcases List.mem_cons.mp hb with z | z
  ·rw [z,hCs];exact Nat.lt_succ_self _
  ·rw [hCs];exact Nat.lt_succ_of_lt (fpD b z)
 have exS:∀b∈D::fp,b∉frs X.stack:=fun b hb z=>by
  obtain ⟨_,n1,n2,_⟩:=exX b hb
  rcases List.mem_cons.mp (I2.stkSub b z) with y | y
  ·exact n1 y
  ·exact n2 y
 have clo:∀x c,(gq X.env.cells scope.names []).lookup x=some c->X.env.cells.lookup x=some c:=fun x c e=>lM (acc:=[]) (fun _ _ z=>by simp at z) e
 have keep1:∀b u,h3.get? b=some u->h₁.get? b=some u:=fun b u q=>
  (hsb₁.2 b (Nat.ne_of_lt (Heap.lt_size q))).trans (Heap.get?_push_of_some _ q)
 let s3:Shared:={s2 with heap:=h3}
 let X':Cx:=blk X Nc scope h3.objs.size s3 H2 (D::fp)
 have hX':X'=blk X Nc scope h3.objs.size s3 H2 (D::fp):=rfl
 have okX:X'.Ok:=by
  refine ⟨I3.ok.mod,hkind,I3.ok.glob,I3.ok.blt,Nat.le_refl _,fun x y c e1 e2=>I3.ok.inj x y c (clo x c e1) (clo y c e2),fun x hx=>?_,fun x c e=>(Bool.false_ne_true e).elim,I3.ok.hd,I3.ok.frames,.inl rfl,fun b hb=>⟨Nat.ne_of_lt (exC b hb),fun x c e=>(exX b hb).2.2.2.2.1 x c (clo x c e)⟩,
   I3.bs,?_,fun b o e hb=>?_,exS,I3.stack,I3.stkFree⟩
  ·have hx':scope.names.lookup x=some .free:=c6 (env:=X.env) hcell hx
   have hmem:(x,NameKind.free)∈scope.names:=by
    have:∀(l:List (Str×NameKind)),l.lookup x=some .free->(x,NameKind.free)∈l:=by
     intro l
     induction l with
     | nil=>intro z;simp at z
     | cons a r ih=>
      obtain ⟨n,k⟩:=a
      intro z
      rw [List.lookup_cons] at z
      split at z
      ·rename_i y
       have yn:x=n:=by simpa using y
       cases z
       rw [yn];exact List.mem_cons_self
      ·exact List.mem_cons_of_mem _ (ih z)
    exact this _ hx'
   exact fK hx' (hfr (x,.free) hmem rfl)
  ·exact Nat.le_trans I3.ok.bsz I3.sz
  ·rcases (exX b hb).2.2.2.1 with z | z
   ·exact I3.ok.noex b o e z
   ·exact absurd (Nat.lt_of_lt_of_le (Heap.lt_size (I3.ok.bs b o e).1) z) (Nat.lt_irrefl _)
 have hσl:(bE cm σ).length=Nc.length:=by
  unfold bE
  rw [List.length_map];exact hlen
 have I4:Inv X' [] (bE cm σ) H2 {s2 with heap:=h₁,toks:=s2.toks+([]:List (Str×Value)).length}:=by
  refine ⟨okX,rfl,I3.bare,Un.kept keep1,⟨_,hns₁,fun j x v e1 e2 e3=>?_⟩,fun x c e=>?_,?_,fun x c e=>I3.freeC x c (clo x c e),(fun p hp=>absurd (show p∈([]:List (Addr×Obj)) from hp) (by simp)),I3.hok.kept keep1,hσl⟩
  ·have e2':∃i,cm[j]?=some (some i)/\σ[i]?=some (some v):=by
    unfold bE at e2
    rw [List.getElem?_map] at e2
    cases q:cm[j]? with
    | none=>rw [q] at e2;simp at e2
    | some o=>
     rw [q] at e2
     cases o with
     | none=>simp at e2
     | some i=>
      refine ⟨i,rfl,?_⟩
      simp only [Option.map_some,Option.some.injEq] at e2
      cases q2:σ[i]? with
      | none=>rw [q2] at e2;simp at e2
      | some o2=>rw [q2] at e2;simp at e2;rw [e2]
   obtain ⟨i,ej,ei⟩:=e2'
   obtain ⟨n1,n2,n3⟩:=hcm j x i e1 ej
   obtain ⟨m,hn,hl⟩:=I3.loc
   have n3':Vis X.env.scope x:=by
    rcases n3 with z | z
    ·exact .inr (.inl z)
    ·exact .inr (.inr z)
   obtain ⟨u,r,l⟩:=hl i x v n1 ei n3'
   refine ⟨u,r,?_⟩
   rcases l with ⟨l,_⟩ | ⟨_,c,ec,ic⟩
   ·rcases n3 with z | z
    ·rw [l] at z;cases z
    ·rw [l] at z;cases z
   ·obtain ⟨c',ec'⟩:=fK (cells:=X.env.cells) (acc:=[]) n2 ⟨c,ec⟩
    have hcc:=clo x c' ec'
    rw [ec] at hcc;cases hcc
    obtain ⟨oc,hoc,hdc⟩:=ic
    refine .inr ⟨?_,c,ec',oc,keep1 _ _ hoc,hdc⟩
    exact c5 (env:=X.env) n2
  ·obtain ⟨v,oc,hoc,hdc⟩:=I3.cell x c (clo x c e)
   exact ⟨v,oc,keep1 _ _ hoc,hdc⟩
  ·exact I3.hok.fresh (Nat.le_refl _)
 have stat:∀{H':Hp} {pl:List (Addr×Obj)},(∀b∈fp,H' b=none)->(∀p∈pl,p.1=D)->∀b∈fp,lJ X' pl H' b:=fun {H' pl} hn hpl b hb=>
  ⟨hn b hb,Nat.ne_of_lt (exC b (List.mem_cons_of_mem _ hb)),exS b (List.mem_cons_of_mem _ hb),.inl (List.mem_cons_of_mem _ hb),fun x c e=>(f2 b hb).2.2.2.2.1 x c (clo x c e),fun p hp z=>by
   have:p∈pl:=(List.mem_append.mp hp).elim (fun z=>absurd (show p∈([]:List (Addr×Obj)) from z) (by simp)) fun z=>z
   have e:=hpl p this
   rw [e] at z
   exact absurd (fpD b hb) (by rw [←z];exact Nat.lt_irrefl _)⟩
 have hDC:D≠h3.objs.size:=by rw [hCs];exact Nat.ne_of_lt (Nat.lt_succ_self _)
 have hDs:D∉frs X.stack:=exS D List.mem_cons_self
 have loop:∀s5:Shared,s5={s2 with heap:=h₁,toks:=s2.toks+([]:List (Str×Value)).length}->
   codeAny (model X.prog X.w) X.A (.compLoop (.ListComp elt [⟨tg,iter,ifs,0⟩] scope pos) 0 (.ref it) (.ref D) (compEnvC scope (gq X.env.cells scope.names []) h3.objs.size X.env))
    (compPost (model X.prog X.w) X.A X.xe (some (assign (.Name y py) X.env)) (fun _ s'=>SP X pins D0 .next s') (.ref D) h3.objs.size) s5:=by
  rintro s5 rfl
  refine codeAny_loop rfl (fun n s'=>∃i acc its k H',Inv X' [] (bE cm σ) H' s'/\tn i s'.heap/\(∀b∈fp,H' b=none)/\s'.heap.get? D=some {cls:=.type "list",data:=.seq (List.toArray its) k}/\H' D=none/\ba acc its/\acc.length<=sizeLine/\W i n acc H') (fun n s' hI=>?_) m0
   ⟨0,[],[],0,H2,I4,T.keep _ _ _ st3 fun b _ o q=>keep1 b o q,fun b hb=>(f2 b hb).1,keep1 _ _ hD3,hDn,.nil,Nat.zero_le _,w0⟩
  obtain ⟨i,acc,its,k,H5,J5,t5,fr5,d5,dn5,va5,ac5,w5⟩:=hI
  show wpAny _ X.A ((compTurn (.ListComp elt [⟨tg,iter,ifs,0⟩] scope pos) 0 (.ref it) (.ref D) (compEnvC scope (gq X.env.cells scope.names []) h3.objs.size X.env)).onRaise (fun x=>do noteFrame x (compEnvC scope (gq X.env.cells scope.names []) h3.objs.size X.env);theTreesLotGoes x)) _ _ s'
  refine wpAny_noted ?_
  rw [compTurn_list]
  have nocell:∀v,({cls:=.type "list",data:=.seq (List.toArray its) k}:Obj).data≠.cell v:=fun v z=>nomatch z
  have P5:Inv X' [(D,{cls:=.type "list",data:=.seq (List.toArray its) k})] (bE cm σ) H5 s':=J5.pins_of fun p hp=>by
   have e:p=(D,{cls:=.type "list",data:=.seq (List.toArray its) k}):=by simpa using hp
   subst e
   exact ⟨d5,dn5,hDC,hDs,nocell⟩
  have pl1:∀p∈[((D,{cls:=.type "list",data:=.seq (List.toArray its) k}):Addr×Obj)],p.1=D:=fun p hp=>by
   have e:p=(D,{cls:=.type "list",data:=.seq (List.toArray its) k}):=by simpa using hp
   rw [e]
  rcases turn i n acc H5 w5 with ⟨stop,qn⟩ | ⟨go,hsz,step⟩
  ·refine wpAny_bind (wpAny_standAt (wpAny_bind (wpAny_mono (T.done X' rfl rfl rfl hc i _ s' _ H5 (fun _ _=>False) P5 (stat fr5 pl1) t5 stop) (fun r s6 ⟨hr,J6⟩=>?_) fun _ _ f=>f.elim)))
   subst hr
   refine wpAny_pure ?_
   obtain ⟨mC,hnC,_⟩:=J6.loc
   have hsb:Heap.SameBut h3.objs.size s6.heap s6.heap:=⟨rfl,fun _ _=>rfl⟩
   let h':Heap:=s6.heap
   have hCn:H5 h3.objs.size=none:=J6.free
   have toh:∀b u,b≠h3.objs.size->s6.heap.get? b=some u->h'.get? b=some u:=fun b u hb q=>(hsb.2 b hb).trans q
   have hok':HOk X.prog X.w H5 h':=fun a o e=>(J6.hok a o e).stay (fun b u hb q=>toh b u (by
    rintro rfl
    rcases hb with z | z
    ·rw [←z,hCn] at e;cases e
    ·rw [hCn] at z;cases z) q) (fun _ q=>q) fun _ _ q=>q
   have ltC:∀{b:Addr} {u:Obj},h3.get? b=some u->b≠h3.objs.size:=fun q=>Nat.ne_of_lt (Heap.lt_size q)
   have un':Un (frs X.stack) (D::fp) H2 H5 h3 h':=by
    have u:=J6.base
    refine ⟨fun b o e n hb hx=>toh b o (ltC e) (u.keep b o e n hb hx),fun b o e n hb hx=>?_,u.free,fun b o e hx=>?_,u.tups,u.frzs,u.tbls⟩
    ·obtain ⟨sl,q⟩:=u.slot b o e n hb hx
     exact ⟨sl,toh b _ (ltC e) q⟩
    ·obtain ⟨o',q⟩:=u.there b o e hx
     exact ⟨o',toh b _ (ltC e) q⟩
   have J7:Inv X pins σ H5 {s6 with heap:=h'}:=Inv.call' (s':={s6 with heap:=h'}) (ch:=D::fp) I3 J6.os un' hok' J6.bare fun b hb=>by
    obtain ⟨_,n1,n2,n3,n4,n5⟩:=exX b hb
    exact ⟨n3,n1,n4,n5⟩
   obtain ⟨dg,dg2,_⟩:=J6.pin (D,{cls:=.type "list",data:=.seq (List.toArray its) k}) (by simp)
   obtain ⟨_,n1,n2,n3,n4,n5⟩:=exX D List.mem_cons_self
   have n3':X.s₀.heap.objs.size<=D:=by
    have:=I2.sz
    rw [hDg] at this
    exact this
   have J8:=J7.track (o:=.lst acc) dg2 n3' n1 n4 n5 ⟨ac5,its,k,va5,toh _ _ hDC dg⟩
   obtain ⟨fc0,fc1,fc2,fc3,fc4,fc5⟩:=I3.fpOk (b:=h3.objs.size) (H':=upd H5 D (.lst acc)) (Nat.le_refl _) (by rw [az (Ne.symm hDC)];exact hCn)
   refine wpAny_assign_Name (qU (s:=s6) (v:=.ref D) J8 hN hiy (.inl hly) rfl (fun s7 J9 hsa=>?_) (.inr hly))
   obtain ⟨aa,hsa,hwh⟩:=hsa
   have hca:h3.objs.size≠aa:=by
    rcases hwh with z | z
    ·rw [z];exact fc1
    ·exact (fc4 _ _ z).symm
   refine ⟨mC,hnC.sameBut hsa hca,fun h7 hs7=>?_⟩
   exact ⟨_,_,J9.turned (it:=h3.objs.size) (t':=s7.toks) (fun b o hb hu=>(hs7.2 b hb).trans hu) fc0 fc1 fc3 fc4 fc5,qn D dg2⟩
  ·refine wpAny_bind (wpAny_standAt (wpAny_bind (wpAny_mono (T.item X' rfl rfl rfl hc i _ s' _ H5 (fun _ _=>False) P5 (stat fr5 pl1) t5 go) (fun r s6 ⟨u,hr,h6⟩=>?_) fun _ _ f=>f.elim)))
   subst hr
   refine wpAny_bind (wpAny_mono h6 (fun _ s7 ⟨x,H7,J7,r7,y7,t7,fr7⟩=>?_) fun _ _ f=>f.elim)
   have P7:=J7.pinned (stat fr7 pl1) (T.obj _ _ t7)
   refine wpAny_bind (wpAny_mono (hg _ _ _ _ _ s7 _ H7 x u _ P7 r7 (step x H7 y7)) (fun _ s8 ⟨σ8,H8,J8,wk8,q8⟩=>?_) fun _ _ f=>f.elim)
   refine wpAny_bind (wpAny_mono (ht _ _ _ _ _ s8 σ8 H8 _ J8 q8) (fun b s9 ⟨H9,J9,q9⟩=>?_) fun _ _ f=>f.elim)
   have back:∀{Ha:Hp} {sa:Shared},Inv X' ([(D,{cls:=.type "list",data:=.seq (List.toArray its) k})]++mI fp s7.heap) σ8 Ha sa->
     Inv X' [] (bE cm σ) Ha sa/\tn (i+1) sa.heap/\(∀b∈fp,Ha b=none)/\sa.heap.get? D=some {cls:=.type "list",data:=.seq (List.toArray its) k}/\Ha D=none:=fun {Ha sa} Ja=>by
    refine ⟨(Ja.weak wk8.1 wk8.2).pins_of fun p hp=>absurd hp (by simp),T.keep _ _ _ t7 fun b hb o e=>(Ja.pin (b,o) (List.mem_append_right _ (List.mem_append_right _ (eg hb e)))).1,fun b hb=>?_,?_⟩
    ·obtain ⟨o,e,d⟩:=T.obj _ _ t7 b hb
     exact (Ja.pin (b,o) (List.mem_append_right _ (List.mem_append_right _ (eg hb e)))).2.1
    ·obtain ⟨z1,z2,_⟩:=Ja.pin (D,{cls:=.type "list",data:=.seq (List.toArray its) k}) (by simp)
     exact ⟨z1,z2⟩
   cases b with
   | false=>
    simp only [Bool.false_eq_true,if_false] at q9 ⊢
    obtain ⟨m',hm,w'⟩:=q9
    obtain ⟨z0,z1,z2,z3,z4⟩:=back J9
    exact wpAny_pure ⟨rfl,m',hm,i+1,acc,its,k,H9,z0,z1,z2,z3,z4,va5,ac5,w'⟩
   | true=>
    simp only [if_true] at q9 ⊢
    refine wpAny_bind (wpAny_bind (wpAny_mono (he _ _ _ _ _ s9 σ8 H9 _ J9 q9) (fun y s10 ⟨v,H10,J10,rv,q10⟩=>wpAny_bind ?_) fun _ _ f=>f.elim))
    obtain ⟨m',hm,w'⟩:=q10
    obtain ⟨z0,z1,z2,z3,z4⟩:=back J10
    have hli:=va5.length
    refine call_meets F.slot_list_append ⟨_,z3,rfl⟩ F.entry_list_append (F.args_list_append_2 _ _) (PySem.list_append D its.toArray k y (by rw [List.size_toArray];omega)) ⟨z3,?_⟩
    obtain ⟨k',q⟩:∃k',(s10.heap.update D (Obj.mapSeq (·.push y))).get? D=some {cls:=.type "list",data:=.seq (List.toArray (its++[y])) k'}:=by
     have q:=PySem.IsL.update z3 (·.push y)
     have e:its.toArray.push y=(its++[y]).toArray:=by simp
     rw [e] at q
     exact ⟨_,q⟩
    refine wpAny_pure (wpAny_pure ⟨rfl,m',hm,i+1,acc++[v],its++[y],k',H10,z0.turned (it:=D) (fun b o hb hu=>(Heap.get?_update_other s10.heap (Obj.mapSeq (·.push y)) (Ne.symm hb)).trans hu) z4 hDC (.inl List.mem_cons_self) (fun x c e=>(exX D List.mem_cons_self).2.2.2.2.1 x c (clo x c e)) (fun p hp=>absurd (show p∈([]:List (Addr×Obj)) from hp) (by simp)),
     T.keep _ _ _ z1 fun b hb o e=>(Heap.get?_update_other s10.heap (Obj.mapSeq (·.push y)) (Nat.ne_of_gt (fpD b hb))).trans e,z2,q,z4,va5.append (.cons rv .nil),by rw [List.length_append,List.length_singleton];omega,w'⟩)
 exact codeAny_compStart_list (loop _ rfl) (T.self X.A 0 _ _ _ (T.keep _ _ _ st3 fun b _ o q=>keep1 b o q) (loop _ rfl))
end
theorem yu {X:Cx}{tg iter elt:Expr}{ifs:List Expr}{scope:Scope}{pos spos py:Pos}(Nc:List Str)(cm:List (Option Nat)){wi:TI}{g:TG}{tc:TT}{te:TE}{iy:Nat}{y:Str}(hN:X.N.Nodup)(hiy:X.N[iy]?=some y)(hly:X.env.scope.names.lookup y=some .local)
  (hi:PI X tg iter wi) (hg:∀C s₀ H₀ ex,PG (blk X Nc scope C s₀ H₀ ex) tg g) (ht:∀C s₀ H₀ ex,PIf (blk X Nc scope C s₀ H₀ ex) ifs tc) (he:∀C s₀ H₀ ex,PE (blk X Nc scope C s₀ H₀ ex) elt te)
  (hsw:swapsWith (.ListComp elt [⟨tg,iter,ifs,0⟩] scope pos) (some (.Name y py)) spos.line X.env=pure true:=by rfl)
  (hc:X.calm=true:=by rfl) (hkind:scope.kind=.function:=by rfl) (hcell:∀y∈scope.names,y.2≠.cell:=by decide +kernel) (hnames:∀y∈scope.names,y.2=.local->scope.names.lookup y.1=some .local:=by decide +kernel)
  (hfree:yh X scope=true:=by rfl) (hlen:cm.length=Nc.length:=by rfl) (hcm:DB X scope Nc cm=true:=by rfl)
  (hs:∀x,foldedSetIterable iter X.env x=pure x:=by intro _;rfl):PS X (.Assign [.Name y py] (.ListComp elt [⟨tg,iter,ifs,0⟩] scope pos) spos) (xJ (tU wi g tc te cm) (dZ iy)):=by
 refine u7 hN hiy hly hsw hc hi hkind hcell hnames (fun y hy e=>?_) hlen (fun j x i e1 e2=>?_) hg ht he hs
 ·have h:=List.all_eq_true.mp hfree y hy
  rw [e] at h
  simpa using h
 ·have hj:(Nc.zip cm)[j]?=some (x,some i):=by
   rw [List.getElem?_zip_eq_some];exact ⟨e1,e2⟩
  have h:=List.all_eq_true.mp hcm _ (List.mem_of_getElem? hj)
  simpa using h
theorem fo.calm {P:Program}{w:World}{K:W.Frag}{mg:Str->Option Value}{base:Heap}{k:Nat}{f:Addr}{fd:FuncData}{ps:List Str}{sp:Sp}(F:fo P w K mg base (CXf P w) k f fd ps sp)
  (h:∀vs H Q E,sp vs H Q E->sp vs H Q E0):fo P w K mg base CX0 k f fd ps sp:=by
 refine ⟨F.len,fun A outer s H args us vs Q E hr he hb hv hs=>?_⟩
 refine codeAny_mono (F.run A outer s H args us vs Q E0 hr he hb hv (h _ _ _ _ hs)) fun r s' q=>?_
 cases r with
 | ok fl=>cases fl<;>exact q
 | error e=>
  obtain ⟨x,cls,a0,H',B,_,_,_,_,_,_,_,_,_,z⟩:=q
  exact z.elim
def cb {α:Type}(f:α->List V)(K:W.Frag)(H:Hp)(as:List Addr)(ls:List α):Prop:=as.length=ls.length/\∀(i:Nat) a x,as[i]?=some a->ls[i]?=some x->SqT K H a (f x)
def gN {α:Type}(f:α->List V)(K:W.Frag)(H:Hp)(l:Addr)(ls:List α):Prop:=∃as:List Addr,SqL K H l (as.map V.ref)/\cb f K H as ls
section
variable {α:Type}{f:α->List V}{K:W.Frag}{H H':Hp}{as bs:List Addr}{ls ks:List α}{l p:Addr}
theorem cb.same (s:aw H H')(h:cb f K H as ls):cb f K H' as ls:=⟨h.1,fun i a x e1 e2=>s.tup (h.2 i a x e1 e2)⟩
theorem gN.same (s:aw H H')(h:gN f K H l ls):gN f K H' l ls:=by
 obtain ⟨as,a,b⟩:=h
 exact ⟨as,s.seq a,b.same s⟩
theorem cb.nil:cb f K H [] []:=⟨rfl,fun i a x e _=>by simp at e⟩
theorem cb.app (h:cb f K H as ls)(g:cb f K H bs ks):cb f K H (as++bs) (ls++ks):=by
 refine ⟨by rw [List.length_append,List.length_append,h.1,g.1],fun i a x e1 e2=>?_⟩
 by_cases hi:i < as.length
 ·rw [List.getElem?_append_left hi] at e1
  rw [List.getElem?_append_left (by rw [←h.1];exact hi)] at e2
  exact h.2 i a x e1 e2
 ·rw [List.getElem?_append_right (by omega)] at e1
  rw [List.getElem?_append_right (by rw [←h.1];omega),←h.1] at e2
  exact g.2 _ a x e1 e2
theorem cb.one {a:Addr}{x:α}(h:SqT K H a (f x)):cb f K H [a] [x]:=by
 refine ⟨rfl,fun i b y e1 e2=>?_⟩
 cases i with
 | zero=>cases e1;cases e2;exact h
 | succ i=>simp at e1
theorem cb.rew {ys:List V}{o:HO}(h:cb f K H as ls)(hl:H l=some (.lst ys)):cb f K (upd H l o) as ls:=⟨h.1,fun i a x e1 e2=>(h.2 i a x e1 e2).rew hl⟩
theorem cb.keep {ys:List V}(s:aq p H H')(hp:H p=some (.lst ys))(h:cb f K H as ls):cb f K H' as ls:=⟨h.1,fun i a x e1 e2=>(h.2 i a x e1 e2).keep s hp⟩
theorem cb.keepI {C dx:Addr}{fs:List (Str×V)}(s:aq p H H')(hp:H p=some (.ins C dx fs))(h:cb f K H as ls):cb f K H' as ls:=⟨h.1,fun i a x e1 e2=>(h.2 i a x e1 e2).keepI s hp⟩
theorem gN.keepI {C dx:Addr}{fs:List (Str×V)}(s:aq p H H')(hp:H p=some (.ins C dx fs))(h:gN f K H l ls):gN f K H' l ls:=by
 obtain ⟨as,a,b⟩:=h
 exact ⟨as,a.keepI s hp,b.keepI s hp⟩
end
noncomputable abbrev Cd:=Int×Int
noncomputable def cdV (x:Cd):List V:=[.int x.1,.int x.2]
def c7 (x:Cd):Prop:=(1<=x.1/\x.1<=9)/\(1<=x.2/\x.2<=9)/\x.1≠x.2
end L2
namespace L2
open PySem PySem.Spec PyProof.Rows PySem.SeqAt
theorem oa {M:Model}{A:Around}{E:Value->Shared->Prop}{s:Shared}{β:Type}{c:β}{f:Nat->β->Sem (ForInStep β)}{Q:β->Shared->Prop}{n:Nat}(hn:n=2)
  (h:wpAny M A (f 0 c) (fun r s1=>match r with | .done b=>Q b s1 | .yield b=>wpAny M A (f 1 b) (fun r s2=>match r with | .done b=>Q b s2 | .yield b=>Q b s2) E s1) E s) :
  wpAny M A (forIn ([:n]:Std.Legacy.Range) c f) Q E s:=by
 subst hn
 rw [Std.Legacy.Range.forIn_eq_forIn_range']
 show wpAny M A (forIn [0,1] c f) Q E s
 rw [List.forIn_cons]
 refine wpAny_bind (wpAny_mono h ?_ (fun _ _ z=>z))
 intro r s1 h1
 cases r with
 | done b=>exact wpAny_pure h1
 | yield b=>
  show wpAny M A (forIn [1] b f) Q E s1
  rw [List.forIn_cons]
  refine wpAny_bind (wpAny_mono h1 ?_ (fun _ _ z=>z))
  intro r s2 h2
  cases r with
  | done b=>exact wpAny_pure h2
  | yield b=>
   show wpAny M A (forIn [] b f) Q E s2
   rw [List.forIn_nil]
   exact wpAny_pure h2
theorem r8 (l:Addr)(items:Array Value)(a b:Value)(n:Nat)(dd:Option Addr)(sl:Array (Option Value))(x:Value)(e0 e1:Bool)(he:(e0 || e1)=true)(hsz:items.size=2)(i0:items[0]?=some a)(i1:items[1]?=some b) :
  Meets (Builtin.«tuple.index» ⟨[.ref l,x],[]⟩)
   (fun A R s=>s.heap.get? l=some {cls:=.type "tuple",dict:=dd,data:=.seq items n,slots:=sl}/\EqAt A.in1 s a x e0/\EqAt A.in1 s b x e1/\R (.ok (.ret (.int (if e0=true then 0 else 1) s.toks))) {s with toks:=s.toks+1}):=
 .of_wp fun prog w A R s h=>by
  obtain ⟨hp,g,d,tk,os⟩:=s;obtain ⟨hl,h0,h1,h⟩:=h
  wp_walk using wpAny_loadPart' hl,oa (show min items.size items.size=2 by omega)
  rw [i0]
  refine wpAny_bind (h0 prog w _ _ ?_)
  cases e0 with
  | true=>
   wp_walk
   exact ⟨_,rfl,h⟩
  | false=>
   wp_walk
   rw [i1]
   refine wpAny_bind (h1 prog w _ _ ?_)
   have e1t:e1=true:=by simpa using he
   subst e1t
   wp_walk
   exact ⟨_,rfl,h⟩
section
variable {X:Cx}
noncomputable def wg (K:W.Frag):V->List V->Hp->VK->Prop:=fun x vs H Q=>∃(l:Addr) (a b k:V),x=.ref l/\vs=[k]/\SqT K H l [a,b]/\bC a=true/\bC b=true/\bC k=true/\(eqV a k || eqV b k)=true/\Q (.int (if eqV a k=true then 0 else 1)) H
theorem xj:MtR X "tuple.index" (wg X.K):=by
 intro pins s σ H x vs v us Q I rx rv h
 obtain ⟨l,a,b,k,rfl,rfl,hq,fa,fb,fk,hk,q⟩:=h
 cases rx
 obtain ⟨u,rfl,ru⟩:=rv.one
 obtain ⟨its,r,pl,hz⟩:=I.tuple hq
 obtain ⟨u1,u2,rfl,r1,r2⟩:=r.two
 obtain ⟨⟨cls,dd,data,sl⟩,ho,hc,n,hd⟩:=id pl
 simp only at hc hd
 subst hc hd
 refine call_meets PySem.F.slot_tuple_index ⟨_,ho,rfl⟩ PySem.F.entry_tuple_index (PySem.F.args_tuple_index_2 _ _)
  (r8 l _ u1 u2 n dd sl u (eqV a k) (eqV b k) hk rfl rfl rfl) ⟨ho,mM r1 ru fa fk,mM r2 ru fb fk,?_⟩
 exact ⟨.int _,H,I.tok _,⟨_,rfl⟩,q⟩
noncomputable def DF (K:W.Frag):R2:=fun x y H Q=>∃a b xs ys,x=.ref a/\y=.ref b/\SqT K H a xs/\SqT K H b ys/\xs.all bC=true/\ys.all bC=true/\Q (.bl (!eqL xs ys)) H
theorem zY {xs ys:List V}:((List.range (min xs.length ys.length)).all (fun j=>eqV (xs.getD j .non) (ys.getD j .non)) && xs.length == ys.length)=eqL xs ys:=by
 by_cases hl:xs.length=ys.length
 ·rw [show min xs.length ys.length=xs.length by omega,oy hl,hl]
  simp
 ·have e:eqL xs ys=false:=by
   cases z:eqL xs ys with
   | false=>rfl
   | true=>exact absurd (ox z) hl
  rw [e]
  simp [hl]
theorem B8 (hu:X.A.units < cLine):OpR X (compareOp .NotEq) (DF X.K):=by
 intro pins s σ H x y u v Q I rx ry h
 obtain ⟨a,b,xs,ys,rfl,rfl,ha,hb,fa,fb,q⟩:=h
 cases rx;cases ry
 obtain ⟨ia,ra,pa,za⟩:=I.tuple ha
 obtain ⟨ib,rb,pb,zb⟩:=I.tuple hb
 have la:=ra.length
 have lb:=rb.length
 refine RcNeAt.tuples (e:=fun j=>eqV (xs.getD j .non) (ys.getD j .non)) pa pb hu (fun j h1 h2=>?_) X.prog X.w _ _ ?_
 ·simp only [List.size_toArray] at h1 h2
  have hx:xs[j]?=some (xs.getD j .non):=by
   rw [List.getD_eq_getElem?_getD,List.getElem?_eq_getElem (by omega)];rfl
  have hy:ys[j]?=some (ys.getD j .non):=by
   rw [List.getD_eq_getElem?_getD,List.getElem?_eq_getElem (by omega)];rfl
  obtain ⟨u,eu,ru⟩:=ra.get hx
  obtain ⟨v,ev,rv⟩:=rb.get hy
  have e1:ia.toArray[j]=u:=by
   have:=List.getElem?_eq_some_iff.mp eu
   simpa using this.2
  have e2:ib.toArray[j]=v:=by
   have:=List.getElem?_eq_some_iff.mp ev
   simpa using this.2
  rw [e1,e2]
  exact mM ru rv (List.all_eq_true.mp fa _ (List.mem_of_getElem? hx)) (List.all_eq_true.mp fb _ (List.mem_of_getElem? hy))
 ·have e:=zY (xs:=xs) (ys:=ys)
  simp only [List.size_toArray]
  rw [←la,←lb,e]
  exact ⟨.bl (!eqL xs ys),H,I,rfl,q⟩
end
end L2
namespace L2
open PySem PySem.Spec PyProof.Rows
inductive Eng where
 | no | wait (l r:Int) | armed (l r:Int) | other (l r s:Int) | used (l r:Int)
 deriving DecidableEq
noncomputable def r9:Eng->List V
 | .no=>[.str "not rung",.non,.non,.non]
 | .wait l r=>[.str "not repeated",.int l,.int r,.non]
 | .armed l r=>[.str "armed",.int l,.int r,.int r]
 | .other l r s=>[.str "repeated otherwise",.int l,.int r,.int s]
 | .used l r=>[.str "used up",.int l,.int r,.int r]
theorem xk (e:Eng):∀x∈r9 e,bC x=true:=by cases e<;>simp [r9,bC]
def iL (p q:Addr)(H H':Hp):Prop:=∀b o,b≠p->b≠q->H b=some o->H' b=some o
theorem iL.of {p q:Addr}{H H':Hp}(s:aw H H'):iL p q H H':=fun b o _ _ e=>s b o e
theorem aq.free {p x:Addr}{H H':Hp}(k:aq p H H')(n:x≠p)(h:H' x=none):H x=none:=by
 cases e:H x with
 | none=>rfl
 | some o=>have:=k x o n e;rw [h] at this;cases this
structure br (C:Addr)(K:W.Frag)(H:Hp)(b cs fl st:Addr)(ls:List Cd)(fs:List Bool)(e:Eng):Prop where
 ob:∃dx,H b=some (.ins C dx [("codes",.ref cs),("failed",.ref fl),("state",.ref st)])
 oc:∃as:List Addr,H cs=some (.lst (as.map V.ref))/\cb cdV K H as ls
 of:H fl=some (.lst (fs.map V.bl))
 os:SqT K H st (r9 e)
 nn:cs≠fl
 ln:fs.length=ls.length
theorem br.rows {C:Addr}{K:W.Frag}{H:Hp}{b cs fl st:Addr}{ls:List Cd}{fs:List Bool}{e:Eng}(h:br C K H b cs fl st ls fs e):gN cdV K H cs ls:=by
 obtain ⟨as,a,t⟩:=h.oc
 exact ⟨as,SqL.of a,t⟩
theorem br.same {C:Addr}{K:W.Frag}{H H':Hp}{b cs fl st:Addr}{ls:List Cd}{fs:List Bool}{e:Eng}(h:br C K H b cs fl st ls fs e)(s:aw H H'):br C K H' b cs fl st ls fs e:=by
 obtain ⟨⟨dx,a⟩,⟨as,c,t⟩,f,g,n,l⟩:=h
 exact ⟨⟨dx,s _ _ a⟩,⟨as,s _ _ c,t.same s⟩,s _ _ f,s.tup g,n,l⟩
theorem br.state {C:Addr}{K:W.Frag}{H H':Hp}{b cs fl st st' dx:Addr}{ls:List Cd}{fs:List Bool}{e e':Eng}(h:br C K H b cs fl st ls fs e)(k:aq b H H')
  (a:H' b=some (.ins C dx [("codes",.ref cs),("failed",.ref fl),("state",.ref st')])) (g:SqT K H' st' (r9 e')):br C K H' b cs fl st' ls fs e':=by
 obtain ⟨⟨dx0,a0⟩,⟨as,c,t⟩,f,_,n,l⟩:=h
 exact ⟨⟨dx,a⟩,⟨as,k _ _ (fun z=>by rw [z,a0] at c;cases c) c,t.keepI k a0⟩,k _ _ (fun z=>by rw [z,a0] at f;cases f) f,g,n,l⟩
noncomputable def bJ (ls:List Cd)(l:Int):Cd:=ls.getD l.toNat (0,0)
noncomputable def bO (ls:List Cd)(l:Int)(k:Str):Int:=if k="men" then (bJ ls l).1 else (bJ ls l).2
theorem sg {K:W.Frag}{H:Hp}{as:List Addr}{ls:List Cd}{l:Int}(t:cb cdV K H as ls)(h0:0<=l)(h1:l < ls.length):∃a,atI (as.map V.ref) l=some (.ref a)/\SqT K H a (cdV (bJ ls l)):=by
 obtain ⟨n,rfl⟩:=Int.eq_ofNat_of_zero_le h0
 have hn:n < ls.length:=by omega
 have ha:as[n]?=some (as[n]'(by rw [t.1];exact hn)):=List.getElem?_eq_getElem _
 refine ⟨as[n]'(by rw [t.1];exact hn),iK (by rw [List.getElem?_map,ha];rfl),t.2 n _ _ ha ?_⟩
 rw [bJ,Int.toNat_natCast,List.getD_eq_getElem?_getD,List.getElem?_eq_getElem hn];rfl
theorem si {fs:List Bool}{l:Int}(h0:0<=l)(h1:l < fs.length):atI (fs.map V.bl) l=some (.bl (fs.getD l.toNat false)):=by
 obtain ⟨n,rfl⟩:=Int.eq_ofNat_of_zero_le h0
 have hn:n < fs.length:=by omega
 refine iK ?_
 rw [List.getElem?_map,List.getElem?_eq_getElem hn,Int.toNat_natCast,List.getD_eq_getElem?_getD,List.getElem?_eq_getElem hn];rfl
noncomputable def lvl (ds:List Int)(d:Int):Option Int:=if d∈ds then some (ds.idxOf d:Nat) else none
noncomputable def lvV:Option Int->V
 | none=>.non
 | some i=>.int i
theorem jz {ds:List Int}(h:bG ds){i:Nat}{d:Int}(hi:i < ds.length)(e:ds.getD i 0=d):lvl ds d=some (i:Int):=by
 have hm:d∈ds:=e▸fH hi
 rw [lvl,if_pos hm]
 have hlt:=List.idxOf_lt_length_iff.mpr hm
 have e2:ds.getD (ds.idxOf d) 0=d:=by
  rw [List.getD_eq_getElem?_getD,List.getElem?_eq_getElem hlt]
  exact List.getElem_idxOf hlt
 have:ds.idxOf d=i:=by
  rcases Nat.lt_trichotomy (ds.idxOf d) i with z | z | z
  ·have:=h.lt z hi;omega
  ·exact z
  ·have:=h.lt z hlt;omega
 rw [this]
theorem t8 {ds:List Int}{d:Int}(h:∀i,i < ds.length->ds.getD i 0≠d):lvl ds d=none:=by
 rw [lvl,if_neg fun hm=>?_]
 have hlt:=List.idxOf_lt_length_iff.mpr hm
 refine h _ hlt ?_
 rw [List.getD_eq_getElem?_getD,List.getElem?_eq_getElem hlt]
 exact List.getElem_idxOf hlt
noncomputable def bz (ds:List Int)(p c:Int):Option Int:=if c=0 then lvl ds p else lvl ds (bX ds - p)
inductive Stp where
 | wind (c l:Int) | load (k c:Int) | unload (k c:Int)
noncomputable def DG (lv:Option Int)(x:List Int):Stp->Option (List Int)
 | .wind _ _=>none
 | .load k c=>match lv with | none=>none | some l=>if x.getD (k.toNat+1) 0=l/\¬10+c∈x.tail then some (x.set (k.toNat+1) (10+c)) else none
 | .unload k c=>match lv with | none=>none | some l=>if x.getD (k.toNat+1) 0=10+c then some (x.set (k.toNat+1) l) else none
noncomputable def B9:Stp->Int
 | .wind c _=>c
 | .load _ c=>c
 | .unload _ c=>c
noncomputable def stK:Stp->Int
 | .wind _ _=>0
 | .load k _=>k
 | .unload k _=>k
noncomputable def after (ds dead:List Int)(x:List Int):Stp->Option (List Int)
 | .wind c l=>if l < 0\/(ds.length:Int)<=l\/l∈dead then none else some ((if c=0 then ds.getD l.toNat 0 else bX ds - ds.getD l.toNat 0)::x.tail)
 | s=>if stK s < 0\/(x.length:Int)<=stK s+1 then none else DG (bz ds (x.getD 0 0) (B9 s)) x s
theorem t9 {K:W.Frag}{H:Hp}{a:Addr}{xs:List Int}{n:Nat}(h:SqL K H a (xs.map V.int))(hb:xs.length<=100000):Rep K H (n+1) (.ref a) (.lst ((xs.map V.int).map Dt.flat)):=by
 refine .lst h (by rw [List.length_map];exact hb) (by simp) fun i y d e1 e2=>?_
 rw [List.getElem?_map,e1] at e2
 cases e2
 obtain ⟨z,rfl,_⟩:=iJ e1
 exact .flat rfl
section
variable {X:Cx}
noncomputable def Ey (neg:Bool):R2:=fun x y H Q=>∃(r:Addr) (lo hi i:Int),x=.int i/\y=.ref r/\H r=some (.rng lo hi)/\Q (.bl (if neg=true then !decide (lo<=i/\i < hi) else decide (lo<=i/\i < hi))) H
end
structure Cl where
 (B Y S K W:Addr)
structure a6 where
 place:Int
 gates:List Bool
 fs:List Bool
 e:Eng
 ws:List Int
structure Cfg where
 ds:List Int
 ls:List Cd
 slow:Int
 fast:Int
 goals:List Int
 ks:List Str
 N:Addr->Prop:=fun _=>False
structure SA where
 (dx ol b cs fl st y kn wh:Addr)
structure DH (rl:Addr)(A:SA):Prop where
 r1:A.ol≠rl
 r2:A.cs≠rl
 r3:A.fl≠rl
 r4:A.kn≠rl
 r5:A.wh≠rl
 o1:A.cs≠A.ol
 o2:A.fl≠A.ol
 o3:A.kn≠A.ol
 o4:A.wh≠A.ol
 f1:A.ol≠A.fl
 f2:A.kn≠A.fl
 f3:A.wh≠A.fl
 w1:A.ol≠A.wh
 w2:A.cs≠A.wh
 w3:A.fl≠A.wh
 w4:A.kn≠A.wh
structure Off (H:Hp)(rl:Addr)(N:Addr->Prop)(A:SA):Prop where
 al:∀p,N p->∃ys,H p=some (.lst ys)
 nr:∀p,N p->rl≠p
 no:∀p,N p->A.ol≠p
 nc:∀p,N p->A.cs≠p
 nf:∀p,N p->A.fl≠p
 nk:∀p,N p->A.kn≠p
 nw:∀p,N p->A.wh≠p
theorem Off.keep {H H':Hp}{rl q:Addr}{N:Addr->Prop}{A:SA}(h:Off H rl N A)(k:aq q H H')(hq:∀p,N p->q≠p):Off H' rl N A:=⟨fun p hp=>by
 obtain ⟨ys,e⟩:=h.al p hp
 exact ⟨ys,k _ _ (hq p hp).symm e⟩,h.nr,h.no,h.nc,h.nf,h.nk,h.nw⟩
theorem Off.same {H H':Hp}{rl:Addr}{N:Addr->Prop}{A:SA}(h:Off H rl N A)(k:aw H H'):Off H' rl N A:=⟨fun p hp=>by
 obtain ⟨ys,e⟩:=h.al p hp
 exact ⟨ys,k _ _ e⟩,h.nr,h.no,h.nc,h.nf,h.nk,h.nw⟩
theorem Off.keepI {H H':Hp}{rl q C dx:Addr}{fs:List (Str×V)}{N:Addr->Prop}{A:SA}(h:Off H rl N A)(k:aq q H H')(hq:H q=some (.ins C dx fs)):Off H' rl N A:=h.keep k fun p hp z=>by
 obtain ⟨ys,e⟩:=h.al p hp
 rw [←z,hq] at e
 cases e
structure aO (C:Cl)(K:W.Frag)(H:Hp)(rl:Addr)(g:Cfg)(s:Addr)(A:SA)(n:a6):Prop where
 ob:H s=some (.ins C.S A.dx [("place",.int n.place),("opened",.ref A.ol),("bells",.ref A.b),("yard",.ref A.y)])
 go:H A.ol=some (.lst (n.gates.map V.bl))
 be:br C.B K H A.b A.cs A.fl A.st g.ls n.fs n.e
 ya:cx C.Y H A.y A.kn A.wh g.ks n.ws g.ds.length
 ap:DH rl A
 nn:Off H rl g.N A
def cN (C:Cl)(K:W.Frag)(H:Hp)(rl:Addr)(g:Cfg)(s:Addr)(n:a6):Prop:=∃A,aO C K H rl g s A n
theorem br.off {C:Addr}{K:W.Frag}{H H':Hp}{p b cs fl st:Addr}{ls:List Cd}{fs:List Bool}{e:Eng}{ys:List V}(h:br C K H b cs fl st ls fs e)(s:aq p H H')(hp:H p=some (.lst ys))(n1:cs≠p)(n2:fl≠p):br C K H' b cs fl st ls fs e:=by
 obtain ⟨⟨dx,a⟩,⟨as,c,t⟩,f,g,n,l⟩:=h
 exact ⟨⟨dx,s _ _ (fun z=>by rw [z,hp] at a;cases a) a⟩,⟨as,s _ _ n1 c,t.keep s hp⟩,s _ _ n2 f,g.keep s hp,n,l⟩
theorem br.offI {C D dp:Addr}{K:W.Frag}{H H':Hp}{p b cs fl st:Addr}{ls:List Cd}{fs:List Bool}{e:Eng}{us:List (Str×V)}(h:br C K H b cs fl st ls fs e)(s:aq p H H')(hp:H p=some (.ins D dp us))(n1:b≠p):br C K H' b cs fl st ls fs e:=by
 obtain ⟨⟨dx,a⟩,⟨as,c,t⟩,f,g,n,l⟩:=h
 exact ⟨⟨dx,s _ _ n1 a⟩,⟨as,s _ _ (fun z=>by rw [z,hp] at c;cases c) c,t.keepI s hp⟩,s _ _ (fun z=>by rw [z,hp] at f;cases f) f,g.keepI s hp,n,l⟩
theorem cx.offI {C D dp:Addr}{H H':Hp}{p y kn wh:Addr}{ks:List Str}{ws:List Int}{m:Int}{us:List (Str×V)}(h:cx C H y kn wh ks ws m)(s:aq p H H')(hp:H p=some (.ins D dp us))(n1:y≠p):cx C H' y kn wh ks ws m:=by
 obtain ⟨⟨dx,a⟩,b,c⟩:=h
 exact ⟨⟨dx,s _ _ n1 a⟩,s _ _ (fun z=>by rw [z,hp] at b;cases b) b,s _ _ (fun z=>by rw [z,hp] at c;cases c) c⟩
section
variable {C:Cl}{K:W.Frag}{H H':Hp}{rl s a w bk:Addr}{g:Cfg}{A:SA}{n n0:a6}
theorem aO.same (h:aO C K H rl g s A n)(e:aw H H'):aO C K H' rl g s A n:=⟨e _ _ h.ob,e _ _ h.go,h.be.same e,h.ya.same e,h.ap,h.nn.same e⟩
theorem aO.keep {ys:List V}(h:aO C K H rl g s A n)(e:aq rl H H')(hr:H rl=some (.lst ys)):aO C K H' rl g s A n:=
 ⟨e _ _ (fun z=>by have:=h.ob;rw [z,hr] at this;cases this) h.ob,e _ _ h.ap.r1 h.go,h.be.off e hr h.ap.r2 h.ap.r3,h.ya.off e hr h.ap.r4 h.ap.r5,h.ap,h.nn.keep e h.nn.nr⟩
theorem aO.at (h:aO C K H rl g s A n):cN C K H rl g s n:=⟨A,h⟩
theorem cN.same (h:cN C K H rl g s n)(e:aw H H'):cN C K H' rl g s n:=by
 obtain ⟨A,h⟩:=h
 exact ⟨A,h.same e⟩
theorem cN.keep {ys:List V}(h:cN C K H rl g s n)(e:aq rl H H')(hr:H rl=some (.lst ys)):cN C K H' rl g s n:=by
 obtain ⟨A,h⟩:=h
 exact ⟨A,h.keep e hr⟩
theorem aO.gates (h:aO C K H rl g s A n)(e:aq A.ol H H'){gs:List Bool}(hg:H' A.ol=some (.lst (gs.map V.bl))):aO C K H' rl g s A {n with gates:=gs}:=
 ⟨e _ _ (fun z=>by have:=h.ob;rw [z,h.go] at this;cases this) h.ob,hg,h.be.off e h.go h.ap.o1 h.ap.o2,h.ya.off e h.go h.ap.o3 h.ap.o4,h.ap,h.nn.keep e h.nn.no⟩
structure Row where
 began:Int
 ended:Int
 deed:List V
 speed:Int
 sn:a6
def lQ (C:Cl)(K:W.Frag)(H:Hp)(rl:Addr)(g:Cfg)(a:Addr)(r:Row):Prop:=∃dd s,SqT K H a [.int r.began,.int r.ended,.ref dd,.int r.speed,.ref s]/\SqT K H dd r.deed/\cN C K H rl g s r.sn
theorem lQ.same {r:Row}(h:lQ C K H rl g a r)(e:aw H H'):lQ C K H' rl g a r:=by
 obtain ⟨dd,s,h1,h2,h3⟩:=h
 exact ⟨dd,s,e.tup h1,e.tup h2,h3.same e⟩
theorem lQ.keep {r:Row}{ys:List V}(h:lQ C K H rl g a r)(e:aq rl H H')(hr:H rl=some (.lst ys)):lQ C K H' rl g a r:=by
 obtain ⟨dd,s,h1,h2,h3⟩:=h
 exact ⟨dd,s,h1.keep e hr,h2.keep e hr,h3.keep e hr⟩
def mP (C:Cl)(K:W.Frag)(H:Hp)(rl:Addr)(g:Cfg)(as:List Addr)(rs:List Row):Prop:=as.length=rs.length/\∀(i:Nat) a r,as[i]?=some a->rs[i]?=some r->lQ C K H rl g a r
theorem mP.same {as:List Addr}{rs:List Row}(h:mP C K H rl g as rs)(e:aw H H'):mP C K H' rl g as rs:=⟨h.1,fun i a r e1 e2=>(h.2 i a r e1 e2).same e⟩
theorem mP.keep {as:List Addr}{rs:List Row}{ys:List V}(h:mP C K H rl g as rs)(e:aq rl H H')(hr:H rl=some (.lst ys)):mP C K H' rl g as rs:=⟨h.1,fun i a r e1 e2=>(h.2 i a r e1 e2).keep e hr⟩
theorem mP.push {as:List Addr}{rs:List Row}{r:Row}(h:mP C K H rl g as rs)(hr:lQ C K H rl g a r):mP C K H rl g (as++[a]) (rs++[r]):=by
 refine ⟨by rw [List.length_append,List.length_append,h.1];rfl,fun i b x e1 e2=>?_⟩
 by_cases hi:i < as.length
 ·rw [List.getElem?_append_left hi] at e1
  rw [List.getElem?_append_left (by rw [←h.1];exact hi)] at e2
  exact h.2 i b x e1 e2
 ·rw [List.getElem?_append_right (by omega)] at e1
  rw [List.getElem?_append_right (by rw [←h.1];omega),←h.1] at e2
  have hz:i - as.length=0:=by
   have:=(List.getElem?_eq_some_iff.mp e1).1
   simp at this
   omega
  rw [hz] at e1 e2
  cases e1
  cases e2
  exact hr
noncomputable def af (n0:a6)(rs:List Row):a6:=match rs.getLast? with | none=>n0 | some r=>r.sn
noncomputable def gu (rs:List Row):Int:=match rs.getLast? with | none=>0 | some r=>r.ended
structure BAt (C:Cl)(K:W.Frag)(H:Hp)(bk rl:Addr)(g:Cfg)(n0:a6)(rs:List Row):Prop where
 ob:∃dx f,H bk=some (.ins C.K dx [("first",.ref f),("most",.int 300),("rows",.ref rl)])/\cN C K H rl g f n0
 ro:∃as,H rl=some (.lst (as.map V.ref))/\mP C K H rl g as rs
theorem BAt.same {rs:List Row}(h:BAt C K H bk rl g n0 rs)(e:aw H H'):BAt C K H' bk rl g n0 rs:=by
 obtain ⟨⟨dx,f,h1,h2⟩,as,h3,h4⟩:=h
 exact ⟨⟨dx,f,e _ _ h1,h2.same e⟩,as,e _ _ h3,h4.same e⟩
structure WAt (C:Cl)(K:W.Frag)(H:Hp)(w bk rl:Addr)(g:Cfg)(n0:a6)(rs:List Row):Prop where
 ob:∃dx dl gl,H w=some (.ins C.W dx [("depths",.ref dl),("slow",.int g.slow),("fast",.int g.fast),("goals",.ref gl),("log",.ref bk)])/\H dl=some (.lst (g.ds.map V.int))/\H gl=some (.lst (g.goals.map V.int))/\dl≠rl/\gl≠rl/\(∀p,g.N p->dl≠p)/\∀p,g.N p->gl≠p
 bo:BAt C K H bk rl g n0 rs
theorem WAt.same {rs:List Row}(h:WAt C K H w bk rl g n0 rs)(e:aw H H'):WAt C K H' w bk rl g n0 rs:=by
 obtain ⟨⟨dx,dl,gl,h1,h2,h3,h4⟩,h5⟩:=h
 exact ⟨⟨dx,dl,gl,e _ _ h1,e _ _ h2,e _ _ h3,h4⟩,h5.same e⟩
theorem WAt.keep {rs rs':List Row}{ys:List V}(h:WAt C K H w bk rl g n0 rs)(e:aq rl H H')(hr:H rl=some (.lst ys))(hb:BAt C K H' bk rl g n0 rs'):WAt C K H' w bk rl g n0 rs':=by
 obtain ⟨⟨dx,dl,gl,h1,h2,h3,h4,h6⟩,h5⟩:=h
 exact ⟨⟨dx,dl,gl,e _ _ (fun z=>by rw [z,hr] at h1;cases h1) h1,e _ _ h4 h2,e _ _ h6.1 h3,h4,h6⟩,hb⟩
end
theorem gB {α:Type}(l:List α):l=[]\/∃l' a,l=l'++[a]:=by
 rcases List.eq_nil_or_concat l with h | ⟨l',a,h⟩
 ·exact .inl h
 ·exact .inr ⟨l',a,by rw [h,List.concat_eq_append]⟩
theorem mP.last {C:Cl}{K:W.Frag}{H:Hp}{rl:Addr}{g:Cfg}{as:List Addr}{rs:List Row}{r:Row}(h:mP C K H rl g as (rs++[r])):∃as' a,as=as'++[a]/\mP C K H rl g as' rs/\lQ C K H rl g a r:=by
 have hl:=h.1
 rw [List.length_append,List.length_singleton] at hl
 rcases gB as with rfl | ⟨as',a,rfl⟩
 ·cases hl
 ·have hl':as'.length=rs.length:=by rw [List.length_append,List.length_singleton] at hl;omega
  refine ⟨as',a,rfl,⟨hl',fun i b x e1 e2=>?_⟩,?_⟩
  ·have hi:=(List.getElem?_eq_some_iff.mp e1).1
   exact h.2 i b x (by rw [List.getElem?_append_left hi];exact e1) (by rw [List.getElem?_append_left (by omega)];exact e2)
  ·refine h.2 as'.length a r ?_ ?_
   ·rw [List.getElem?_append_right (Nat.le_refl _)];simp
   ·rw [List.getElem?_append_right (by omega),hl'];simp
theorem rh {as:List Addr}{a:Addr}:atI ((as++[a]).map V.ref) (((as++[a]).map V.ref).length - 1:Int)=some (.ref a):=by
 rw [show ((((as++[a]).map V.ref).length:Int) - 1)=((as.length:Nat):Int) by rw [List.length_map,List.length_append];simp]
 exact iK (by rw [List.map_append,List.getElem?_append_right (by rw [List.length_map];exact Nat.le_refl _),List.length_map];simp)
theorem mQ (rs:List Row)(r:Row):gu (rs++[r])=r.ended:=by simp [gu]
theorem bP (n0:a6)(rs:List Row)(r:Row):af n0 (rs++[r])=r.sn:=by simp [af]
theorem eB {H H':Hp}{x dx:Addr}{o1 o2:HO}(hx:H x=none)(hdx:H dx=none)(kp:aq x (upd (upd H dx o1) x o2) H'):aw H H':=fun b o e=>kp b o (ak e hx) (by rw [az (ak e hx),az (ak e hdx)];exact e)
theorem dN {H:Hp}{x dx z:Addr}{o1 o2:HO}(h:upd (upd H dx o1) x o2 z=none):H z=none:=upn (upn h)
noncomputable def oS (ks:List Str)(ws:List Int):Bool:=(ks.zip ws).any fun p=>decide (p.1="men") && decide (p.2=10\/p.2=11)
theorem rj {ks:List Str}{ws:List Int}{i:Nat}(h:∀j k x,j < i->ks[j]?=some k->ws[j]?=some x->(decide (k="men") && decide (x=10\/x=11))=false)(hi:ks.length<=i\/ws.length<=i):oS ks ws=false:=by
 unfold oS
 rw [List.any_eq_false]
 intro p hp
 obtain ⟨j,hj⟩:=List.getElem?_of_mem hp
 rw [List.getElem?_zip_eq_some] at hj
 have h1:=(List.getElem?_eq_some_iff.mp hj.1).1
 have h2:=(List.getElem?_eq_some_iff.mp hj.2).1
 rw [h j p.1 p.2 (by omega) hj.1 hj.2]
 exact Bool.false_ne_true
theorem yv {ks:List Str}{ws:List Int}{i:Nat}{k:Str}{x:Int}(h1:ks[i]?=some k)(h2:ws[i]?=some x)(hk:k="men")(hx:x=10\/x=11):oS ks ws=true:=by
 unfold oS
 rw [List.any_eq_true]
 refine ⟨(k,x),List.mem_of_getElem? (i:=i) (by rw [List.getElem?_zip_eq_some];exact ⟨h1,h2⟩),?_⟩
 simp [hk,hx]
theorem rk (x:Int):inV (.int x) [.int 10,.int 11]=decide (x=10\/x=11):=by
 have:=rZ x [10,11]
 rw [show ([10,11]:List Int).map V.int=[V.int 10,V.int 11] from rfl] at this
 rw [this]
 simp
noncomputable def inC (ws:List Int)(c:Int):V:=if 10+c∈ws then .int (ws.idxOf (10+c):Nat) else .non
noncomputable def iM (ds:List Int)(pl:Int):List Int:=((List.range ds.length).filter fun i=>decide (ds.getD i 0=pl\/ds.getD i 0=bX ds - pl)).map fun (i:Nat)=>(i:Int)
structure lR (g:Cfg):Prop where
 sh:bG g.ds
 lc:g.ls.length=g.ds.length
 gc:∀x∈g.ls,c7 x
 s1:1<=g.slow
 sf:g.slow<=g.fast
 f5:g.fast<=500
 gk:g.goals.length=g.ks.length
 k30:g.ks.length<=30
noncomputable def cT (g:Cfg)(n:a6):Int:=if oS g.ks n.ws=true then g.slow else g.fast
theorem lR.speed {g:Cfg}(h:lR g)(n:a6):1<=cT g n/\cT g n<=500:=by
 have:=h.s1;have:=h.sf;have:=h.f5
 unfold cT;split<;>omega
inductive Dd where
 | ring (l s:Int) | rept (s:Int) | opn (l:Int) | sht (l:Int) | load (k c:Int) | unload (c:Int) | wind (c l:Int) (k:Str) | fail (l:Int)
noncomputable def ddV:Dd->List V
 | .ring l s=>[.str "ring",.int l,.int s]
 | .rept s=>[.str "repeat",.int s]
 | .opn l=>[.str "open",.int l]
 | .sht l=>[.str "shut",.int l]
 | .load k c=>[.str "load",.int k,.int c]
 | .unload c=>[.str "unload",.int c]
 | .wind c l k=>[.str "wind",.int c,.int l,.str k]
 | .fail l=>[.str "fail",.int l]
theorem yw (d:Dd):∀x∈ddV d,bC x=true:=by
 cases d<;>intro x hx<;>simp only [ddV,List.mem_cons,List.not_mem_nil,or_false] at hx<;>rcases hx with h | h | h | h<;>(try subst h)<;>(try rfl)<;>simp_all [bC]
theorem zZ (d:Dd):(ddV d).length<=4:=by cases d<;>simp [ddV]
noncomputable def u9:Dd->Prop
 | .load _ c=>0<=c/\c < 2
 | .unload c=>0<=c/\c < 2
 | .wind c _ k=>(0<=c/\c < 2)/\(k="men"\/k="coal")
 | _=>True
inductive Rw where
 | lv | db | nc | nr | ch | na | ul | nt | ct | gs | ce | go
 deriving DecidableEq
def unk (l:Int)(m:Nat):Prop:=¬(0<=l/\l < m)
instance (l:Int) (m:Nat):Decidable (unk l m):=inferInstanceAs (Decidable (¬_))
noncomputable def fL (g:Cfg)(n:a6):Bool:=(iM g.ds n.place).any fun x=>n.gates.getD x.toNat false
noncomputable def eH (g:Cfg)(n:a6):Dd->Option Rw
 | .ring l s=>if unk l g.ds.length then some .lv else if n.fs.getD l.toNat false=true then some .db else if s=(bJ g.ls l).1\/s=(bJ g.ls l).2 then none else some .nc
 | .rept s=>match n.e with | .wait _ _=>if 1<=s/\s<=9 then none else some .nc | _=>some .nr
 | .opn l=>if unk l g.ds.length then some .lv else if n.gates.getD l.toNat false=true then some .ch else none
 | .sht l=>if unk l g.ds.length then some .lv else if n.gates.getD l.toNat false=false then some .ch else none
 | .load k c=>if unk k n.ws.length then some .ul else match bz g.ds n.place c with
  | none=>some .nt
  | some l=>if n.ws.getD k.toNat 0≠l then some .nt else if 10+c∈n.ws then some .ct else if n.gates.getD l.toNat false=true then none else some .gs
 | .unload c=>if ¬10+c∈n.ws then some .ce else match bz g.ds n.place c with
  | none=>some .nt
  | some l=>if n.gates.getD l.toNat false=true then none else some .gs
 | .wind _ l k=>if unk l g.ds.length then some .lv else if fL g n=true then some .go else if n.e=.armed l (bO g.ls l k) then none else some .na
 | .fail l=>if unk l g.ds.length then some .lv else if n.fs.getD l.toNat false=true then some .ch else none
noncomputable def fM (ds:List Int)(c l:Int):Int:=if c=0 then ds.getD l.toNat 0 else bX ds - ds.getD l.toNat 0
noncomputable def sj (g:Cfg)(n:a6):Dd->Eng
 | .ring l s=>.wait l s
 | .rept s=>match n.e with | .wait l r=>if s=r then .armed l r else .other l r s | e=>e
 | .wind _ l k=>.used l (bO g.ls l k)
 | _=>n.e
noncomputable def a7 (g:Cfg)(n:a6)(d:Dd):a6:=
 {place:=match d with | .wind c l _=>fM g.ds c l | _=>n.place
  gates:=match d with | .opn l=>n.gates.set l.toNat true | .sht l=>n.gates.set l.toNat false | _=>n.gates
  fs:=match d with | .fail l=>n.fs.set l.toNat true | _=>n.fs
  e:=sj g n d
  ws:=match d with | .load k c=>n.ws.set k.toNat (10+c) | .unload c=>n.ws.set (n.ws.idxOf (10+c)) ((bz g.ds n.place c).getD (-1)) | _=>n.ws}
noncomputable def yx (x:Int):Int:=if x < 0 then -x else x
noncomputable def mR (way sp:Int):Int:=(way+sp - 1) / sp
noncomputable def oT (g:Cfg)(n:a6):Dd->Int
 | .wind c l _=>mR (yx (fM g.ds c l - n.place)) (cT g n)
 | _=>1
noncomputable def bD (g:Cfg)(n0:a6)(rs:List Row)(d:Dd):Row:=⟨gu rs,gu rs+oT g (af n0 rs) d,ddV d,cT g (a7 g (af n0 rs) d),a7 g (af n0 rs) d⟩
structure jA (g:Cfg)(n:a6):Prop where
 gl:n.gates.length=g.ds.length
 fl:n.fs.length=g.ds.length
 wl:n.ws.length=g.ks.length
 wr:∀x∈n.ws,(0<=x/\x < g.ds.length)\/x=10\/x=11
 un:∀i j,i < n.ws.length->j < n.ws.length->10<=n.ws.getD i 0->n.ws.getD i 0=n.ws.getD j 0->i=j
 st:∃c,(c=0\/c=1)/\∃l,bz g.ds n.place c=some l
 ew:∀l r,n.e=.wait l r\/n.e=.armed l r->0<=l/\l < g.ds.length/\(r=(bJ g.ls l).1\/r=(bJ g.ls l).2)
theorem ke (ws:List Int)(n i:Nat)(v:Int)(hi:i < ws.length):(ws.set n v).getD i 0=if n=i then v else ws.getD i 0:=by
 rw [List.getD_eq_getElem?_getD,List.getD_eq_getElem?_getD,List.getElem?_set]
 split
 ·rename_i e
  subst e
  rw [if_pos hi];rfl
 ·rfl
theorem ua {ds:List Int}{d l:Int}(h:lvl ds d=some l):0<=l/\l < ds.length/\ds.getD l.toNat 0=d:=by
 unfold lvl at h
 split at h
 ·rename_i hm
  cases h
  have hlt:=List.idxOf_lt_length_iff.mpr hm
  refine ⟨Int.natCast_nonneg _,by omega,?_⟩
  rw [Int.toNat_natCast,List.getD_eq_getElem?_getD,List.getElem?_eq_getElem hlt]
  exact List.getElem_idxOf hlt
 ·cases h
theorem iO {ds:List Int}{p c l:Int}(h:bz ds p c=some l):0<=l/\l < ds.length/\ds.getD l.toNat 0=(if c=0 then p else bX ds - p):=by
 unfold bz at h
 split at h
 ·rename_i e;rw [if_pos e];exact ua h
 ·rename_i e;rw [if_neg e];exact ua h
theorem xl {ws:List Int}{k:Int}(h:k∈ws):ws.idxOf k < ws.length/\ws.getD (ws.idxOf k) 0=k:=by
 have hlt:=List.idxOf_lt_length_iff.mpr h
 refine ⟨hlt,?_⟩
 rw [List.getD_eq_getElem?_getD,List.getElem?_eq_getElem hlt]
 exact List.getElem_idxOf hlt
theorem ub {ws:List Int}{n:Nat}{v x:Int}(h:x∈ws.set n v):x∈ws\/x=v:=List.mem_or_eq_of_mem_set h
theorem va {ds:List Int}(hs:bG ds){c l:Int}(hc:0<=c/\c < 2)(hl:0<=l/\l < ds.length):bz ds (fM ds c l) c=some l:=by
 obtain ⟨k,rfl⟩:=Int.eq_ofNat_of_zero_le hl.1
 unfold bz fM
 split
 ·exact jz hs (by omega) (by rw [Int.toNat_natCast])
 ·exact jz hs (by omega) (by rw [Int.toNat_natCast];omega)
theorem ifn {c:Prop}[Decidable c]{a:Rw}{x:Option Rw}(h:(if c then some a else x)=none):¬c/\x=none:=by
 split at h
 ·cases h
 ·rename_i n;exact ⟨n,h⟩
theorem ify {c:Prop}[Decidable c]{a:Rw}(h:(if c then none else some a)=none):c:=by
 split at h
 ·assumption
 ·cases h
theorem sk {l:Int}{m:Nat}(h:¬unk l m):0<=l/\l < m:=Decidable.not_not.mp h
theorem yy {g:Cfg}{n:a6}{l s:Int}(h:eH g n (.ring l s)=none):(0<=l/\l < g.ds.length)/\n.fs.getD l.toNat false=false/\(s=(bJ g.ls l).1\/s=(bJ g.ls l).2):=by
 obtain ⟨h1,h⟩:=ifn h
 obtain ⟨h2,h⟩:=ifn h
 exact ⟨sk h1,by simpa using h2,ify h⟩
theorem yz {g:Cfg}{n:a6}{s:Int}(h:eH g n (.rept s)=none):∃l r,n.e=.wait l r/\1<=s/\s<=9:=by
 simp only [eH] at h
 split at h
 ·rename_i l r e;exact ⟨l,r,e,ify h⟩
 ·cases h
theorem yA {g:Cfg}{n:a6}{k c:Int}(h:eH g n (.load k c)=none):(0<=k/\k < n.ws.length)/\∃l,bz g.ds n.place c=some l/\n.ws.getD k.toNat 0=l/\¬10+c∈n.ws/\n.gates.getD l.toNat false=true:=by
 obtain ⟨h1,h⟩:=ifn h
 refine ⟨sk h1,?_⟩
 cases e:bz g.ds n.place c with
 | none=>rw [e] at h;cases h
 | some l=>
  rw [e] at h
  obtain ⟨h2,h⟩:=ifn h
  obtain ⟨h3,h⟩:=ifn h
  exact ⟨l,rfl,Decidable.not_not.mp h2,h3,ify h⟩
theorem vb {g:Cfg}{n:a6}{c:Int}(h:eH g n (.unload c)=none):10+c∈n.ws/\∃l,bz g.ds n.place c=some l/\n.gates.getD l.toNat false=true:=by
 obtain ⟨h1,h⟩:=ifn h
 refine ⟨Decidable.not_not.mp h1,?_⟩
 cases e:bz g.ds n.place c with
 | none=>rw [e] at h;cases h
 | some l=>rw [e] at h;exact ⟨l,rfl,ify h⟩
theorem yB {g:Cfg}{n:a6}{c l:Int}{k:Str}(h:eH g n (.wind c l k)=none):(0<=l/\l < g.ds.length)/\fL g n=false/\n.e=.armed l (bO g.ls l k):=by
 obtain ⟨h1,h⟩:=ifn h
 obtain ⟨h2,h⟩:=ifn h
 exact ⟨sk h1,by simpa using h2,ify h⟩
theorem jA.next {g:Cfg}{n:a6}{d:Dd}(hg:lR g)(h:jA g n)(ok:u9 d)(hr:eH g n d=none):jA g (a7 g n d):=by
 have hds:=hg.sh.l6
 cases d with
 | ring l s=>
  obtain ⟨h1,_,h3⟩:=yy hr
  exact ⟨h.gl,h.fl,h.wl,h.wr,h.un,h.st,fun l' r e=>by
   simp only [a7,sj] at e
   rcases e with e | e
   ·cases e;exact ⟨h1.1,h1.2,h3⟩
   ·cases e⟩
 | rept s=>
  refine ⟨h.gl,h.fl,h.wl,h.wr,h.un,h.st,fun l' r e=>?_⟩
  simp only [a7,sj] at e
  obtain ⟨l0,r0,e0,_⟩:=yz hr
  rw [e0] at e
  simp only at e
  have:=h.ew l0 r0 (.inl e0)
  split at e
  ·rcases e with e | e
   ·cases e
   ·cases e;exact this
  ·rcases e with e | e<;>cases e
 | opn l=>exact ⟨by simp only [a7];rw [List.length_set];exact h.gl,h.fl,h.wl,h.wr,h.un,h.st,h.ew⟩
 | sht l=>exact ⟨by simp only [a7];rw [List.length_set];exact h.gl,h.fl,h.wl,h.wr,h.un,h.st,h.ew⟩
 | fail l=>exact ⟨h.gl,by simp only [a7];rw [List.length_set];exact h.fl,h.wl,h.wr,h.un,h.st,h.ew⟩
 | load k c=>
  obtain ⟨h1,l,hl,h3,h4,_⟩:=yA hr
  have hc:0<=c/\c < 2:=ok
  refine ⟨h.gl,h.fl,by simp only [a7];rw [List.length_set];exact h.wl,fun x hx=>?_,fun i j hi hj h10 e=>?_,h.st,h.ew⟩
  ·rcases ub hx with hx | rfl
   ·exact h.wr x hx
   ·omega
  ·simp only [a7,List.length_set] at hi hj h10 e
   rw [ke _ _ _ _ hi] at h10 e
   rw [ke _ _ _ _ hj] at e
   split at e<;>split at e
   ·omega
   ·exact absurd (e▸fH hj) h4
   ·exact absurd (e▸fH hi) h4
   ·rename_i n1 n2;rw [if_neg n1] at h10;exact h.un i j hi hj h10 e
 | unload c=>
  obtain ⟨h1,l,hl,_⟩:=vb hr
  obtain ⟨l0,l1,l2⟩:=iO hl
  refine ⟨h.gl,h.fl,by simp only [a7];rw [List.length_set];exact h.wl,fun x hx=>?_,fun i j hi hj h10 e=>?_,h.st,h.ew⟩
  ·simp only [a7,hl,Option.getD_some] at hx
   rcases ub hx with hx | rfl
   ·exact h.wr x hx
   ·exact .inl ⟨l0,l1⟩
  ·simp only [a7,List.length_set,hl,Option.getD_some] at hi hj h10 e
   rw [ke _ _ _ _ hi] at h10 e
   rw [ke _ _ _ _ hj] at e
   split at e
   ·rename_i n1;rw [if_pos n1] at h10;omega
   ·rename_i n1
    rw [if_neg n1] at h10
    split at e
    ·omega
    ·exact h.un i j hi hj h10 e
 | wind c l k=>
  obtain ⟨h1,_⟩:=yB hr
  refine ⟨h.gl,h.fl,h.wl,h.wr,h.un,⟨c,by have:=ok.1;omega,l,va hg.sh ok.1 h1⟩,fun l' r e=>?_⟩
  simp only [a7,sj] at e
  rcases e with e | e<;>cases e
theorem aw.keeps {H H1 H2:Hp}{p:Addr}(s:aw H H1)(k:aq p H1 H2)(hp:H p=none):aw H H2:=fun b o e=>k b o (ak e hp) (s b o e)
section
variable {C:Cl}{K:W.Frag}{H H':Hp}{rl s:Addr}{g:Cfg}{A:SA}{n:a6}
theorem aO.ne_b (h:aO C K H rl g s A n):s≠A.b:=fun z=>by
 obtain ⟨dx,hb⟩:=h.be.ob
 have:=h.ob
 rw [z,hb] at this
 injection this with this
 injection this with _ _ this
 injection this with this _
 injection this with this _
 exact absurd this (by decide)
theorem aO.ne_y (h:aO C K H rl g s A n):s≠A.y:=fun z=>by
 obtain ⟨dx,hb⟩:=h.ya.ob
 have:=h.ob
 rw [z,hb] at this
 injection this with this
 injection this with _ _ this
 injection this with this _
 injection this with this _
 exact absurd this (by decide)
theorem aO.ne_by (h:aO C K H rl g s A n):A.y≠A.b:=fun z=>by
 obtain ⟨dx,hb⟩:=h.ya.ob
 obtain ⟨dx2,hb2⟩:=h.be.ob
 rw [z,hb2] at hb
 injection hb with this
 injection this with _ _ this
 injection this with this _
 injection this with this _
 exact absurd this (by decide)
theorem aO.bells {st':Addr}{e':Eng}(h:aO C K H rl g s A n)(k:aq A.b H H')(hb:br C.B K H' A.b A.cs A.fl st' g.ls n.fs e'):aO C K H' rl g s {A with st:=st'} {n with e:=e'}:=by
 obtain ⟨dx,hb0⟩:=h.be.ob
 refine ⟨k _ _ h.ne_b h.ob,k _ _ (fun z=>?_) h.go,hb,h.ya.offI k hb0 h.ne_by,⟨h.ap.r1,h.ap.r2,h.ap.r3,h.ap.r4,h.ap.r5,h.ap.o1,h.ap.o2,h.ap.o3,h.ap.o4,h.ap.f1,h.ap.f2,h.ap.f3,h.ap.w1,h.ap.w2,h.ap.w3,h.ap.w4⟩,⟨(h.nn.keepI k hb0).al,h.nn.nr,h.nn.no,h.nn.nc,h.nn.nf,h.nn.nk,h.nn.nw⟩⟩
 have:=h.go
 rw [z,hb0] at this
 cases this
theorem aO.spots {ws':List Int}(h:aO C K H rl g s A n)(k:aq A.wh H H')(hw:H' A.wh=some (.lst (ws'.map V.int))):aO C K H' rl g s A {n with ws:=ws'}:=by
 refine ⟨k _ _ (fun z=>?_) h.ob,k _ _ h.ap.w1 h.go,h.be.off k h.ya.owh h.ap.w2 h.ap.w3,h.ya.put k h.ap.w4 hw,h.ap,h.nn.keep k h.nn.nw⟩
 have:=h.ya.owh
 rw [←z,h.ob] at this
 cases this
theorem aO.placed {pl:Int}(h:aO C K H rl g s A n)(k:aq s H H')(hp:H' s=some (.ins C.S A.dx [("place",.int pl),("opened",.ref A.ol),("bells",.ref A.b),("yard",.ref A.y)])):aO C K H' rl g s A {n with place:=pl}:=by
 refine ⟨hp,k _ _ (fun z=>?_) h.go,h.be.offI k h.ob h.ne_b.symm,h.ya.offI k h.ob h.ne_y.symm,h.ap,h.nn.keepI k h.ob⟩
 have:=h.go
 rw [z,h.ob] at this
 cases this
theorem aO.own {p:Addr}{ys:List V}(h:aO C K H rl g s A n)(hp:g.N p)(k:aq p H H')(e:H' p=some (.lst ys)):aO C K H' rl g s A n:=by
 obtain ⟨zs,hz⟩:=h.nn.al p hp
 refine ⟨k _ _ (fun z=>by have:=h.ob;rw [z,hz] at this;cases this) h.ob,k _ _ (h.nn.no p hp) h.go,h.be.off k hz (h.nn.nc p hp) (h.nn.nf p hp),h.ya.off k hz (h.nn.nk p hp) (h.nn.nw p hp),h.ap,⟨fun q hq=>?_,h.nn.nr,h.nn.no,h.nn.nc,h.nn.nf,h.nn.nk,h.nn.nw⟩⟩
 by_cases e1:q=p
 ·subst e1;exact ⟨ys,e⟩
 ·obtain ⟨us,hu⟩:=h.nn.al q hq
  exact ⟨us,k _ _ e1 hu⟩
noncomputable def Cfg.plus (g:Cfg)(p:Addr):Cfg:={g with N:=fun q=>g.N q\/q=p}
theorem aO.grow {p:Addr}{ys:List V}(h:aO C K H rl g s A n)(hr:rl≠p)(hn:H p=none)(k:aw H H')(e:H' p=some (.lst ys)):aO C K H' rl (g.plus p) s A n:=by
 have h':=h.same k
 obtain ⟨_,⟨as,oc,_⟩,of,_⟩:=id h.be
 obtain ⟨_,okn,owh⟩:=id h.ya
 refine ⟨h'.ob,h'.go,h'.be,h'.ya,h'.ap,⟨fun q hq=>?_,fun q hq=>?_,fun q hq=>?_,fun q hq=>?_,fun q hq=>?_,fun q hq=>?_,fun q hq=>?_⟩⟩
 ·rcases hq with hq | rfl
  ·exact h'.nn.al q hq
  ·exact ⟨ys,e⟩
 ·rcases hq with hq | rfl
  ·exact h.nn.nr q hq
  ·exact hr
 ·rcases hq with hq | rfl
  ·exact h.nn.no q hq
  ·exact ak h.go hn
 ·rcases hq with hq | rfl
  ·exact h.nn.nc q hq
  ·exact ak oc hn
 ·rcases hq with hq | rfl
  ·exact h.nn.nf q hq
  ·exact ak of hn
 ·rcases hq with hq | rfl
  ·exact h.nn.nk q hq
  ·exact ak okn hn
 ·rcases hq with hq | rfl
  ·exact h.nn.nw q hq
  ·exact ak owh hn
end
section
variable {C:Cl}{K:W.Frag}{H H':Hp}{rl s w bk:Addr}{g:Cfg}{n n0:a6}{rs:List Row}
theorem WAt.rows (h:WAt C K H w bk rl g n0 rs):∃as:List Addr,H rl=some (.lst (as.map V.ref)):=by
 obtain ⟨as,hr,_⟩:=h.bo.ro
 exact ⟨as,hr⟩
theorem WAt.own {p:Addr}{ys:List V}(h:WAt C K H w bk rl g n0 rs)(hp:g.N p)(k:aq p H H')(e:H' p=some (.lst ys)):WAt C K H' w bk rl g n0 rs:=by
 obtain ⟨⟨dx,dl,gl,h1,h2,h3,h4,h5,h6,h7⟩,⟨dy,f,h8,A,h9⟩,as,h10,h11⟩:=h
 obtain ⟨zs,hz⟩:=h9.nn.al p hp
 refine ⟨⟨dx,dl,gl,k _ _ (fun z=>by rw [z,hz] at h1;cases h1) h1,k _ _ (h6 p hp) h2,k _ _ (h7 p hp) h3,h4,h5,h6,h7⟩,⟨dy,f,k _ _ (fun z=>by rw [z,hz] at h8;cases h8) h8,A,h9.own hp k e⟩,as,k _ _ (h9.nn.nr p hp) h10,h11.1,fun i a r e1 e2=>?_⟩
 obtain ⟨dd,s,u1,u2,A',u3⟩:=h11.2 i a r e1 e2
 exact ⟨dd,s,u1.keep k hz,u2.keep k hz,A',u3.own hp k e⟩
theorem WAt.grow {p:Addr}{ys:List V}(h:WAt C K H w bk rl g n0 rs)(hn:H p=none)(k:aw H H')(e:H' p=some (.lst ys)):WAt C K H' w bk rl (g.plus p) n0 rs:=by
 obtain ⟨⟨dx,dl,gl,h1,h2,h3,h4,h5,h6,h7⟩,⟨dy,f,h8,A,h9⟩,as,h10,h11⟩:=h
 have hr:rl≠p:=ak h10 hn
 refine ⟨⟨dx,dl,gl,k _ _ h1,k _ _ h2,k _ _ h3,h4,h5,fun q hq=>?_,fun q hq=>?_⟩,⟨dy,f,k _ _ h8,A,h9.grow hr hn k e⟩,as,k _ _ h10,h11.1,fun i a r e1 e2=>?_⟩
 ·rcases hq with hq | rfl
  ·exact h6 q hq
  ·exact ak h2 hn
 ·rcases hq with hq | rfl
  ·exact h7 q hq
  ·exact ak h3 hn
 ·obtain ⟨dd,s,u1,u2,A',u3⟩:=h11.2 i a r e1 e2
  exact ⟨dd,s,k.tup u1,k.tup u2,A',u3.grow hr hn k e⟩
end
noncomputable def bb (ds:List Int)(ls:List Cd)(slow fast:Int)(lds:List Ld)(N:Addr->Prop):Cfg:=⟨ds,ls,slow,fast,lds.map (·.2.2),lds.map (·.1),N⟩
noncomputable def aH (ds:List Int)(ls:List Cd)(lds:List Ld):a6:=⟨ds.getD 0 0,ds.map fun _=>false,ls.map fun _=>false,.no,lds.map (·.2.1)⟩
theorem aO.keepI {C:Cl}{K:W.Frag}{H H':Hp}{rl s x D dp:Addr}{g:Cfg}{A:SA}{n:a6}{us:List (Str×V)}(h:aO C K H rl g s A n)(k:aq x H H')(hx:H x=some (.ins D dp us))(n1:s≠x)(n2:A.b≠x)(n3:A.y≠x):aO C K H' rl g s A n:=by
 refine ⟨k _ _ n1 h.ob,k _ _ (fun z=>?_) h.go,h.be.offI k hx n2,h.ya.offI k hx n3,h.ap,h.nn.keepI k hx⟩
 have:=h.go
 rw [z,hx] at this
 cases this
theorem Ca {ds:List Int}{ls:List Cd}{slow fast:Int}{lds:List Ld}{N:Addr->Prop}(h1:bG ds)(h2:ls.length=ds.length)(h3:∀x∈ls,c7 x)(h4:1<=slow/\slow<=fast/\fast<=500)(h5:lds.length<=30):lR (bb ds ls slow fast lds N):=
 ⟨h1,h2,h3,h4.1,h4.2.1,h4.2.2,by simp [bb],by simpa [bb] using h5⟩
theorem z5 {ds:List Int}{ls:List Cd}{slow fast:Int}{lds:List Ld}{N:Addr->Prop}(h1:bG ds)(h2:ls.length=ds.length)(h6:∀x∈lds,jy ds.length x):jA (bb ds ls slow fast lds N) (aH ds ls lds):=by
 have l2:=h1.l2
 have l6:=h1.l6
 refine ⟨by simp [bb,aH],by simp [bb,aH,h2],by simp [bb,aH],fun x hx=>?_,fun i j hi hj h10 e=>?_,⟨0,.inl rfl,0,?_⟩,fun l r e=>?_⟩
 ·simp only [aH,List.mem_map] at hx
  obtain ⟨y,hy,rfl⟩:=hx
  exact .inl (h6 y hy).1
 ·exfalso
  have hm:(aH ds ls lds).ws.getD i 0∈(aH ds ls lds).ws:=fH hi
  simp only [aH,List.mem_map] at hm
  obtain ⟨y,hy,e1⟩:=hm
  have:=(h6 y hy).1
  simp only [aH] at h10
  omega
 ·exact jz h1 (i:=0) (by omega) rfl
 ·rcases e with e | e<;>cases e
end L2
namespace PySem
open PySem.Spec PyProof.Rows
section
variable {prog:Program}{w:World}{A:Around}{E:Value->Shared->Prop}{s:Shared}
theorem rm {it t:Addr}{items:Array Value}(hne:t≠it):∀(n i:Nat) (s:Shared) (Q:List Value->Shared->Prop),s.heap.IsListIter it t i->s.heap.IsList t items->i+n<=items.size->
  (∀h',Heap.IsListIter h' it t (i+n)->Heap.SameBut it s.heap h'->Q ((items.toList.drop i).take n) {s with heap:=h'})->wpAny (model prog w) A (draw (.ref it) n) Q E s
 | 0,i,s,Q,hit,_,_,hQ=>by
  show wpAny _ _ (pure []) Q E s
  exact wpAny_pure (by simpa using hQ s.heap hit (Heap.SameBut.refl ..))
 | n+1,i,s,Q,hit,ht,hle,hQ=>by
  have hlt:i < items.size:=by omega
  show wpAny _ _ (pyNext (.ref it) >>= _) Q E s
  refine wpAny_bind (wpAny_pyNext_list_item hit ht (x:=items[i]) (by simp [hlt]) fun h₁ hit₁ hs₁=>?_)
  refine wpAny_bind (wpAny_holding (rm hne n (i+1) _ _ hit₁ (ht.extBut hs₁.extBut hne) (by omega) fun h₂ hit₂ hs₂=>wpAny_pure ?_))
  have hd:items.toList.drop i=items[i]::items.toList.drop (i+1):=by simp [List.drop_eq_getElem_cons,hlt]
  have:=hQ h₂ (by rw [show i+(n+1)=i+1+n by omega];exact hit₂) (hs₁.trans hs₂)
  rw [hd,List.take_succ_cons] at this
  exact this
theorem mS {t:Addr}{items:Array Value}{Q:List Value->Shared->Prop}(hh:A.handled=none)(ht:s.heap.IsList t items)
  (hQ:∀h',Heap.ExtBut s.heap.objs.size s.heap h'->Q items.toList {s with heap:=h'}):wpAny (model prog w) A (unpackItems (.ref t) items.size none) Q E s:=by
 have hlt:t≠s.heap.objs.size:=by obtain ⟨o,ho,_⟩:=ht;exact Nat.ne_of_lt (Heap.lt_size ho)
 unfold unpackItems
 refine wpAny_bind ?_
 ·unfold notIterableAtAll
  refine wpAny_bind (wpAny_specialOf ht.typeIs slot_list_iter.lookup ?_)
  refine wpAny_pure ?_
  simp only [Bool.false_eq_true,if_false]
  refine wpAny_bind (wpAny_holding (wpAny_pyIter_list ht ?_))
  refine wpAny_bind (wpAny_holding (rm hlt items.size 0 _ _ ⟨_,Heap.get?_push_size _ rfl,rfl,rfl⟩ (ht.push _) (by omega) fun h₁ hit₁ hs₁=>?_))
  have hall:List.take items.size (List.drop 0 items.toList)=items.toList:=by
   rw [List.drop_zero];exact List.take_of_length_le (by simp)
  rw [hall]
  rw [if_neg (by simp)]
  have ht₁:Heap.IsList h₁ t items:=(ht.push _).extBut hs₁.extBut hlt
  refine wpAny_bind (wpAny_holding (wpAny_pyNext_list_end hh hit₁ ht₁ (by simp) fun h₂ he₂=>?_))
  simp only [Option.isSome_none,Bool.false_eq_true,if_false]
  refine wpAny_pure (hQ h₂ fun b o hb e=>he₂ b o hb (hs₁.extBut b o hb (Heap.get?_push_of_some _ e)))
theorem uc {t:Addr}{items:Array Value}{targets:List (Bool×(Value->Sem Unit))}{Q:Unit->Shared->Prop}(hh:A.handled=none)(ht:s.heap.IsList t items)
  (hn:targets.length=items.size) (hstar:targets.findIdx? (·.1)=none)
  (h:∀h',Heap.ExtBut s.heap.objs.size s.heap h'->wpAny (model prog w) A (assignInOrder (targets.map (·.2)) items.toList) Q E {s with heap:=h'}) :
  wpAny (model prog w) A (unpack (.ref t) targets) Q E s:=by
 unfold unpack
 rw [hn,hstar]
 exact wpAny_bind (wpAny_holding (mS hh ht h))
theorem lS {env:Env}{elts:List Expr}{x1}{pos:Pos}{t:Addr}{items:Array Value}{Q:Unit->Shared->Prop}(hh:A.handled=none)(ht:s.heap.IsList t items)
  (hn:(assignEach elts env).length=items.size) (hstar:(assignEach elts env).findIdx? (·.1)=none)
  (h:∀h',Heap.ExtBut s.heap.objs.size s.heap h'->wpAny (model prog w) A (assignInOrder ((assignEach elts env).map (·.2)) items.toList) Q E {s with heap:=h'}) :
  wpAny (model prog w) A (assign (.Tuple elts x1 pos) env (.ref t)) Q E s:=by
 rw [assign_Tuple]
 exact wpAny_bind (wpAny_standAt (uc hh ht hn hstar h))
end
end PySem
namespace L2
open PySem PySem.Spec PyProof.Rows PySem.SeqAt
section
variable {X:Cx}{pos:Pos}
noncomputable def Bl (K:W.Frag)(n:Nat)(t:TGs):TG:=fun v σ H Q=>∃a xs,v=.ref a/\SqL K H a xs/\xs.length=n/\t xs σ H Q
theorem Cb {es:List Expr}{k:Nat}{t:TGs}{n:Nat}(hc:X.calm=true)(h:PGs X es t)
  (hn:(assignEach es X.env).length=n:=by rfl) (hst:(assignEach es X.env).findIdx? (·.1)=none:=by rfl):PG X (.Tuple es k pos) (Bl X.K n t):=by
 intro pins s σ H v u Q I r hw
 obtain ⟨a,xs,e1,hq,hl,hw⟩:=hw
 subst e1
 cases r
 obtain ⟨its,rv,ht,hz⟩:=I.list hq
 refine lS (I.ok.hd hc) ht.isList (by simp [hn,←hl,rv.length]) hst fun h' hx=>?_
 have I1:Inv X pins σ H {s with heap:=h'}:=I.kept (t':=s.toks) fun b o e=>hx b o (Nat.ne_of_lt (Heap.lt_size e)) e
 exact h pins _ σ H xs _ Q I1 (by simpa using rv) hw
noncomputable def Cc (K:W.Frag):R2:=fun x y H Q=>∃a b xs ys,x=.ref a/\y=.ref b/\SqL K H a xs/\SqL K H b ys/\xs.all bC=true/\ys.all bC=true/\Q (.bl (!eqL xs ys)) H
theorem Ce (hu:X.A.units < cLine):OpR X (compareOp .NotEq) (Cc X.K):=by
 intro pins s σ H x y u v Q I rx ry h
 obtain ⟨a,b,xs,ys,rfl,rfl,ha,hb,fa,fb,q⟩:=h
 cases rx;cases ry
 obtain ⟨ia,ra,pa,za⟩:=I.list ha
 obtain ⟨ib,rb,pb,zb⟩:=I.list hb
 have la:=ra.length
 have lb:=rb.length
 by_cases hl:xs.length=ys.length
 ·refine RcNeAt.lists (e:=fun j=>eqV (xs.getD j .non) (ys.getD j .non)) pa.isList pb.isList (by simp only [List.size_toArray];omega) hu (fun j h1 h2=>?_) X.prog X.w _ _ ?_
  ·simp only [List.size_toArray] at h1 h2
   have hx:xs[j]?=some (xs.getD j .non):=by
    rw [List.getD_eq_getElem?_getD,List.getElem?_eq_getElem (by omega)];rfl
   have hy:ys[j]?=some (ys.getD j .non):=by
    rw [List.getD_eq_getElem?_getD,List.getElem?_eq_getElem (by omega)];rfl
   obtain ⟨u,eu,ru⟩:=ra.get hx
   obtain ⟨v,ev,rv⟩:=rb.get hy
   have e1:ia.toArray[j]=u:=by
    have:=List.getElem?_eq_some_iff.mp eu
    simpa using this.2
   have e2:ib.toArray[j]=v:=by
    have:=List.getElem?_eq_some_iff.mp ev
    simpa using this.2
   rw [e1,e2]
   exact mM ru rv (List.all_eq_true.mp fa _ (List.mem_of_getElem? hx)) (List.all_eq_true.mp fb _ (List.mem_of_getElem? hy))
  ·have e:(List.range ia.toArray.size).all (fun j=>eqV (xs.getD j .non) (ys.getD j .non))=eqL xs ys:=by
    rw [List.size_toArray,←la]
    exact oy hl
   rw [e]
   exact ⟨.bl (!eqL xs ys),H,I,rfl,q⟩
 ·refine RcNeAt.lists_lengths pa.isList pb.isList (by simp only [List.size_toArray,bne_iff_ne,ne_eq];omega) hu X.prog X.w _ _ ?_
  have e:eqL xs ys=false:=by
   cases he:eqL xs ys with
   | false=>rfl
   | true=>exact absurd (ox he) hl
  rw [e] at q
  exact ⟨.bl true,H,I,rfl,q⟩
end
end L2
namespace L2
open PySem PySem.Spec PyProof.Rows
inductive Run (g:Cfg)(n0:a6):List Row->Prop
 | nil:Run g n0 []
 | snoc {rs:List Row} {d:Dd} (h:Run g n0 rs) (ok:u9 d) (hr:eH g (af n0 rs) d=none):Run g n0 (rs++[bD g n0 rs d])
theorem Run.snap {g:Cfg}{n0:a6}{rs:List Row}(hg:lR g)(h0:jA g n0)(h:Run g n0 rs):jA g (af n0 rs):=by
 induction h with
 | nil=>exact h0
 | snoc h ok hr ih=>
  rw [bP]
  exact ih.next hg ok hr
def lT (K:W.Frag)(H:Hp)(a:Addr)(r:Row):Prop:=∃dd,SqT K H a [.int r.began,.int r.ended,.ref dd]/\SqT K H dd r.deed
def eO (K:W.Frag)(H:Hp)(as:List Addr)(rs:List Row):Prop:=as.length=rs.length/\∀(i:Nat) a r,as[i]?=some a->rs[i]?=some r->lT K H a r
theorem eO.same {K:W.Frag}{H H':Hp}{as:List Addr}{rs:List Row}(h:eO K H as rs)(e:aw H H'):eO K H' as rs:=⟨h.1,fun i a r e1 e2=>by
 obtain ⟨dd,h1,h2⟩:=h.2 i a r e1 e2
 exact ⟨dd,e.tup h1,e.tup h2⟩⟩
theorem eO.push {K:W.Frag}{H:Hp}{as:List Addr}{rs:List Row}{a:Addr}{r:Row}(h:eO K H as rs)(hr:lT K H a r):eO K H (as++[a]) (rs++[r]):=by
 refine ⟨by rw [List.length_append,List.length_append,h.1];rfl,fun i b x e1 e2=>?_⟩
 by_cases hi:i < as.length
 ·rw [List.getElem?_append_left hi] at e1
  rw [List.getElem?_append_left (by rw [←h.1];exact hi)] at e2
  exact h.2 i b x e1 e2
 ·rw [List.getElem?_append_right (by omega)] at e1
  rw [List.getElem?_append_right (by rw [←h.1];omega),←h.1] at e2
  have hz:i - as.length=0:=by
   have:=(List.getElem?_eq_some_iff.mp e1).1
   simp at this
   omega
  rw [hz] at e1 e2
  cases e1
  cases e2
  exact hr
theorem eO.last {K:W.Frag}{H:Hp}{as:List Addr}{rs:List Row}{r:Row}(h:eO K H as (rs++[r])):∃as' a,as=as'++[a]/\eO K H as' rs/\lT K H a r:=by
 have hl:=h.1
 rw [List.length_append,List.length_singleton] at hl
 rcases gB as with rfl | ⟨as',a,rfl⟩
 ·cases hl
 ·have hl':as'.length=rs.length:=by rw [List.length_append,List.length_singleton] at hl;omega
  refine ⟨as',a,rfl,⟨hl',fun i b x e1 e2=>?_⟩,?_⟩
  ·have hi:=(List.getElem?_eq_some_iff.mp e1).1
   exact h.2 i b x (by rw [List.getElem?_append_left hi];exact e1) (by rw [List.getElem?_append_left (by omega)];exact e2)
  ·refine h.2 as'.length a r ?_ ?_
   ·rw [List.getElem?_append_right (Nat.le_refl _)];simp
   ·rw [List.getElem?_append_right (by omega),hl'];simp
noncomputable def DJ (r:Row):Dt:=.tup [.flat (.int r.began),.flat (.int r.ended),.tup (r.deed.map Dt.flat)]
theorem rn {K:W.Frag}{H:Hp}{a:Addr}{r:Row}{n:Nat}(h:lT K H a r)(hd:∃d,r.deed=ddV d):Rep K H (n+2) (.ref a) (DJ r):=by
 obtain ⟨dd,h1,h2⟩:=h
 obtain ⟨d,hd⟩:=hd
 refine .tup h1 (by show 3<=100000;decide) rfl fun i x y e1 e2=>?_
 match i,e1,e2 with
 | 0,e1,e2=>cases e1;cases e2;exact .flat rfl
 | 1,e1,e2=>cases e1;cases e2;exact .flat rfl
 | 2,e1,e2=>
  cases e1;cases e2
  have:=zZ d
  exact iq h2 (by rw [hd];omega) (by rw [hd];exact yw d)
 | i+3,e1,e2=>simp at e1
theorem WAt.off {C:Cl}{K:W.Frag}{H:Hp}{w bk rl:Addr}{g:Cfg}{n0:a6}{rs:List Row}(h:WAt C K H w bk rl g n0 rs)(p:Addr)(hp:g.N p):rl≠p:=by
 obtain ⟨dx,f,_,A,hA⟩:=h.bo.ob
 exact hA.nn.nr p hp
section
variable {X:Cx}
noncomputable def Cf (C:Addr)(m:Str)(sp:Sp)(dvs:List V)(E':XT)(ta:TE)(t:TA):TE:=fun σ H Q=>qV C m sp dvs (fun cls _ H'=>E' cls σ H') ta t σ H Q
end
end L2
namespace PySem
open Sem (wp)
open Builtin PySem.Spec PyProof.Rows PySem.SeqAt
end PySem
namespace L2
open PySem PySem.Spec PyProof.Rows PySem.SeqAt
section
variable {X:Cx}
noncomputable def z6:V->List V->Hp->VK->Prop:=fun x vs H Q=>∃(l:Addr) (ns:List Int) (k:Int),x=.ref l/\vs=[.int k]/\H l=some (.tup (ns.map V.int))/\k∈ns/\Q (.int (ns.idxOf k:Nat)) H
noncomputable def Ez (r:V->List V->Hp->VK->Prop)(to:TE)(t:TA):TE:=fun σ H Q=>to σ H fun x H1=>(∃a xs,x=.ref a/\H1 a=some (.tup xs))/\t σ H1 fun xs H2=>r x xs H2 Q
end
section
variable {X:Cx}
noncomputable def Cg (K:W.Frag):List V->Hp->VK->Prop:=fun xs H Q=>∃(a:Addr) (ns:List Int),xs=[.ref a]/\SqT K H a (ns.map V.int)/\ns.length < 64/\∀(l:Addr) (ms:List Int),H l=none->ms.Perm ns->ms.Pairwise (·<=·)->Q (.ref l) (upd H l (.lst (ms.map V.int)))
end
end L2
namespace L2
open PySem PySem.Spec PyProof.Rows
def wj {α:Type}(P:Addr->α->Prop)(as:List Addr)(xs:List α):Prop:=as.length=xs.length/\∀(i:Nat) a x,as[i]?=some a->xs[i]?=some x->P a x
section
variable {α:Type}{P Q:Addr->α->Prop}{as:List Addr}{xs:List α}{a:Addr}{x:α}
theorem wj.push (h:wj P as xs)(hr:P a x):wj P (as++[a]) (xs++[x]):=by
 refine ⟨by rw [List.length_append,List.length_append,h.1];rfl,fun i b y e1 e2=>?_⟩
 by_cases hi:i < as.length
 ·rw [List.getElem?_append_left hi] at e1
  rw [List.getElem?_append_left (by rw [←h.1];exact hi)] at e2
  exact h.2 i b y e1 e2
 ·rw [List.getElem?_append_right (by omega)] at e1
  rw [List.getElem?_append_right (by rw [←h.1];omega),←h.1] at e2
  have hz:i - as.length=0:=by
   have:=(List.getElem?_eq_some_iff.mp e1).1
   simp at this
   omega
  rw [hz] at e1 e2
  cases e1
  cases e2
  exact hr
end
theorem z7 {as:List Addr}{a:Addr}:atI ((as++[a]).map V.ref) (-1)=some (.ref a):=by
 rw [List.map_append]
 exact xW _ _
theorem z8 {K:W.Frag}{l:Addr}{ls:List Ld}{te:TE}{cm:List (Option Nat)}{σ:St}{H:Hp}{Q:VK}{j:Nat}(f:Ld->V)(hL:dr K H l ls)(hn:ls.length<=sizeLine)(hj:(bE cm σ)[j]?=some none)
  (he:∀a x,SqT K H a (ldV x)->∀N:VK,N (f x) H->te ((bE cm σ).set j (some (.ref a))) H N)
  (hd:∀p,H p=none->Q (.ref p) (upd H p (.lst (ls.map f)))):nG (Itl K l) (dZ j) qq te cm σ Q H:=by
 obtain ⟨as,hS,hlen,hT⟩:=hL
 refine r6 ls.length (fun i acc H'=>H'=H/\acc=(ls.take i).map f) ⟨rfl,by simp⟩ ?_ ?_ ?_ ?_
 ·rintro i acc H' hi ⟨rfl,_⟩
  have ha:as[i]?=some as[i]:=List.getElem?_eq_getElem (by omega)
  exact ⟨_,.ref as[i],hS,by rw [List.getElem?_map,ha];rfl⟩
 ·rintro acc H' ⟨rfl,_⟩
  exact ⟨_,hS,by rw [List.length_map];omega⟩
 ·rintro i acc H' hi ⟨rfl,rfl⟩
  have ha:as[i]?=some as[i]:=List.getElem?_eq_getElem (by omega)
  have hx:ls[i]?=some ls[i]:=List.getElem?_eq_getElem hi
  refine ⟨by rw [List.length_map,List.length_take];omega,fun x H2 y M hM=>?_⟩
  obtain ⟨e,y⟩:=y
  subst e
  have hy:=y _ hS
  rw [List.getElem?_map,ha] at hy
  cases hy
  refine ⟨ym hj,?_⟩
  unfold qq;dsimp only
  split
  ·refine he as[i] ls[i] (hT i _ _ ha hx) _ (hM _ _ ⟨rfl,?_⟩)
   rw [List.take_succ_eq_append_getElem hi,List.map_append];rfl
  ·rename_i z;exact absurd rfl z
 ·rintro acc H' ⟨rfl,rfl⟩ p hp
  rw [List.take_length]
  exact hd p hp
end L2
namespace L2
open PySem PySem.Spec PyProof.Rows PySem.SeqAt
theorem mT (fs:List Bool)(n i:Nat)(v:Bool):(fs.set n v).getD i false=if n=i/\i < fs.length then v else fs.getD i false:=by
 rw [List.getD_eq_getElem?_getD,List.getD_eq_getElem?_getD,List.getElem?_set]
 by_cases e:n=i
 ·subst e
  by_cases h:n < fs.length
  ·rw [if_pos rfl,if_pos h,if_pos ⟨rfl,h⟩];rfl
  ·rw [if_pos rfl,if_neg h,if_neg (fun z=>h z.2),List.getElem?_eq_none (by omega)]
 ·rw [if_neg e,if_neg (fun z=>e z.1)]
end L2
namespace L2
open PySem PySem.Spec PyProof.Rows
def onI (x:V)(P:Int->Prop):Prop:=match x with | .int i=>P i | _=>False
def onB (x:V)(P:Bool->Prop):Prop:=match x with | .bl i=>P i | _=>False
def onR (x:V)(P:Addr->Prop):Prop:=match x with | .ref i=>P i | _=>False
def onO (x:Option (Option V))(P:V->Prop):Prop:=match x with | some (some v)=>P v | _=>False
def onC (xs:List V)(P:V->List V->Prop):Prop:=match xs with | v::r=>P v r | []=>False
def onN (xs:List V)(P:Prop):Prop:=match xs with | []=>P | _=>False
theorem z9 (i:Int)(P:Int->Prop):onI (.int i) P=P i:=rfl
theorem Ci (i:Bool)(P:Bool->Prop):onB (.bl i) P=P i:=rfl
theorem wm (i:Addr)(P:Addr->Prop):onR (.ref i) P=P i:=rfl
theorem ud (v:V)(P:V->Prop):onO (some (some v)) P=P v:=rfl
theorem ue (v:V)(r:List V)(P:V->List V->Prop):onC (v::r) P=P v r:=rfl
theorem wo (P:Prop):onN [] P=P:=rfl
theorem so {x:V}{P:Int->Prop}:(∃i,x=.int i/\P i)↔onI x P:=by cases x<;>simp [onI]
theorem sq {x:V}{P:Bool->Prop}:(∃i,x=.bl i/\P i)↔onB x P:=by cases x<;>simp [onB]
theorem sr {x:V}{P:Addr->Prop}:(∃i,x=.ref i/\P i)↔onR x P:=by cases x<;>simp [onR]
theorem jB {x:V}{P:Addr->Prop}(h:onR x P):∃i,x=.ref i/\P i:=sr.mpr h
theorem oU {x:V}{P:Int->Prop}(h:onI x P):∃i,x=.int i/\P i:=so.mpr h
theorem Aa {x:Option (Option V)}{P:V->Prop}:(∃v,x=some (some v)/\P v)↔onO x P:=by
 rcases x with _ | _ | v<;>simp [onO]
theorem Ab {xs:List V}{P:V->List V->Prop}:(∃v r,xs=v::r/\P v r)↔onC xs P:=by
 cases xs with
 | nil=>exact ⟨fun ⟨_,_,e,_⟩=>(List.cons_ne_nil _ _ e.symm).elim,fun h=>False.elim h⟩
 | cons v r=>exact ⟨fun ⟨_,_,e,h⟩=>by cases e;exact h,fun h=>⟨v,r,rfl,h⟩⟩
theorem Ac {xs:List V}{P:Prop}:(xs=[]/\P)↔onN xs P:=by cases xs<;>simp [onN]
theorem EA {α β:Type}(f:α->β)(a:α)(l:List α):List.map f (a::l)=f a::List.map f l:=rfl
theorem EB {α β:Type}(f:α->β):List.map f ([]:List α)=[]:=rfl
theorem EC {α:Type}(a:α)(l m:List α):(a::l)++m=a::(l++m):=rfl
theorem ED {α:Type}(m:List α):([]:List α)++m=m:=rfl
theorem DK {α:Type}(a:α)(l:List α):(a::l)[0]?=some a:=rfl
theorem DL {α:Type}(a:α)(l:List α)(n:Nat):(a::l)[n+1]?=l[n]?:=rfl
theorem DM {α:Type}(a b:α)(l:List α):(a::l).set 0 b=b::l:=rfl
theorem DN {α:Type}(a b:α)(l:List α)(n:Nat):(a::l).set (n+1) b=a::l.set n b:=rfl
theorem EE {α:Type}(a:α)(n:Nat):List.replicate (n+1) a=a::List.replicate n a:=rfl
theorem EF {α:Type}(a:α):List.replicate 0 a=[]:=rfl
theorem Cj (N:List Str)(vs:List V):L2.jl N vs=vs.map some++List.replicate (N.length - vs.length) none:=rfl
theorem σN (cm:List (Option Nat))(σ:St):bE (none::cm) σ=none::bE cm σ:=rfl
theorem σS (i:Nat)(cm:List (Option Nat))(σ:St):bE (some i::cm) σ=(σ[i]?).getD none::bE cm σ:=rfl
theorem σ0 (σ:St):bE [] σ=[]:=rfl
theorem DO {α:Type}(a b:α):(some a).getD b=a:=rfl
theorem EG {α:Type}(a:α)(l:List α):(a::l).length=l.length+1:=rfl
theorem EH {α:Type}:([]:List α).length=0:=rfl
theorem DP {A B:Prop}:(if true=true then A else B)=A:=rfl
theorem DQ {A B:Prop}:(if false=true then A else B)=B:=rfl
theorem EI {p:Prop}[Decidable p]{A B:Prop}(h:if p then A else B):if decide p=true then A else B:=by
 by_cases e:p
 ·rw [if_pos e] at h;rw [if_pos (decide_eq_true e)];exact h
 ·rw [if_neg e] at h;rw [if_neg (by simp [e])];exact h
section
variable {α β:Type}
theorem ceq {f g:α->β->Prop}(h:∀x y,f x y↔g x y):f=g:=funext fun x=>funext fun y=>propext (h x y)
noncomputable def wq (i:Nat):TE:=fun σ H Q=>onO σ[i]? fun v=>Q v H
theorem Ad (i:Nat):Bz i=wq i:=funext fun σ=>funext fun H=>funext fun Q=>propext Aa
noncomputable def tB' (t:TE):TT:=fun σ H Q=>t σ H fun x H1=>onB x fun c=>Q c H1
theorem Bm (t:TE):tB t=tB' t:=funext fun σ=>funext fun H=>funext fun Q=>congrArg (t σ H) (ceq fun _ _=>sq)
theorem yC (t:TE):jt t=tB' t:=Bm t
noncomputable def vc (g:Int->Int->V):R2:=fun x y H Q=>onI x fun i=>onI y fun j=>Q (g i j) H
theorem two_iff {x y:V}{P:Int->Int->Prop}:(∃i j,x=.int i/\y=.int j/\P i j)↔onI x fun i=>onI y fun j=>P i j:=⟨fun ⟨i,j,e,f,h⟩=>by subst e f;exact h,fun h=>let ⟨i,e,h⟩:=oU h;let ⟨j,f,h⟩:=oU h;⟨i,j,e,f,h⟩⟩
theorem oV (g:Int->Int->V):rI0 g=vc g:=funext fun x=>funext fun y=>ceq fun _ _=>two_iff
noncomputable def rI' (C:Int->Int->Prop)(g:Int->Int->V):R2:=fun x y H Q=>onI x fun i=>onI y fun j=>C i j/\Q (g i j) H
theorem yD (C:Int->Int->Prop)(g:Int->Int->V):rI C g=rI' C g:=funext fun x=>funext fun y=>ceq fun _ _=>two_iff
noncomputable def rU' (g:Int->V):V->Hp->VK->Prop:=fun x H Q=>onI x fun i=>Q (g i) H
theorem DR (g:Int->V):rU g=rU' g:=funext fun x=>ceq fun _ _=>so
def eqP (x y:V)(P:Bool->Prop):Prop:=match x,y with
 | .int i,.int j=>P (decide (i=j))
 | .str i,.str j=>P (decide (i=j))
 | .bl i,.bl j=>P (decide (i=j))
 | x,y=>qm x y=true/\P (decide (x=y))
theorem wt {x y:V}{P:Bool->Prop}:(qm x y=true/\P (decide (x=y)))↔eqP x y P:=by
 cases x<;>cases y<;>simp [eqP,qm]
theorem Ae (i j:Int)(P:Bool->Prop):eqP (.int i) (.int j) P=P (decide (i=j)):=rfl
theorem Af (i j:Str)(P:Bool->Prop):eqP (.str i) (.str j) P=P (decide (i=j)):=rfl
theorem Ck (i j:Bool)(P:Bool->Prop):eqP (.bl i) (.bl j) P=P (decide (i=j)):=rfl
noncomputable def Cm:R2:=fun x y H Q=>eqP x y fun b=>Q (.bl b) H
theorem Cn:rEq=Cm:=funext fun x=>funext fun y=>ceq fun H Q=>wt (P:=fun b=>Q (.bl b) H)
noncomputable def EJ:R2:=fun x y H Q=>eqP x y fun b=>Q (.bl (!b)) H
noncomputable def ko (p:Int->Int->Prop)[d:∀i j,Decidable (p i j)](ta tb:TE):TT:=fun σ H Q=>ta σ H fun x H1=>tb σ H1 fun y H2=>onI x fun i=>onI y fun j=>if p i j then Q true H2 else Q false H2
theorem vd {p:Prop}[Decidable p]{Q:Bool->Prop}:Q (decide p)=if p then Q true else Q false:=by
 by_cases h:p
 ·rw [if_pos h,decide_eq_true h]
 ·rw [if_neg h,decide_eq_false h]
theorem oz (p:Int->Int->Prop)[d:∀i j,Decidable (p i j)](ta tb:TE):jt (tOp (rI0 fun i j=>.bl (decide (p i j))) ta tb)=ko p ta tb:=by
 funext σ H Q
 refine congrArg (ta σ H) (funext fun x=>funext fun H1=>congrArg (tb σ H1) (ceq fun y H2=>?_))
 cases x<;>cases y<;>simp [rI0,onI,vd (Q:=fun b=>Q b H2)]
theorem Co (ta tb:TE):jt (tOp (rI0 fun i j=>.bl (decide (i < j))) ta tb)=ko (fun i j=>i < j) ta tb:=oz _ ta tb
theorem Cp (ta tb:TE):jt (tOp (rI0 fun i j=>.bl (decide (i<=j))) ta tb)=ko (fun i j=>i<=j) ta tb:=oz _ ta tb
theorem Cq (ta tb:TE):jt (tOp (rI0 fun i j=>.bl (decide (j < i))) ta tb)=ko (fun i j=>j < i) ta tb:=oz _ ta tb
theorem Cr (ta tb:TE):jt (tOp (rI0 fun i j=>.bl (decide (j<=i))) ta tb)=ko (fun i j=>j<=i) ta tb:=oz _ ta tb
def eqT (x y:V)(Y N:Prop):Prop:=match x,y with
 | .int i,.int j=>if i=j then Y else N
 | .str i,.str j=>if i=j then Y else N
 | .bl i,.bl j=>if i=j then Y else N
 | x,y=>qm x y=true/\if x=y then Y else N
theorem Ag (i j:Int)(Y N:Prop):eqT (.int i) (.int j) Y N=if i=j then Y else N:=rfl
theorem Ah (i j:Str)(Y N:Prop):eqT (.str i) (.str j) Y N=if i=j then Y else N:=rfl
theorem Cs (i j:Bool)(Y N:Prop):eqT (.bl i) (.bl j) Y N=if i=j then Y else N:=rfl
theorem wu {x y:V}{Q:Bool->Prop}:(qm x y=true/\Q (decide (x=y)))↔eqT x y (Q true) (Q false):=by
 rw [vd (Q:=Q)]
 cases x<;>cases y<;>simp [eqT,qm]
def neT (x y:V)(Y N:Prop):Prop:=match x,y with
 | .int i,.int j=>if ¬i=j then Y else N
 | .str i,.str j=>if ¬i=j then Y else N
 | .bl i,.bl j=>if ¬i=j then Y else N
 | x,y=>qm x y=true/\if ¬x=y then Y else N
theorem Ai (i j:Int)(Y N:Prop):neT (.int i) (.int j) Y N=if ¬i=j then Y else N:=rfl
theorem Aj (i j:Str)(Y N:Prop):neT (.str i) (.str j) Y N=if ¬i=j then Y else N:=rfl
theorem Ct (i j:Bool)(Y N:Prop):neT (.bl i) (.bl j) Y N=if ¬i=j then Y else N:=rfl
theorem Ak {x y:V}{Y N:Prop}:eqT x y N Y↔neT x y Y N:=by
 have h:∀(p:Prop) [Decidable p],(if p then N else Y)=if ¬p then Y else N:=fun p _=>by by_cases e:p<;>simp [e]
 cases x<;>cases y<;>first | exact iff_of_eq (h _) | exact and_congr Iff.rfl (iff_of_eq (h _))
noncomputable def Cu (ta tb:TE):TT:=fun σ H Q=>ta σ H fun x H1=>tb σ H1 fun y H2=>eqT x y (Q true H2) (Q false H2)
noncomputable def Cv (ta tb:TE):TT:=fun σ H Q=>ta σ H fun x H1=>tb σ H1 fun y H2=>neT x y (Q true H2) (Q false H2)
theorem Al (ta tb:TE):jt (tOp rEq ta tb)=Cu ta tb:=by
 funext σ H Q
 refine congrArg (ta σ H) (funext fun x=>funext fun H1=>congrArg (tb σ H1) (ceq fun y H2=>?_))
 refine Iff.trans ?_ (wu (Q:=fun b=>Q b H2))
 exact ⟨fun ⟨a,k,e,q⟩=>⟨a,by cases e;exact q⟩,fun ⟨a,q⟩=>⟨a,_,rfl,q⟩⟩
theorem Am (ta tb:TE):jt (tOp rNe ta tb)=Cv ta tb:=by
 funext σ H Q
 refine congrArg (ta σ H) (funext fun x=>funext fun H1=>congrArg (tb σ H1) (ceq fun y H2=>?_))
 refine Iff.trans (Iff.trans ?_ (wu (Q:=fun b=>Q (!b) H2))) Ak
 exact ⟨fun ⟨a,k,e,q⟩=>⟨a,by cases e;exact q⟩,fun ⟨a,q⟩=>⟨a,_,rfl,q⟩⟩
noncomputable def nI (K:W.Frag)(n:Nat)(t:TGs):TG:=fun v σ H Q=>onR v fun a=>∃xs,SqT K H a xs/\xs.length=n/\t xs σ H Q
theorem oW {x:V}{γ:Type}{P:Addr->γ->Prop}:(∃a z,x=.ref a/\P a z)↔onR x fun a=>∃z,P a z:=by cases x<;>simp [onR]
theorem wx (K:W.Frag)(n:Nat)(t:TGs):BH K n t=nI K n t:=funext fun v=>funext fun σ=>ceq fun _ _=>oW
noncomputable def ve (K:W.Frag)(n:Nat)(t:TGs):TG:=fun v σ H Q=>onR v fun a=>∃xs,SqL K H a xs/\xs.length=n/\t xs σ H Q
theorem yE (K:W.Frag)(n:Nat)(t:TGs):Bl K n t=ve K n t:=funext fun v=>funext fun σ=>ceq fun _ _=>oW
noncomputable def mU (t:TG)(u:TGs):TGs:=fun vs σ H Q=>onC vs fun v r=>t v σ H fun σ' H'=>u r σ' H' Q
theorem lU (t:TG)(u:TGs):tL t u=mU t u:=funext fun v=>funext fun σ=>ceq fun _ _=>Ab
noncomputable def wz:TGs:=fun vs σ H Q=>onN vs (Q σ H)
theorem wA:BG=wz:=funext fun v=>funext fun σ=>ceq fun _ _=>Ac
noncomputable def rp (K:W.Frag):R2:=fun x y H Q=>onR x fun p=>onI y fun i=>∃xs,SqL K H p xs/\∃v,atI xs i=some v/\Q v H
theorem An (K:W.Frag):BR K=rp K:=funext fun x=>funext fun y=>ceq fun H Q=>⟨fun ⟨p,xs,i,v,e,f,h1,h2,h3⟩=>by subst e f;exact ⟨xs,h1,v,h2,h3⟩,fun h=>let ⟨p,e,h⟩:=jB h;let ⟨i,f,xs,h1,v,h2,h3⟩:=oU h;⟨p,xs,i,v,e,f,h1,h2,h3⟩⟩
noncomputable def wC (K:W.Frag):R2:=fun x y H Q=>onR x fun p=>onI y fun i=>∃xs,SqT K H p xs/\∃v,atI xs i=some v/\Q v H
theorem Ao (K:W.Frag):BS K=wC K:=funext fun x=>funext fun y=>ceq fun H Q=>⟨fun ⟨p,xs,i,v,e,f,h1,h2,h3⟩=>by subst e f;exact ⟨xs,h1,v,h2,h3⟩,fun h=>let ⟨p,e,h⟩:=jB h;let ⟨i,f,xs,h1,v,h2,h3⟩:=oU h;⟨p,xs,i,v,e,f,h1,h2,h3⟩⟩
noncomputable def vf (ta tb:TE):TE:=fun σ H Q=>ta σ H fun x H1=>onB x fun c=>if c=true then tb σ H1 Q else Q (.bl false) H1
theorem yF (ta tb:TE):A1 ta tb=vf ta tb:=funext fun σ=>funext fun H=>funext fun Q=>congrArg (ta σ H) (ceq fun _ _=>sq)
noncomputable def DS (ta tb:TE):TE:=fun σ H Q=>ta σ H fun x H1=>onB x fun c=>if c=true then Q (.bl true) H1 else tb σ H1 Q
noncomputable def vg (ta:TE):TE:=fun σ H Q=>ta σ H fun x H1=>onB x fun c=>Q (.bl (!c)) H1
theorem yG (ta:TE):A2 ta=vg ta:=funext fun σ=>funext fun H=>funext fun Q=>congrArg (ta σ H) (ceq fun _ _=>sq)
noncomputable def yH (K:W.Frag)(ta:TE)(f:Str):TE:=fun σ H Q=>ta σ H fun x H1=>onR x fun a=>∃C dx fs,H1 a=some (.ins C dx fs)/\Cls K C/\aL K C f/\∃v,fs.lookup f=some v/\Q v H1
theorem Ap (K:W.Frag)(ta:TE)(f:Str):Dq K ta f=yH K ta f:=funext fun σ=>funext fun H=>funext fun Q=>congrArg (ta σ H) (ceq fun x H1=>by cases x<;>simp [onR])
noncomputable def yI (K:W.Frag)(ta tv:TE)(f:Str):TS:=fun D σ H=>tv σ H fun y H1=>ta σ H1 fun x H2=>onR x fun a=>∃C dx fs,H2 a=some (.ins C dx fs)/\Cls K C/\aL K C f/\fs.length < 1000/\D.nx σ (upd H2 a (.ins C dx (aT f y fs)))
theorem Aq (K:W.Frag)(ta tv:TE)(f:Str):Dr K ta tv f=yI K ta tv f:=funext fun D=>funext fun σ=>funext fun H=>congrArg (tv σ H) (funext fun y=>funext fun H1=>congrArg (ta σ H1) (ceq fun x H2=>by cases x<;>simp [onR]))
noncomputable def sv (C:Addr)(m:Str)(sp:Sp)(dvs:List V)(E:XK)(ta:TE)(t:TA):TE:=fun σ H Q=>ta σ H fun x H1=>onR x fun a=>∃dx fs,H1 a=some (.ins C dx fs)/\fs.lookup m=none/\t σ H1 fun vs H2=>sp (.ref a::(vs++dvs)) H2 Q E
theorem uf (C:Addr)(m:Str)(sp:Sp)(dvs:List V)(E:XK)(ta:TE)(t:TA):qV C m sp dvs E ta t=sv C m sp dvs E ta t:=funext fun σ=>funext fun H=>funext fun Q=>congrArg (ta σ H) (ceq fun x H1=>by cases x<;>simp [onR])
noncomputable def oX:V->List V->Hp->VK->Prop:=fun x vs H Q=>onR x fun l=>onC vs fun y r=>onN r (∃xs,H l=some (.lst xs)/\xs.length < sizeLine/\Q .non (upd H l (.lst (xs++[y]))))
theorem vh:v7=oX:=funext fun x=>funext fun vs=>ceq fun H Q=>⟨fun ⟨l,xs,y,e,f,h⟩=>by subst e f;exact ⟨xs,h⟩,fun h=>by
 obtain ⟨l,rfl,z⟩:=jB h
 match vs,z with
 | [v],⟨xs,z⟩=>exact ⟨l,xs,v,rfl,rfl,z⟩⟩
noncomputable def vi (t:TE):TO:=fun σ H Q=>t σ H fun x H1=>onI x fun i=>Q (some i) H1
theorem yJ (t:TE):Bg t=vi t:=funext fun σ=>funext fun H=>funext fun Q=>congrArg (t σ H) (ceq fun _ _=>so)
noncomputable def vj (K:W.Frag)(tl:TE):TI:=fun σ H R=>tl σ H fun x H1=>onR x fun a=>(∃xs,SqL K H1 a xs)/\R (Itl K a) H1
theorem yK (K:W.Frag)(tl:TE):A6 K tl=vj K tl:=funext fun σ=>funext fun H=>funext fun R=>congrArg (tl σ H) (ceq fun _ _=>sr)
noncomputable def vk (ta:TA):TI:=fun σ H R=>ta σ H fun vs H1=>onC vs fun v r=>onN r (onI v fun j=>-(2 ^ 62)<=j/\j < 2 ^ 62/\R (Itr 0 j.toNat) H1)
theorem yL (ta:TA):A7 ta=vk ta:=funext fun σ=>funext fun H=>funext fun R=>congrArg (ta σ H) (ceq fun vs H1=>by
 rcases vs with _ | ⟨y,_ | ⟨z,vs⟩⟩<;>(try cases y)<;>simp [onI,onC,onN])
noncomputable def yM (K:W.Frag):List V->Hp->VK->Prop:=fun vs H Q=>onC vs fun v r=>onN r (onR v fun p=>∃ys,(SqL K H p ys\/SqT K H p ys)/\Q (.int ys.length) H)
theorem Ar (K:W.Frag)(t:TA):tCB (fun xs H Q=>∃p ys,xs=[.ref p]/\(SqL K H p ys\/SqT K H p ys)/\Q (.int ys.length) H) t=tCB (yM K) t:=by
 refine congrArg (fun r=>tCB r t) (funext fun vs=>ceq fun H Q=>?_)
 rcases vs with _ | ⟨y,_ | ⟨z,vs⟩⟩<;>(try cases y)<;>simp [yM,onR,onC,onN]
noncomputable def oC (K:W.Frag):List V->Hp->VK->Prop:=fun vs H Q=>onC vs fun v r=>onN r (onR v fun p=>∃ys,(SqL K H p ys\/SqT K H p ys)/\∀l,H l=none->Q (.ref l) (upd H l (.lst ys)))
theorem vm (K:W.Frag)(t:TA):tCB (fun xs H Q=>∃p ys,xs=[.ref p]/\(SqL K H p ys\/SqT K H p ys)/\∀l,H l=none->Q (.ref l) (upd H l (.lst ys))) t=tCB (oC K) t:=by
 refine congrArg (fun r=>tCB r t) (funext fun vs=>ceq fun H Q=>?_)
 rcases vs with _ | ⟨y,_ | ⟨z,vs⟩⟩<;>(try cases y)<;>simp [oC,onR,onC,onN]
noncomputable def vn:V->V->V->Hp->(Hp->Prop)->Prop:=fun o i v H Q=>onR o fun p=>onI i fun k=>∃xs,H p=some (.lst xs)/\∃j,ixN xs.length k=some j/\Q (upd H p (.lst (xs.set j v)))
theorem yN:Bh=vn:=funext fun o=>funext fun i=>funext fun v=>ceq fun H Q=>⟨fun ⟨p,xs,k,j,e,f,h1,h2,h3⟩=>by subst e f;exact ⟨xs,h1,j,h2,h3⟩,fun h=>let ⟨p,e,h⟩:=jB h;let ⟨k,f,xs,h1,j,h2,h3⟩:=oU h;⟨p,xs,k,j,e,f,h1,h2,h3⟩⟩
theorem EK {p:Prop}[Decidable p]{A B:Prop}(h:if ¬p then A else B):if (!decide p)=true then A else B:=by
 by_cases e:p
 ·rw [if_neg (fun z=>z e)] at h;rw [if_neg (by simp [e])];exact h
 ·rw [if_pos e] at h;rw [if_pos (by simp [e])];exact h
noncomputable def tU1 (f:Int->V)(ta:TE):TE:=fun σ H Q=>ta σ H fun x H1=>onI x fun i=>Q (f i) H1
theorem yO {k:Int}(hk:0 < k)(ta:TE)(g:Int->Int->V):tOp (rI (fun _ j=>0 < j) g) ta (tC (.int k))=tU1 (fun i=>g i k) ta:=funext fun σ=>funext fun H=>funext fun Q=>congrArg (ta σ H) (ceq fun x H1=>by
 cases x<;>simp [rI,tC,onI,hk])
theorem yP {k:Int}(h1:0 < k)(h2:k < 1073741824)(ta:TE)(g:Int->Int->V):tOp (rI xN g) ta (tC (.int k))=tU1 (fun i=>g i k) ta:=funext fun σ=>funext fun H=>funext fun Q=>congrArg (ta σ H) (ceq fun x H1=>by
 have hc:∀i,xN i k:=fun i=>by unfold xN;omega
 cases x<;>simp [rI,tC,onI,hc])
theorem yQ {k:Int}(h1:-4294967296 < k)(h2:k < 4294967296)(ta:TE)(g:Int->Int->V):tOp (rI oI g) ta (tC (.int k))=tU1 (fun i=>g i k) ta:=funext fun σ=>funext fun H=>funext fun Q=>congrArg (ta σ H) (ceq fun x H1=>by
 have hc:∀i,oI i k:=fun i=>by unfold oI;omega
 cases x<;>simp [rI,tC,onI,hc])
theorem xm {k:Int}(h1:-4294967296 < k)(h2:k < 4294967296)(tb:TE)(g:Int->Int->V):tOp (rI oI g) (tC (.int k)) tb=tU1 (fun i=>g k i) tb:=funext fun σ=>funext fun H=>funext fun Q=>congrArg (tb σ H) (ceq fun x H1=>by
 have hc:∀i,oI k i:=fun i=>by unfold oI;omega
 cases x<;>simp [rI,onI,hc])
noncomputable def yR (K:W.Frag):V->Option Int->Option Int->Hp->VK->Prop:=fun x lo hi H Q=>onR x fun a=>∃xs,SqL K H a xs/\∀p,H p=none->Q (.ref p) (upd H p (.lst (tR xs lo hi)))
theorem As (K:W.Frag):Dx K=yR K:=funext fun x=>funext fun lo=>funext fun hi=>ceq fun _ _=>oW
noncomputable def DT (K:W.Frag):V->Option Int->Option Int->Hp->VK->Prop:=fun x lo hi H Q=>onR x fun a=>∃xs,SqT K H a xs/\¬(HT.sIx xs.length 0 lo=0/\HT.sIx xs.length xs.length hi=xs.length)/\∀p,H p=none->Q (.ref p) (upd H p (.tup (tR xs lo hi)))
noncomputable def yS:R2:=fun x y H Q=>onR x fun l=>onR y fun b=>∃xs,H l=some (.lst xs)/\∃zs,H b=some (.lst zs)/\xs.length+zs.length<=sizeLine/\∀p,H p=none->Q (.ref p) (upd H p (.lst (xs++zs)))
theorem Au:Dy=yS:=funext fun x=>funext fun y=>ceq fun H Q=>⟨fun ⟨l,b,xs,zs,e,f,h1,h2,h3⟩=>by subst e f;exact ⟨xs,h1,zs,h2,h3⟩,fun h=>let ⟨l,e,h⟩:=jB h;let ⟨b,f,xs,h1,zs,h2,h3⟩:=jB h;⟨l,b,xs,zs,e,f,h1,h2,h3⟩⟩
noncomputable def Cw:R2:=fun x y H Q=>onR x fun a=>onR y fun b=>∃xs,H a=some (.tup xs)/\∃ys,H b=some (.tup ys)/\xs.length+ys.length<=1000/\∀p H',aw H H'->H' p=some (.tup (xs++ys))->Q (.ref p) H'
noncomputable def Cy (K:W.Frag):R2:=fun x y H Q=>onR x fun a=>onR y fun b=>∃xs,SqT K H a xs/\∃ys,SqT K H b ys/\xs.length+ys.length<=1000/\∀p H',aw H H'->SqT K H' p (xs++ys)->Q (.ref p) H'
noncomputable def xn (K:W.Frag)(neg:Bool):R2:=fun x y H Q=>onR y fun p=>∃xs,(SqL K H p xs\/SqT K H p xs)/\bC x=true/\xs.all bC=true/\Q (.bl (if neg=true then !inV x xs else inV x xs)) H
theorem yT (K:W.Frag)(neg:Bool):rIn K neg=xn K neg:=funext fun x=>funext fun y=>ceq fun H Q=>by cases y<;>simp [rIn,xn,onR]
theorem DU {b c:Bool}:(if true=true then b else c)=b:=rfl
theorem DV {b c:Bool}:(if false=true then b else c)=c:=rfl
noncomputable def vo (ta:TA):TI:=fun σ H R=>ta σ H fun vs H1=>onC vs fun v r=>onC r fun u r2=>onN r2 (onI v fun i=>onI u fun j=>(-(2 ^ 62)<=i/\i < 2 ^ 62/\-(2 ^ 62)<=j/\j < 2 ^ 62)/\R (Itr i (j - i).toNat) H1)
theorem rq {vs:List V}{P:Int->Int->Prop}:(∃i j,vs=[.int i,.int j]/\P i j)↔onC vs fun v r=>onC r fun u r2=>onN r2 (onI v fun i=>onI u fun j=>P i j):=by
 constructor
 ·rintro ⟨i,j,rfl,h⟩;exact h
 ·intro h
  rcases vs with _ | ⟨y,_ | ⟨z,_ | ⟨u,vs⟩⟩⟩
  ·exact h.elim
  ·exact h.elim
  ·cases y<;>cases z<;>first | exact ⟨_,_,rfl,h⟩ | exact h.elim
  ·exact h.elim
theorem yU (ta:TA):A8 ta=vo ta:=funext fun σ=>funext fun H=>funext fun R=>congrArg (ta σ H) (ceq fun vs H1=>rq)
noncomputable def DW (K:W.Frag)(tl:TE):TI:=fun σ H R=>tl σ H fun x H1=>onR x fun a=>(∃xs,SqT K H1 a xs)/\R (Itt K a) H1
noncomputable def vp (K:W.Frag)(te:TE):TI:=fun σ H R=>te σ H fun x H1=>onR x fun a=>(∃xs,SqL K H1 a xs)/\R (Ite K a) H1
theorem yV (K:W.Frag)(te:TE):Bk K te=vp K te:=funext fun σ=>funext fun H=>funext fun R=>congrArg (te σ H) (ceq fun _ _=>sr)
noncomputable def yW (K:W.Frag)(ta tb:TE):TI:=fun σ H R=>ta σ H fun x H1=>tb σ H1 fun y H2=>onR x fun a=>onR y fun b=>(∃xs,SqL K H2 a xs)/\(∃ys,SqL K H2 b ys)/\R (Itz K a b) H2
theorem Av (K:W.Frag)(ta tb:TE):DE K ta tb=yW K ta tb:=funext fun σ=>funext fun H=>funext fun R=>congrArg (ta σ H) (funext fun x=>funext fun H1=>congrArg (tb σ H1) (ceq fun y H2=>⟨fun ⟨a,b,e,f,h⟩=>by subst e f;exact h,fun h=>let ⟨a,e,h⟩:=jB h;let ⟨b,f,h⟩:=jB h;⟨a,b,e,f,h⟩⟩))
noncomputable def Aw:V->List V->Hp->VK->Prop:=fun x vs H Q=>onR x fun l=>onN vs (∃xs,H l=some (.lst xs)/\Q .non (upd H l (.lst [])))
noncomputable def DY:V->List V->Hp->VK->Prop:=fun x vs H Q=>onR x fun l=>onN vs (∃xs,H l=some (.lst xs)/\∃y,xs[xs.length - 1]?=some y/\Q y (upd H l (.lst xs.dropLast)))
noncomputable def yX:V->List V->Hp->VK->Prop:=fun x vs H Q=>onR x fun l=>onC vs fun v r=>onN r (onR v fun b=>∃xs,H l=some (.lst xs)/\∃zs,H b=some (.lst zs)/\xs.length+zs.length<=sizeLine/\Q .non (upd H l (.lst (xs++zs))))
noncomputable def Ax:List V->Hp->VK->Prop:=fun vs H Q=>onC vs fun v r=>onN r (onI v fun i=>Q (.int (if i < 0 then -i else i)) H)
theorem Ay (t:TA):tCB (fun xs H Q=>∃i,xs=[.int i]/\Q (.int (if i < 0 then -i else i)) H) t=tCB Ax t:=by
 refine congrArg (fun r=>tCB r t) (funext fun vs=>ceq fun H Q=>?_)
 rcases vs with _ | ⟨y,_ | ⟨z,vs⟩⟩<;>(try cases y)<;>simp [Ax,onI,onC,onN]
noncomputable def yY:List V->Hp->VK->Prop:=fun vs H Q=>onC vs fun v r=>onC r fun u r2=>onN r2 (onI v fun i=>onI u fun j=>Q (.int (if j < i then j else i)) H)
theorem yZ (t:TA):tCB (fun xs H Q=>∃i j,xs=[.int i,.int j]/\Q (.int (if j < i then j else i)) H) t=tCB yY t:=by
 refine congrArg (fun r=>tCB r t) (funext fun vs=>ceq fun H Q=>?_)
 exact rq
noncomputable def Cz (K:W.Frag):List V->Hp->VK->Prop:=fun vs H Q=>onC vs fun v r=>onN r (onR v fun p=>∃ys,(SqL K H p ys/\∀l,H l=none->Q (.ref l) (upd H l (.tup ys)))\/(SqT K H p ys/\Q (.ref p) H))
def Az (v:V)(P:Int->Prop):Prop:=match v with | .int i=>P i | .bl k=>P (if k=true then 1 else 0) | _=>False
theorem y0 (i:Int)(P:Int->Prop):Az (.int i) P=P i:=rfl
theorem AA (k:Bool)(P:Int->Prop):Az (.bl k) P=P (if k=true then 1 else 0):=rfl
noncomputable def wF:List V->Hp->VK->Prop:=fun vs H Q=>onC vs fun v r=>onN r (Az v fun i=>Q (.int i) H)
theorem y1 (t:TA):tCB (fun xs H Q=>(∃i,xs=[.int i]/\Q (.int i) H)\/∃k,xs=[.bl k]/\Q (.int (if k=true then 1 else 0)) H) t=tCB wF t:=by
 refine congrArg (fun r=>tCB r t) (funext fun vs=>ceq fun H Q=>?_)
 rcases vs with _ | ⟨y,_ | ⟨z,vs⟩⟩<;>(try cases y)<;>simp [wF,onC,onN,Az]
noncomputable def y3 (ta:TE):TT:=fun σ H Q=>ta σ H fun x H1=>if x=.non then Q true H1 else Q false H1
theorem y4 (ta:TE):jt (tOp (fun x y H Q=>y=.non/\Q (.bl (decide (x=.non))) H) ta (tC .non))=y3 ta:=funext fun σ=>funext fun H=>funext fun Q=>congrArg (ta σ H) (ceq fun x H1=>by
 refine Iff.trans ?_ (iff_of_eq (vd (p:=x=.non) (Q:=fun b=>Q b H1)))
 exact ⟨fun ⟨_,k,e,q⟩=>by cases e;exact q,fun q=>⟨rfl,_,rfl,q⟩⟩)
noncomputable def vq (ta:TE):TT:=fun σ H Q=>ta σ H fun x H1=>if ¬x=.non then Q true H1 else Q false H1
theorem AB {p:Prop}[Decidable p]{Q:Bool->Prop}:Q (!decide p)=if ¬p then Q true else Q false:=by
 by_cases h:p
 ·rw [if_neg (fun z=>z h),decide_eq_true h];rfl
 ·rw [if_pos h,decide_eq_false h];rfl
theorem xo (ta:TE):jt (tOp (fun x y H Q=>y=.non/\Q (.bl (!decide (x=.non))) H) ta (tC .non))=vq ta:=funext fun σ=>funext fun H=>funext fun Q=>congrArg (ta σ H) (ceq fun x H1=>by
 refine Iff.trans ?_ (iff_of_eq (AB (p:=x=.non) (Q:=fun b=>Q b H1)))
 exact ⟨fun ⟨_,k,e,q⟩=>by cases e;exact q,fun q=>⟨rfl,_,rfl,q⟩⟩)
theorem mV {K:W.Frag}{l:Addr}{ls:List Ld}{te:TE}{cm:List (Option Nat)}{σ:St}{H:Hp}{Q:VK}(f:Ld->V)(hL:dr K H l ls)(hn:ls.length<=sizeLine)(hcm:bE cm σ=[none,none,none])
  (he:∀x∈ls,∀N:VK,N (f x) H->te [some (.str x.1),some (.int x.2.1),some (.int x.2.2)] H N)
  (hd:∀p,H p=none->Q (.ref p) (upd H p (.lst (ls.map f)))):nG (Itl K l) (nI K 3 (mU (dZ 0) (mU (dZ 1) (mU (dZ 2) wz)))) qq te cm σ Q H:=by
 rw [←wx,←wA,←lU,←lU,←lU]
 exact yt f hL hn hcm he hd
noncomputable def CA (K:W.Frag):R2:=fun x y H Q=>onR x fun l=>onI y fun k=>∃v,SqT K H l [v]/\2<=k/\k<=100/\∀p,H p=none->Q (.ref p) (upd H p (.tup (List.replicate k.toNat v)))
noncomputable def DZ:R2:=fun x y H Q=>onR x fun l=>onI y fun k=>∃xs,H l=some (.lst xs)/\-(2 ^ 63)<=k/\k < 2 ^ 63/\xs.length * k.toNat<=sizeLine/\∀p,H p=none->Q (.ref p) (upd H p (.lst (List.replicate k.toNat xs).flatten))
end
noncomputable def Ea (i j:Nat)(ta:TA):TS:=fun D σ H=>ta σ H fun vs H1=>onC vs fun v r=>onC r fun w r2=>onN r2 (D.nx ((σ.set i (some v)).set j (some w)) H1)
noncomputable def wG (K:W.Frag):R2:=fun x y H Q=>onR x fun a=>onR y fun b=>∃xs,SqL K H a xs/\∃ys,SqL K H b ys/\xs.all bC=true/\ys.all bC=true/\Q (.bl (!eqL xs ys)) H
theorem AD (K:W.Frag):Cc K=wG K:=funext fun x=>funext fun y=>ceq fun H Q=>by cases x<;>cases y<;>simp [Cc,wG,onR]
noncomputable def wH (K:W.Frag):R2:=fun x y H Q=>onR x fun a=>onR y fun b=>∃xs,SqL K H a xs/\∃ys,SqL K H b ys/\xs.all bC=true/\ys.all bC=true/\Q (.bl (eqL xs ys)) H
theorem AE (K:W.Frag):B5 K=wH K:=funext fun x=>funext fun y=>ceq fun H Q=>by cases x<;>cases y<;>simp [B5,wH,onR]
theorem wI {xs:List V}:eqL xs []=decide (xs=[]):=by cases xs<;>simp [eqL]
theorem Eb {b:Bool}{A B:Prop}(h:if b=false then A else B):if (!b)=true then A else B:=by cases b<;>exact h
theorem lR.cd {g:Cfg}(hg:lR g){l:Int}(h0:0<=l)(h1:l < g.ds.length):c7 (bJ g.ls l):=by
 have hl:=hg.lc
 have hi:l.toNat < g.ls.length:=by omega
 unfold bJ
 rw [List.getD_eq_getElem?_getD,List.getElem?_eq_getElem hi]
 exact hg.gc _ (List.getElem_mem hi)
theorem vt {g:Cfg}{n:a6}{l:Int}(h0:0<=l)(h1:l < g.ds.length)(h:n.gates.getD l.toNat false=false):eH g n (.opn l)=none:=(if_neg (fun z=>z ⟨h0,h1⟩)).trans (if_neg (by rw [h];decide))
theorem vv {g:Cfg}{n:a6}{l:Int}(h0:0<=l)(h1:l < g.ds.length)(h:n.gates.getD l.toNat false=true):eH g n (.sht l)=none:=(if_neg (fun z=>z ⟨h0,h1⟩)).trans (if_neg (by rw [h];decide))
theorem ug {g:Cfg}{n:a6}{l s:Int}(h0:0<=l)(h1:l < g.ds.length)(h:n.fs.getD l.toNat false=false)(hs:s=(bJ g.ls l).1\/s=(bJ g.ls l).2):eH g n (.ring l s)=none:=(if_neg (fun z=>z ⟨h0,h1⟩)).trans ((if_neg (by rw [h];decide)).trans (if_pos hs))
theorem uh {g:Cfg}{n:a6}{l r s:Int}(h:n.e=.wait l r)(h1:1<=s)(h2:s<=9):eH g n (.rept s)=none:=by
 simp only [eH,h]
 exact if_pos ⟨h1,h2⟩
theorem ui {g:Cfg}{n:a6}{c l:Int}{k:Str}(h0:0<=l)(h1:l < g.ds.length)(h:fL g n=false)(he:n.e=.armed l (bO g.ls l k)):eH g n (.wind c l k)=none:=(if_neg (fun z=>z ⟨h0,h1⟩)).trans ((if_neg (by rw [h];decide)).trans (if_pos he))
theorem qs {g:Cfg}{n:a6}{c l:Int}(h:10+c∈n.ws)(hl:bz g.ds n.place c=some l)(ho:n.gates.getD l.toNat false=true):eH g n (.unload c)=none:=by
 refine (if_neg (fun z=>z h)).trans ?_
 rw [hl]
 exact if_pos ho
theorem uj {g:Cfg}{n:a6}{k c l:Int}(h0:0<=k)(h1:k < n.ws.length)(hl:bz g.ds n.place c=some l)(hk:n.ws.getD k.toNat 0=l)(hc:¬10+c∈n.ws)(ho:n.gates.getD l.toNat false=true):eH g n (.load k c)=none:=by
 refine (if_neg (fun z=>z ⟨h0,h1⟩)).trans ?_
 rw [hl]
 exact (if_neg (fun z=>z hk)).trans ((if_neg hc).trans (if_pos ho))
theorem CB {pl:Int}{ds:List Int}{c:Int}:¬(bz ds pl c).getD (-1) < 0->∃l,bz ds pl c=some l/\(bz ds pl c).getD (-1)=l:=by
 intro h
 cases e:bz ds pl c with
 | none=>rw [e] at h;exact absurd (by decide) h
 | some l=>exact ⟨l,rfl,rfl⟩
structure uk (ds:List Int)(ls:List Cd)(slow fast:Int)(lds:List Ld):Prop where
 sh:bG ds
 ln:ls.length=ds.length
 gd:∀x∈ls,c7 x
 sp:1<=slow/\slow<=fast/\fast<=500
 l30:lds.length<=30
 gl:∀x∈lds,jy (ds.length:Nat) x
theorem uk.cfg {ds:List Int}{ls:List Cd}{slow fast:Int}{lds:List Ld}(h:uk ds ls slow fast lds)(N:Addr->Prop):lR (bb ds ls slow fast lds N):=Ca h.sh h.ln h.gd h.sp h.l30
theorem uk.snap {ds:List Int}{ls:List Cd}{slow fast:Int}{lds:List Ld}(h:uk ds ls slow fast lds)(N:Addr->Prop):jA (bb ds ls slow fast lds N) (aH ds ls lds):=z5 h.sh h.ln h.gl
noncomputable def Ec (K:W.Frag):R2:=fun x y H Q=>onR x fun a=>onR y fun b=>∃xs,SqL K H a xs/\∃ys,SqL K H b ys/\xs.length≠ys.length/\Q (.bl false) H
def DI (K:W.Frag)(x:Str)(st:Stmt):Prop:=∃f fd,W.nsIn K mainGlobals x=some (some (.ref f))/\Fun K x x st f fd
theorem DI.mk {K:W.Frag}{x:Str}{st:Stmt}{f:Addr}{oc:Value}{od an:Option Addr}{osl:Array (Option Value)}{kV doc pm cdv ct:Value}(a:W.nsIn K mainGlobals x=some (some (.ref f)))(l:K.lookup f=some ⟨oc,od,.func (W.fnOf x x (cE st) (bI st) (aj st) .none kV doc pm an cdv ct),osl⟩)
  (c:W.codeIn K cdv x=true) (k:W.keepIn K (.ref f)=true):DI K x st:=⟨f,_,a,u0 l c k⟩
def MI (K:W.Frag)(C:Addr)(m q:Str)(st:Stmt):Prop:=∃f fd,uR K C m f/\Fun K m q st f fd
theorem MI.mk {K:W.Frag}{C:Addr}{m q:Str}{st:Stmt}{f:Addr}{oc:Value}{od an:Option Addr}{osl:Array (Option Value)}{kV doc pm cdv ct:Value}(a:W.findIn K (.ref C) m=some (some (.ref f)))(fn:W.isFn K (.ref f)=true)(l:K.lookup f=some ⟨oc,od,.func (W.fnOf m q (cE st) (bI st) (aj st) .none kV doc pm an cdv ct),osl⟩)
  (c:W.codeIn K cdv q=true) (k:W.keepIn K (.ref f)=true):MI K C m q st:=⟨f,_,⟨a,fn,k⟩,u0 l c k⟩
def II (K:W.Frag)(C:Addr)(q:Str)(st:Stmt):Prop:=∃f fd,Mk K C f/\Fun K "__init__" q st f fd
theorem II.mk {K:W.Frag}{C:Addr}{q:Str}{st:Stmt}{f:Addr}{oc:Value}{od an:Option Addr}{osl:Array (Option Value)}{kV doc pm cdv ct:Value}(a:W.findIn K (.ref C) "__init__"=some (some (.ref f)))(fn:W.isFn K (.ref f)=true)(mk:W.makesIn K C=true)(kc:W.keepIn K (.ref C)=true)(l:K.lookup f=some ⟨oc,od,.func (W.fnOf "__init__" q (cE st) (bI st) (aj st) .none kV doc pm an cdv ct),osl⟩)
  (c:W.codeIn K cdv q=true) (k:W.keepIn K (.ref f)=true):II K C q st:=⟨f,_,⟨mk,a,fn,kc⟩,u0 l c k⟩
def C0I (K:W.Frag)(C0:Addr):Prop:=∃(c0 c2:Value) (dd0 d2:Option Addr) (cd0:ClassData) (sl0 sl2:Array (Option Value)) (es0:Array DictEntry) (ep0:Nat),K.lookup C0=some ⟨c0,dd0,.cls cd0,sl0⟩/\K.lookup cd0.ns=some ⟨c2,d2,.dict es0 ep0,sl2⟩/\kb es0=true/\(quietNames.all fun n=>(nsFind es0 n).isNone)=true
theorem C0I.mk {K:W.Frag}{C0 N0:Addr}{c0 c2:Value}{dd0 d2:Option Addr}{cd0:ClassData}{sl0 sl2:Array (Option Value)}{es0:Array DictEntry}{ep0:Nat}(l0:K.lookup C0=some ⟨c0,dd0,.cls cd0,sl0⟩)(e0:cd0.ns=N0)(lN0:K.lookup N0=some ⟨c2,d2,.dict es0 ep0,sl2⟩)(kN0:kb es0=true)(iN0:(quietNames.all fun n=>(nsFind es0 n).isNone)=true):C0I K C0:=
 ⟨c0,c2,dd0,d2,cd0,sl0,sl2,es0,ep0,l0,e0▸lN0,kN0,iN0⟩
def XI (K:W.Frag)(C0 C:Addr):Prop:=C0I K C0->ExI K C
theorem XI.mk {K:W.Frag}{C N C0:Addr}{nm q:Str}{bs:List Value}{hdct:Bool}{sn:List Str}{sub:List Value}{ab:Bool}{col:Option Bool}{dd:Option Addr}{k0 k1 k2 k3 k5:Option Value}{c1:Value}{d1:Option Addr}{es:Array DictEntry}{ep:Nat}{sl1:Array (Option Value)}
  (lC:K.lookup C=some (excClassObj nm q C N bs [.ref C0,.type "ValueError",.type "Exception",.type "BaseException",.type "object"] hdct sn sub ab col dd k0 k1 k2 k3 k5 "ValueError.__new__"))
  (lN:K.lookup N=some ⟨c1,d1,.dict es ep,sl1⟩) (kN:kb es=true) (iN:(quietNames.all fun n=>(nsFind es n).isNone)=true) (ca:W.findIn K (.ref C) "__class__"=some (some (.builtin "object.__class__"))) (mo:W.mroIn K C (.type "object")=some true):XI K C0 C:=by
 rintro ⟨c0,c2,dd0,d2,cd0,sl0,sl2,es0,ep0,l0,lN0,kN0,iN0⟩
 exact ⟨B3 lC lN kN iN l0 rfl lN0 kN0 iN0,ca,mo⟩
def NI (K:W.Frag)(x:Str)(a:Addr):Prop:=W.nsIn K mainGlobals x=some (some (.ref a))
def KI (K:W.Frag)(x:Str)(v:Int):Prop:=∃tk,W.nsIn K mainGlobals x=some (some (.int v tk))
theorem KI.mk {K:W.Frag}{x:Str}{v:Int}{tk:Tok}(h:W.nsIn K mainGlobals x=some (some (.int v tk))):KI K x v:=⟨tk,h⟩
theorem KI.txt {K:W.Frag}{h:Heap}{mg:Str->Option Value}{x:Str}{v:Int}(X:K.In h)(G:h.Ns mainGlobals mg)(k:KI K x v):∃u,mg x=some u/\bf (.int v) u:=let ⟨_,k⟩:=k;⟨_,W.mg_of X G k,⟨_,rfl⟩⟩
theorem dO {H H1:Hp}{p:Addr}{o:HO}(e:upd H p o=H1)(h:H p=none):aw H H1:=e▸(aw.refl H).lay h
theorem cn {H H1:Hp}{p:Addr}{o:HO}(e:upd H p o=H1):H1 p=some o:=e▸ah
theorem seg {X:Cx}{b:List Stmt}{R:TS->Prop}(j:Nat){t:TS}(h:PSs X (b.drop j) t)(k:∀t',PSs X (b.drop j) t'->t'=t->∃u,PSs X b u/\R u):∃u,PSs X b u/\R u:=k t h rfl
theorem iP {t t':TS}(e:t=t'){D:kQ}{σ:St}{H:Hp}(h:t' D σ H):t D σ H:=e▸h
theorem aN {N P:List Str}{sc:Scope}(kind:sc.kind=.function:=by rfl)(co:sc.isCoroutine=false:=by rfl)(gen:sc.isGenerator=false:=by rfl)(nd:N.Nodup:=by decide +kernel)(pre:N.take P.length=P:=by rfl)(par:∀x∈P,sc.names.lookup x=some .local\/sc.names.lookup x=some .cell:=by decide +kernel)(nofree:∀y∈sc.names,y.2≠.free:=by decide +kernel):au N P sc:=⟨kind,co,gen,nd,pre,par,nofree⟩
section
variable {K:W.Frag}{x qual:Str}{st:Stmt}{f:Addr}{fd:FuncData}{ps:List Str}
theorem Fun.b0 (F:Fun K x qual st f fd)(hl:ps.length=0:=by rfl)(h:∀(kV doc pm:Value) (an:Option Addr) (cdv ct:Value),bindArgs (W.fnOf x qual (cE st) (bI st) (aj st) .none kV doc pm an cdv ct) ⟨[],[]⟩=pure (ps.zip []):=by intros;rfl):cS K fd ps []:=F.binds fun kV doc pm an cdv ct us e=>match us,e.trans hl with | [],_=>h kV doc pm an cdv ct
theorem Fun.b1 (F:Fun K x qual st f fd)(hl:ps.length=1:=by rfl)(h:∀(kV doc pm:Value) (an:Option Addr) (cdv ct:Value) (a0:Value), bindArgs (W.fnOf x qual (cE st) (bI st) (aj st) .none kV doc pm an cdv ct) ⟨[a0],[]⟩=pure (ps.zip [a0]):=by intros;rfl):cS K fd ps []:=F.binds fun kV doc pm an cdv ct us e=>match us,e.trans hl with | [a0],_=>h kV doc pm an cdv ct a0
theorem Fun.b2 (F:Fun K x qual st f fd)(hl:ps.length=2:=by rfl)(h:∀(kV doc pm:Value) (an:Option Addr) (cdv ct:Value) (a0 a1:Value), bindArgs (W.fnOf x qual (cE st) (bI st) (aj st) .none kV doc pm an cdv ct) ⟨[a0,a1],[]⟩=pure (ps.zip [a0,a1]):=by intros;rfl):cS K fd ps []:=F.binds fun kV doc pm an cdv ct us e=>match us,e.trans hl with | [a0,a1],_=>h kV doc pm an cdv ct a0 a1
theorem Fun.b3 (F:Fun K x qual st f fd)(hl:ps.length=3:=by rfl)(h:∀(kV doc pm:Value) (an:Option Addr) (cdv ct:Value) (a0 a1 a2:Value), bindArgs (W.fnOf x qual (cE st) (bI st) (aj st) .none kV doc pm an cdv ct) ⟨[a0,a1,a2],[]⟩=pure (ps.zip [a0,a1,a2]):=by intros;rfl):cS K fd ps []:=F.binds fun kV doc pm an cdv ct us e=>match us,e.trans hl with | [a0,a1,a2],_=>h kV doc pm an cdv ct a0 a1 a2
theorem Fun.b4 (F:Fun K x qual st f fd)(hl:ps.length=4:=by rfl)(h:∀(kV doc pm:Value) (an:Option Addr) (cdv ct:Value) (a0 a1 a2 a3:Value), bindArgs (W.fnOf x qual (cE st) (bI st) (aj st) .none kV doc pm an cdv ct) ⟨[a0,a1,a2,a3],[]⟩=pure (ps.zip [a0,a1,a2,a3]):=by intros;rfl):cS K fd ps []:=F.binds fun kV doc pm an cdv ct us e=>match us,e.trans hl with | [a0,a1,a2,a3],_=>h kV doc pm an cdv ct a0 a1 a2 a3
theorem Fun.b5 (F:Fun K x qual st f fd)(hl:ps.length=5:=by rfl)(h:∀(kV doc pm:Value) (an:Option Addr) (cdv ct:Value) (a0 a1 a2 a3 a4:Value), bindArgs (W.fnOf x qual (cE st) (bI st) (aj st) .none kV doc pm an cdv ct) ⟨[a0,a1,a2,a3,a4],[]⟩=pure (ps.zip [a0,a1,a2,a3,a4]):=by intros;rfl):cS K fd ps []:=F.binds fun kV doc pm an cdv ct us e=>match us,e.trans hl with | [a0,a1,a2,a3,a4],_=>h kV doc pm an cdv ct a0 a1 a2 a3 a4
theorem Fun.b6 (F:Fun K x qual st f fd)(hl:ps.length=6:=by rfl)(h:∀(kV doc pm:Value) (an:Option Addr) (cdv ct:Value) (a0 a1 a2 a3 a4 a5:Value), bindArgs (W.fnOf x qual (cE st) (bI st) (aj st) .none kV doc pm an cdv ct) ⟨[a0,a1,a2,a3,a4,a5],[]⟩=pure (ps.zip [a0,a1,a2,a3,a4,a5]):=by intros;rfl):cS K fd ps []:=F.binds fun kV doc pm an cdv ct us e=>match us,e.trans hl with | [a0,a1,a2,a3,a4,a5],_=>h kV doc pm an cdv ct a0 a1 a2 a3 a4 a5
end
theorem cL.dn {j k:Nat}{A:Around}(r:cL k A)(h:j<=k:=by decide):cL j A:=r.mono h
theorem aQ {X:Cx}{a b:Expr}{ta tb:TE}{pos:Pos}{r:R2}(hr:IxR X r)(ha:PE X a ta)(hb:PE X b tb)(hs:v3 b:=by intro _ _;rfl):PE X (.Subscript a b pos) (tOp r ta tb):=Dv hr ha hb hs
theorem orL {α:Type}{a b:α}{p:Prop}(h:a=b:=by rfl):a=b\/p:=.inl h
theorem xp {w s:Int}(hs:1<=s):w<=s * mR w s:=by
 unfold mR
 have h1:=Int.mul_ediv_add_emod (w+s - 1) s
 have h2:=Int.emod_lt_of_pos (w+s - 1) (show 0 < s by omega)
 omega
termination_by rs.length
decreasing_by all_goals (subst_vars;simp)
theorem lV {x y:V}(hx:bC x=true)(hy:bC y=true):∀z∈[x,y],bC z=true:=by
 intro z hz
 simp only [List.mem_cons,List.not_mem_nil,or_false] at hz
 rcases hz with rfl | rfl<;>assumption
section
variable {X:Cx}
noncomputable def Ed (K:W.Frag)(C:Addr)(tb:XT->TS)(th:TS):TS:=fun D σ H=>
 tb (fun cls σ' H'=>W.exmOne K cls (.ref C)=some true/\th D σ' H') D σ H
end
theorem EL {A B:Prop}(h:B):if true=false then A else B:=by rw [if_neg (by decide)];exact h
theorem EM {A B:Prop}(h:A):if false=false then A else B:=by rw [if_pos rfl];exact h
theorem um {g:Cfg}{n:a6}(h:∀i:Nat,n.gates.getD i false=false):fL g n=false:=by
 unfold fL
 rw [List.any_eq_false]
 intro x _
 rw [h]
 decide
section
variable {X:Cx}
noncomputable def Ee (K:W.Frag):List V->Hp->VK->Prop:=fun xs H Q=>∃(p:Addr) (ns:List Int),xs=[.ref p]/\SqT K H p (ns.map V.int)/\Q (.int ns.sum) H
end
noncomputable def Its (lo st:Int)(n:Nat):It:=⟨fun i _=>i < n,fun i H x H'=>H'=H/\x=.int (lo+i * st),fun i _=>n<=i⟩
theorem vw {P:Program}{w:World}{K:W.Frag}{tg:Expr}(it:Addr)(lo c:Int)(n:Nat):wN P w K tg (Its lo c n) [it] it (fun i h=>IsRangeIter h it (lo+(i:Nat) * c) ((n:Int) - (i:Nat)) c) where
 mem:=by simp
 obj:=fun i h st b hb=>by
  have e:b=it:=by simpa using hb
  subst e
  exact ⟨_,st,fun v z=>by
   have z':Data.fields _=Data.cell v:=z
   cases z'⟩
 keep:=fun i h h' st k=>k it (by simp) _ st
 item:=by
  intro X hP hw hK hc i pins s σ H E I hf st hg
  subst hP hw hK
  obtain ⟨f0,f1,f2,f3,f4,f5⟩:=hf it (by simp)
  have W:=Walks.range (prog:=X.prog) (w:=X.w) (I.ok.hd hc) it lo c n
  refine W.item i s _ _ hg st fun v h' tk hv st' kk=>?_
  obtain ⟨t,rfl⟩:=hv
  have I1:Inv X pins σ H {s with heap:=h',toks:=tk}:=I.turned (fun b o hb e=>kk b o (by simpa using hb) e) f0 f1 f3 f4 f5
  refine ⟨_,rfl,xK (s:={s with heap:=h',toks:=tk}) (n:="range_iterator") st' rfl rfl (by decide) ⟨.int (lo+i * c),H,I1,⟨t,rfl⟩,⟨rfl,rfl⟩,st',fun b hb=>(hf b hb).1⟩⟩
 done:=by
  intro X hP hw hK hc i pins s σ H E I hf st hg
  subst hP hw hK
  obtain ⟨f0,f1,f2,f3,f4,f5⟩:=hf it (by simp)
  exact wpAny_pyNext_range_end (I.ok.hd hc) st (by have:n<=i:=hg;omega) fun h' eb=>⟨rfl,I.turned (t':=s.toks) (fun b o hb e=>eb b o hb e) f0 f1 f3 f4 f5⟩
 self:=fun _ _ _ _ _ st h=>wpAny_pyIter_rangeiter st h
structure uo (i j c:Int)(n:Nat):Prop where
 nz:c≠0
 sm:Builtin.Range.small i j c=true
 sz:Builtin.Range.rangeSize i j c=n
 np:Builtin.divisionGoesByPylong (j - i) c=false
theorem uq {i:Int}(h0:-200000<=i)(h1:i<=200000):Builtin.Range.rangeFitsLong i=true:=by
 unfold Builtin.Range.rangeFitsLong
 rw [Bool.and_eq_true]
 exact ⟨decide_eq_true (by omega),decide_eq_true (by omega)⟩
theorem uo.two {m:Nat}(h:m<=100000):uo 0 (m:Int) 2 ((m+1) / 2):=by
 have sz:Builtin.Range.rangeSize 0 (m:Int) 2=((m+1) / 2:Nat):=by
  unfold Builtin.Range.rangeSize
  rw [if_pos (by decide)]
  split<;>omega
 refine ⟨by decide,?_,sz,PyProof.noPylong_small (by omega)⟩
 unfold Builtin.Range.small
 rw [sz,uq (by omega) (by omega),uq (by omega) (by omega),uq (by omega) (by omega),if_pos (by decide),uq (by omega) (by omega),uq (by omega) (by omega),Bool.or_true]
 rfl
section
variable {X:Cx}{tg:Expr}
theorem xq {pins:List (Addr×Obj)}{σ:St}{H:Hp}{s:Shared}{R:It->Hp->Prop}{E:Value->Shared->Prop}{lo hi c:Int}{n:Nat}{t u v:Tok}{tk:Nat}(I:Inv X pins σ H s)(r:uo lo hi c n)
  (q:R (Its lo c n) H):wpAny (model X.prog X.w) X.A (pyIter (.ref s.heap.objs.size)) (PIE X pins σ tg R) E {s with heap:=s.heap.push {cls:=.type "range",data:=.fields #[.int lo t,.int hi u,.int c v]},toks:=tk}:=by
 refine wpAny_pyIter_range (IsRange.new ..) r.sm ?_
 have I1:Inv X pins σ H {s with heap:=s.heap.push {cls:=.type "range",data:=.fields #[.int lo t,.int hi u,.int c v]},toks:=tk}:=I.kept fun b o e=>Heap.get?_push_of_some _ e
 refine ⟨(s.heap.push {cls:=.type "range",data:=.fields #[.int lo t,.int hi u,.int c v]}).objs.size,[(s.heap.push {cls:=.type "range",data:=.fields #[.int lo t,.int hi u,.int c v]}).objs.size],_,_,H,rfl,
  I1.kept (t':=tk) fun b o e=>Heap.get?_push_of_some _ e,vw _ lo c n,?_,fun b hb=>?_,q⟩
 ·have e1:lo+((0:Nat):Int) * c=lo:=by simp
  have e2:(n:Int) - ((0:Nat):Int)=Builtin.Range.rangeSize lo hi c:=by rw [r.sz];omega
  show IsRangeIter _ _ (lo+((0:Nat):Int) * c) ((n:Int) - ((0:Nat):Int)) c
  rw [e1,e2]
  exact Heap.get?_push_size _ rfl
 ·have e:b=(s.heap.push {cls:=.type "range",data:=.fields #[.int lo t,.int hi u,.int c v]}).objs.size:=by simpa using hb
  subst e
  exact I1.fpOk (Nat.le_refl _) (I1.hok.fresh (Nat.le_refl _))
noncomputable def Bn (ta:TA):TI:=fun σ H R=>ta σ H fun vs H1=>∃(i j c:Int) (n:Nat),vs=[.int i,.int j,.int c]/\uo i j c n/\R (Its i c n) H1
theorem xr {a b c:Expr}{ta:TA}{p pos:Pos}(hg:Gl X "range")(hm:X.mg "range"=none)(ha:PA X [a,b,c] ta)(hs:starEach [a,b,c] X.env=[(false,eval a X.env),(false,eval b X.env),(false,eval c X.env)]:=by rfl)(hs2:starEach [b,c] X.env=[(false,eval b X.env),(false,eval c X.env)]:=by rfl) :
  PI X tg (.Call (.Name "range" p) [a,b,c] [] pos) (Bn ta):=by
 intro pins s σ H R I h
 refine Call_ (js I hg hm boot_range (PyProof.Rows.callWith_type1 (thn (ha pos pins s σ H _ I h) fun us s1 ⟨vs,H1,I1,r1,q1⟩=>?_) (by rw [hs,hs2]) (by rw [hs2];rfl)))
 obtain ⟨i,j,k,n,e,r,q⟩:=q1
 subst e
 cases r1 with
 | cons r1 rr=>
  cases rr with
  | cons r2 rr=>
   cases rr with
   | cons r3 rr=>
    cases rr
    obtain ⟨t,rfl⟩:=r1
    obtain ⟨t',rfl⟩:=r2
    obtain ⟨t2,rfl⟩:=r3
    exact call_range_3 r.nz (xq I1 r q) (.inl r.np)
end
section
variable (P:Program)(w:World)(K:W.Frag)(mg:Str->Option Value)(base:Heap)(CX:CXT)(k:Nat)
def KD (x:Str)(sp:Sp):Prop:=∃f fd ps,mg x=some (.ref f)/\W.keepIn K (.ref f)=true/\cS K fd ps []/\fo P w K mg base CX k f fd ps sp
def KM (C:Addr)(m:Str)(sp:Sp):Prop:=∃f fd ps,Cls K C/\uR K C m f/\cS K fd ps []/\fo P w K mg base CX k f fd ps sp
def KN (C:Addr)(sp:Sp):Prop:=∃f fd ps,Mk K C f/\cS K fd ps []/\fo P w K mg base CX k f fd ps sp
def FF (x q:Str)(st:Stmt)(ps:List Str)(sp:Sp):Prop:=∀f fd,Fun K x q st f fd->fo P w K mg base CX k f fd ps sp
end
section
variable {P:Program}{w:World}{K:W.Frag}{mg:Str->Option Value}{base:Heap}{CX:CXT}{k:Nat}{x q m:Str}{st:Stmt}{ps N:List Str}{sp:Sp}{f C:Addr}{fd:FuncData}
theorem KD.mk (b:mg x=some (.ref f))(F:Fun K x q st f fd)(c:cS K fd ps [])(t:FF P w K mg base CX k x q st ps sp):KD P w K mg base CX k x sp:=⟨f,fd,ps,b,F.kp,c,t f fd F⟩
theorem KM.mk (d:Cls K C)(b:uR K C m f)(F:Fun K m q st f fd)(c:cS K fd ps [])(t:FF P w K mg base CX k m q st ps sp):KM P w K mg base CX k C m sp:=⟨f,fd,ps,d,b,c,t f fd F⟩
theorem KN.mk (b:Mk K C f)(F:Fun K "__init__" q st f fd)(c:cS K fd ps [])(t:FF P w K mg base CX k "__init__" q st ps sp):KN P w K mg base CX k C sp:=⟨f,fd,ps,b,c,t f fd F⟩
theorem fk0 (S:au N ps (aj st))(h:∀vs H Q E,sp vs H Q E->vs.length=ps.length/\∀(cdv:Value) (A:Around) (outer:List Env) (s:Shared) (f:Addr),cL k (A.deeper (envOfC q (aj st) s.heap.objs.size f cdv))->
   ∃t,PSs (qo CX0 P w K mg base N q (aj st) f cdv A outer s H E).nox (bI st) t/\t {nx:=fun _ H'=>Q .non H',rt:=Q} (jl N vs) H):FF P w K mg base CX0 (k+1) x q st ps sp:=
 fun f _ F=>F.ok S (fun vs H Q E y=>(h vs H Q E y).1) fun cdv A outer s H vs Q E hr y=>(h vs H Q E y).2 cdv A outer s f hr
theorem fkF (S:au N ps (aj st))(h:∀vs H Q E,sp vs H Q E->vs.length=ps.length/\∀(cdv:Value) (A:Around) (outer:List Env) (s:Shared) (f:Addr),cL k (A.deeper (envOfC q (aj st) s.heap.objs.size f cdv))->
   ∃t,PSs (cxF P w K mg base N q (aj st) f cdv A outer s H E) (bI st) t/\t {nx:=fun _ H'=>Q .non H',rt:=Q} (jl N vs) H):FF P w K mg base (CXf P w) (k+1) x q st ps sp:=
 fun f _ F=>F.okF S (fun vs H Q E y=>(h vs H Q E y).1) fun cdv A outer s H vs Q E hr y=>(h vs H Q E y).2 cdv A outer s f hr
theorem FF.calm (F:FF P w K mg base (CXf P w) k x q st ps sp)(h:∀vs H Q E,sp vs H Q E->sp vs H Q E0):FF P w K mg base CX0 k x q st ps sp:=fun f fd y=>(F f fd y).calm h
end
section
variable {X:Cx}{CX:CXT}{k:Nat}{C:Addr}{sp:Sp}{E:XK}{x m:Str}{p pos apos:Pos}{e o:Expr}{es:List Expr}{ta:TE}{t:TA}
theorem dc (D:KD X.prog X.w X.K X.mg X.base CX k x sp)(hr:cL k X.A)(hx:dM CX X E)(ha:PA X (e::es) t)(hg:Gl X x:=by rfl)(hdb:(x == ("__debug__":Str))=false:=by decide)
  (he:starEach (e::es) X.env=(false,eval e X.env)::starEach es X.env:=by rfl) (hpl:(backTo pos (starEach es X.env)).any (·.1)=false:=by rfl):PE X (.Call (.Name x p) (e::es) [] pos) (vX sp [] E t):=
 let ⟨_,_,_,a,b,c,F⟩:=D;zJ F hr hg a b c .nil hx ha hdb he hpl
theorem dc0 (D:KD X.prog X.w X.K X.mg X.base CX0 k x sp)(hr:cL k X.A)(ha:PA X (e::es) t)(hg:Gl X x:=by rfl)(hdb:(x == ("__debug__":Str))=false:=by decide)
  (he:starEach (e::es) X.env=(false,eval e X.env)::starEach es X.env:=by rfl) (hpl:(backTo pos (starEach es X.env)).any (·.1)=false:=by rfl):PE X (.Call (.Name x p) (e::es) [] pos) (vX sp [] E0 t):=dc D hr aY ha hg hdb he hpl
theorem dm {pl:Sem Bool}(he:PE X o ta)(D:KM X.prog X.w X.K X.mg X.base CX k C m sp)(hr:cL k X.A)(hx:dM CX X E)(ha:PA X (e::es) t)
  (hst:starEach (e::es) X.env=(false,eval e X.env)::starEach es X.env:=by rfl) (hpl:(backTo pos (starEach es X.env)).any (·.1)=false:=by rfl)
  (ht:eval (.Call (.Attribute o m apos) (e::es) [] pos) X.env=(do
   let ov ←eval o X.env
   standAt apos.atName
   let (f,first) ←holding [ov] (getMethod ov m pl)
   callWith pos f first (backTo pos (starEach (e::es) X.env)) (backToKw pos (keywordEach [] X.env))):=by rfl) :
  PE X (.Call (.Attribute o m apos) (e::es) [] pos) (qV C m sp [] E ta t):=let ⟨_,_,_,a,b,c,F⟩:=D;zK he a b F hr c .nil hx ha hst hpl ht
theorem dm0 {pl:Sem Bool}(he:PE X o ta)(D:KM X.prog X.w X.K X.mg X.base CX k C m sp)(hr:cL k X.A)(hx:dM CX X E)
  (ht:eval (.Call (.Attribute o m apos) [] [] pos) X.env=(do
   let ov ←eval o X.env
   standAt apos.atName
   let (f,first) ←holding [ov] (getMethod ov m pl)
   callWith pos f first (backTo pos (starEach [] X.env)) (backToKw pos (keywordEach [] X.env))):=by rfl) :
  PE X (.Call (.Attribute o m apos) [] [] pos) (qV C m sp [] E ta oK):=let ⟨_,_,_,a,b,c,F⟩:=D;xU he a b F hr c .nil hx ht
theorem dn (D:KN X.prog X.w X.K X.mg X.base CX k C sp)(hr:cL (k+1) X.A)(hm:X.mg x=some (.ref C))(hx:dM CX X E)(ha:PA X (e::es) t)(hg:Gl X x:=by rfl)(hdb:(x == ("__debug__":Str))=false:=by decide)
  (he:starEach (e::es) X.env=(false,eval e X.env)::starEach es X.env:=by rfl) (hpl:(backTo pos (starEach es X.env)).any (·.1)=false:=by rfl):PE X (.Call (.Name x p) (e::es) [] pos) (xT C sp [] E t):=
 let ⟨_,_,_,a,c,F⟩:=D;zL a F hr hg hm c .nil hx ha hdb he hpl
variable {pins:List (Addr×Obj)}{E':XT}
end
section
variable {X:Cx}{a b e o l value:Expr}{es mG:List Expr}{ta tb te tl tv:TE}{t:TA}{pos p:Pos}{tg:Expr}{f:Str}
theorem pv' (i:Nat){x:Str}{pos:Pos}(hN:X.N[i]?=some x:=by rfl)(hv:Vis X.env.scope x:=by first | exact Or.inl rfl | exact Or.inr (Or.inl rfl) | exact Or.inr (Or.inr rfl))(hd:(x == ("__debug__":Str))=false:=by decide)
  (hcd:(x == ("__classdict__":Str))=false:=by decide):PE X (.Name x pos) (wq i):=Ad i▸pv i hN hv hd hcd
theorem ao (he:PE X e ta)(hb:attributeBase e f X.env (eval e X.env)=eval e X.env:=by rfl):PE X (.Attribute e f pos) (yH X.K ta f):=Ap X.K ta f▸BP he hb
theorem bg {pos':Pos}(ha:PE X o ta)(hv:PE X value tv)(hs:swapsWith value (some (.Attribute o f pos')) pos.line X.env=pure false):PS X (.Assign [.Attribute o f pos'] value pos) (yI X.K ta tv f):=Aq X.K ta tv f▸BQ ha hv hs
theorem bA:OpR X (binaryOp .Add) (vc fun i j=>.int (i+j)):=oV _▸BK
theorem bS:OpR X (binaryOp .Sub) (vc fun i j=>.int (i - j)):=oV _▸BL
theorem lW:OpR X (binaryOp .Mult) (rI' oI fun i j=>.int (i * j)):=yD _ _▸uO
theorem xt:OpR X (binaryOp .FloorDiv) (rI' Bi fun i j=>.int (i / j)):=yD _ _▸yf
theorem sy:OpR X (binaryOp .Mod) (rI' (fun _ j=>0 < j) fun i j=>.int (i % j)):=yD _ _▸xO
theorem sA:OpR X (compareOp .Eq) (Cm):=Cn▸A9
theorem CC:OpR X (compareOp .Lt) (vc fun i j=>.bl (decide (i < j))):=oV _▸Ba
theorem CD:OpR X (compareOp .LtE) (vc fun i j=>.bl (decide (i<=j))):=oV _▸Bb
theorem y6:OpR X (compareOp .GtE) (vc fun i j=>.bl (decide (j<=i))):=oV _▸Bc
theorem iQ:OpR X (compareOp .In) (xn X.K false):=yT _ _▸w9
theorem qt:OpR X (compareOp .NotIn) (xn X.K true):=yT _ _▸rM
theorem lX:OpR X (binaryOp .Add) (yS):=Au▸BW
theorem AF (hu:X.A.units < cLine):OpR X (compareOp .Eq) (wH X.K):=AE _▸B6 hu
theorem AG (hu:X.A.units < cLine):OpR X (compareOp .NotEq) (wG X.K):=AD _▸Ce hu
theorem fq:UnR X (unaryOp .USub) (rU' fun i=>.int (-i)):=DR _▸BM
theorem aA:IxR X (rp X.K):=An _▸v5
theorem du:IxR X (wC X.K):=Ao _▸xX
theorem ur:SlR X (yR X.K):=As _▸zQ
theorem ir:BF X vn:=yN▸xZ
theorem kS:MtM X "list.append" oX:=vh▸xa
theorem bV (h:PE X e te)(he:∀bX,isTrue e X.env bX=(do let v ←bX;standAt e.pos;holding [v] (truthy v)):=by intro _;rfl):PT X e (tB' te):=Bm te▸BB h he
theorem fN {op:CmpOp}{r:R2}(ho:OpR X (compareOp op) r)(ha:PE X a ta)(hb:PE X b tb)(hm:behindInMarks op b=false):PT X (.Compare a [op] [b] pos) (tB' (tOp r ta tb)):=yC (tOp r ta tb)▸fm ho ha hb hm
theorem ee (ha:PE X a ta)(hb:PE X b tb)(hm:behindInMarks .Eq b=false:=by exact cD _):PT X (.Compare a [.Eq] [b] pos) (Cu ta tb):=Al ta tb▸fm A9 ha hb hm
theorem rz (ha:PE X a ta)(hb:PE X b tb)(hm:behindInMarks .NotEq b=false:=by exact cD _):PT X (.Compare a [.NotEq] [b] pos) (Cv ta tb):=Am ta tb▸fm Dm ha hb hm
theorem oY (ha:PE X a ta)(hb:PE X b tb)(hm:behindInMarks .Lt b=false:=by exact cD _):PT X (.Compare a [.Lt] [b] pos) (ko (fun i j=>i < j) ta tb):=Co ta tb▸fm Ba ha hb hm
theorem Ef (ha:PE X a ta)(hb:PE X b tb)(hm:behindInMarks .LtE b=false:=by exact cD _):PT X (.Compare a [.LtE] [b] pos) (ko (fun i j=>i<=j) ta tb):=Cp ta tb▸fm Bb ha hb hm
theorem uu (ha:PE X a ta)(hb:PE X b tb)(hm:behindInMarks .Gt b=false:=by exact cD _):PT X (.Compare a [.Gt] [b] pos) (ko (fun i j=>j < i) ta tb):=Cq ta tb▸fm Dn ha hb hm
theorem y8 (ha:PE X a ta)(hb:PE X b tb)(hm:behindInMarks .GtE b=false:=by exact cD _):PT X (.Compare a [.GtE] [b] pos) (ko (fun i j=>j<=i) ta tb):=Cr ta tb▸fm Bc ha hb hm
theorem sH (ha:PE X a ta)(hb:PE X b (tC .non))(hm:behindInMarks .Is b=false:=by exact cD _):PT X (.Compare a [.Is] [b] pos) (y3 ta):=y4 ta▸fm BN ha hb hm
theorem AH (ha:PE X a ta)(hb:PE X b (tC .non))(hm:behindInMarks .IsNot b=false:=by exact cD _):PT X (.Compare a [.IsNot] [b] pos) (vq ta):=xo ta▸fm zF ha hb hm
theorem cF {k:Int}(ha:PE X a ta)(hb:PE X b (tC (.int k)))(hk:0 < k:=by decide):PE X (.BinOp a .Mod b pos) (tU1 (fun i=>.int (i % k)) ta):=yO hk ta (fun i j=>.int (i % j))▸aP xO ha hb
theorem ft {k:Int}(ha:PE X a ta)(hb:PE X b (tC (.int k)))(h1:0 < k:=by decide)(h2:k < 1073741824:=by decide):PE X (.BinOp a .FloorDiv b pos) (tU1 (fun i=>.int (i / k)) ta):=yP h1 h2 ta (fun i j=>.int (i / j))▸aP zE ha hb
theorem oE {k:Int}(ha:PE X a ta)(hb:PE X b (tC (.int k)))(h1:-4294967296 < k:=by decide)(h2:k < 4294967296:=by decide):PE X (.BinOp a .Mult b pos) (tU1 (fun i=>.int (i * k)) ta):=yQ h1 h2 ta (fun i j=>.int (i * j))▸aP uO ha hb
theorem uv {k:Int}(ha:PE X a (tC (.int k)))(hb:PE X b tb)(h1:-4294967296 < k:=by decide)(h2:k < 4294967296:=by decide):PE X (.BinOp a .Mult b pos) (tU1 (fun i=>.int (k * i)) tb):=xm h1 h2 tb (fun i j=>.int (i * j))▸aP uO ha hb
theorem gC {k:Nat}{t:TGs}{n:Nat}(hc:X.calm=true)(h:PGs X es t)(hn:(assignEach es X.env).length=n:=by rfl)(hst:(assignEach es X.env).findIdx? (·.1)=none:=by rfl):PG X (.Tuple es k pos) (nI X.K n t):=wx X.K n t▸BI hc h hn hst
theorem AI {k:Nat}{t:TGs}{n:Nat}(hc:X.calm=true)(h:PGs X es t)(hn:(assignEach es X.env).length=n:=by rfl)(hst:(assignEach es X.env).findIdx? (·.1)=none:=by rfl):PG X (.Tuple es k pos) (ve X.K n t):=yE X.K n t▸Cb hc h hn hst
theorem aJ {t:TG}{u:TGs}(h1:PG X e t)(h2:PGs X es u)(hs:(assignEach (e::es) X.env).map (·.2)=assign e X.env::(assignEach es X.env).map (·.2):=by rfl):PGs X (e::es) (mU t u):=lU t u▸xI h1 h2 hs
theorem dP:PGs X [] wz:=wA▸zB
theorem cU (hl:PE X l tl):PI X tg l (vj X.K tl):=yK X.K tl▸zC hl
theorem cy (hg:Gl X "range")(hm:X.mg "range"=none)(ha:PA X [a] t)(hs:starEach [a] X.env=[(false,eval a X.env)]:=by rfl):PI X tg (.Call (.Name "range" p) [a] [] pos) (vk t):=yL t▸wQ hg hm ha hs
theorem oZ (hg:Gl X "range")(hm:X.mg "range"=none)(ha:PA X [a,b] t)(hs:starEach [a,b] X.env=[(false,eval a X.env),(false,eval b X.env)]:=by rfl)(hs2:starEach [b] X.env=[(false,eval b X.env)]:=by rfl):PI X tg (.Call (.Name "range" p) [a,b] [] pos) (vo t):=yU t▸wR hg hm ha hs hs2
theorem y9 {tpos:Pos}{elts:List Expr}{x1:Nat}(hg:Gl X "enumerate")(hm:X.mg "enumerate"=none)(hb:bootBuiltins "enumerate"=some (.type "enumerate"))(he:PE X a te)(hs:starEach [a] X.env=[(false,eval a X.env)]:=by rfl):PI X (.Tuple elts x1 tpos) (.Call (.Name "enumerate" p) [a] [] pos) (vp X.K te):=yV X.K te▸zX hg hm hb he hs
theorem AJ {tpos:Pos}{elts:List Expr}{x1:Nat}(hg:Gl X "zip")(hm:X.mg "zip"=none)(hb:bootBuiltins "zip"=some (.type "zip"))(ha:PE X a ta)(hb2:PE X b tb)(hs:starEach [a,b] X.env=[(false,eval a X.env),(false,eval b X.env)]:=by rfl)(hs2:starEach [b] X.env=[(false,eval b X.env)]:=by rfl):PI X (.Tuple elts x1 tpos) (.Call (.Name "zip" p) [a,b] [] pos) (yW X.K ta tb):=Av X.K ta tb▸B7 hg hm hb ha hb2 hs hs2
theorem kg (ha:PE X a ta)(hb:PE X (.BoolOp .And (b::mG) pos) tb):PE X (.BoolOp .And (a::b::mG) pos) (vf ta tb):=yF ta tb▸BC ha hb
theorem AK (ha:PE X a ta):PE X (.UnaryOp .Not a pos) (vg ta):=yG ta▸BD ha
theorem lY (h:PE X e te):PO X (some e) (vi te):=yJ te▸zP h
theorem o6 {r r':List V->Hp->VK->Prop}(h:∀t,tCB r t=tCB r' t):r=r':=funext fun vs=>funext fun H=>funext fun Q=>congrFun (congrFun (congrFun (h fun σ H Q=>Q vs H) []) H) Q
theorem av:fJ X (.builtin "len") (yM X.K):=o6 (Ar X.K)▸rN
theorem bK:fJ X (.type "list") (oC X.K):=o6 (vm X.K)▸rO
theorem mW:fJ X (.builtin "abs") Ax:=o6 Ay▸xQ
theorem kT (hc:X.calm=true):fJ X (.builtin "min") yY:=o6 yZ▸wW hc
theorem vx:fJ X (.type "int") wF:=o6 y1▸wX
theorem dm' {CX:CXT}{k:Nat}{C:Addr}{sp:Sp}{E:XK}{m:Str}{apos:Pos}{pl:Sem Bool}(he:PE X o ta)(D:KM X.prog X.w X.K X.mg X.base CX k C m sp)(hr:cL k X.A)(hx:dM CX X E)(ha:PA X (e::es) t)
  (hst:starEach (e::es) X.env=(false,eval e X.env)::starEach es X.env:=by rfl) (hpl:(backTo pos (starEach es X.env)).any (·.1)=false:=by rfl)
  (ht:eval (.Call (.Attribute o m apos) (e::es) [] pos) X.env=(do
   let ov ←eval o X.env
   standAt apos.atName
   let (f,first) ←holding [ov] (getMethod ov m pl)
   callWith pos f first (backTo pos (starEach (e::es) X.env)) (backToKw pos (keywordEach [] X.env))):=by rfl) :
  PE X (.Call (.Attribute o m apos) (e::es) [] pos) (sv C m sp [] E ta t):=uf C m sp [] E ta t▸dm he D hr hx ha hst hpl ht
theorem de {CX:CXT}{k:Nat}{C:Addr}{sp:Sp}{E:XK}{m:Str}{apos:Pos}{pl:Sem Bool}(he:PE X o ta)(D:KM X.prog X.w X.K X.mg X.base CX k C m sp)(hr:cL k X.A)(hx:dM CX X E)
  (ht:eval (.Call (.Attribute o m apos) [] [] pos) X.env=(do
   let ov ←eval o X.env
   standAt apos.atName
   let (f,first) ←holding [ov] (getMethod ov m pl)
   callWith pos f first (backTo pos (starEach [] X.env)) (backToKw pos (keywordEach [] X.env))):=by rfl) :
  PE X (.Call (.Attribute o m apos) [] [] pos) (sv C m sp [] E ta oK):=uf C m sp [] E ta oK▸dm0 he D hr hx ht
variable {e1 e2 e3 e4:Expr}{t1 t2 t3 t4:TE}
theorem pa1 (h1:PE X e1 t1)(s1:starEach [e1] X.env=(false,eval e1 X.env)::starEach [] X.env:=by rfl):PA X [e1] (ip t1 oK):=gy h1 jv s1
theorem pa2 (h1:PE X e1 t1)(h2:PE X e2 t2)(s1:starEach [e1,e2] X.env=(false,eval e1 X.env)::starEach [e2] X.env:=by rfl)(s2:starEach [e2] X.env=(false,eval e2 X.env)::starEach [] X.env:=by rfl):PA X [e1,e2] (ip t1 (ip t2 oK)):=gy h1 (pa1 h2 s2) s1
theorem pa3 (h1:PE X e1 t1)(h2:PE X e2 t2)(h3:PE X e3 t3)(s1:starEach [e1,e2,e3] X.env=(false,eval e1 X.env)::starEach [e2,e3] X.env:=by rfl)(s2:starEach [e2,e3] X.env=(false,eval e2 X.env)::starEach [e3] X.env:=by rfl)(s3:starEach [e3] X.env=(false,eval e3 X.env)::starEach [] X.env:=by rfl):PA X [e1,e2,e3] (ip t1 (ip t2 (ip t3 oK))):=gy h1 (pa2 h2 h3 s2 s3) s1
theorem pa4 (h1:PE X e1 t1)(h2:PE X e2 t2)(h3:PE X e3 t3)(h4:PE X e4 t4)(s1:starEach [e1,e2,e3,e4] X.env=(false,eval e1 X.env)::starEach [e2,e3,e4] X.env:=by rfl)(s2:starEach [e2,e3,e4] X.env=(false,eval e2 X.env)::starEach [e3,e4] X.env:=by rfl)(s3:starEach [e3,e4] X.env=(false,eval e3 X.env)::starEach [e4] X.env:=by rfl)(s4:starEach [e4] X.env=(false,eval e4 X.env)::starEach [] X.env:=by rfl):PA X [e1,e2,e3,e4] (ip t1 (ip t2 (ip t3 (ip t4 oK)))):=gy h1 (pa3 h2 h3 h4 s2 s3 s4) s1
end
abbrev Xm (K:W.Frag)(a b:Addr)(v:Bool):Prop:=W.exmOne K (.ref a) (.ref b)=some v
abbrev Kt (K:W.Frag)(a b:Addr)(v:Bool):Prop:=W.kitOne K (.ref a) (.ref b)=some v
theorem fgo {K:W.Frag}{H:Hp}{a:Addr}{f:Str}{C:Addr}{dx:Addr}{fs:List (Str×V)}{v:V}{q:V->Prop}(h:H a=some (.ins C dx fs))(c:Cls K C)(n:aL K C f)(l:fs.lookup f=some v)(k:q v) :
  ∃C dx fs,H a=some (.ins C dx fs)/\Cls K C/\aL K C f/\∃v,fs.lookup f=some v/\q v:=⟨_,_,_,h,c,n,_,l,k⟩
theorem mgo {H:Hp}{a C:Addr}{m:Str}{dx:Addr}{fs:List (Str×V)}{q:Prop}(h:H a=some (.ins C dx fs))(l:fs.lookup m=none)(k:q) :
  ∃dx fs,H a=some (.ins C dx fs)/\fs.lookup m=none/\q:=⟨_,_,h,l,k⟩
end L2
namespace K36
open PySem L2
noncomputable abbrev o7:List Str:=["number","many"]
noncomputable abbrev kq:List Str:=["level","many"]
noncomputable abbrev lZ:List Str:=["number","many"]
noncomputable abbrev kr:List Str:=["loads","many"]
noncomputable abbrev nJ:List Str:=["self","loads","many"]
noncomputable abbrev nK:List Str:=["self","number","cage"]
noncomputable abbrev o8:List Str:=["self","cage","level"]
noncomputable abbrev l3:List Str:=["self"]
noncomputable abbrev jC:List Str:=["self","cage"]
noncomputable abbrev gD:List Str:=["self"]
noncomputable abbrev nL:List Str:=["self"]
noncomputable abbrev ku:List Str:=["number"]
noncomputable abbrev kv:List Str:=["codes","many"]
noncomputable abbrev l4:List Str:=["self","codes"]
noncomputable abbrev l5:List Str:=["self","level","strokes"]
noncomputable abbrev jD:List Str:=["self","strokes"]
noncomputable abbrev nM:List Str:=["self","level","kind"]
noncomputable abbrev l7:List Str:=["self"]
noncomputable abbrev jE:List Str:=["depths"]
noncomputable abbrev l8:List Str:=["depths"]
noncomputable abbrev ky:List Str:=["depths","place"]
noncomputable abbrev pe:List Str:=["depths","depth"]
noncomputable abbrev kz:List Str:=["depths","cage","level"]
noncomputable abbrev pf:List Str:=["depths","place"]
noncomputable abbrev jF:List Str:=["slow","fast"]
noncomputable abbrev l9:List Str:=["way","speed"]
noncomputable abbrev jn:List Str:=["self","place","opened","bells","yard"]
noncomputable abbrev jo:List Str:=["self"]
noncomputable abbrev nN:List Str:=["self","first","most"]
noncomputable abbrev ma:List Str:=["self","deed","ticks","speed","standing"]
noncomputable abbrev ph:List Str:=["self"]
noncomputable abbrev kA:List Str:=["self"]
noncomputable abbrev nO:List Str:=["self"]
noncomputable abbrev md:List Str:=["self","depths","codes","slow","fast","loads"]
noncomputable abbrev me:List Str:=["self","level","strokes"]
noncomputable abbrev jG:List Str:=["self","strokes"]
noncomputable abbrev gE:List Str:=["self","level"]
noncomputable abbrev gF:List Str:=["self","level"]
noncomputable abbrev gG:List Str:=["self","word","level","wanted"]
noncomputable abbrev mf:List Str:=["self","number","cage"]
noncomputable abbrev jH:List Str:=["self","cage"]
noncomputable abbrev mh:List Str:=["self","cage","level","kind"]
noncomputable abbrev kC:List Str:=["self","deed","ticks","standing"]
noncomputable abbrev fO:List Str:=["self","standing"]
noncomputable abbrev iu:List Str:=["self","cage"]
noncomputable abbrev df:List Str:=["self","level"]
noncomputable abbrev nP:List Str:=["self"]
noncomputable abbrev mi:List Str:=["self"]
noncomputable abbrev kE:List Str:=["self"]
noncomputable abbrev fh:List Str:=["self","place"]
noncomputable abbrev kF:List Str:=["self"]
noncomputable abbrev jq:List Str:=["self","cage"]
noncomputable abbrev rA:List Str:=["_law_found"]
noncomputable abbrev zc:List Str:=["_law_script","_law_k"]
noncomputable abbrev uw:List Str:=["_law_cell","_law_k","_law_span"]
noncomputable abbrev rB:List Str:=["_law_script","_law_k"]
noncomputable abbrev mj:List Str:=["_law_found","_law_due"]
noncomputable abbrev pj:List Str:=["_law_cell"]
noncomputable abbrev rC:List Str:=["_law_cell","_law_many"]
noncomputable abbrev rD:List Str:=["_law_script"]
noncomputable abbrev zd:List Str:=["_law_depths_here","_law_cage","_law_place"]
noncomputable abbrev nQ:List Str:=["_law_works","_law_depths_here","_law_place","_law_lying","_law_cage","_law_what"]
noncomputable abbrev ze:List Str:=["_law_script"]
noncomputable def top (i:Nat):Stmt:=PySem.Challenge.pw_cagebells_k36_whole_men_slowly.main.body.getD i (.Pass ⟨0,0,0,0⟩)
noncomputable abbrev kU:Stmt:=top 21
theorem ux:au ["number","many"] o7 (aj kU):=aN
noncomputable abbrev gO:Stmt:=top 22
theorem pk:au ["level","many"] kq (aj gO):=aN
noncomputable abbrev iR:Stmt:=top 23
theorem qu:au ["number","many"] lZ (aj iR):=aN
noncomputable abbrev gP:Stmt:=top 28
theorem dQ:au ["loads","many","kind","level","goal"] kr (aj gP):=aN
noncomputable abbrev jI:Stmt:=aK (top 29) 0
theorem sQ:au ["self","loads","many"] nJ (aj jI):=aN
noncomputable abbrev jJ:Stmt:=aK (top 29) 1
theorem sT:au ["self","number","cage"] nK (aj jJ):=aN
noncomputable abbrev kW:Stmt:=aK (top 29) 2
theorem nR:au ["self","cage","level","number"] o8 (aj kW):=aN
noncomputable abbrev iS:Stmt:=aK (top 29) 3
theorem qv:au ["self"] l3 (aj iS):=aN
noncomputable abbrev fP:Stmt:=aK (top 29) 4
theorem eQ:au ["self","cage","number","spot"] jC (aj fP):=aN
noncomputable abbrev dR:Stmt:=aK (top 29) 6
theorem dC:au ["self","kind","spot"] gD (aj dR):=aN
noncomputable abbrev jK:Stmt:=aK (top 29) 7
theorem ml:au ["self","other"] nL (aj jK):=aN
noncomputable abbrev gQ:Stmt:=top 33
theorem pq:au ["number"] ku (aj gQ):=aN
noncomputable abbrev gR:Stmt:=top 34
theorem fQ:au ["codes","many","men","coal"] kv (aj gR):=aN
noncomputable abbrev iT:Stmt:=aK (top 35) 0
theorem qw:au ["self","codes"] l4 (aj iT):=aN
noncomputable abbrev iU:Stmt:=aK (top 35) 1
theorem qx:au ["self","level","strokes"] l5 (aj iU):=aN
noncomputable abbrev fR:Stmt:=aK (top 35) 2
theorem dw:au ["self","strokes","level","rung","alike"] jD (aj fR):=aN
noncomputable abbrev jL:Stmt:=aK (top 35) 6
theorem mm:au ["self","level","kind","code"] nM (aj jL):=aN
noncomputable abbrev iV:Stmt:=aK (top 35) 7
theorem kG:au ["self","other"] l7 (aj iV):=aN
noncomputable abbrev fS:Stmt:=top 40
theorem eS:au ["depths","depth","level"] jE (aj fS):=aN
noncomputable abbrev iW:Stmt:=top 41
theorem qy:au ["depths"] l8 (aj iW):=aN
noncomputable abbrev gS:Stmt:=top 42
theorem pw:au ["depths","place"] ky (aj gS):=aN
noncomputable abbrev kX:Stmt:=top 43
theorem nS:au ["depths","depth","level"] pe (aj kX):=aN
noncomputable abbrev gT:Stmt:=top 44
theorem px:au ["depths","cage","level"] kz (aj gT):=aN
noncomputable abbrev kY:Stmt:=top 45
theorem nT:au ["depths","place","stands"] pf (aj kY):=aN
noncomputable abbrev fT:Stmt:=top 48
theorem oe:au ["slow","fast"] jF (aj fT):=aN
noncomputable abbrev iX:Stmt:=top 49
theorem qz:au ["way","speed"] l9 (aj iX):=aN
noncomputable abbrev eT:Stmt:=aK (top 51) 0
theorem mX:au ["self","place","opened","bells","yard"] jn (aj eT):=aN
noncomputable abbrev eU:Stmt:=aK (top 51) 1
theorem mY:au ["self"] jo (aj eU):=aN
noncomputable abbrev jM:Stmt:=aK (top 52) 0
theorem sU:au ["self","first","most"] nN (aj jM):=aN
noncomputable abbrev iY:Stmt:=aK (top 52) 1
theorem kH:au ["self","deed","ticks","speed","standing","began"] ma (aj iY):=aN
noncomputable abbrev kZ:Stmt:=aK (top 52) 3
theorem uy:au ["self"] ph (aj kZ):=aN
noncomputable abbrev gU:Stmt:=aK (top 52) 4
theorem pz:au ["self"] kA (aj gU):=aN
noncomputable abbrev jN:Stmt:=aK (top 52) 5
theorem sV:au ["self"] nO (aj jN):=aN
noncomputable abbrev iZ:Stmt:=aK (top 55) 0
theorem gV:au ["self","depths","codes","slow","fast","loads","shut","first"] md (aj iZ):=aN
noncomputable abbrev i3:Stmt:=aK (top 55) 1
theorem kI:au ["self","level","strokes","standing"] me (aj i3):=aN
noncomputable abbrev fU:Stmt:=aK (top 55) 2
theorem eV:au ["self","strokes","standing","answer"] jG (aj fU):=aN
noncomputable abbrev dS:Stmt:=aK (top 55) 4
theorem k6:au ["self","level"] gE (aj dS):=aN
noncomputable abbrev dU:Stmt:=aK (top 55) 5
theorem k7:au ["self","level"] gF (aj dU):=aN
noncomputable abbrev dW:Stmt:=aK (top 55) 6
theorem fV:au ["self","word","level","wanted","standing"] gG (aj dW):=aN
noncomputable abbrev i4:Stmt:=aK (top 55) 7
theorem gW:au ["self","number","cage","standing","level"] mf (aj i4):=aN
noncomputable abbrev fW:Stmt:=aK (top 55) 8
theorem eW:au ["self","cage","standing","level"] jH (aj fW):=aN
noncomputable abbrev i5:Stmt:=aK (top 55) 9
theorem dh:au ["self","cage","level","kind","standing","gate","end","ticks"] mh (aj i5):=aN
noncomputable abbrev gX:Stmt:=aK (top 55) 11
theorem pA:au ["self","deed","ticks","standing"] kC (aj gX):=aN
noncomputable abbrev dD:Stmt:=aK (top 55) 12
theorem kj:au ["self","standing"] fO (aj dD):=aN
noncomputable abbrev eh:Stmt:=aK (top 55) 13
theorem mn:au ["self","cage"] iu (aj eh):=aN
noncomputable abbrev cz:Stmt:=aK (top 55) 14
theorem gv:au ["self","level"] df (aj cz):=aN
noncomputable abbrev jO:Stmt:=aK (top 55) 15
theorem sW:au ["self"] nP (aj jO):=aN
noncomputable abbrev i6:Stmt:=aK (top 55) 16
theorem qA:au ["self"] mi (aj i6):=aN
noncomputable abbrev gY:Stmt:=aK (top 55) 21
theorem pD:au ["self"] kE (aj gY):=aN
noncomputable abbrev c8:Stmt:=aK (top 55) 23
theorem jP:au ["self","place"] fh (aj c8):=aN
noncomputable abbrev gZ:Stmt:=aK (top 55) 24
theorem pH:au ["self"] kF (aj gZ):=aN
noncomputable abbrev eX:Stmt:=aK (top 55) 26
theorem mZ:au ["self","cage"] jq (aj eX):=aN
noncomputable abbrev ng:Stmt:=top 57
theorem vy:au ["_law_found"] rA (aj ng):=aN
noncomputable abbrev vz:Stmt:=top 58
theorem AL:au ["_law_script","_law_k"] zc (aj vz):=aN
noncomputable abbrev pN:Stmt:=top 59
theorem iw:au ["_law_cell","_law_k","_law_span","_law_rest","_law_turn","_law_one"] uw (aj pN):=aN
noncomputable abbrev nh:Stmt:=top 60
theorem lg:au ["_law_script","_law_k","_law_cell","_law_one"] rB (aj nh):=aN
noncomputable abbrev jQ:Stmt:=top 61
theorem ni:au ["_law_found","_law_due","_law_alike","_law_k"] mj (aj jQ):=aN
noncomputable abbrev lh:Stmt:=top 62
theorem bW:au ["_law_cell","_law_many","_law_shape","_law_gap","_law_made","_law_last","_law_k","_law_span"] pj (aj lh):=aN
noncomputable abbrev nj:Stmt:=top 63
theorem i7:au ["_law_cell","_law_many","_law_made","_law_k","_law_men"] rC (aj nj):=aN
noncomputable abbrev ix:Stmt:=top 64
theorem dE:au ["_law_script","_law_depths_here","_law_codes_here","_law_cell","_law_slow","_law_fast"] rD (aj ix):=aN
noncomputable abbrev vA:Stmt:=top 65
theorem sX:au ["_law_depths_here","_law_cage","_law_place","_law_deep","_law_k"] zd (aj vA):=aN
noncomputable abbrev jR:Stmt:=top 66
theorem i8:au ["_law_works","_law_depths_here","_law_place","_law_lying","_law_cage","_law_what","_law_level","_law_waits"] nQ (aj jR):=aN
noncomputable abbrev mq:Stmt:=top 67
theorem bQ:au ["_law_script","_law_depths_here","_law_codes_here","_law_slow","_law_fast","_law_loads","_law_level","_law_works","_law_lying","_law_place","_law_k","_law_cell","_law_cage","_law_side","_law_began","_law_ended","_law_goal","_law_men","_law_speed","_law_due"] ze (aj mq):=aN
structure Adr where
 bt:Addr
 dJ:Addr
 jS:Addr
 iz:Addr
 iA:Addr
 iB:Addr
 jT:Addr
 jU:Addr
 lj:Addr
 eD:Addr
 iC:Addr
 iD:Addr
 iE:Addr
 fX:Addr
 iF:Addr
 mr:Addr
 iG:Addr
 xu:Addr
 di:Addr
 bh:Addr
 cI:Addr
 lp:Addr
 aW:Addr
 sY:Addr
 mv:Addr
structure Txt (P:Program)(w:World)(K:W.Frag)(mg:Str->Option Value)(base:Heap)(Z:Adr):Prop where
 bY:mg "len"=none
 eY:mg "list"=none
 uz:mg "enumerate"=none
 Eg:mg "zip"=none
 cY:mg "range"=none
 zg:mg "abs"=none
 bB:mg "isinstance"=none
 wJ:mg "int"=none
 vB:mg "bool"=none
 sZ:mg "tuple"=none
 Bo:mg "str"=none
 zh:mg "min"=none
 td:∃u,mg "MOST_LOADS"=some u/\bf (.int 30) u
 nq:∃u,mg "FEWEST_STROKES"=some u/\bf (.int 1) u
 pO:∃u,mg "MOST_STROKES"=some u/\bf (.int 9) u
 og:∃u,mg "FEWEST_LEVELS"=some u/\bf (.int 2) u
 qB:∃u,mg "MOST_LEVELS"=some u/\bf (.int 6) u
 nu:∃u,mg "GREATEST_DEPTH"=some u/\bf (.int 500) u
 nv:∃u,mg "GREATEST_SPEED"=some u/\bf (.int 500) u
 tf:∃u,mg "MOST_DEEDS"=some u/\bf (.int 300) u
 AM:∃u,mg "KINDS"=some u/\bf (.ref Z.sY) u
 AN:∀H,SqT K H Z.sY [.str "men",.str "coal"]
 AO:∃o,K.lookup Z.sY=some o/\o.cls=.type "tuple"/\o.dict=none
 fu:∃u,mg "CAGE_SPOTS"=some u/\bf (.ref Z.mv) u
 fv:∀H,SqT K H Z.mv [.int 10,.int 11]
 pQ:mg "UnknownLevel"=some (.ref Z.bt)
 qC:mg "UnknownLoad"=some (.ref Z.dJ)
 pS:mg "BadLoads"=some (.ref Z.jS)
 lq:mg "NotThere"=some (.ref Z.iz)
 uA:mg "CageTaken"=some (.ref Z.iA)
 nU:mg "CageEmpty"=some (.ref Z.iB)
 lr:mg "BadCodes"=some (.ref Z.jT)
 vC:mg "DeadBell"=some (.ref Z.jU)
 uB:mg "NoCode"=some (.ref Z.lj)
 qD:mg "NothingRung"=some (.ref Z.eD)
 vD:mg "NotArmed"=some (.ref Z.iC)
 jV:mg "BadDepths"=some (.ref Z.iD)
 uC:mg "BadSpeeds"=some (.ref Z.iE)
 vE:mg "BookFull"=some (.ref Z.fX)
 vF:mg "NoChange"=some (.ref Z.iF)
 vG:mg "GateOpen"=some (.ref Z.mr)
 vH:mg "GateShut"=some (.ref Z.iG)
 Bp:mg "CageError"=some (.ref Z.xu)
 zi:mg "Yard"=some (.ref Z.di)
 wK:mg "Bells"=some (.ref Z.bh)
 pT:mg "Standing"=some (.ref Z.cI)
 CF:mg "Book"=some (.ref Z.lp)
 AQ:mg "Works"=some (.ref Z.aW)
 cq:Cls K Z.di
 et:aL K Z.di "kinds"
 bw:aL K Z.di "where"
 i9:aL K Z.di "many"
 bq:Cls K Z.bh
 cC:aL K Z.bh "codes"
 dz:aL K Z.bh "failed"
 a8:aL K Z.bh "state"
 aE:Cls K Z.cI
 bT:aL K Z.cI "place"
 bF:aL K Z.cI "opened"
 cu:aL K Z.cI "bells"
 bc:aL K Z.cI "yard"
 cO:Cls K Z.lp
 kJ:aL K Z.lp "first"
 mw:aL K Z.lp "most"
 bL:aL K Z.lp "rows"
 aS:Cls K Z.aW
 bU:aL K Z.aW "depths"
 kK:aL K Z.aW "slow"
 kL:aL K Z.aW "fast"
 jW:aL K Z.aW "goals"
 aZ:aL K Z.aW "log"
 pU:ExC K Z.bt
 zj:ExI K Z.bt
 qF:ExC K Z.dJ
 zr:ExI K Z.dJ
 pV:ExC K Z.jS
 CG:ExI K Z.jS
 lu:ExC K Z.iz
 CH:ExI K Z.iz
 uD:ExC K Z.iA
 Bq:ExI K Z.iA
 nV:ExC K Z.iB
 Br:ExI K Z.iB
 lx:ExC K Z.jT
 CI:ExI K Z.jT
 vI:ExC K Z.jU
 CJ:ExI K Z.jU
 uE:ExC K Z.lj
 Eh:ExI K Z.lj
 qG:ExC K Z.eD
 zt:ExI K Z.eD
 vJ:ExC K Z.iC
 CK:ExI K Z.iC
 jX:ExC K Z.iD
 Bs:ExI K Z.iD
 uF:ExC K Z.iE
 Bt:ExI K Z.iE
 vK:ExC K Z.fX
 CL:ExI K Z.fX
 vL:ExC K Z.iF
 CM:ExI K Z.iF
 vM:ExC K Z.mr
 CN:ExI K Z.mr
 vN:ExC K Z.iG
 CO:ExI K Z.iG
structure Bu (K:W.Frag)(C0 C1 C2 C3 C4 C5 C6 C7 C8 C9 C10 C11 C12 C13 C14 C15 C16 C17 C18 C19 C20 C21 C22:Addr)(ta_KINDS:Addr)(tk_KINDS_0 tk_KINDS_1:Tok)(tn_KINDS:Nat)(ts_KINDS:Array (Option Value))(ta_CAGE_SPOTS:Addr)(tk_CAGE_SPOTS_0 tk_CAGE_SPOTS_1:Tok)(to_CAGE_SPOTS:Option Addr)(tn_CAGE_SPOTS:Nat)(ts_CAGE_SPOTS:Array (Option Value)):Prop where
 z_len:W.nsIn K mainGlobals "len"=some none
 z_list:W.nsIn K mainGlobals "list"=some none
 z_enumerate:W.nsIn K mainGlobals "enumerate"=some none
 z_zip:W.nsIn K mainGlobals "zip"=some none
 z_range:W.nsIn K mainGlobals "range"=some none
 z_abs:W.nsIn K mainGlobals "abs"=some none
 z_isinstance:W.nsIn K mainGlobals "isinstance"=some none
 z_int:W.nsIn K mainGlobals "int"=some none
 z_bool:W.nsIn K mainGlobals "bool"=some none
 z_tuple:W.nsIn K mainGlobals "tuple"=some none
 z_str:W.nsIn K mainGlobals "str"=some none
 z_min:W.nsIn K mainGlobals "min"=some none
 m0:NI K "UnknownLevel" C0
 m1:NI K "UnknownLoad" C1
 m2:NI K "BadLoads" C2
 m3:NI K "NotThere" C3
 m4:NI K "CageTaken" C4
 m5:NI K "CageEmpty" C5
 m6:NI K "BadCodes" C6
 m7:NI K "DeadBell" C7
 m8:NI K "NoCode" C8
 m9:NI K "NothingRung" C9
 m10:NI K "NotArmed" C10
 m11:NI K "BadDepths" C11
 m12:NI K "BadSpeeds" C12
 m13:NI K "BookFull" C13
 m14:NI K "NoChange" C14
 m15:NI K "GateOpen" C15
 m16:NI K "GateShut" C16
 m17:NI K "CageError" C17
 m18:NI K "Yard" C18
 m19:NI K "Bells" C19
 m20:NI K "Standing" C20
 m21:NI K "Book" C21
 m22:NI K "Works" C22
 n_MOST_LOADS:KI K "MOST_LOADS" 30
 n_FEWEST_STROKES:KI K "FEWEST_STROKES" 1
 n_MOST_STROKES:KI K "MOST_STROKES" 9
 n_FEWEST_LEVELS:KI K "FEWEST_LEVELS" 2
 n_MOST_LEVELS:KI K "MOST_LEVELS" 6
 n_GREATEST_DEPTH:KI K "GREATEST_DEPTH" 500
 n_GREATEST_SPEED:KI K "GREATEST_SPEED" 500
 n_MOST_DEEDS:KI K "MOST_DEEDS" 300
 n_KINDS:W.nsIn K mainGlobals "KINDS"=some (some (.ref ta_KINDS))
 lt_KINDS:K.lookup ta_KINDS=some ⟨.type "tuple",none,.seq #[.str "men" tk_KINDS_0,.str "coal" tk_KINDS_1] tn_KINDS,ts_KINDS⟩
 n_CAGE_SPOTS:W.nsIn K mainGlobals "CAGE_SPOTS"=some (some (.ref ta_CAGE_SPOTS))
 lt_CAGE_SPOTS:K.lookup ta_CAGE_SPOTS=some ⟨.type "tuple",to_CAGE_SPOTS,.seq #[.int 10 tk_CAGE_SPOTS_0,.int 11 tk_CAGE_SPOTS_1] tn_CAGE_SPOTS,ts_CAGE_SPOTS⟩
 cl18:Cls K C18
 na18_kinds:aL K C18 "kinds"
 na18_where:aL K C18 "where"
 na18_many:aL K C18 "many"
 cl19:Cls K C19
 na19_codes:aL K C19 "codes"
 na19_failed:aL K C19 "failed"
 na19_state:aL K C19 "state"
 cl20:Cls K C20
 na20_place:aL K C20 "place"
 na20_opened:aL K C20 "opened"
 na20_bells:aL K C20 "bells"
 na20_yard:aL K C20 "yard"
 cl21:Cls K C21
 na21_first:aL K C21 "first"
 na21_most:aL K C21 "most"
 na21_rows:aL K C21 "rows"
 cl22:Cls K C22
 na22_depths:aL K C22 "depths"
 na22_slow:aL K C22 "slow"
 na22_fast:aL K C22 "fast"
 na22_goals:aL K C22 "goals"
 na22_log:aL K C22 "log"
 l0:C0I K C17
 x0:XI K C17 C0
 x1:XI K C17 C1
 x2:XI K C17 C2
 x3:XI K C17 C3
 x4:XI K C17 C4
 x5:XI K C17 C5
 x6:XI K C17 C6
 x7:XI K C17 C7
 x8:XI K C17 C8
 x9:XI K C17 C9
 x10:XI K C17 C10
 x11:XI K C17 C11
 x12:XI K C17 C12
 x13:XI K C17 C13
 x14:XI K C17 C14
 x15:XI K C17 C15
 x16:XI K C17 C16
 d0:DI K "is_known" kU
 d1:DI K "check_level" gO
 d2:DI K "check_load" iR
 d3:DI K "check_loads" gP
 d4:II K C18 "Yard.__init__" jI
 d5:MI K C18 "into" "Yard.into" jJ
 d6:MI K C18 "out" "Yard.out" kW
 d7:MI K C18 "spots" "Yard.spots" iS
 d8:MI K C18 "in_cage" "Yard.in_cage" fP
 d9:MI K C18 "men_aboard" "Yard.men_aboard" dR
 d10:MI K C18 "twin" "Yard.twin" jK
 d11:DI K "are_strokes" gQ
 d12:DI K "check_codes" gR
 d13:II K C19 "Bells.__init__" iT
 d14:MI K C19 "ring" "Bells.ring" iU
 d15:MI K C19 "repeat" "Bells.repeat" fR
 d16:MI K C19 "use" "Bells.use" jL
 d17:MI K C19 "twin" "Bells.twin" iV
 d18:DI K "check_depths" fS
 d19:DI K "drum_whole" iW
 d20:DI K "other_place" gS
 d21:DI K "level_at" kX
 d22:DI K "wound_place" gT
 d23:DI K "gates_by" kY
 d24:DI K "check_speeds" fT
 d25:DI K "wind_ticks" iX
 d26:II K C20 "Standing.__init__" eT
 d27:MI K C20 "twin" "Standing.twin" eU
 d28:II K C21 "Book.__init__" jM
 d29:MI K C21 "write" "Book.write" iY
 d30:MI K C21 "now" "Book.now" kZ
 d31:MI K C21 "latest" "Book.latest" gU
 d32:MI K C21 "told" "Book.told" jN
 d33:II K C22 "Works.__init__" iZ
 d34:MI K C22 "ring" "Works.ring" i3
 d35:MI K C22 "repeat" "Works.repeat" fU
 d36:MI K C22 "open_gate" "Works.open_gate" dS
 d37:MI K C22 "shut_gate" "Works.shut_gate" dU
 d38:MI K C22 "turn_gate" "Works.turn_gate" dW
 d39:MI K C22 "load" "Works.load" i4
 d40:MI K C22 "unload" "Works.unload" fW
 d41:MI K C22 "wind" "Works.wind" i5
 d42:MI K C22 "write" "Works.write" gX
 d43:MI K C22 "speed_with" "Works.speed_with" dD
 d44:MI K C22 "level_of" "Works.level_of" eh
 d45:MI K C22 "refuse_shut_gate" "Works.refuse_shut_gate" cz
 d46:MI K C22 "now" "Works.now" jO
 d47:MI K C22 "book" "Works.book" i6
 d48:MI K C22 "cages" "Works.cages" gY
 d49:MI K C22 "both_places" "Works.both_places" c8
 d50:MI K C22 "spots" "Works.spots" gZ
 d51:MI K C22 "in_cage" "Works.in_cage" eX
 d52:DI K "_law_whole" ng
 d53:DI K "_law_at" vz
 d54:DI K "_law_draw" pN
 d55:DI K "_law_mixed" nh
 d56:DI K "_law_same" jQ
 d57:DI K "_law_depths" lh
 d58:DI K "_law_codes" nj
 d59:DI K "_law_shaft" ix
 d60:DI K "_law_by" vA
 d61:DI K "_law_loading" jR
 d62:DI K "law" mq
set_option hygiene false in
local macro_rules | `(tactic| walk_at "r0") => `(tactic| ((try dsimp only [Dg, Di, tB', tOp, tUn, wq, tCB, ip, oK, vX, vc, rI', rU', Cm, EJ, Dh, A5, tC, A3, A4, xJ, dZ, nI, ve, mU, wz, rp, wC, De, tOr, Df, vf, DS, vg, tIf, Du, Ds, tBM, Ez, oX, tSl, zO, vi, yR, DT, yS, vk, vo, vj, DW, zU, yj, xn, qq, yk, Ew, Ed, B4, wH, wG, Ec, DZ, CA, Cw, z6, Cg, Ex, yo, yH, yI, sv, Cf, xT, vp, yW, yX, DY, Ey, Cy, yq, wg, DF, Et, Aw, Dj, vn, ko, Cu, Cv, tU1, y3, vq, yM, oC, Ax, yY, Cz, wF, Ee, Ea, z9, Ci, wm, ud, ue, wo, Ae, Af, Ck, Ag, Ah, Cs, Ai, Aj, Ct, y0, AA, EA, EB, EC, ED, DK, DL, DM, DN, EE, EF, Cj, σN, σS, σ0, DO, EG, EH, DP, DQ, DU, DV, B1, xN, oI, Es, Nat.reduceAdd, Nat.reduceSub, Int.reducePow, Int.reduceToNat, Nat.reducePow, Int.reduceNeg, Bool.not_true, Bool.not_false]); (try first | refine L2.EI ?_ | refine L2.EK ?_ | refine L2.Eb ?_)))
set_option hygiene false in
local macro_rules | `(tactic| k_upd) => `(tactic| (repeat ((first | with_reducible refine L2.EL ?_ | with_reducible refine L2.EM ?_ | with_reducible refine L2.iP ze1 ?_ | with_reducible refine L2.iP ze2 ?_ | with_reducible refine L2.iP ze3 ?_ | with_reducible refine L2.iP ze4 ?_ | with_reducible refine L2.iP ze5 ?_ | with_reducible refine L2.iP ze6 ?_ | with_reducible refine L2.iP ze7 ?_ | with_reducible refine L2.iP ze8 ?_ | with_reducible refine L2.iP ze9 ?_ | with_reducible refine L2.iP ze10 ?_ | with_reducible refine L2.iP ze11 ?_ | with_reducible refine L2.iP ze12 ?_ | with_reducible refine L2.iP ze13 ?_ | with_reducible refine L2.iP ze14 ?_ | with_reducible refine L2.iP ze15 ?_ | with_reducible refine L2.iP ze16 ?_ | with_reducible refine L2.iP ze17 ?_ | with_reducible refine L2.iP ze18 ?_ | with_reducible refine L2.iP ze19 ?_); walk_at "r0")))
set_option hygiene false in
local macro_rules | `(tactic| k_mem) => `(tactic| (walk_at "r0"; k_upd))
set_option hygiene false in
local macro_rules | `(tactic| k_all) => `(tactic| refine ⟨rfl, fun zv zA zo zs zf hr => ?_⟩)
section
variable {P:Program}{w:World}{K:W.Frag}{mg:Str->Option Value}{base:Heap}{Z:Adr}
variable (T:Txt P w K mg base Z)
inductive jY (K:W.Frag)(Z:Adr)(vs:List V)(H:Hp)(Q:VK)(E:XK):Prop | mk (n m:Int):vs=[.int n,.int m]->(Q (.bl (decide (0<=n/\n < m))) H)->jY K Z vs H Q E
include T in
theorem uG:FF P w K mg base CX0 1 "is_known" "is_known" kU o7 (jY K Z):=fk0 ux fun vs H Q E h=>by
 obtain ⟨n,m,rfl,q⟩:=h
 k_all
 refine ⟨_,ag (aB (kg (fj y6 (pv' 0) ai (cD _)) (oG (fj CC (pv' 0) (pv' 1) (cD _))))),?_⟩
 k_mem
 split
 ·rename_i h0
  rw [show decide (0<=n/\n < m)=decide (n < m) by simp [h0]] at q
  k_upd
  exact q
 ·rename_i h0
  rw [show decide (0<=n/\n < m)=false by simp;omega] at q
  k_upd
  exact q
variable (dF:KD P w K mg base CX0 1 "is_known" (jY K Z))
inductive ja (K:W.Frag)(Z:Adr)(vs:List V)(H:Hp)(Q:VK)(E:XK):Prop | mk (x dx l:Addr) (ls:List Ld) (m:Int):vs=[.ref x,.ref l,.int m]->H x=some (.ins Z.di dx [])->dr K H l ls->ls.length<=1000->(∀(kn wh:Addr) (H':Hp),H kn=none->H wh=none->kn≠wh->aq x H H'->cx Z.di H' x kn wh (ls.map (·.1)) (ls.map (·.2.1)) m->Q .non H')->ja K Z vs H Q E
include T in
theorem tj:FF P w K mg base CX0 1 "__init__" "Yard.__init__" jI nJ (ja K Z):=fk0 sQ fun vs H Q E h=>by
 obtain ⟨x,dx,l,ls,m,rfl,hx,hL,hn,q⟩:=h
 k_all
 refine ⟨_,ae (bg (pv' 0) (nF ["kind","level","goal"] [none,none,none] (cU (pv' 1)) (fun _ _ _ _=>(show PG _ _ (nI K 3 _) from gC (n:=3) rfl (aJ (aG (i:=0) (show (["kind","level","goal"]:List Str).Nodup by decide +kernel) rfl orL) (aJ (aG (i:=1) (show (["kind","level","goal"]:List Str).Nodup by decide +kernel) rfl orL) (aJ (aG (i:=2) (show (["kind","level","goal"]:List Str).Nodup by decide +kernel) rfl orL) dP))))) (fun _ _ _ _=>gz) (fun _ _ _ _=>(pv' 0))) rfl) (ae (bg (pv' 0) (nF ["kind","level","goal"] [none,none,none] (cU (pv' 1)) (fun _ _ _ _=>(show PG _ _ (nI K 3 _) from gC (n:=3) rfl (aJ (aG (i:=0) (show (["kind","level","goal"]:List Str).Nodup by decide +kernel) rfl orL) (aJ (aG (i:=1) (show (["kind","level","goal"]:List Str).Nodup by decide +kernel) rfl orL) (aJ (aG (i:=2) (show (["kind","level","goal"]:List Str).Nodup by decide +kernel) rfl orL) dP))))) (fun _ _ _ _=>gz) (fun _ _ _ _=>(pv' 1))) rfl) (ag (bg (pv' 0) (pv' 2) rfl))),?_⟩
 k_mem
 obtain ⟨as,hS,hT⟩:=id hL
 refine ⟨⟨_,hS⟩,?_⟩
 refine mV (fun x=>V.str x.1) hL (by rw [sizeLine_eq];omega) rfl (fun x hx N hN=>by k_mem;exact hN) fun kn hkn=>?_
 k_mem
 have k1:L2.aq x H (upd (upd H kn (HO.lst (ls.map fun x=>V.str x.1))) x (HO.ins Z.di dx (aT "kinds" (.ref kn) []))):=(aq.of ((aw.refl H).lay hkn)).put
 have hx1:upd (upd H kn (HO.lst (ls.map fun x=>V.str x.1))) x (HO.ins Z.di dx (aT "kinds" (.ref kn) [])) x=some (HO.ins Z.di dx [("kinds",.ref kn)]):=ah
 have nx:kn≠x:=fun z=>by rw [z,hx] at hkn;cases hkn
 have hk1:upd (upd H kn (HO.lst (ls.map fun x=>V.str x.1))) x (HO.ins Z.di dx (aT "kinds" (.ref kn) [])) kn=some (HO.lst (ls.map fun x=>V.str x.1)):=by rw [az nx,ah]
 refine ⟨_,_,_,upo hx hkn,T.cq,T.et,by decide,⟨_,hS.keepI k1 hx⟩,?_⟩
 generalize upd (upd H kn (HO.lst (ls.map fun x=>V.str x.1))) x (HO.ins Z.di dx (aT "kinds" (.ref kn) []))=H1 at *
 refine mV (fun x=>V.int x.2.1) (hL.keepI k1 hx) (by rw [sizeLine_eq];omega) rfl (fun x hx N hN=>by k_mem;exact hN) fun wh hwh=>?_
 have nxw:wh≠x:=fun z=>by rw [z,hx1] at hwh;cases hwh
 have nkw:kn≠wh:=fun z=>by rw [z,hwh] at hk1;cases hk1
 refine ⟨_,_,_,upo hx1 hwh,T.cq,T.bw,by show 1 < 1000;decide,_,_,_,ah,T.cq,T.i9,Nat.lt_of_le_of_lt (ju _ _ _) (by show 2 < 1000;decide),?_⟩
 refine q kn wh _ hkn ?_ nkw (((k1.trans (aq.of ((aw.refl H1).lay hwh))).put).put) ⟨⟨dx,?_⟩,?_,?_⟩
 ·cases e:H wh with
  | none=>rfl
  | some o=>have:=k1 wh o nxw e;rw [hwh] at this;cases this
 ·rw [ah];rfl
 ·rw [az nx,az nx,az nkw,hk1,List.map_map];rfl
 ·rw [az nxw,az nxw,ah,List.map_map];rfl
variable (gH:KN P w K mg base CX0 1 Z.di (ja K Z))
inductive g0 (K:W.Frag)(Z:Adr)(vs:List V)(H:Hp)(Q:VK)(E:XK):Prop | mk (y kn wh:Addr) (ks:List Str) (ws:List Int) (m:Int):vs=[.ref y]->cx Z.di H y kn wh ks ws m->(∀p,H p=none->Q (.ref p) (upd H p (.lst (ws.map V.int))))->g0 K Z vs H Q E
include T in
theorem qH:FF P w K mg base CX0 1 "spots" "Yard.spots" iS l3 (g0 K Z):=fk0 qv fun vs H Q E h=>by
 obtain ⟨y,kn,wh,ks,ws,m,rfl,hy,q⟩:=h
 k_all
 refine ⟨_,ag (aB (cJ bK (by rfl) T.eY dq (pa1 (ao (pv' 0))))),?_⟩
 obtain ⟨⟨dx,hob⟩,hkn,hwh⟩:=id hy
 k_mem
 refine fgo hob T.cq T.bw rfl ?_
 k_mem
 exact ⟨_,.inl (SqL.of hwh),q⟩
variable (fz:KM P w K mg base CX0 1 Z.di "spots" (g0 K Z))
def AR (y:Addr)(c:Int)(ws:List Int)(H:Hp)(i:Nat)(σ:St)(H':Hp):Prop:=aw H H'/\(∃t u,σ=[some (.ref y),some (.int c),t,u])/\∀j,j < i->ws.getD j 0≠10+c
inductive eZ (K:W.Frag)(Z:Adr)(vs:List V)(H:Hp)(Q:VK)(E:XK):Prop | mk (y kn wh:Addr) (ks:List Str) (ws:List Int) (m c:Int):vs=[.ref y,.int c]->cx Z.di H y kn wh ks ws m->0<=c->c < 2->(∀H',aw H H'->Q (inC ws c) H')->eZ K Z vs H Q E
include T in
theorem oh:FF P w K mg base CX0 1 "in_cage" "Yard.in_cage" fP jC (eZ K Z):=fk0 eQ fun vs H Q E h=>by
 obtain ⟨y,kn,wh,ks,ws,m,c,rfl,hy,h0,h1,q⟩:=h
 k_all
 refine seg 1 (ag (aB fI)) fun zt1 zh1 ze1=>?_
 refine ⟨_,ae (dB PassesOwn.never rfl (y9 (by rfl) T.uz rT (ao (pv' 0))) (gC rfl (aJ (aG (i:=2) eQ.nd rfl orL) (aJ (aG (i:=3) eQ.nd rfl orL) dP))) (ag (aV (ee (pv' 3) (aQ du (cB (by rfl) T.fu) (pv' 1))) (ag (aB (pv' 2))) (aC)))) zh1,?_⟩
 obtain ⟨⟨dx,hob⟩,hkn,hwh⟩:=id hy
 k_mem
 refine fgo hob T.cq T.bw rfl ?_
 k_mem
 refine ⟨⟨_,SqL.of hwh⟩,?_⟩
 k_upd
 refine t6 ws.length (AR y c ws H) ⟨aw.refl H,⟨_,_,rfl⟩,fun j hj=>absurd hj (Nat.not_lt_zero _)⟩ ?_ ?_ ?_ ?_
 ·rintro i σ H' hi ⟨s1,_,_⟩
  k_upd
  exact ⟨_,_,s1.seq (SqL.of hwh),by rw [List.getElem?_map,oR hi];rfl⟩
 ·rintro σ H' ⟨s1,_,_⟩
  k_upd
  exact ⟨_,s1.seq (SqL.of hwh),by rw [List.length_map];exact Nat.le_refl _⟩
 ·rintro i σ H' hi ⟨s1,⟨t,u,rfl⟩,hj⟩ x H2 ⟨tp,z,rfl,htp,rfl,hz⟩
  have e:=hz _ (s1.seq (SqL.of hwh))
  rw [List.getElem?_map,oR hi] at e
  cases e
  k_mem
  refine ⟨_,SqT.of ah,rfl,?_⟩
  k_mem
  refine ⟨_,T.fv _,_,rg h0 h1,?_⟩
  k_mem
  split
  ·rename_i h
   have e:=xi hi h hj
   have q':=q _ (s1.lay (o:=HO.tup [V.int ↑i,V.int (ws.getD i 0)]) htp)
   rw [inC,if_pos (h▸fH hi),e] at q'
   k_upd
   exact q'
  ·rename_i h
   k_upd
   refine ⟨s1.lay htp,⟨_,_,rfl⟩,fun j hj'=>?_⟩
   by_cases e:j=i
   ·rw [e];exact h
   ·exact hj j (by omega)
 ·rintro σ H' ⟨s1,⟨t,u,rfl⟩,hj⟩
  k_mem
  have q':=q _ s1
  rw [inC,if_neg] at q'
  ·k_upd
   exact q'
  ·intro hm
   have hlt:=List.idxOf_lt_length_iff.mpr hm
   refine hj _ hlt ?_
   rw [List.getD_eq_getElem?_getD,List.getElem?_eq_getElem hlt]
   exact List.getElem_idxOf hlt
variable (bR:KM P w K mg base CX0 1 Z.di "in_cage" (eZ K Z))
def zk (y:Addr)(ks:List Str)(ws:List Int)(H:Hp)(i:Nat)(σ:St)(H':Hp):Prop:=aw H H'/\(∃t u,σ=[some (.ref y),t,u])/\∀j k x,j < i->ks[j]?=some k->ws[j]?=some x->(decide (k="men") && decide (x=10\/x=11))=false
inductive dG (K:W.Frag)(Z:Adr)(vs:List V)(H:Hp)(Q:VK)(E:XK):Prop | mk (y kn wh:Addr) (ks:List Str) (ws:List Int) (m:Int):vs=[.ref y]->cx Z.di H y kn wh ks ws m->ks.length=ws.length->(∀H',aw H H'->Q (.bl (oS ks ws)) H')->dG K Z vs H Q E
include T in
theorem lz:FF P w K mg base CX0 1 "men_aboard" "Yard.men_aboard" dR gD (dG K Z):=fk0 dC fun vs H Q E h=>by
 obtain ⟨y,kn,wh,ks,ws,m,rfl,hy,hlen,q⟩:=h
 k_all
 refine seg 1 (ag (aB gx)) fun zt1 zh1 ze1=>?_
 refine ⟨_,ae (dB PassesOwn.never rfl (AJ (by rfl) T.Eg B0 (ao (pv' 0)) (ao (pv' 0))) (gC rfl (aJ (aG (i:=1) dC.nd rfl orL) (aJ (aG (i:=2) dC.nd rfl orL) dP))) (ag (aV (rJ (ee (pv' 1) aI) (ou (fN iQ (pv' 2) (cB (by rfl) T.fu) (by rfl)))).pt (ag (aB gx)) (aC)))) zh1,?_⟩
 obtain ⟨⟨dx,hob⟩,hkn,hwh⟩:=id hy
 k_mem
 refine fgo hob T.cq T.et rfl (fgo hob T.cq T.bw rfl ?_)
 k_mem
 refine ⟨⟨_,SqL.of hkn⟩,⟨_,SqL.of hwh⟩,?_⟩
 k_upd
 refine t6 ws.length (zk y ks ws H) ⟨aw.refl H,⟨_,_,rfl⟩,fun j _ _ hj=>absurd hj (Nat.not_lt_zero _)⟩ ?_ ?_ ?_ ?_
 ·rintro i σ H' hi ⟨s1,_,_⟩
  have hk:ks[i]?=some ks[i]:=List.getElem?_eq_getElem (by omega)
  k_upd
  exact ⟨_,_,_,_,s1.seq (SqL.of hkn),s1.seq (SqL.of hwh),by rw [List.getElem?_map,hk];rfl,by rw [List.getElem?_map,oR hi];rfl⟩
 ·rintro σ H' ⟨s1,_,_⟩
  k_upd
  exact ⟨_,_,s1.seq (SqL.of hkn),s1.seq (SqL.of hwh),.inr (by rw [List.length_map];exact Nat.le_refl _)⟩
 ·rintro i σ H' hi ⟨s1,⟨t,u,rfl⟩,hj⟩ x H2 ⟨tp,z1,z2,rfl,htp,rfl,hz1,hz2⟩
  have hk:ks[i]?=some ks[i]:=List.getElem?_eq_getElem (by omega)
  have hw:ws[i]?=some ws[i]:=List.getElem?_eq_getElem hi
  have e:=hz1 _ (s1.seq (SqL.of hkn))
  rw [List.getElem?_map,hk] at e
  cases e
  have e:=hz2 _ (s1.seq (SqL.of hwh))
  rw [List.getElem?_map,hw] at e
  cases e
  k_mem
  refine ⟨_,SqT.of ah,rfl,?_⟩
  k_mem
  have no:(decide (ks[i]=Str.ofString "men") && decide (ws[i]=10\/ws[i]=11))=false->zk y ks ws H (i+1) [some (V.ref y),some (V.str ks[i]),some (V.int ws[i])] (upd H' tp (HO.tup [V.str ks[i],V.int ws[i]])):=fun hn=>by
   refine ⟨s1.lay htp,⟨_,_,rfl⟩,fun j k x hj' e1 e2=>?_⟩
   by_cases e:j=i
   ·subst e
    rw [hk] at e1;rw [hw] at e2
    cases e1;cases e2
    exact hn
   ·exact hj j k x (by omega) e1 e2
  k_upd
  split
  ·rename_i h1
   k_upd
   refine ⟨_,.inr (T.fv _),rfl,rfl,?_⟩
   rw [rk]
   k_mem
   split
   ·rename_i h2
    have q':=q _ (s1.lay (o:=HO.tup [V.str ks[i],V.int ws[i]]) htp)
    rw [yv hk hw h1 h2] at q'
    k_upd
    exact q'
   ·rename_i h2
    exact no (by simp [h2])
  ·rename_i h1
   exact no (by simp [h1])
 ·rintro σ H' ⟨s1,⟨t,u,rfl⟩,hj⟩
  k_mem
  have q':=q _ s1
  rw [rj hj (.inr (Nat.le_refl _))] at q'
  k_upd
  exact q'
variable (gI:KM P w K mg base CX0 1 Z.di "men_aboard" (dG K Z))
inductive fY (K:W.Frag)(Z:Adr)(vs:List V)(H:Hp)(Q:VK)(E:XK):Prop | mk (n:Int):vs=[.int n]->(Q (.bl (decide (1<=n/\n<=9))) H)->fY K Z vs H Q E
include T in
theorem pW:FF P w K mg base CX0 1 "are_strokes" "are_strokes" gQ ku (fY K Z):=fk0 pq fun vs H Q E h=>by
 obtain ⟨n,rfl,q⟩:=h
 k_all
 refine ⟨_,ag (aB (kg (fj y6 (pv' 0) (cB (by rfl) T.nq) (cD _)) (oG (fj CD (pv' 0) (cB (by rfl) T.pO) (cD _))))),?_⟩
 k_mem
 split
 ·rename_i h0
  rw [show decide (1<=n/\n<=9)=decide (n<=9) by simp [h0]] at q
  k_upd
  exact q
 ·rename_i h0
  rw [show decide (1<=n/\n<=9)=false by simp;omega] at q
  k_upd
  exact q
variable (dj:KD P w K mg base CX0 1 "are_strokes" (fY K Z))
inductive g8 (K:W.Frag)(Z:Adr)(vs:List V)(H:Hp)(Q:VK)(E:XK):Prop | mk (x dx l:Addr) (ls:List Cd):vs=[.ref x,.ref l]->H x=some (.ins Z.bh dx [])->gN cdV K H l ls->ls.length<=1000->(∀(cs fl st:Addr) (H':Hp),H cs=none->H fl=none->aq x H H'->br Z.bh K H' x cs fl st ls (ls.map fun _=>false) .no->Q .non H')->g8 K Z vs H Q E
include T in
theorem qI:FF P w K mg base CX0 1 "__init__" "Bells.__init__" iT l4 (g8 K Z):=fk0 qw fun vs H Q E h=>by
 obtain ⟨x,dx,l,ls,rfl,hx,hL,hn,q⟩:=h
 k_all
 refine seg 2 (ag (bg (pv' 0) (bN (pa4 aI fI fI fI)) rfl)) fun zt2 zh2 ze2=>?_
 refine seg 1 (ae (bg (pv' 0) (nF ["code"] [none] (cU (pv' 1)) (fun _ _ _ _=>(aG (i:=0) (show (["code"]:List Str).Nodup by decide +kernel) rfl orL)) (fun _ _ _ _=>gz) (fun _ _ _ _=>gx)) rfl) zh2) fun zt1 zh1 ze1=>?_
 refine ⟨_,ae (bg (pv' 0) (cJ bK (by rfl) T.eY dq (pa1 (pv' 1))) rfl) zh1,?_⟩
 obtain ⟨as,hS,hT⟩:=id hL
 k_mem
 refine ⟨_,.inl hS,fun cs hcs=>?_⟩
 k_upd
 refine ⟨_,_,_,upo hx hcs,T.bq,T.cC,by decide,?_⟩
 have nx:cs≠x:=fun z=>by rw [z,hx] at hcs;cases hcs
 have k1:L2.aq x H (upd (upd H cs (HO.lst (as.map V.ref))) x (HO.ins Z.bh dx (aT "codes" (.ref cs) []))):=(aq.of ((aw.refl H).lay hcs)).put
 have hx1:upd (upd H cs (HO.lst (as.map V.ref))) x (HO.ins Z.bh dx (aT "codes" (.ref cs) [])) x=some (HO.ins Z.bh dx [("codes",.ref cs)]):=ah
 have hc1:upd (upd H cs (HO.lst (as.map V.ref))) x (HO.ins Z.bh dx (aT "codes" (.ref cs) [])) cs=some (HO.lst (as.map V.ref)):=by rw [az nx,ah]
 generalize upd (upd H cs (HO.lst (as.map V.ref))) x (HO.ins Z.bh dx (aT "codes" (.ref cs) []))=H1 at *
 k_upd
 refine ⟨⟨_,hS.keepI k1 hx⟩,?_⟩
 refine nH (fun _=>true) (fun _=>V.bl false) (hS.keepI k1 hx) (by rw [List.length_map,hT.1,sizeLine_eq];omega) rfl (fun y _ N hN=>by k_mem;exact hN) (fun y _ _ N hN=>by k_mem;exact hN) fun fl hfl=>?_
 k_mem
 have ef:((as.map V.ref).filter fun _=>true).map (fun _=>V.bl false)=(ls.map fun _=>false).map V.bl:=by
  rw [List.filter_eq_self.mpr (by simp),List.map_map,List.map_map]
  refine List.ext_getElem (by simp [hT.1]) fun i h1 h2=>by simp
 rw [ef]
 have nfx:fl≠x:=fun z=>by rw [z,hx1] at hfl;cases hfl
 have nfc:cs≠fl:=fun z=>by rw [←z,hc1] at hfl;cases hfl
 k_upd
 refine ⟨_,_,_,upo hx1 hfl,T.bq,T.dz,by show 1 < 1000;decide,?_⟩
 have k2:L2.aq x H1 (upd (upd H1 fl (HO.lst ((ls.map fun _=>false).map V.bl))) x (HO.ins Z.bh dx (aT "failed" (.ref fl) [("codes",.ref cs)]))):=(aq.of ((aw.refl H1).lay hfl)).put
 have hx2:upd (upd H1 fl (HO.lst ((ls.map fun _=>false).map V.bl))) x (HO.ins Z.bh dx (aT "failed" (.ref fl) [("codes",.ref cs)])) x=some (HO.ins Z.bh dx [("codes",.ref cs),("failed",.ref fl)]):=by rw [ah];rfl
 have hf2:upd (upd H1 fl (HO.lst ((ls.map fun _=>false).map V.bl))) x (HO.ins Z.bh dx (aT "failed" (.ref fl) [("codes",.ref cs)])) fl=some (HO.lst ((ls.map fun _=>false).map V.bl)):=by rw [az nfx,ah]
 generalize upd (upd H1 fl (HO.lst ((ls.map fun _=>false).map V.bl))) x (HO.ins Z.bh dx (aT "failed" (.ref fl) [("codes",.ref cs)]))=H2 at *
 k_upd
 refine ⟨by decide,fun st hst=>⟨_,_,_,upo hx2 hst,T.bq,T.a8,by show 2 < 1000;decide,?_⟩⟩
 have nsx:st≠x:=fun z=>by rw [z,hx2] at hst;cases hst
 have k3:L2.aq x H2 (upd (upd H2 st (HO.tup [V.str (Str.ofString "not rung"),V.non,V.non,V.non])) x (HO.ins Z.bh dx (aT "state" (.ref st) [("codes",.ref cs),("failed",.ref fl)]))):=(aq.of ((aw.refl H2).lay hst)).put
 refine q cs fl st _ hcs (k1.free nfx hfl) ((k1.trans k2).trans k3) ⟨⟨dx,by rw [ah];rfl⟩,⟨as,k3 _ _ nx (k2 _ _ nx hc1),?_⟩,k3 _ _ nfx hf2,SqT.of (by rw [az nsx,ah];rfl),nfc,by rw [List.length_map]⟩
 exact hT.keepI ((k1.trans k2).trans k3) hx
variable (fA:KN P w K mg base CX0 1 Z.bh (g8 K Z))
def CP (a:Addr)(ds:List Int)(H:Hp)(i:Nat)(σ:St)(H':Hp):Prop:=H'=H/\(∃t,σ=[some (.ref a),t,none])/\∀j,j < i->0<=ds.getD j 0/\ds.getD j 0<=500
def CQ (a:Addr)(ds:List Int)(H:Hp)(i:Nat)(σ:St)(H':Hp):Prop:=H'=H/\(∃t u,σ=[some (.ref a),t,u])/\∀j,j < i->ds.getD j 0 < ds.getD (j+1) 0
inductive e8 (K:W.Frag)(Z:Adr)(vs:List V)(H:Hp)(Q:VK)(E:XK):Prop | mk (a:Addr) (ds:List Int):vs=[.ref a]->SqL K H a (ds.map V.int)->ds.length<=100000->((bG ds->Q .non H))->((¬bG ds->E (.ref Z.iD) none H))->e8 K Z vs H Q E
include T in
theorem oi:FF P w K mg base (CXf P w) 1 "check_depths" "check_depths" fS jE (e8 K Z):=fkF eS fun vs H Q E h=>by
 obtain ⟨a,ds,rfl,hS,hl,q1,q2⟩:=h
 k_all
 refine seg 2 (ag (dB u6 rfl (oZ (by rfl) T.cY (pa2 ai (ay av (by rfl) T.bY bu (pa1 (pv' 0))))) (aG (i:=2) eS.nd rfl orL) (ag (aV (Ef (aQ aA (pv' 0) (pv' 2)) (aQ aA (pv' 0) (aP bS (pv' 2) ai))) (ag (aU T.jX (by rfl) T.jV (pa1 aI))) (aC))))) fun zt2 zh2 ze2=>?_
 refine seg 1 (ae (dB u6 rfl (cU (pv' 0)) (aG (i:=1) eS.nd rfl orL) (ag (aV (jk (oY (pv' 1) ai) (gM (uu (pv' 1) (cB (by rfl) T.nu)))).pt (ag (aU T.jX (by rfl) T.jV (pa1 aI))) (aC)))) zh2) fun zt1 zh1 ze1=>?_
 refine ⟨_,ae (aV (jk (oY (ay av (by rfl) T.bY bu (pa1 (pv' 0))) (cB (by rfl) T.og)) (gM (uu (ay av (by rfl) T.bY bu (pa1 (pv' 0))) (cB (by rfl) T.qB)))).pt (ag (aU T.jX (by rfl) T.jV (pa1 aI))) (aC)) zh1,?_⟩
 k_mem
 refine ⟨_,.inl hS,?_⟩
 rw [List.length_map]
 k_upd
 split
 ·k_upd
  exact ⟨by decide,q2 fun h=>by have:=h.l2;omega⟩
 ·k_upd
  refine ⟨_,.inl hS,?_⟩
  rw [List.length_map]
  k_upd
  split
  ·k_upd
   exact ⟨by decide,q2 fun h=>by have:=h.l6;omega⟩
  ·k_upd
   refine ⟨⟨_,hS⟩,?_⟩
   k_upd
   refine ka (ds.map V.int) (CP a ds H) ⟨rfl,⟨_,rfl⟩,fun j h=>absurd h (Nat.not_lt_zero _)⟩ (fun i σ H' _ ⟨e,_⟩=>by rw [e];exact hS) ?_ ?_
   ·rintro i x σ H' hx ⟨rfl,⟨t,rfl⟩,hj⟩
    obtain ⟨d,rfl,hd,hmem⟩:=iJ hx
    have hi:i < ds.length:=(List.getElem?_eq_some_iff.mp hd).1
    have hdg:ds.getD i 0=d:=by rw [List.getD_eq_getElem?_getD,hd];rfl
    k_mem
    split
    ·k_upd
     exact ⟨by decide,q2 fun h=>by have:=h.lo d hmem;omega⟩
    ·split
     ·k_upd
      exact ⟨by decide,q2 fun h=>by have:=h.hi d hmem;omega⟩
     ·k_upd
      refine ⟨rfl,⟨_,rfl⟩,fun j hj'=>?_⟩
      by_cases e:j=i
      ·rw [e,hdg];omega
      ·exact hj j (by omega)
   ·rintro σ H' ⟨rfl,⟨t,rfl⟩,hb⟩
    rw [List.length_map] at hb
    k_mem
    refine ⟨_,.inl hS,⟨by decide,by decide,by rw [List.length_map];omega,by rw [List.length_map];omega⟩,?_⟩
    k_upd
    refine cw (CQ a ds H') ⟨rfl,⟨_,_,rfl⟩,fun j h=>absurd h (Nat.not_lt_zero _)⟩ ?_ ?_
    ·rintro i σ H' hi ⟨rfl,⟨t,u,rfl⟩,hj⟩
     rw [List.length_map] at hi
     k_mem
     refine ⟨_,hS,_,ck (by omega) (by omega),_,hS,_,ck (by omega) (by omega),?_⟩
     k_mem
     rw [show (1+(i:Int)).toNat=i+1 by omega,show (1+(i:Int) - 1).toNat=i by omega]
     k_upd
     split
     ·k_upd
      refine ⟨by decide,q2 fun h=>?_⟩
      have:=h.lt (i:=i) (j:=i+1) (by omega) (by omega)
      omega
     ·k_upd
      refine ⟨rfl,⟨_,_,rfl⟩,fun j hj'=>?_⟩
      by_cases e:j=i
      ·rw [e];omega
      ·exact hj j (by omega)
    ·rintro σ H' ⟨rfl,⟨t,u,rfl⟩,hu⟩
     rw [List.length_map] at hu
     k_mem
     exact q1 (bG.of (by omega) (by omega) hb fun i hi=>hu i (by omega))
variable (jZ:KD P w K mg base (CXf P w) 1 "check_depths" (e8 K Z))
inductive g9 (K:W.Frag)(Z:Adr)(vs:List V)(H:Hp)(Q:VK)(E:XK):Prop | mk (a:Addr) (ds:List Int):vs=[.ref a]->SqL K H a (ds.map V.int)->0 < ds.length->Q (.int (bX ds)) H->g9 K Z vs H Q E
include T in
theorem qJ:FF P w K mg base CX0 1 "drum_whole" "drum_whole" iW l8 (g9 K Z):=fk0 qy fun vs H Q E h=>by
 obtain ⟨a,ds,rfl,hS,hl,q⟩:=h
 k_all
 refine ⟨_,ag (aB (aQ aA (pv' 0) (aP bS (ay av (by rfl) T.bY bu (pa1 (pv' 0))) ai))),?_⟩
 k_mem
 refine ⟨_,.inl hS,_,hS,_,ck (by rw [List.length_map];omega) (by rw [List.length_map];omega),?_⟩
 rw [List.length_map,show ((ds.length:Int) - 1).toNat=ds.length - 1 by omega]
 k_upd
 exact q
variable (mx:KD P w K mg base CX0 1 "drum_whole" (g9 K Z))
def zl (a:Addr)(ds:List Int)(d:Int)(H:Hp)(i:Nat)(σ:St)(H':Hp):Prop:=H'=H/\(∃t,σ=[some (.ref a),some (.int d),t])/\∀j,j < i->ds.getD j 0≠d
inductive j0 (K:W.Frag)(Z:Adr)(vs:List V)(H:Hp)(Q:VK)(E:XK):Prop | mk (a:Addr) (ds:List Int) (d:Int):vs=[.ref a,.int d]->SqL K H a (ds.map V.int)->ds.length<=100000->((∀i:Nat,i < ds.length->ds.getD i 0=d->Q (.int i) H))->(((∀i,i < ds.length->ds.getD i 0≠d)->Q .non H))->j0 K Z vs H Q E
include T in
theorem uH:FF P w K mg base CX0 1 "level_at" "level_at" kX pe (j0 K Z):=fk0 nS fun vs H Q E h=>by
 obtain ⟨a,ds,d,rfl,hS,hl,q1,q2⟩:=h
 k_all
 refine seg 1 (ag (aB fI)) fun zt1 zh1 ze1=>?_
 refine ⟨_,ae (dB PassesOwn.never rfl (cy (by rfl) T.cY (pa1 (ay av (by rfl) T.bY bu (pa1 (pv' 0))))) (aG (i:=2) nS.nd rfl orL) (ag (aV (ee (aQ aA (pv' 0) (pv' 2)) (pv' 1)) (ag (aB (pv' 2))) (aC)))) zh1,?_⟩
 k_mem
 refine ⟨_,.inl hS,by omega,by rw [List.length_map];omega,cw (zl a ds d H) ⟨rfl,⟨_,rfl⟩,fun _ h=>absurd h (Nat.not_lt_zero _)⟩ ?_ ?_⟩
 ·rintro i σ H' hi ⟨rfl,⟨t,rfl⟩,hj⟩
  rw [List.length_map] at hi
  have hi':i < ds.length:=by omega
  k_mem
  refine ⟨_,hS,_,by rw [Int.zero_add];exact oO hi',?_⟩
  k_mem
  split
  ·rename_i he
   rw [Int.zero_add]
   k_upd
   exact q1 i hi' he
  ·rename_i he
   k_upd
   refine ⟨rfl,⟨_,rfl⟩,fun j hj'=>?_⟩
   by_cases e:j=i
   ·rw [e];exact he
   ·exact hj j (by omega)
 ·rintro σ H' ⟨rfl,⟨t,rfl⟩,hj⟩
  k_mem
  refine q2 fun i hi=>hj i ?_
  rw [List.length_map]
  omega
variable (pX:KD P w K mg base CX0 1 "level_at" (j0 K Z))
inductive e9 (K:W.Frag)(Z:Adr)(vs:List V)(H:Hp)(Q:VK)(E:XK):Prop | mk (sl fa:Int):vs=[.int sl,.int fa]->(if 1<=sl/\sl<=fa/\fa<=500 then Q .non H else E (.ref Z.iE) none H)->e9 K Z vs H Q E
include T in
theorem oj:FF P w K mg base (CXf P w) 1 "check_speeds" "check_speeds" fT jF (e9 K Z):=fkF oe fun vs H Q E h=>by
 obtain ⟨sl,fa,rfl,q⟩:=h
 k_all
 refine ⟨_,ag (aV (jk (oY (pv' 0) ai) (jk (oY (pv' 1) (pv' 0)) (gM (uu (pv' 1) (cB (by rfl) T.nv))))).pt (ag (aU T.uF (by rfl) T.uC (pa1 aI))) (aC)),?_⟩
 k_mem
 split
 ·rw [if_neg (by omega)] at q
  k_upd
  exact ⟨by decide,q⟩
 ·split
  ·rw [if_neg (by omega)] at q
   k_upd
   exact ⟨by decide,q⟩
  ·split
   ·rw [if_neg (by omega)] at q
    k_upd
    exact ⟨by decide,q⟩
   ·rw [if_pos (by omega)] at q
    k_upd
    exact q
variable (j1:KD P w K mg base (CXf P w) 1 "check_speeds" (e9 K Z))
inductive hG (K:W.Frag)(Z:Adr)(vs:List V)(H:Hp)(Q:VK)(E:XK):Prop | mk (wy sp:Int):vs=[.int wy,.int sp]->0 < sp->sp < 2 ^ 200->Q (.int ((wy+sp - 1) / sp)) H->hG K Z vs H Q E
include T in
theorem qK:FF P w K mg base CX0 1 "wind_ticks" "wind_ticks" iX l9 (hG K Z):=fk0 qz fun vs H Q E h=>by
 obtain ⟨wy,sp,rfl,h0,h1,q⟩:=h
 k_all
 refine ⟨_,ag (aB (aP xt (aP bS (aP bA (pv' 0) (pv' 1)) ai) (pv' 1))),?_⟩
 k_mem
 exact ⟨⟨h0,h1⟩,q⟩
variable (my:KD P w K mg base CX0 1 "wind_ticks" (hG K Z))
noncomputable abbrev clZ (Z:Adr):Cl:=⟨Z.bh,Z.di,Z.cI,Z.lp,Z.aW⟩
inductive en (K:W.Frag)(Z:Adr)(vs:List V)(H:Hp)(Q:VK)(E:XK):Prop | mk (x dx o b y:Addr) (pl:Int) (gs:List Bool):vs=[.ref x,.int pl,.ref o,.ref b,.ref y]->H x=some (.ins Z.cI dx [])->SqL K H o (gs.map V.bl)->(∀(ol:Addr) (H':Hp),H ol=none->aq x H H'->H' x=some (.ins Z.cI dx [("place",.int pl),("opened",.ref ol),("bells",.ref b),("yard",.ref y)])->H' ol=some (.lst (gs.map V.bl))->Q .non H')->en K Z vs H Q E
include T in
theorem nA:FF P w K mg base CX0 1 "__init__" "Standing.__init__" eT jn (en K Z):=fk0 mX fun vs H Q E h=>by
 obtain ⟨x,dx,o,b,y,pl,gs,rfl,hx,hO,q⟩:=h
 k_all
 refine ⟨_,ae (bg (pv' 0) (pv' 1) rfl) (ae (bg (pv' 0) (cJ bK (by rfl) T.eY dq (pa1 (pv' 2))) rfl) (ae (bg (pv' 0) (pv' 3) rfl) (ag (bg (pv' 0) (pv' 4) rfl)))),?_⟩
 k_mem
 refine ⟨_,_,_,hx,T.aE,T.bT,by decide,?_⟩
 have k1:L2.aq x H (upd H x (HO.ins Z.cI dx (aT "place" (.int pl) []))):=(aq.of (aw.refl H)).put
 refine ⟨_,.inl (hO.keepI k1 hx),fun ol hol=>?_⟩
 have nol:ol≠x:=fun z=>by rw [z,ah] at hol;cases hol
 refine ⟨_,_,_,upo ah hol,T.aE,T.bF,by show 1 < 1000;decide,_,_,_,ah,T.aE,T.cu,by show 2 < 1000;decide,_,_,_,ah,T.aE,T.bc,by show 3 < 1000;decide,?_⟩
 refine q ol _ (k1.free nol hol) (((k1.trans (aq.of ((aw.refl _).lay hol))).put).put.put) ?_ ?_
 ·rw [ah];rfl
 ·rw [az nol,az nol,az nol,ah]
variable (dA:KN P w K mg base CX0 1 Z.cI (en K Z))
inductive jb (K:W.Frag)(Z:Adr)(vs:List V)(H:Hp)(Q:VK)(E:XK):Prop | mk (x dx f:Addr):vs=[.ref x,.ref f,.int 300]->H x=some (.ins Z.lp dx [])->(∀(rl:Addr) (H':Hp),H rl=none->aq x H H'->H' x=some (.ins Z.lp dx [("first",.ref f),("most",.int 300),("rows",.ref rl)])->H' rl=some (.lst [])->Q .non H')->jb K Z vs H Q E
include T in
theorem tm:FF P w K mg base CX0 1 "__init__" "Book.__init__" jM nN (jb K Z):=fk0 sU fun vs H Q E h=>by
 obtain ⟨x,dx,f0,rfl,hx,q⟩:=h
 k_all
 refine ⟨_,ae (bg (pv' 0) (pv' 1) rfl) (ae (bg (pv' 0) (pv' 2) rfl) (ag (bg (pv' 0) (cv jv) rfl))),?_⟩
 k_mem
 refine ⟨_,_,_,hx,T.cO,T.kJ,by decide,_,_,_,ah,T.cO,T.mw,by show 1 < 1000;decide,by decide,fun rl hrl=>?_⟩
 have k1:L2.aq x H (upd (upd H x (HO.ins Z.lp dx (aT "first" (.ref f0) []))) x (HO.ins Z.lp dx (aT "most" (.int 300) (aT "first" (.ref f0) [])))):=((aq.of (aw.refl H)).put).put
 have nrl:rl≠x:=fun z=>by rw [z,ah] at hrl;cases hrl
 refine ⟨_,_,_,upo ah hrl,T.cO,T.bL,by show 2 < 1000;decide,?_⟩
 refine q rl _ (k1.free nrl hrl) ((k1.trans (aq.of ((aw.refl _).lay hrl))).put) ?_ ?_
 ·rw [ah];rfl
 ·rw [az nrl,ah]
variable (nW:KN P w K mg base CX0 1 Z.lp (jb K Z))
inductive j2 (K:W.Frag)(Z:Adr)(vs:List V)(H:Hp)(Q:VK)(E:XK):Prop | mk (bk rl:Addr) (g:Cfg) (n0:a6) (rs:List Row):vs=[.ref bk]->BAt (clZ Z) K H bk rl g n0 rs->Q (.int (gu rs)) H->j2 K Z vs H Q E
include T in
theorem uI:FF P w K mg base CX0 1 "now" "Book.now" kZ ph (j2 K Z):=fk0 uy fun vs H Q E h=>by
 obtain ⟨bk,rl,g,n0,rs,rfl,hB,q⟩:=h
 k_all
 refine seg 1 (ag (aB (aQ du (aQ aA (ao (pv' 0)) (aP bS (ay av (by rfl) T.bY bu (pa1 (ao (pv' 0)))) ai)) ai))) fun zt1 zh1 ze1=>?_
 refine ⟨_,ae (aV (cR (tN (ao (pv' 0)) (fun _=>rfl))) (ag (aB ai)) (aC)) zh1,?_⟩
 obtain ⟨⟨dx,f0,hob,hF⟩,as,hrl,hR⟩:=id hB
 k_mem
 refine fgo hob T.cO T.bL rfl ⟨_,.inl ⟨_,SqL.of hrl,rfl⟩,?_⟩
 rcases gB rs with rfl | ⟨rs',r,rfl⟩
 ·have e:as=[]:=List.length_eq_zero_iff.mp hR.1
  subst e
  k_upd
  exact q
 ·obtain ⟨as',a,rfl,hR',dd,s,hra,_,_⟩:=hR.last
  k_upd
  rw [if_neg (by simp)]
  k_upd
  refine fgo hob T.cO T.bL rfl ?_
  k_mem
  refine fgo hob T.cO T.bL rfl ?_
  k_mem
  refine ⟨_,.inl (SqL.of hrl),_,SqL.of hrl,_,rh,?_⟩
  k_mem
  refine ⟨_,hra,_,rfl,?_⟩
  rw [mQ] at q
  k_upd
  exact q
variable (jc:KM P w K mg base CX0 1 Z.lp "now" (j2 K Z))
inductive fZ (K:W.Frag)(Z:Adr)(vs:List V)(H:Hp)(Q:VK)(E:XK):Prop | mk (bk rl:Addr) (g:Cfg) (n0:a6) (rs:List Row):vs=[.ref bk]->BAt (clZ Z) K H bk rl g n0 rs->(∀s,cN (clZ Z) K H rl g s (af n0 rs)->Q (.ref s) H)->fZ K Z vs H Q E
include T in
theorem pY:FF P w K mg base CX0 1 "latest" "Book.latest" gU kA (fZ K Z):=fk0 pz fun vs H Q E h=>by
 obtain ⟨bk,rl,g,n0,rs,rfl,hB,q⟩:=h
 k_all
 refine seg 1 (ag (aB (aQ du (aQ aA (ao (pv' 0)) (aP bS (ay av (by rfl) T.bY bu (pa1 (ao (pv' 0)))) ai)) ai))) fun zt1 zh1 ze1=>?_
 refine ⟨_,ae (aV (cR (tN (ao (pv' 0)) (fun _=>rfl))) (ag (aB (ao (pv' 0)))) (aC)) zh1,?_⟩
 obtain ⟨⟨dx,f0,hob,hF⟩,as,hrl,hR⟩:=id hB
 k_mem
 refine fgo hob T.cO T.bL rfl ⟨_,.inl ⟨_,SqL.of hrl,rfl⟩,?_⟩
 rcases gB rs with rfl | ⟨rs',r,rfl⟩
 ·have e:as=[]:=List.length_eq_zero_iff.mp hR.1
  subst e
  k_upd
  exact fgo hob T.cO T.kJ rfl (q f0 hF)
 ·obtain ⟨as',a,rfl,hR',dd,s,hra,_,hs⟩:=hR.last
  k_upd
  rw [if_neg (by simp)]
  k_upd
  refine fgo hob T.cO T.bL rfl ?_
  k_mem
  refine fgo hob T.cO T.bL rfl ?_
  k_mem
  refine ⟨_,.inl (SqL.of hrl),_,SqL.of hrl,_,rh,?_⟩
  k_mem
  refine ⟨_,hra,_,rfl,?_⟩
  rw [bP] at q
  k_upd
  exact q s hs
variable (aF:KM P w K mg base CX0 1 Z.lp "latest" (fZ K Z))
inductive jd (K:W.Frag)(Z:Adr)(vs:List V)(H:Hp)(Q:VK)(E:XK):Prop | mk (bk rl:Addr) (g:Cfg) (n0:a6) (rs:List Row):vs=[.ref bk]->BAt (clZ Z) K H bk rl g n0 rs->rs.length<=1000->(∀(p:Addr) (as:List Addr) (H':Hp),H p=none->aw H H'->H' p=some (.lst (as.map V.ref))->eO K H' as rs->Q (.ref p) H')->jd K Z vs H Q E
include T in
theorem tq:FF P w K mg base CX0 1 "told" "Book.told" jN nO (jd K Z):=fk0 sV fun vs H Q E h=>by
 obtain ⟨bk,rl,g,n0,rs,rfl,hB,hn,q⟩:=h
 k_all
 refine ⟨_,ag (aB (nF ["began","ended","deed","speed","standing"] [none,none,none,none,none] (cU (ao (pv' 0))) (fun _ _ _ _=>(show PG _ _ (nI K 5 _) from gC (n:=5) rfl (aJ (aG (i:=0) (show (["began","ended","deed","speed","standing"]:List Str).Nodup by decide +kernel) rfl orL) (aJ (aG (i:=1) (show (["began","ended","deed","speed","standing"]:List Str).Nodup by decide +kernel) rfl orL) (aJ (aG (i:=2) (show (["began","ended","deed","speed","standing"]:List Str).Nodup by decide +kernel) rfl orL) (aJ (aG (i:=3) (show (["began","ended","deed","speed","standing"]:List Str).Nodup by decide +kernel) rfl orL) (aJ (aG (i:=4) (show (["began","ended","deed","speed","standing"]:List Str).Nodup by decide +kernel) rfl orL) dP))))))) (fun _ _ _ _=>gz) (fun _ _ _ _=>(bN (pa3 (pv' 0) (pv' 1) (pv' 2)))))),?_⟩
 obtain ⟨⟨dx,f0,hob,hF⟩,as,hrl,hR⟩:=id hB
 have hl:=hR.1
 k_mem
 refine fgo hob T.cO T.bL rfl ?_
 k_mem
 refine ⟨⟨_,SqL.of hrl⟩,?_⟩
 refine r6 rs.length (fun i acc H'=>aw H H'/\∃bs:List Addr,acc=bs.map V.ref/\eO K H' bs (rs.take i)) ⟨aw.refl H,[],rfl,rfl,fun i a r e _=>by simp at e⟩ ?_ ?_ ?_ ?_
 ·rintro i acc H' hi ⟨s1,_⟩
  have hi':i < as.length:=by omega
  k_upd
  exact ⟨_,.ref as[i],SqL.of (s1 _ _ hrl),by rw [List.getElem?_map,List.getElem?_eq_getElem hi'];rfl⟩
 ·rintro acc H' ⟨s1,_⟩
  k_upd
  exact ⟨_,SqL.of (s1 _ _ hrl),by rw [List.length_map];omega⟩
 ·rintro i acc H1 hi ⟨s1,bs,rfl,hb⟩
  have hi':i < as.length:=by omega
  have hbl:=hb.1
  rw [List.length_take] at hbl
  k_upd
  refine ⟨cX (by rw [List.length_map];omega),?_⟩
  rintro x H2 ⟨e2,y⟩ M hM
  subst e2
  have hy:=y _ (SqL.of (s1 _ _ hrl))
  rw [List.getElem?_map,List.getElem?_eq_getElem hi'] at hy
  cases hy
  obtain ⟨dd,s,hra,hdd,_⟩:=hR.2 i _ _ (List.getElem?_eq_getElem hi') (List.getElem?_eq_getElem hi)
  k_mem
  refine ⟨_,s1.tup hra,rfl,?_⟩
  k_mem
  refine ⟨⟨rfl,fun k v e=>?_⟩,?_⟩
  ·match k,e with
   | 0,e=>cases e
   | 1,e=>cases e
   | 2,e=>cases e
   | 3,e=>cases e
   | 4,e=>cases e
   | k+5,e=>simp at e
  ·k_upd
   refine ⟨by decide,fun p hp=>hM _ _ ⟨s1.lay hp,bs++[p],by rw [List.map_append];rfl,?_⟩⟩
   rw [List.take_succ_eq_append_getElem hi]
   exact (hb.same ((aw.refl _).lay hp)).push ⟨dd,SqT.of ah,(s1.lay hp).tup hdd⟩
 ·rintro acc H1 ⟨s1,bs,rfl,hb⟩ p hp
  rw [List.take_length] at hb
  k_upd
  exact q p bs _ (s1.free hp) (s1.lay hp) ah (hb.same ((aw.refl H1).lay hp))
variable (nX:KM P w K mg base CX0 1 Z.lp "told" (jd K Z))
inductive lA (K:W.Frag)(Z:Adr)(vs:List V)(H:Hp)(Q:VK)(E:XK):Prop | mk (i:Int):vs=[.int i]->Q (.bl true) H->lA K Z vs H Q E
include T in
theorem vO:FF P w K mg base CX0 1 "_law_whole" "_law_whole" ng rA (lA K Z):=fk0 vy fun vs H Q E h=>by
 obtain ⟨i,rfl,q⟩:=h
 k_all
 refine ⟨_,ag (aB (kg (ay tV (by rfl) T.bB bp (pa2 (pv' 0) (cM (v:=.ty "int") (by rfl) T.wJ rR rfl))) (oG (AK (ay tV (by rfl) T.bB bp (pa2 (pv' 0) (cM (v:=.ty "bool") (by rfl) T.vB rS rfl))))))),?_⟩
 k_mem
 refine tW ?_
 k_mem
 refine rW ?_
 k_mem
 exact q
variable (iH:KD P w K mg base CX0 1 "_law_whole" (lA K Z))
inductive tu (K:W.Frag)(Z:Adr)(vs:List V)(H:Hp)(Q:VK)(E:XK):Prop | mk (a:Addr) (ns:List Int) (k:Int):vs=[.ref a,.int k]->SqL K H a (ns.map V.int)->0<=k->Q (.int (ns.getD k.toNat 0)) H->tu K Z vs H Q E
include T in
theorem AS:FF P w K mg base CX0 1 "_law_at" "_law_at" vz zc (tu K Z):=fk0 AL fun vs H Q E h=>by
 obtain ⟨a,ns,k,rfl,hS,hk,q⟩:=h
 k_all
 refine seg 1 (ag (aB ai)) fun zt1 zh1 ze1=>?_
 refine ⟨_,ae (aV (oY (pv' 1) (ay av (by rfl) T.bY bu (pa1 (pv' 0)))) (ag (aB (aQ aA (pv' 0) (pv' 1)))) (aC)) zh1,?_⟩
 k_mem
 refine ⟨_,.inl hS,?_⟩
 rw [List.length_map]
 k_upd
 split
 ·rename_i hlt
  k_upd
  exact ⟨_,hS,_,ck hk hlt,q⟩
 ·rename_i hlt
  rw [yi (by omega)] at q
  k_upd
  exact q
variable (je:KD P w K mg base CX0 1 "_law_at" (tu K Z))
def AU (c k n:Int)(H:Hp)(_:Nat)(σ:St)(H':Hp):Prop:=H'=H/\∃r t,σ=[some (.int c),some (.int k),some (.int n),some (.int r),t,none]
inductive nB (K:W.Frag)(Z:Adr)(vs:List V)(H:Hp)(Q:VK)(E:XK):Prop | mk (c k n:Int):vs=[.int c,.int k,.int n]->0<=k->k<=100000->0 < n->(∀r:Int,0<=r->r < n->Q (.int r) H)->nB K Z vs H Q E
include T in
theorem xv:FF P w K mg base CX0 1 "_law_draw" "_law_draw" pN uw (nB K Z):=fk0 iw fun vs H Q E h=>by
 obtain ⟨c,k,n,rfl,hk0,hk1,hn,q⟩:=h
 k_all
 refine seg 2 (ag (aB (aP sy (ft (cF (aP lW (pv' 5) (aP bA (pv' 5) ai)) ai) ai) (pv' 2)))) fun zt2 zh2 ze2=>?_
 refine seg 1 (ae (aD (i:=5) iw.nd rfl orL (cF (aP bA (aP bA (oE (pv' 0) ai) (oE (pv' 1) ai)) ai) ai)) zh2) fun zt1 zh1 ze1=>?_
 refine ⟨_,ae (aV (ee (cF (pv' 0) ai) ai) (ae (aD (i:=3) iw.nd rfl orL (ft (pv' 0) ai)) (ae (dB PassesOwn.never rfl (cy (by rfl) T.cY (pa1 (pv' 1))) (aG (i:=4) iw.nd rfl orL) (ag (aD (i:=3) iw.nd rfl orL (ft (pv' 3) ai)))) (ag (aB (aP sy (cF (pv' 3) ai) (pv' 2)))))) (aC)) zh1,?_⟩
 k_mem
 split
 ·k_upd
  refine ⟨by omega,by omega,cw (AU c k n H) ⟨rfl,_,_,rfl⟩ ?_ ?_⟩
  ·rintro i σ H' hi ⟨rfl,r,t,rfl⟩
   k_mem
   exact ⟨rfl,_,_,rfl⟩
  ·rintro σ H' ⟨rfl,r,t,rfl⟩
   k_mem
   exact ⟨hn,q _ (Int.emod_nonneg _ (by omega)) (Int.emod_lt_of_pos _ hn)⟩
 ·k_upd
  refine ⟨.inl ⟨by omega,by omega⟩,hn,q _ (Int.emod_nonneg _ (by omega)) (Int.emod_lt_of_pos _ hn)⟩
variable (bZ:KD P w K mg base CX0 1 "_law_draw" (nB K Z))
inductive lB (K:W.Frag)(Z:Adr)(vs:List V)(H:Hp)(Q:VK)(E:XK):Prop | mk (a:Addr) (ns:List Int) (k:Int):vs=[.ref a,.int k]->SqL K H a (ns.map V.int)->0<=k->k < ns.length->(∀n:Int,Q (.int n) H)->lB K Z vs H Q E
include T in
theorem vP:FF P w K mg base CX0 1 "_law_mixed" "_law_mixed" nh rB (lB K Z):=fk0 lg fun vs H Q E h=>by
 obtain ⟨a,ns,k,rfl,hS,hk0,hk1,q⟩:=h
 k_all
 refine ⟨_,ae (aD (i:=2) lg.nd rfl orL (aQ aA (pv' 0) (pv' 1))) (ae (aV (ee (cF (aQ aA (pv' 0) ai) ai) ai) (ag (aB (pv' 2))) (aC)) (ae (aD (i:=3) lg.nd rfl orL (cF (aP bA (aP bA (oE (pv' 2) ai) (oE (pv' 1) ai)) ai) ai)) (ag (aB (cF (aP lW (pv' 3) (aP bA (pv' 3) ai)) ai))))),?_⟩
 k_mem
 refine ⟨_,hS,_,ck hk0 hk1,_,hS,_,ck (ns:=ns) (k:=0) (by omega) (by omega),?_⟩
 k_mem
 split
 ·exact q _
 ·exact ⟨.inl ⟨by omega,by omega⟩,q _⟩
variable (kh:KD P w K mg base CX0 1 "_law_mixed" (lB K Z))
def Ei (a:Addr)(c pl:Int)(dp:Int)(ds:List Int)(H:Hp)(i:Nat)(σ:St)(H':Hp):Prop:=H'=H/\(∃t,σ=[some (.ref a),some (.int c),some (.int pl),some (.int dp),t])/\∀j,j < i->ds.getD j 0≠dp
theorem two_deep {p q c:Int}(h0:0<=c)(h1:c < 2):atI [V.int p,V.int q] c=some (.int (if c=0 then p else q)):=by
 rcases (by omega:c=0\/c=1) with rfl | rfl<;>rfl
inductive tw (K:W.Frag)(Z:Adr)(vs:List V)(H:Hp)(Q:VK)(E:XK):Prop | mk (a:Addr) (ds:List Int) (c pl:Int):vs=[.ref a,.int c,.int pl]->SqL K H a (ds.map V.int)->bG ds->0<=c->c < 2->(∀H',aw H H'->Q (.int ((bz ds pl c).getD (-1))) H')->tw K Z vs H Q E
include T in
theorem AV:FF P w K mg base CX0 1 "_law_by" "_law_by" vA zd (tw K Z):=fk0 sX fun vs H Q E h=>by
 obtain ⟨a,ds,c,pl,rfl,hS,hsh,h0,h1,q⟩:=h
 k_all
 refine seg 2 (ag (aB (lK fq ai))) fun zt2 zh2 ze2=>?_
 refine seg 1 (ae (dB PassesOwn.never rfl (cy (by rfl) T.cY (pa1 (ay av (by rfl) T.bY bu (pa1 (pv' 0))))) (aG (i:=4) sX.nd rfl orL) (ag (aV (ee (aQ aA (pv' 0) (pv' 4)) (pv' 3)) (ag (aB (pv' 4))) (aC)))) zh2) fun zt1 zh1 ze1=>?_
 refine ⟨_,ae (aD (i:=3) sX.nd rfl orL (aQ aA (cv (pa2 (pv' 2) (aP bS (aQ aA (pv' 0) (lK fq ai)) (pv' 2)))) (pv' 1))) zh1,?_⟩
 have l6:=hsh.l6
 have l2:=hsh.l2
 k_mem
 refine ⟨_,hS,_,rX (by omega),?_⟩
 k_mem
 refine ⟨by decide,fun p hp=>⟨_,SqL.of ah,_,two_deep h0 h1,?_⟩⟩
 have s1:=(aw.refl H).lay (o:=HO.lst [V.int pl,V.int (bX ds - pl)]) hp
 generalize upd H p (HO.lst [V.int pl,V.int (bX ds - pl)])=H1 at *
 have ec:bz ds pl c=lvl ds (if c=0 then pl else bX ds - pl):=by unfold bz;split<;>rfl
 generalize (if c=0 then pl else bX ds - pl)=dp at *
 k_mem
 refine ⟨_,.inl (s1.seq hS),by omega,by rw [List.length_map];omega,?_⟩
 k_upd
 refine cw (Ei a c pl dp ds H1) ⟨rfl,⟨_,rfl⟩,fun _ h=>absurd h (Nat.not_lt_zero _)⟩ ?_ ?_
 ·rintro i σ H' hi ⟨rfl,⟨t,rfl⟩,hj⟩
  rw [List.length_map] at hi
  have hi':i < ds.length:=by omega
  k_mem
  refine ⟨_,s1.seq hS,_,by rw [Int.zero_add];exact oO hi',?_⟩
  k_mem
  split
  ·rename_i he
   rw [Int.zero_add]
   have q':=q _ s1
   rw [ec,jz hsh hi' he] at q'
   k_upd
   exact q'
  ·rename_i he
   k_upd
   refine ⟨rfl,⟨_,rfl⟩,fun j hj'=>?_⟩
   by_cases e:j=i
   ·rw [e];exact he
   ·exact hj j (by omega)
 ·rintro σ H' ⟨rfl,⟨t,rfl⟩,hj⟩
  k_mem
  have q':=q _ s1
  rw [ec,t8 (fun i hi=>hj i (by rw [List.length_map];omega))] at q'
  k_upd
  exact q'
variable (zm:KD P w K mg base CX0 1 "_law_by" (tw K Z))
inductive gf (K:W.Frag)(Z:Adr)(vs:List V)(H:Hp)(Q:VK)(E:XK):Prop | mk (lv m:Int):vs=[.int lv,.int m]->((0<=lv/\lv < m->Q .non H)/\(¬(0<=lv/\lv < m)->E (.ref Z.bt) none H))->gf K Z vs H Q E
include T dF in
theorem pZ:FF P w K mg base (CXf P w) 2 "check_level" "check_level" gO kq (gf K Z):=fkF pk fun vs H Q E h=>by
 obtain ⟨lv,m,rfl,q1,q2⟩:=h
 k_all
 refine ⟨_,ag (aV (cR (bV (dc0 dF hr.dn (pa2 (pv' 0) (pv' 1))))) (ag (aU T.pU (by rfl) T.pQ (pa1 aI))) (aC)),?_⟩
 k_mem
 refine ⟨_,_,rfl,?_⟩
 k_mem
 split
 ·rename_i h
  k_upd
  exact ⟨by decide,q2 h⟩
 ·rename_i h
  k_upd
  exact q1 (by simpa using h)
variable (bx:KD P w K mg base (CXf P w) 2 "check_level" (gf K Z))
inductive hJ (K:W.Frag)(Z:Adr)(vs:List V)(H:Hp)(Q:VK)(E:XK):Prop | mk (n m:Int):vs=[.int n,.int m]->((0<=n/\n < m->Q .non H)/\(¬(0<=n/\n < m)->E (.ref Z.dJ) none H))->hJ K Z vs H Q E
include T dF in
theorem qL:FF P w K mg base (CXf P w) 2 "check_load" "check_load" iR lZ (hJ K Z):=fkF qu fun vs H Q E h=>by
 obtain ⟨n,m,rfl,q1,q2⟩:=h
 k_all
 refine ⟨_,ag (aV (cR (bV (dc0 dF hr.dn (pa2 (pv' 0) (pv' 1))))) (ag (aU T.qF (by rfl) T.qC (pa1 aI))) (aC)),?_⟩
 k_mem
 refine ⟨_,_,rfl,?_⟩
 k_mem
 split
 ·rename_i h
  k_upd
  exact ⟨by decide,q2 h⟩
 ·rename_i h
  k_upd
  exact q1 (by simpa using h)
variable (fB:KD P w K mg base (CXf P w) 2 "check_load" (hJ K Z))
def Ej (l:Addr)(m:Int)(ls:List Ld)(H:Hp)(i:Nat)(σ:St)(H':Hp):Prop:=H'=H/\(∃t u v,σ=[some (.ref l),some (.int m),t,u,v])/\∀(j:Nat) x,j < i->ls[j]?=some x->jy m x
inductive gg (K:W.Frag)(Z:Adr)(vs:List V)(H:Hp)(Q:VK)(E:XK):Prop | mk (l:Addr) (ls:List Ld) (m:Int):vs=[.ref l,.int m]->dr K H l ls->(((ls.length<=30/\∀x∈ls,jy m x)->Q .non H))->((¬(ls.length<=30/\∀x∈ls,jy m x)->E (.ref Z.jS) none H))->gg K Z vs H Q E
include T dF in
theorem p8:FF P w K mg base (CXf P w) 2 "check_loads" "check_loads" gP kr (gg K Z):=fkF dQ fun vs H Q E h=>by
 obtain ⟨l,ls,m,rfl,hL,q1,q2⟩:=h
 k_all
 refine seg 1 (ag (dB u6 rfl (cU (pv' 0)) (gC rfl (aJ (aG (i:=2) dQ.nd rfl orL) (aJ (aG (i:=3) dQ.nd rfl orL) (aJ (aG (i:=4) dQ.nd rfl orL) dP)))) (ag (aV (jk (cR (bV (dc0 dF hr.dn (pa2 (pv' 3) (pv' 1))))) (gM (cR (bV (dc0 dF hr.dn (pa2 (pv' 4) (pv' 1))))))).pt (ag (aU T.pV (by rfl) T.pS (pa1 aI))) (aC))))) fun zt1 zh1 ze1=>?_
 refine ⟨_,ae (aV (uu (ay av (by rfl) T.bY bu (pa1 (pv' 0))) (cB (by rfl) T.td)) (ag (aU T.pV (by rfl) T.pS (pa1 aI))) (aC)) zh1,?_⟩
 obtain ⟨as,hS,hlen,hT⟩:=id hL
 k_mem
 refine ⟨_,.inl hS,?_⟩
 rw [List.length_map]
 k_upd
 split
 ·k_upd
  exact ⟨by decide,q2 fun h=>by omega⟩
 ·k_upd
  refine ⟨⟨_,hS⟩,?_⟩
  k_upd
  refine ka (as.map V.ref) (Ej l m ls H) ⟨rfl,⟨_,_,_,rfl⟩,fun j x h=>absurd h (Nat.not_lt_zero _)⟩ (fun i σ H' _ ⟨e,_⟩=>by rw [e];exact hS) ?_ ?_
  ·rintro i x σ H' hx ⟨rfl,⟨t,u,v,rfl⟩,hj⟩
   rw [List.getElem?_map] at hx
   obtain ⟨a,ea,rfl⟩:=Option.map_eq_some_iff.mp hx
   have hi:i < as.length:=(List.getElem?_eq_some_iff.mp ea).1
   have el:ls[i]?=some ls[i]:=List.getElem?_eq_getElem (by omega)
   have hm:ls[i]∈ls:=List.getElem_mem _
   k_mem
   refine ⟨_,hT i a _ ea el,rfl,?_⟩
   k_mem
   refine ⟨_,_,rfl,?_⟩
   k_mem
   split
   ·rename_i h1
    k_upd
    exact ⟨by decide,q2 fun h=>h1 (h.2 _ hm).1⟩
   ·rename_i h1
    k_upd
    refine ⟨_,_,rfl,?_⟩
    k_mem
    split
    ·rename_i h2
     k_upd
     exact ⟨by decide,q2 fun h=>h2 (h.2 _ hm).2⟩
    ·rename_i h2
     k_upd
     refine ⟨rfl,⟨_,_,_,rfl⟩,fun j x hj' hx=>?_⟩
     by_cases e:j=i
     ·rw [e,el] at hx
      cases hx
      k_upd
      exact ⟨by omega,by omega⟩
     ·exact hj j x (by omega) hx
  ·rintro σ H' ⟨rfl,⟨t,u,v,rfl⟩,hj⟩
   k_mem
   refine q1 ⟨by omega,fun x hx=>?_⟩
   obtain ⟨j,hj1,rfl⟩:=List.getElem_of_mem hx
   rw [List.length_map] at hj
   exact hj j _ (by omega) (List.getElem?_eq_getElem hj1)
variable (kM:KD P w K mg base (CXf P w) 2 "check_loads" (gg K Z))
def Ek (l:Addr)(m:Int)(ls:List Cd)(H:Hp)(i:Nat)(σ:St)(H':Hp):Prop:=H'=H/\(∃t u,σ=[some (.ref l),some (.int m),t,u])/\∀(j:Nat) x,j < i->ls[j]?=some x->c7 x
inductive gh (K:W.Frag)(Z:Adr)(vs:List V)(H:Hp)(Q:VK)(E:XK):Prop | mk (l:Addr) (ls:List Cd) (m:Int):vs=[.ref l,.int m]->gN cdV K H l ls->((((ls.length:Int)=m/\∀x∈ls,c7 x)->Q .non H))->((¬((ls.length:Int)=m/\∀x∈ls,c7 x)->E (.ref Z.jT) none H))->gh K Z vs H Q E
include T dj in
theorem p9:FF P w K mg base (CXf P w) 2 "check_codes" "check_codes" gR kv (gh K Z):=fkF fQ fun vs H Q E h=>by
 obtain ⟨l,ls,m,rfl,hL,q1,q2⟩:=h
 k_all
 refine seg 1 (ag (dB u6 rfl (cU (pv' 0)) (gC rfl (aJ (aG (i:=2) fQ.nd rfl orL) (aJ (aG (i:=3) fQ.nd rfl orL) dP))) (ae (aV (jk (cR (bV (dc0 dj hr.dn (pa1 (pv' 2))))) (gM (cR (bV (dc0 dj hr.dn (pa1 (pv' 3))))))).pt (ag (aU T.lx (by rfl) T.lr (pa1 aI))) (aC)) (ag (aV (ee (pv' 2) (pv' 3)) (ag (aU T.lx (by rfl) T.lr (pa1 aI))) (aC)))))) fun zt1 zh1 ze1=>?_
 refine ⟨_,ae (aV (rz (ay av (by rfl) T.bY bu (pa1 (pv' 0))) (pv' 1)) (ag (aU T.lx (by rfl) T.lr (pa1 aI))) (aC)) zh1,?_⟩
 obtain ⟨as,hS,hlen,hT⟩:=id hL
 k_mem
 refine ⟨_,.inl hS,?_⟩
 rw [List.length_map]
 k_upd
 split
 ·k_upd
  exact ⟨by decide,q2 fun h=>by omega⟩
 ·k_upd
  refine ⟨⟨_,hS⟩,?_⟩
  k_upd
  refine ka (as.map V.ref) (Ek l m ls H) ⟨rfl,⟨_,_,rfl⟩,fun j x h=>absurd h (Nat.not_lt_zero _)⟩ (fun i σ H' _ ⟨e,_⟩=>by rw [e];exact hS) ?_ ?_
  ·rintro i x σ H' hx ⟨rfl,⟨t,u,rfl⟩,hj⟩
   rw [List.getElem?_map] at hx
   obtain ⟨a,ea,rfl⟩:=Option.map_eq_some_iff.mp hx
   have hi:i < as.length:=(List.getElem?_eq_some_iff.mp ea).1
   have el:ls[i]?=some ls[i]:=List.getElem?_eq_getElem (by omega)
   have hm:ls[i]∈ls:=List.getElem_mem _
   k_mem
   refine ⟨_,hT i a _ ea el,rfl,?_⟩
   k_mem
   refine ⟨_,rfl,?_⟩
   k_mem
   split
   ·rename_i h1
    k_upd
    exact ⟨by decide,q2 fun h=>h1 (h.2 _ hm).1⟩
   ·rename_i h1
    k_upd
    refine ⟨_,rfl,?_⟩
    k_mem
    split
    ·rename_i h2
     k_upd
     exact ⟨by decide,q2 fun h=>h2 (h.2 _ hm).2.1⟩
    ·rename_i h2
     k_upd
     split
     ·rename_i h3
      k_upd
      exact ⟨by decide,q2 fun h=>(h.2 _ hm).2.2 h3⟩
     ·rename_i h3
      k_upd
      refine ⟨rfl,⟨_,_,rfl⟩,fun j x hj' hx=>?_⟩
      by_cases e:j=i
      ·rw [e,el] at hx
       cases hx
       k_upd
       exact ⟨by omega,by omega,h3⟩
      ·exact hj j x (by omega) hx
  ·rintro σ H' ⟨rfl,⟨t,u,rfl⟩,hj⟩
   k_mem
   refine q1 ⟨by omega,fun x hx=>?_⟩
   obtain ⟨j,hj1,rfl⟩:=List.getElem_of_mem hx
   exact hj j _ (by rw [List.length_map];omega) (List.getElem?_eq_getElem hj1)
variable (kO:KD P w K mg base (CXf P w) 2 "check_codes" (gh K Z))
inductive fe (K:W.Frag)(Z:Adr)(vs:List V)(H:Hp)(Q:VK)(E:XK):Prop | mk (b cs fl st:Addr) (ls:List Cd) (fs:List Bool) (e:Eng) (s:Int):vs=[.ref b,.int s]->br Z.bh K H b cs fl st ls fs e->(((∀l r,e≠.wait l r)->E (.ref Z.eD) none H))->((∀l r,e=.wait l r->¬(1<=s/\s<=9)->E (.ref Z.lj) none H))->((∀l r,e=.wait l r->(1<=s/\s<=9)->∀st' p H',H p=none->aq b H H'->br Z.bh K H' b cs fl st' ls fs (if s=r then .armed l r else .other l r s)->SqT K H' p [.bl (decide (s=r)),.int r,.int s]->Q (.ref p) H'))->fe K Z vs H Q E
include T dj in
theorem om:FF P w K mg base (CXf P w) 2 "repeat" "Bells.repeat" fR jD (fe K Z):=fkF dw fun vs H Q E h=>by
 obtain ⟨b,cs,fl,st,ls,fs,e,s,rfl,hB,q1,q2,q3⟩:=h
 k_all
 refine ⟨_,ae (aV (rz (aQ du (ao (pv' 0)) ai) aI) (ag (aU T.qG (by rfl) T.qD (pa1 aI))) (aC)) (ae (aV (cR (bV (dc0 dj hr.dn (pa1 (pv' 1))))) (ag (aU T.uE (by rfl) T.uB (pa1 aI))) (aC)) (ae (aD (i:=2) dw.nd rfl orL (aQ du (ao (pv' 0)) ai)) (ae (aD (i:=3) dw.nd rfl orL (aQ du (ao (pv' 0)) ai)) (ae (aD (i:=4) dw.nd rfl orL (fj sA (pv' 1) (pv' 3) (cD _))) (ae (bg (pv' 0) (bN (pa4 (tK (bV (pv' 4)) aI aI) (pv' 2) (pv' 3) (pv' 1))) rfl) (ag (aB (bN (pa3 (pv' 4) (pv' 3) (pv' 1)))))))))),?_⟩
 obtain ⟨⟨dx,hob⟩,⟨as,hcs,hT⟩,hfl,hst,nn,ln⟩:=id hB
 k_mem
 refine fgo hob T.bq T.a8 rfl ?_
 k_mem
 cases e with
 | wait l r=>
  refine ⟨_,hst,_,rfl,?_⟩
  k_mem
  refine ⟨_,rfl,?_⟩
  k_mem
  split
  ·rename_i h
   exact ⟨by decide,q2 l r rfl h⟩
  ·rename_i h
   have hs:1<=s/\s<=9:=by simpa using h
   refine fgo hob T.bq T.a8 rfl ?_
   k_mem
   refine ⟨_,hst,_,rfl,?_⟩
   k_mem
   refine fgo hob T.bq T.a8 rfl ?_
   k_mem
   refine ⟨_,hst,_,rfl,?_⟩
   k_mem
   split
   ·rename_i hr
    refine ⟨by decide,fun st' hst'=>⟨_,_,_,upo hob hst',T.bq,T.a8,by show 3 < 1000;decide,by decide,fun p hp=>?_⟩⟩
    have nsx:st'≠b:=fun z=>by rw [z,hob] at hst';cases hst'
    have hpn:=upn (aq.free (H':=upd (upd H st' (HO.tup [V.str (Str.ofString "armed"),V.int l,V.int r,V.int s])) b (HO.ins Z.bh dx (aT "state" (.ref st') [("codes",V.ref cs),("failed",V.ref fl),("state",V.ref st)]))) (p:=b) ((aq.of (aw.refl _)).put) (fun z=>by rw [z,ah] at hp;cases hp) hp)
    have k:=((aq.of ((aw.refl H).lay (o:=HO.tup [V.str (Str.ofString "armed"),V.int l,V.int r,V.int s]) hst')).put (o:=HO.ins Z.bh dx (aT "state" (.ref st') [("codes",V.ref cs),("failed",V.ref fl),("state",V.ref st)])) (p:=b))
    refine q3 l r rfl hs st' p _ hpn (k.trans (aq.of ((aw.refl _).lay hp))) ?_ (SqT.of ?_)
    ·refine (hB.state k (dx:=dx) (by rw [ah];rfl) (SqT.of (xs:=r9 (if s=r then .armed l r else .other l r s)) ?_)).same ((aw.refl _).lay hp)
     rw [az nsx,ah,if_pos hr,hr];rfl
    ·rw [ah]
   ·rename_i hr
    refine ⟨by decide,fun st' hst'=>⟨_,_,_,upo hob hst',T.bq,T.a8,by show 3 < 1000;decide,by decide,fun p hp=>?_⟩⟩
    have nsx:st'≠b:=fun z=>by rw [z,hob] at hst';cases hst'
    have hpn:=upn (aq.free (H':=upd (upd H st' (HO.tup [V.str (Str.ofString "repeated otherwise"),V.int l,V.int r,V.int s])) b (HO.ins Z.bh dx (aT "state" (.ref st') [("codes",V.ref cs),("failed",V.ref fl),("state",V.ref st)]))) (p:=b) ((aq.of (aw.refl _)).put) (fun z=>by rw [z,ah] at hp;cases hp) hp)
    have k:=((aq.of ((aw.refl H).lay (o:=HO.tup [V.str (Str.ofString "repeated otherwise"),V.int l,V.int r,V.int s]) hst')).put (o:=HO.ins Z.bh dx (aT "state" (.ref st') [("codes",V.ref cs),("failed",V.ref fl),("state",V.ref st)])) (p:=b))
    refine q3 l r rfl hs st' p _ hpn (k.trans (aq.of ((aw.refl _).lay hp))) ?_ (SqT.of ?_)
    ·refine (hB.state k (dx:=dx) (by rw [ah];rfl) (SqT.of (xs:=r9 (if s=r then .armed l r else .other l r s)) ?_)).same ((aw.refl _).lay hp)
     rw [az nsx,ah,if_neg hr];rfl
    ·rw [ah]
 | _=>
  refine ⟨_,hst,_,rfl,?_⟩
  k_mem
  first
  | rw [if_pos (by decide)]
  | skip
  exact ⟨by decide,q1 fun l r z=>Eng.noConfusion z⟩
variable (j3:KM P w K mg base (CXf P w) 2 Z.bh "repeat" (fe K Z))
inductive gi (K:W.Frag)(Z:Adr)(vs:List V)(H:Hp)(Q:VK)(E:XK):Prop | mk (a:Addr) (ds:List Int) (p:Int):vs=[.ref a,.int p]->SqL K H a (ds.map V.int)->0 < ds.length->Q (.int (bX ds - p)) H->gi K Z vs H Q E
include T mx in
theorem qa:FF P w K mg base CX0 2 "other_place" "other_place" gS ky (gi K Z):=fk0 pw fun vs H Q E h=>by
 obtain ⟨a,ds,p,rfl,hS,hl,q⟩:=h
 k_all
 refine ⟨_,ag (aB (aP bS (dc0 mx hr.dn (pa1 (pv' 0))) (pv' 1))),?_⟩
 k_mem
 refine ⟨a,ds,rfl,hS,hl,?_⟩
 k_mem
 exact q
variable (cK:KD P w K mg base CX0 2 "other_place" (gi K Z))
inductive hV (K:W.Frag)(Z:Adr)(vs:List V)(H:Hp)(Q:VK)(E:XK):Prop | mk (bk rl dd s:Addr) (g:Cfg) (n0 n:a6) (rs:List Row) (tk sp:Int) (dv:List V):vs=[.ref bk,.ref dd,.int tk,.int sp,.ref s]->BAt (clZ Z) K H bk rl g n0 rs->SqT K H dd dv->cN (clZ Z) K H rl g s n->((300<=rs.length->E (.ref Z.fX) none H))->((rs.length < 300->∀H',aq rl H H'->BAt (clZ Z) K H' bk rl g n0 (rs++[⟨gu rs,gu rs+tk,dv,sp,n⟩])->Q .non H'))->hV K Z vs H Q E
include T jc in
theorem qM:FF P w K mg base (CXf P w) 2 "write" "Book.write" iY ma (hV K Z):=fkF kH fun vs H Q E h=>by
 obtain ⟨bk,rl,dd,s0,g,n0,n,rs,tk,sp,dv,rfl,hB,hD,hS,q1,q2⟩:=h
 k_all
 refine seg 2 (ag (aX (tS PySem.F.plainAttrs_list PySem.F.slot_list_append PySem.F.type_list_append kS (ao (pv' 0)) (pa1 (bN (gy (pv' 5) (pa4 (aP bA (pv' 5) (pv' 2)) (pv' 1) (pv' 3) (pv' 4)))))))) fun zt2 zh2 ze2=>?_
 refine seg 1 (ae (aD (i:=5) kH.nd rfl orL (de (pv' 0) jc hr.dn aY)) zh2) fun zt1 zh1 ze1=>?_
 refine ⟨_,ae (aV (y8 (ay av (by rfl) T.bY bu (pa1 (ao (pv' 0)))) (ao (pv' 0))) (ag (aU T.vK (by rfl) T.vE (pa1 aI))) (aC)) zh1,?_⟩
 obtain ⟨⟨dx,f0,hob,hF⟩,as,hrl,hR⟩:=id hB
 have hl:=hR.1
 k_mem
 refine fgo hob T.cO T.bL rfl ?_
 k_mem
 refine ⟨_,.inl (SqL.of hrl),_,_,_,hob,T.cO,T.mw,_,rfl,?_⟩
 k_mem
 rw [List.length_map]
 k_upd
 split
 ·k_upd
  exact ⟨by decide,q1 (by omega)⟩
 ·rename_i hlt
  k_upd
  refine mgo hob rfl ⟨_,_,_,_,_,rfl,hB,?_⟩
  k_mem
  refine fgo hob T.cO T.bL rfl ?_
  k_mem
  refine ⟨.inl ⟨rfl,_,SqL.of hrl⟩,by decide,fun p hp=>⟨_,upo hrl hp,cX (by rw [List.length_map];omega),?_⟩⟩
  have s1:=(aw.refl H).lay (o:=HO.tup [V.int (gu rs),V.int (gu rs+tk),V.ref dd,V.int sp,V.ref s0]) hp
  have hrl1:=upo (o:=HO.tup [V.int (gu rs),V.int (gu rs+tk),V.ref dd,V.int sp,V.ref s0]) hrl hp
  have k1:L2.aq rl H (upd (upd H p (HO.tup [V.int (gu rs),V.int (gu rs+tk),V.ref dd,V.int sp,V.ref s0])) rl (HO.lst (as.map V.ref++[V.ref p]))):=(aq.of s1).put
  refine q2 (by omega) _ k1 ⟨⟨dx,f0,k1 _ _ (fun z=>by rw [z,hrl] at hob;cases hob) hob,hF.keep k1 hrl⟩,as++[p],by rw [ah,List.map_append];rfl,?_⟩
  exact (hR.keep k1 hrl).push ⟨dd,s0,(SqT.of ah).rew hrl1,hD.keep k1 hrl,hS.keep k1 hrl⟩
variable (mz:KM P w K mg base (CXf P w) 2 Z.lp "write" (hV K Z))
inductive c9 (K:W.Frag)(Z:Adr)(vs:List V)(H:Hp)(Q:VK)(E:XK):Prop | mk (w bk rl:Addr) (g:Cfg) (n0:a6) (rs:List Row) (s:Addr) (n:a6):vs=[.ref w,.ref s]->WAt (clZ Z) K H w bk rl g n0 rs->cN (clZ Z) K H rl g s n->g.ks.length=n.ws.length->(∀H',aw H H'->Q (.int (cT g n)) H')->c9 K Z vs H Q E
include T gI in
theorem km:FF P w K mg base CX0 2 "speed_with" "Works.speed_with" dD fO (c9 K Z):=fk0 kj fun vs H Q E h=>by
 obtain ⟨w,bk,rl,g,n0,rs,s0,n,rfl,hW,hS,hl,q⟩:=h
 k_all
 refine ⟨_,ag (aB (tK (bV (de (ao (pv' 1)) gI hr.dn aY)) (ao (pv' 0)) (ao (pv' 0)))),?_⟩
 obtain ⟨⟨dx,dl,gl,hob,hdl,hgl,n1,n2⟩,hB⟩:=id hW
 obtain ⟨⟨db,f0,hbo,hF⟩,as,hrl,hR⟩:=id hB
 k_mem
 obtain ⟨A,hA⟩:=id hS
 k_upd
 refine fgo hA.ob T.aE T.bc rfl ?_
 k_mem
 obtain ⟨dy,hyb⟩:=hA.ya.ob
 k_upd
 refine ⟨_,_,hyb,rfl,_,_,_,_,_,_,rfl,hA.ya,hl,fun H' s1=>?_⟩
 k_mem
 have q':=q H' s1
 unfold cT at q'
 k_upd
 split
 ·rename_i h
  k_upd
  rw [if_pos h] at q'
  k_upd
  exact fgo (s1 _ _ hob) T.aS T.kK rfl q'
 ·rename_i h
  k_upd
  rw [if_neg h] at q'
  k_upd
  exact fgo (s1 _ _ hob) T.aS T.kL rfl q'
variable (cG:KM P w K mg base CX0 2 Z.aW "speed_with" (c9 K Z))
inductive cf (K:W.Frag)(Z:Adr)(vs:List V)(H:Hp)(Q:VK)(E:XK):Prop | mk (w bk rl:Addr) (g:Cfg) (n0:a6) (rs:List Row) (lv:Int):vs=[.ref w,.int lv]->WAt (clZ Z) K H w bk rl g n0 rs->0<=lv->lv < (af n0 rs).gates.length->(((af n0 rs).gates.getD lv.toNat false=true->Q .non H))->(((af n0 rs).gates.getD lv.toNat false=false->E (.ref Z.iG) none H))->cf K Z vs H Q E
include T aF in
theorem gw:FF P w K mg base (CXf P w) 2 "refuse_shut_gate" "Works.refuse_shut_gate" cz df (cf K Z):=fkF gv fun vs H Q E h=>by
 obtain ⟨w,bk,rl,g,n0,rs,lv,rfl,hW,h0,h1,q1,q2⟩:=h
 k_all
 refine ⟨_,ag (aV (cR (bV (aQ aA (ao (de (ao (pv' 0)) aF hr.dn aY)) (pv' 1)))) (ag (aU T.vN (by rfl) T.vH (pa1 aI))) (aC)),?_⟩
 obtain ⟨⟨dx,dl,gl,hob,hdl,hgl,n1,n2⟩,hB⟩:=id hW
 obtain ⟨⟨db,f0,hbo,hF⟩,as,hrl,hR⟩:=id hB
 k_mem
 refine fgo hob T.aS T.aZ rfl ?_
 k_mem
 refine mgo hbo rfl ⟨_,_,_,_,_,rfl,hB,fun s0 ⟨A,hA⟩=>?_⟩
 k_mem
 refine fgo hA.ob T.aE T.bF rfl ?_
 k_mem
 refine ⟨_,SqL.of hA.go,_,si h0 h1,?_⟩
 k_mem
 split
 ·rename_i h
  k_upd
  exact ⟨by decide,q2 (by simpa using h)⟩
 ·rename_i h
  k_upd
  exact q1 (by simpa using h)
variable (bM:KM P w K mg base (CXf P w) 2 Z.aW "refuse_shut_gate" (cf K Z))
inductive jf (K:W.Frag)(Z:Adr)(vs:List V)(H:Hp)(Q:VK)(E:XK):Prop | mk (w bk rl:Addr) (g:Cfg) (n0:a6) (rs:List Row):vs=[.ref w]->WAt (clZ Z) K H w bk rl g n0 rs->Q (.int (gu rs)) H->jf K Z vs H Q E
include T jc in
theorem tx:FF P w K mg base CX0 2 "now" "Works.now" jO nP (jf K Z):=fk0 sW fun vs H Q E h=>by
 obtain ⟨w,bk,rl,g,n0,rs,rfl,hW,q⟩:=h
 k_all
 refine ⟨_,ag (aB (de (ao (pv' 0)) jc hr.dn aY)),?_⟩
 obtain ⟨⟨dx,dl,gl,hob,hdl,hgl,n1,n2⟩,hB⟩:=id hW
 obtain ⟨⟨db,f0,hbo,hF⟩,as,hrl,hR⟩:=id hB
 k_mem
 refine fgo hob T.aS T.aZ rfl ?_
 k_mem
 exact mgo hbo rfl ⟨_,_,_,_,_,rfl,hB,q⟩
variable (cV:KM P w K mg base CX0 2 Z.aW "now" (jf K Z))
inductive hX (K:W.Frag)(Z:Adr)(vs:List V)(H:Hp)(Q:VK)(E:XK):Prop | mk (w bk rl:Addr) (g:Cfg) (n0:a6) (rs:List Row):vs=[.ref w]->WAt (clZ Z) K H w bk rl g n0 rs->rs.length<=1000->(∀(p:Addr) (as:List Addr) (H':Hp),H p=none->aw H H'->H' p=some (.lst (as.map V.ref))->eO K H' as rs->Q (.ref p) H')->hX K Z vs H Q E
include T nX in
theorem qN:FF P w K mg base CX0 2 "book" "Works.book" i6 mi (hX K Z):=fk0 qA fun vs H Q E h=>by
 obtain ⟨w,bk,rl,g,n0,rs,rfl,hW,hn,q⟩:=h
 k_all
 refine ⟨_,ag (aB (de (ao (pv' 0)) nX hr.dn aY)),?_⟩
 obtain ⟨⟨dx,dl,gl,hob,hdl,hgl,n1,n2⟩,hB⟩:=id hW
 obtain ⟨⟨db,f0,hbo,hF⟩,as,hrl,hR⟩:=id hB
 k_mem
 refine fgo hob T.aS T.aZ rfl ?_
 k_mem
 exact mgo hbo rfl ⟨_,_,_,_,_,rfl,hB,hn,q⟩
variable (fC:KM P w K mg base CX0 2 Z.aW "book" (hX K Z))
inductive gj (K:W.Frag)(Z:Adr)(vs:List V)(H:Hp)(Q:VK)(E:XK):Prop | mk (w bk rl:Addr) (g:Cfg) (n0:a6) (rs:List Row):vs=[.ref w]->WAt (clZ Z) K H w bk rl g n0 rs->(∀p,H p=none->Q (.ref p) (upd H p (.lst ((af n0 rs).ws.map V.int))))->gj K Z vs H Q E
include T fz aF in
theorem qb:FF P w K mg base CX0 2 "spots" "Works.spots" gZ kF (gj K Z):=fk0 pH fun vs H Q E h=>by
 obtain ⟨w,bk,rl,g,n0,rs,rfl,hW,q⟩:=h
 k_all
 refine ⟨_,ag (aB (de (ao (de (ao (pv' 0)) aF hr.dn aY)) fz hr.dn aY)),?_⟩
 obtain ⟨⟨dx,dl,gl,hob,hdl,hgl,n1,n2⟩,hB⟩:=id hW
 obtain ⟨⟨db,f0,hbo,hF⟩,as,hrl,hR⟩:=id hB
 k_mem
 refine fgo hob T.aS T.aZ rfl ?_
 k_mem
 refine mgo hbo rfl ⟨_,_,_,_,_,rfl,hB,fun s0 ⟨A,hA⟩=>?_⟩
 k_mem
 refine fgo hA.ob T.aE T.bc rfl ?_
 k_mem
 obtain ⟨dy,hyb⟩:=hA.ya.ob
 k_upd
 exact ⟨_,_,hyb,rfl,_,_,_,_,_,_,rfl,hA.ya,q⟩
variable (ez:KM P w K mg base CX0 2 Z.aW "spots" (gj K Z))
inductive eo (K:W.Frag)(Z:Adr)(vs:List V)(H:Hp)(Q:VK)(E:XK):Prop | mk (w bk rl:Addr) (g:Cfg) (n0:a6) (rs:List Row) (c:Int):vs=[.ref w,.int c]->WAt (clZ Z) K H w bk rl g n0 rs->0<=c->c < 2->(∀H',aw H H'->Q (inC (af n0 rs).ws c) H')->eo K Z vs H Q E
include T bR aF in
theorem nC:FF P w K mg base CX0 2 "in_cage" "Works.in_cage" eX jq (eo K Z):=fk0 mZ fun vs H Q E h=>by
 obtain ⟨w,bk,rl,g,n0,rs,c,rfl,hW,h0,h1,q⟩:=h
 k_all
 refine ⟨_,ag (aB (dm' (ao (de (ao (pv' 0)) aF hr.dn aY)) bR hr.dn aY (pa1 (pv' 1)))),?_⟩
 obtain ⟨⟨dx,dl,gl,hob,hdl,hgl,n1,n2⟩,hB⟩:=id hW
 obtain ⟨⟨db,f0,hbo,hF⟩,as,hrl,hR⟩:=id hB
 k_mem
 refine fgo hob T.aS T.aZ rfl ?_
 k_mem
 refine mgo hbo rfl ⟨_,_,_,_,_,rfl,hB,fun s0 ⟨A,hA⟩=>?_⟩
 k_mem
 refine fgo hA.ob T.aE T.bc rfl ?_
 k_mem
 obtain ⟨dy,hyb⟩:=hA.ya.ob
 k_upd
 exact ⟨_,_,hyb,rfl,_,_,_,_,_,_,_,rfl,hA.ya,h0,h1,q⟩
variable (xF:KM P w K mg base CX0 2 Z.aW "in_cage" (eo K Z))
def xw (c r0 sh:Int)(l:Addr)(H:Hp)(i:Nat)(σ:St)(H':Hp):Prop:=∃(ds:List Int) (last:Int) (t u:Option V),σ=[some (.int c),some (.int (2+r0)),some (.int sh),none,some (.ref l),some (.int last),t,u]/\iI ds last/\last<=500 - (2+r0)+i/\ds.length=i/\H'=upd H l (.lst (ds.map V.int))
inductive j4 (K:W.Frag)(Z:Adr)(vs:List V)(H:Hp)(Q:VK)(E:XK):Prop | mk (c:Int):vs=[.int c]->(∀(l:Addr) (ds:List Int) (H':Hp),H l=none->aw H H'->H' l=some (.lst (ds.map V.int))->bG ds->Q (.ref l) H')->j4 K Z vs H Q E
include T bZ in
theorem uJ:FF P w K mg base CX0 2 "_law_depths" "_law_depths" lh pj (j4 K Z):=fk0 bW fun vs H Q E h=>by
 obtain ⟨c,rfl,q⟩:=h
 k_all
 refine ⟨_,ae (aD (i:=1) bW.nd rfl orL (aP bA ai (dc0 bZ hr.dn (pa3 (pv' 0) ai ai)))) (ae (aD (i:=2) bW.nd rfl orL (dc0 bZ hr.dn (pa3 (pv' 0) ai ai))) (ae (aV (ee (pv' 2) ai) (ae (aD (i:=3) bW.nd rfl (Or.inr rfl) (aP bA ai (dc0 bZ hr.dn (pa3 (pv' 0) ai ai)))) (ag (aB (nF ["_law_k","_law_gap"] [none,some 3] (cy (by rfl) T.cY (pa1 (pv' 1))) (fun _ _ _ _=>(aG (i:=0) (show (["_law_k","_law_gap"]:List Str).Nodup by decide +kernel) rfl orL)) (fun _ _ _ _=>gz) (fun _ _ _ _=>(aP lW (pv' 1) (pv' 0))))))) (aC)) (ae (aD (i:=4) bW.nd rfl orL (cv jv)) (ae (aD (i:=5) bW.nd rfl orL (lK fq ai)) (ae (dB PassesOwn.never rfl (cy (by rfl) T.cY (pa1 (pv' 1))) (aG (i:=6) bW.nd rfl orL) (ae (aD (i:=7) bW.nd rfl orL (aP bS (aP bA (aP bS ai (pv' 1)) (pv' 6)) (pv' 5))) (ae (aV (ee (pv' 2) ai) (ag (aD (i:=7) bW.nd rfl orL (ay (kT rfl) (by rfl) T.zh u4 (pa2 (pv' 7) ai)))) (aC)) (ae (aD (i:=5) bW.nd rfl orL (aP bA (aP bA (pv' 5) ai) (dc0 bZ hr.dn (pa3 (pv' 0) (aP bA ai (pv' 6)) (pv' 7))))) (ag (aX (tS PySem.F.plainAttrs_list PySem.F.slot_list_append PySem.F.type_list_append kS (pv' 4) (pa1 (pv' 5))))))))) (ae (aV (rJ (ee (pv' 2) ai) (ou (ee (dc0 bZ hr.dn (pa3 (pv' 0) ai ai)) ai))).pt (ag (aB (aP lX (aP lX (cv (pa1 ai)) (tQ ur (pv' 4) (lY ai) (lY (lK fq ai)))) (cv (pa1 ai))))) (aC)) (ag (aB (pv' 4))))))))),?_⟩
 k_mem
 refine ⟨c,0,5,rfl,by omega,by omega,by omega,fun r0 h0 h0'=>?_⟩
 k_mem
 refine ⟨c,1,4,rfl,by omega,by omega,by omega,fun sh h1 h1'=>?_⟩
 k_mem
 split
 ·refine ⟨c,2,100,rfl,by omega,by omega,by omega,fun r2 h2 h2'=>?_⟩
  k_mem
  refine ⟨by omega,by omega,rV (fun i=>V.int ((1+r2) * (i:Int))) (Nat.le_trans (by omega:(2+r0).toNat<=1000) (by decide)) rfl (fun i hi N q=>?_) (fun p hp=>?_)⟩
  ·k_mem
   rw [Int.zero_add]
   exact ⟨.inl ⟨by omega,by omega⟩,q⟩
  ·refine q p ((List.range (2+r0).toNat).map fun (i:Nat)=>(1+r2) * (i:Int)) _ hp (fun b o e=>?_) ?_ (bG.even (by omega) (by omega) (by omega) (by omega))
   ·rw [az (ak e hp)];exact e
   ·rw [ah,List.map_map];rfl
 ·refine ⟨by decide,fun l hln=>⟨by omega,by omega,cw (xw c r0 sh l H) ⟨[],-1,_,_,rfl,iI.nil,by omega,rfl,rfl⟩ ?_ ?_⟩⟩
  ·rintro i σ H' hi ⟨ds,last,t,u,rfl,hR,hla,hlen,rfl⟩
   have l0:=hR.l0
   k_mem
   split
   all_goals
    refine ⟨c,_,_,rfl,by omega,by omega,by (try split)<;>omega,fun r hr0 hr1=>?_⟩
    k_mem
    refine ⟨.inl ⟨rfl,_,SqL.of ah⟩,_,ah,cX (by rw [List.length_map];omega),ds++[last+1+r],last+1+r,_,_,rfl,hR.snoc hr0,?_,by rw [List.length_append,hlen];rfl,?_⟩
    ·(try split at hr1)<;>omega
    ·rw [zu,List.map_append];rfl
  ·rintro σ H' ⟨ds,last,t,u,rfl,hR,hla,hlen,rfl⟩
   have hsh:=hR.shaft (by omega) (by omega) (by omega)
   have hQ0:Q (V.ref l) (upd H l (HO.lst (List.map V.int ds))):=q l ds _ hln ((aw.refl H).lay hln) ah hsh
   k_mem
   split
   ·refine ⟨c,8,4,rfl,by omega,by omega,by omega,fun r hr0 hr1=>?_⟩
    k_mem
    split
    ·refine ⟨by decide,fun p1 hp1=>⟨_,SqL.of (upo ah hp1),fun p2 hp2=>⟨_,upo ah hp2,_,ah,?_,fun p3 hp3=>⟨by decide,fun p4 hp4=>⟨_,upo ah hp4,_,ah,?_,fun p5 hp5=>?_⟩⟩⟩⟩⟩
     ·have:=eA (List.map V.int ds) (some 1) (some (-1))
      rw [List.length_map] at this
      exact Nat.le_of_lt (cX (by rw [List.length_singleton];omega))
     ·have:=eA (List.map V.int ds) (some 1) (some (-1))
      rw [List.length_map] at this
      exact Nat.le_of_lt (cX (by rw [List.length_append,List.length_singleton,List.length_singleton];omega))
     ·refine q p5 ([0]++(ds.drop 1).take (ds.length - 1 - 1)++[500]) _ (upn (upn (upn (upn (upn hp5))))) ((((((aw.refl H).lay hln).lay hp1).lay hp2).lay hp3).lay hp4 |>.lay hp5) ?_ hsh.ends
      rw [ah,tX ds hsh.l2,List.map_append,List.map_append]
      rfl
    ·exact hQ0
   ·exact hQ0
variable (qc:KD P w K mg base CX0 2 "_law_depths" (j4 K Z))
def zp (K:W.Frag)(c m:Int)(l:Addr)(H:Hp)(i:Nat)(σ:St)(H':Hp):Prop:=aw H H'/\∃(as:List Addr) (ls:List Cd) (t u:Option V),σ=[some (.int c),some (.int m),some (.ref l),t,u]/\H' l=some (.lst (as.map V.ref))/\cb cdV K H' as ls/\ls.length=i/\∀x∈ls,c7 x
inductive lD (K:W.Frag)(Z:Adr)(vs:List V)(H:Hp)(Q:VK)(E:XK):Prop | mk (c m:Int):vs=[.int c,.int m]->0<=m->m<=500->(∀(l:Addr) (as:List Addr) (ls:List Cd) (H':Hp),H l=none->aw H H'->H' l=some (.lst (as.map V.ref))->cb cdV K H' as ls->(ls.length:Int)=m->(∀x∈ls,c7 x)->Q (.ref l) H')->lD K Z vs H Q E
include T bZ in
theorem vQ:FF P w K mg base CX0 2 "_law_codes" "_law_codes" nj rC (lD K Z):=fk0 i7 fun vs H Q E h=>by
 obtain ⟨c,m,rfl,h0,h1,q⟩:=h
 k_all
 refine ⟨_,ae (aD (i:=2) i7.nd rfl orL (cv jv)) (ae (dB PassesOwn.never rfl (cy (by rfl) T.cY (pa1 (pv' 1))) (aG (i:=3) i7.nd rfl orL) (ae (aD (i:=4) i7.nd rfl orL (aP bA ai (dc0 bZ hr.dn (pa3 (pv' 0) (uv ai (pv' 3)) ai)))) (ag (aX (tS PySem.F.plainAttrs_list PySem.F.slot_list_append PySem.F.type_list_append kS (pv' 2) (pa1 (bN (pa2 (pv' 4) (aP bA ai (cF (aP bA (pv' 4) (dc0 bZ hr.dn (pa3 (pv' 0) (aP bA (uv ai (pv' 3)) ai) ai))) ai)))))))))) (ag (aB (pv' 2)))),?_⟩
 k_mem
 refine ⟨by decide,fun l hl=>⟨by omega,by omega,?_⟩⟩
 refine cw (zp K c m l H) ⟨(aw.refl H).lay hl,[],[],_,_,rfl,ah,cb.nil,rfl,fun x hx=>by cases hx⟩ ?_ ?_
 ·rintro i σ H' hi ⟨s1,as,ls,t,u,rfl,hl',hT,hlen,hg⟩
  k_mem
  refine ⟨c,2 * (0 + ↑i),9,rfl,by omega,by omega,by omega,fun r1 h2 h3=>?_⟩
  k_mem
  refine ⟨.inl ⟨rfl,_,SqL.of hl'⟩,c,2 * (0 + ↑i)+1,8,rfl,by omega,by omega,by omega,fun r2 h4 h5=>?_⟩
  k_mem
  refine ⟨by decide,fun p2 hp2=>⟨_,upo hl' hp2,cX (by rw [List.length_map,hT.1];omega),?_⟩⟩
  have hl2:=upo (o:=HO.tup [V.int (1+r1),V.int (1+(1+r1+r2) % 9)]) hl' hp2
  refine ⟨(s1.lay hp2).rewr hl,as++[p2],ls++[(1+r1,1+(1+r1+r2) % 9)],_,_,rfl,?_,?_,by rw [List.length_append,hlen];rfl,?_⟩
  ·rw [ah,List.map_append];rfl
  ·exact ((hT.same ((aw.refl H').lay hp2)).app (cb.one (SqT.of ah))).rew hl2
  ·intro x hx
   rcases List.mem_append.mp hx with hx | hx
   ·exact hg x hx
   ·rw [List.mem_singleton] at hx
    subst hx
    refine ⟨⟨?_,?_⟩,⟨?_,?_⟩,?_⟩
    ·show 1<=1+r1;omega
    ·show 1+r1<=9;omega
    ·show 1<=1+(1+r1+r2) % 9;omega
    ·show 1+(1+r1+r2) % 9<=9;omega
    ·show 1+r1≠1+(1+r1+r2) % 9;omega
 ·rintro σ H' ⟨s1,as,ls,t,u,rfl,hl',hT,hlen,hg⟩
  k_mem
  exact q l as ls H' hl s1 hl' hT (by omega) hg
variable (rE:KD P w K mg base CX0 2 "_law_codes" (lD K Z))
inductive jg (K:W.Frag)(Z:Adr)(vs:List V)(H:Hp)(Q:VK)(E:XK):Prop | mk (y kn wh:Addr) (ks:List Str) (ws:List Int) (m n c:Int):vs=[.ref y,.int n,.int c]->cx Z.di H y kn wh ks ws m->0<=c->c < 2->((¬(0<=n/\n < ws.length)->E (.ref Z.dJ) none H))->((0<=n->n < ws.length->(ws.getD n.toNat 0=10\/ws.getD n.toNat 0=11)->E (.ref Z.iz) none H))->((0<=n->n < ws.length->¬(ws.getD n.toNat 0=10\/ws.getD n.toNat 0=11)->10+c∈ws->∀H',aw H H'->E (.ref Z.iA) none H'))->((0<=n->n < ws.length->¬(ws.getD n.toNat 0=10\/ws.getD n.toNat 0=11)->¬10+c∈ws->∀H',aq wh H H'->H' wh=some (.lst ((ws.set n.toNat (10+c)).map V.int))->Q .non H'))->jg K Z vs H Q E
include T bR fB in
theorem tE:FF P w K mg base (CXf P w) 3 "into" "Yard.into" jJ nK (jg K Z):=fkF sT fun vs H Q E h=>by
 obtain ⟨y,kn,wh,ks,ws,m,n,c,rfl,hy,h0,h1,q1,q2,q3,q4⟩:=h
 k_all
 refine seg 3 (ag (mH (aQ du (cB (by rfl) T.fu) (pv' 2)) (oH (ao (pv' 0)) (pv' 1) ir))) fun zt3 zh3 ze3=>?_
 refine seg 2 (ae (aV (AH (dm' (pv' 0) bR hr.dn aY (pa1 (pv' 2))) fI) (ag (aU T.uD (by rfl) T.uA (pa1 aI))) (aC)) zh3) fun zt2 zh2 ze2=>?_
 refine seg 1 (ae (aV (fN iQ (aQ aA (ao (pv' 0)) (pv' 1)) (cB (by rfl) T.fu) (by rfl)) (ag (aU T.lu (by rfl) T.lq (pa1 aI))) (aC)) zh2) fun zt1 zh1 ze1=>?_
 refine ⟨_,ae (aX (dc fB hr.dn bH (pa2 (pv' 1) (ay av (by rfl) T.bY bu (pa1 (ao (pv' 0))))))) zh1,?_⟩
 obtain ⟨⟨dx,hob⟩,hkn,hwh⟩:=id hy
 k_mem
 refine fgo hob T.cq T.bw rfl ?_
 k_mem
 refine ⟨_,.inl (SqL.of hwh),_,_,rfl,?_⟩
 rw [List.length_map]
 k_upd
 refine ⟨fun hn=>?_,q1⟩
 ·k_mem
  k_upd
  refine fgo hob T.cq T.bw rfl ?_
  k_mem
  refine ⟨_,SqL.of hwh,_,ck hn.1 hn.2,_,.inr (T.fv _),rfl,rfl,?_⟩
  rw [rk]
  k_mem
  split
  ·rename_i h2
   k_upd
   exact ⟨by decide,q2 hn.1 hn.2 h2⟩
  ·rename_i h2
   k_upd
   refine mgo hob rfl ⟨_,_,_,_,_,_,_,rfl,hy,h0,h1,fun H' s1=>?_⟩
   k_mem
   by_cases hm:10+c∈ws
   ·rw [inC,if_pos hm,if_pos (show ¬(V.int _=V.non) from fun z=>V.noConfusion z)]
    k_upd
    exact ⟨by decide,q3 hn.1 hn.2 h2 hm H' s1⟩
   ·rw [inC,if_neg hm,if_neg (fun z=>z rfl)]
    k_upd
    refine ⟨_,T.fv _,_,rg h0 h1,_,_,_,s1 _ _ hob,T.cq,T.bw,_,rfl,?_⟩
    k_mem
    refine ⟨_,s1 _ _ hwh,_,oQ hn.1 (by rw [List.length_map];exact hn.2),?_⟩
    refine q4 hn.1 hn.2 h2 hm _ (aq.put (aq.of s1)) ?_
    rw [ah,List.map_set]
variable (nY:KM P w K mg base (CXf P w) 3 Z.di "into" (jg K Z))
inductive j5 (K:W.Frag)(Z:Adr)(vs:List V)(H:Hp)(Q:VK)(E:XK):Prop | mk (y kn wh:Addr) (ks:List Str) (ws:List Int) (m c lv:Int):vs=[.ref y,.int c,.int lv]->cx Z.di H y kn wh ks ws m->0<=c->c < 2->((¬(0<=lv/\lv < m)->E (.ref Z.bt) none H))->((0<=lv->lv < m->¬10+c∈ws->∀H',aw H H'->E (.ref Z.iB) none H'))->((0<=lv->lv < m->10+c∈ws->∀H',aq wh H H'->H' wh=some (.lst ((ws.set (ws.idxOf (10+c)) lv).map V.int))->Q .non H'))->j5 K Z vs H Q E
include T bR bx in
theorem uK:FF P w K mg base (CXf P w) 3 "out" "Yard.out" kW o8 (j5 K Z):=fkF nR fun vs H Q E h=>by
 obtain ⟨y,kn,wh,ks,ws,m,c,lv,rfl,hy,h0,h1,q1,q2,q3⟩:=h
 k_all
 refine seg 3 (ag (mH (pv' 2) (oH (ao (pv' 0)) (pv' 3) ir))) fun zt3 zh3 ze3=>?_
 refine seg 2 (ae (aV (sH (pv' 3) fI) (ag (aU T.nV (by rfl) T.nU (pa1 aI))) (aC)) zh3) fun zt2 zh2 ze2=>?_
 refine seg 1 (ae (aD (i:=3) nR.nd rfl orL (dm' (pv' 0) bR hr.dn aY (pa1 (pv' 1)))) zh2) fun zt1 zh1 ze1=>?_
 refine ⟨_,ae (aX (dc bx hr.dn bH (pa2 (pv' 2) (ao (pv' 0))))) zh1,?_⟩
 obtain ⟨⟨dx,hob⟩,hkn,hwh⟩:=id hy
 k_mem
 refine fgo hob T.cq T.i9 rfl ?_
 k_mem
 refine ⟨_,_,rfl,fun hlv=>?_,q1⟩
 k_mem
 refine mgo hob rfl ⟨_,_,_,_,_,_,_,rfl,hy,h0,h1,fun H' s1=>?_⟩
 k_mem
 by_cases hm:10+c∈ws
 ·rw [inC,if_pos hm,if_neg (show ¬(V.int _=V.non) from fun z=>V.noConfusion z)]
  have hlt:ws.idxOf (10+c) < ws.length:=List.idxOf_lt_length_iff.mpr hm
  k_mem
  refine fgo (s1 _ _ hob) T.cq T.bw rfl ?_
  k_mem
  refine ⟨_,s1 _ _ hwh,_,oQ (Int.natCast_nonneg _) (by rw [List.length_map];omega),?_⟩
  refine q3 hlv.1 hlv.2 hm _ (aq.put (aq.of s1)) ?_
  rw [ah,List.map_set];rfl
 ·rw [inC,if_neg hm,if_pos rfl]
  k_upd
  exact ⟨by decide,q2 hlv.1 hlv.2 hm H' s1⟩
variable (qd:KM P w K mg base (CXf P w) 3 Z.di "out" (j5 K Z))
inductive jh (K:W.Frag)(Z:Adr)(vs:List V)(H:Hp)(Q:VK)(E:XK):Prop | mk (y kn wh:Addr) (ks:List Str) (ws:List Int) (m:Int):vs=[.ref y]->cx Z.di H y kn wh ks ws m->(∀(y' kn' wh':Addr) (H':Hp),H y'=none->H kn'=none->H wh'=none->kn'≠wh'->aw H H'->cx Z.di H' y' kn' wh' ks ws m->Q (.ref y') H')->jh K Z vs H Q E
include T gH in
theorem tF:FF P w K mg base CX0 3 "twin" "Yard.twin" jK nL (jh K Z):=fk0 ml fun vs H Q E h=>by
 obtain ⟨y,kn,wh,ks,ws,m,rfl,hy,q⟩:=h
 k_all
 refine ⟨_,ae (aD (i:=1) ml.nd rfl orL (dn gH hr.dn T.zi aY (pa2 (cv jv) (ao (pv' 0))))) (ae (bg (pv' 1) (cJ bK (by rfl) T.eY dq (pa1 (ao (pv' 0)))) rfl) (ae (bg (pv' 1) (cJ bK (by rfl) T.eY dq (pa1 (ao (pv' 0)))) rfl) (ag (aB (pv' 1))))),?_⟩
 obtain ⟨⟨dy,hob⟩,hkn,hwh⟩:=id hy
 k_mem
 refine ⟨by decide,fun p0 hp0=>⟨_,_,_,upo hob hp0,T.cq,T.i9,_,rfl,?_⟩⟩
 refine fun x dx hx hdx nxd=>?_
 have s0:=(aw.refl H).lay (o:=HO.lst []) hp0
 have hx':upd (upd H p0 (HO.lst [])) dx (.own x) x=none:=by rw [az (Ne.symm nxd)];exact hx
 refine ⟨x,dx,p0,[],m,rfl,ah,⟨[],SqL.of (upo (upo ah hdx) hx'),jr.nil⟩,by decide,fun kn0 wh0 H1 hkn0 hwh0 nkw kp hy1=>⟨rfl,?_⟩⟩
 have s1:=s0.trans (eB hx hdx kp)
 obtain ⟨⟨dx1,hob1⟩,hkn1,hwh1⟩:=id hy1
 have hxn:H x=none:=s0.free hx
 clear kp hy1
 k_mem
 refine fgo (s1 _ _ hob) T.cq T.et rfl ?_
 k_mem
 refine ⟨_,.inl (SqL.of (s1 _ _ hkn)),fun k1 hk1=>⟨_,_,_,upo hob1 hk1,T.cq,T.et,by show 3 < 1000;decide,?_⟩⟩
 have nk1:k1≠x:=fun z=>by rw [z,hob1] at hk1;cases hk1
 have s2:aw H (upd (upd H1 k1 (HO.lst (ks.map V.str))) x (HO.ins Z.di dx1 (aT "kinds" (.ref k1) [("kinds",V.ref kn0),("where",V.ref wh0),("many",V.int m)]))):=(s1.lay hk1).rewr hxn
 have hob2:upd (upd H1 k1 (HO.lst (ks.map V.str))) x (HO.ins Z.di dx1 (aT "kinds" (.ref k1) [("kinds",V.ref kn0),("where",V.ref wh0),("many",V.int m)])) x=some (HO.ins Z.di dx1 [("kinds",V.ref k1),("where",V.ref wh0),("many",V.int m)]):=by rw [ah];rfl
 have hk2:upd (upd H1 k1 (HO.lst (ks.map V.str))) x (HO.ins Z.di dx1 (aT "kinds" (.ref k1) [("kinds",V.ref kn0),("where",V.ref wh0),("many",V.int m)])) k1=some (HO.lst (ks.map V.str)):=by rw [az nk1,ah]
 generalize upd (upd H1 k1 (HO.lst (ks.map V.str))) x (HO.ins Z.di dx1 (aT "kinds" (.ref k1) [("kinds",V.ref kn0),("where",V.ref wh0),("many",V.int m)]))=H2 at *
 refine fgo (s2 _ _ hob) T.cq T.bw rfl ?_
 k_mem
 refine ⟨_,.inl (SqL.of (s2 _ _ hwh)),fun w1 hw1=>⟨_,_,_,upo hob2 hw1,T.cq,T.bw,by show 3 < 1000;decide,?_⟩⟩
 have nw1:w1≠x:=fun z=>by rw [z,hob2] at hw1;cases hw1
 have nkw1:k1≠w1:=ak hk2 hw1
 refine q x k1 w1 _ hxn (s1.free hk1) (s2.free hw1) nkw1 ((s2.lay hw1).rewr hxn) ⟨⟨dx1,by rw [ah];rfl⟩,?_,?_⟩
 ·rw [az nk1,az nkw1];exact hk2
 ·rw [az nw1,ah]
variable (nZ:KM P w K mg base CX0 3 Z.di "twin" (jh K Z))
theorem CS (s:Int)(x:Cd):inV (.int s) (cdV x)=decide (s=x.1\/s=x.2):=v9 s x.1 x.2
inductive hZ (K:W.Frag)(Z:Adr)(vs:List V)(H:Hp)(Q:VK)(E:XK):Prop | mk (b cs fl st:Addr) (ls:List Cd) (fs:List Bool) (e:Eng) (lv s:Int):vs=[.ref b,.int lv,.int s]->br Z.bh K H b cs fl st ls fs e->((¬(0<=lv/\lv < ls.length)->E (.ref Z.bt) none H))->((0<=lv->lv < ls.length->fs.getD lv.toNat false=true->E (.ref Z.jU) none H))->((0<=lv->lv < ls.length->fs.getD lv.toNat false=false->¬(s=(bJ ls lv).1\/s=(bJ ls lv).2)->E (.ref Z.lj) none H))->((0<=lv->lv < ls.length->fs.getD lv.toNat false=false->(s=(bJ ls lv).1\/s=(bJ ls lv).2)->∀st' H',aq b H H'->br Z.bh K H' b cs fl st' ls fs (.wait lv s)->Q .non H'))->hZ K Z vs H Q E
include T bx in
theorem qO:FF P w K mg base (CXf P w) 3 "ring" "Bells.ring" iU l5 (hZ K Z):=fkF qx fun vs H Q E h=>by
 obtain ⟨b,cs,fl,st,ls,fs,e,lv,s,rfl,hB,q1,q2,q3,q4⟩:=h
 k_all
 refine seg 3 (ag (bg (pv' 0) (bN (pa4 aI (pv' 1) (pv' 2) fI)) rfl)) fun zt3 zh3 ze3=>?_
 refine seg 2 (ae (aV (fN qt (pv' 2) (aQ aA (ao (pv' 0)) (pv' 1)) (by rfl)) (ag (aU T.uE (by rfl) T.uB (pa1 aI))) (aC)) zh3) fun zt2 zh2 ze2=>?_
 refine seg 1 (ae (aV (bV (aQ aA (ao (pv' 0)) (pv' 1))) (ag (aU T.vI (by rfl) T.vC (pa1 aI))) (aC)) zh2) fun zt1 zh1 ze1=>?_
 refine ⟨_,ae (aX (dc bx hr.dn bH (pa2 (pv' 1) (ay av (by rfl) T.bY bu (pa1 (ao (pv' 0))))))) zh1,?_⟩
 obtain ⟨⟨dx,hob⟩,⟨as,hcs,hT⟩,hfl,hst,nn,ln⟩:=id hB
 k_mem
 refine fgo hob T.bq T.cC rfl ?_
 k_mem
 refine ⟨_,.inl (SqL.of hcs),_,_,rfl,?_⟩
 rw [List.length_map,hT.1]
 k_upd
 refine ⟨fun hlv=>?_,q1⟩
 k_mem
 refine fgo hob T.bq T.dz rfl ?_
 k_mem
 refine ⟨_,SqL.of hfl,_,si hlv.1 (by omega),?_⟩
 k_mem
 split
 ·rename_i h
  k_upd
  exact ⟨by decide,q2 hlv.1 hlv.2 h⟩
 ·rename_i h
  k_upd
  refine fgo hob T.bq T.cC rfl ?_
  k_mem
  obtain ⟨ar,ea,hr⟩:=sg hT hlv.1 hlv.2
  k_upd
  refine ⟨_,SqL.of hcs,_,ea,?_⟩
  k_mem
  refine ⟨_,.inr hr,rfl,rfl,?_⟩
  rw [CS]
  k_mem
  split
  ·rename_i h2
   k_upd
   exact ⟨by decide,q3 hlv.1 hlv.2 (by simpa using h) h2⟩
  ·rename_i h2
   k_upd
   refine ⟨by decide,fun st' hst'=>⟨_,_,_,upo hob hst',T.bq,T.a8,by show 3 < 1000;decide,?_⟩⟩
   have nsx:st'≠b:=fun z=>by rw [z,hob] at hst';cases hst'
   refine q4 hlv.1 hlv.2 (by simpa using h) (Decidable.not_not.mp h2) st' _ ((aq.of ((aw.refl H).lay hst')).put) (hB.state ((aq.of ((aw.refl H).lay hst')).put) (dx:=dx) (by rw [ah];rfl) (SqT.of ?_))
   rw [az nsx,ah];rfl
variable (mB:KM P w K mg base (CXf P w) 3 Z.bh "ring" (hZ K Z))
theorem CT (e:Eng)(lv c:Int):eqL (r9 e) [V.str "armed",V.int lv,V.int c,V.int c]=match e with | .armed l' r=>decide (l'=lv/\r=c) | _=>false:=by
 cases e with
 | armed l r=>
  simp only [r9,eqL,rY,Bool.and_true]
  have:eqV (V.str "armed") (V.str "armed")=true:=rfl
  rw [this]
  by_cases h1:l=lv<;>by_cases h2:r=c<;>simp [h1,h2]
 | _=>rfl
theorem AW {k:Str}(hk:k="men"\/k="coal"):∃i:Int,(if eqV (V.str "men") (V.str k)=true then (0:Int) else 1)=i/\(eqV (V.str "men") (V.str k) || eqV (V.str "coal") (V.str k))=true/\∀x:Cd,atI (cdV x) i=some (.int (if k="men" then x.1 else x.2)):=by
 rcases hk with rfl | rfl
 ·exact ⟨0,rfl,rfl,fun x=>rfl⟩
 ·exact ⟨1,rfl,rfl,fun x=>rfl⟩
inductive ji (K:W.Frag)(Z:Adr)(vs:List V)(H:Hp)(Q:VK)(E:XK):Prop | mk (b cs fl st:Addr) (ls:List Cd) (fs:List Bool) (e:Eng) (lv:Int) (k:Str):vs=[.ref b,.int lv,.str k]->br Z.bh K H b cs fl st ls fs e->((k="men"\/k="coal"))->((¬(0<=lv/\lv < ls.length)->E (.ref Z.bt) none H))->((0<=lv->lv < ls.length->e≠.armed lv (bO ls lv k)->∀H',aw H H'->E (.ref Z.iC) none H'))->((0<=lv->lv < ls.length->e=.armed lv (bO ls lv k)->∀st' H',aq b H H'->br Z.bh K H' b cs fl st' ls fs (.used lv (bO ls lv k))->Q .non H'))->ji K Z vs H Q E
include T bx in
theorem tG:FF P w K mg base (CXf P w) 3 "use" "Bells.use" jL nM (ji K Z):=fkF mm fun vs H Q E h=>by
 obtain ⟨b,cs,fl,st,ls,fs,e,lv,k,rfl,hB,hk,q1,q2,q3⟩:=h
 k_all
 refine seg 3 (ag (bg (pv' 0) (bN (pa4 aI (pv' 1) (pv' 3) (pv' 3))) rfl)) fun zt3 zh3 ze3=>?_
 refine seg 2 (ae (aV (fN (B8 hr.units0) (ao (pv' 0)) (bN (pa4 aI (pv' 1) (pv' 3) (pv' 3))) (cD _)) (ag (aU T.vJ (by rfl) T.vD (pa1 aI))) (aC)) zh3) fun zt2 zh2 ze2=>?_
 refine seg 1 (ae (aD (i:=3) mm.nd rfl orL (aQ du (aQ aA (ao (pv' 0)) (pv' 1)) (tS PySem.F.plainAttrs_tuple PySem.F.slot_tuple_index PySem.F.type_tuple_index xj (cB (by rfl) T.AM) (pa1 (pv' 2))))) zh2) fun zt1 zh1 ze1=>?_
 refine ⟨_,ae (aX (dc bx hr.dn bH (pa2 (pv' 1) (ay av (by rfl) T.bY bu (pa1 (ao (pv' 0))))))) zh1,?_⟩
 obtain ⟨⟨dx,hob⟩,⟨as,hcs,hT⟩,hfl,hst,nn,ln⟩:=id hB
 k_mem
 refine fgo hob T.bq T.cC rfl ?_
 k_mem
 refine ⟨_,.inl (SqL.of hcs),_,_,rfl,?_⟩
 rw [List.length_map,hT.1]
 k_upd
 refine ⟨fun hlv=>?_,q1⟩
 k_mem
 obtain ⟨ar,ea,hr⟩:=sg hT hlv.1 hlv.2
 obtain ⟨i,ei,ek,ex⟩:=AW hk
 k_upd
 refine fgo hob T.bq T.cC rfl ?_
 k_mem
 refine ⟨_,SqL.of hcs,_,ea,.inr (.inl ⟨rfl,T.AO⟩),_,_,_,_,rfl,rfl,T.AN _,rfl,rfl,rfl,ek,?_⟩
 rw [ei]
 k_mem
 refine ⟨_,hr,_,ex _,?_⟩
 k_mem
 have ec:(if k=Str.ofString "men" then (bJ ls lv).1 else (bJ ls lv).2)=bO ls lv k:=rfl
 rw [ec]
 k_upd
 refine fgo hob T.bq T.a8 rfl ⟨by decide,fun tp htp=>?_⟩
 k_mem
 refine ⟨_,_,_,_,rfl,rfl,((aw.refl H).lay htp).tup hst,SqT.of ah,List.all_eq_true.mpr (xk e),rfl,?_⟩
 have s0:=(aw.refl H).lay (o:=HO.tup [V.str (Str.ofString "armed"),V.int lv,V.int (bO ls lv k),V.int (bO ls lv k)]) htp
 have e2:eqL (r9 e) [V.str (Str.ofString "armed"),V.int lv,V.int (bO ls lv k),V.int (bO ls lv k)]=_:=CT e lv (bO ls lv k)
 rw [e2]
 have hob0:=s0 _ _ hob
 generalize upd H tp (HO.tup [V.str (Str.ofString "armed"),V.int lv,V.int (bO ls lv k),V.int (bO ls lv k)])=H0 at *
 have no:e≠.armed lv (bO ls lv k)->E (.ref Z.iC) none H0:=fun z=>q2 hlv.1 hlv.2 z H0 s0
 cases e with
 | armed l' r=>
  k_mem
  by_cases hh:l'=lv/\r=bO ls lv k
  ·rw [if_neg (by simp [hh])]
   k_mem
   refine ⟨by decide,fun st' hst'=>⟨_,_,_,upo hob0 hst',T.bq,T.a8,by show 3 < 1000;decide,?_⟩⟩
   have nsx:st'≠b:=fun z=>by rw [z,hob0] at hst';cases hst'
   have k0:=((aq.of (s0.lay (o:=HO.tup [V.str (Str.ofString "used up"),V.int lv,V.int (bO ls lv k),V.int (bO ls lv k)]) hst')).put (o:=HO.ins Z.bh dx (aT "state" (.ref st') [("codes",V.ref cs),("failed",V.ref fl),("state",V.ref st)])) (p:=b))
   refine q3 hlv.1 hlv.2 (by rw [hh.1,hh.2]) st' _ k0 (hB.state k0 (dx:=dx) (by rw [ah];rfl) (SqT.of ?_))
   rw [az nsx,ah];rfl
  ·rw [if_pos (by simp;intro z1 z2;exact hh ⟨z1,z2⟩)]
   k_mem
   exact ⟨by decide,no fun z=>by injection z with z1 z2;exact hh ⟨z1,z2⟩⟩
 | _=>
  k_mem
  exact ⟨by decide,no fun z=>Eng.noConfusion z⟩
variable (n6:KM P w K mg base (CXf P w) 3 Z.bh "use" (ji K Z))
inductive ie (K:W.Frag)(Z:Adr)(vs:List V)(H:Hp)(Q:VK)(E:XK):Prop | mk (b cs fl st:Addr) (ls:List Cd) (fs:List Bool) (e:Eng):vs=[.ref b]->br Z.bh K H b cs fl st ls fs e->ls.length<=1000->(∀(b' cs' fl':Addr) (H':Hp),H b'=none->H cs'=none->H fl'=none->aw H H'->br Z.bh K H' b' cs' fl' st ls fs e->Q (.ref b') H')->ie K Z vs H Q E
include T fA in
theorem qP:FF P w K mg base CX0 3 "twin" "Bells.twin" iV l7 (ie K Z):=fk0 kG fun vs H Q E h=>by
 obtain ⟨b,cs,fl,st,ls,fs,e,rfl,hB,hn,q⟩:=h
 k_all
 refine ⟨_,ae (aD (i:=1) kG.nd rfl orL (dn fA hr.dn T.wK aY (pa1 (ao (pv' 0))))) (ae (bg (pv' 1) (cJ bK (by rfl) T.eY dq (pa1 (ao (pv' 0)))) rfl) (ae (bg (pv' 1) (ao (pv' 0)) rfl) (ag (aB (pv' 1))))),?_⟩
 obtain ⟨⟨db,hob⟩,⟨as,hcs,hT⟩,hfl,hst,nn,ln⟩:=id hB
 k_mem
 refine fgo hob T.bq T.cC rfl ?_
 refine fun x dx hx hdx nxd=>?_
 have hx':upd H dx (.own x) x=none:=by rw [az (Ne.symm nxd)];exact hx
 refine ⟨x,dx,cs,ls,rfl,ah,hB.rows.same (((aw.refl H).lay hdx).lay hx'),hn,fun cs1 fl1 st1 H1 hcs1 hfl1 kp hB1=>⟨rfl,?_⟩⟩
 have s1:=eB hx hdx kp
 obtain ⟨⟨dx1,hob1⟩,⟨as1,hc1,hT1⟩,hf1,_,nn1,ln1⟩:=id hB1
 clear kp
 k_mem
 refine fgo (s1 _ _ hob) T.bq T.dz rfl ?_
 k_mem
 refine ⟨_,.inl (SqL.of (s1 _ _ hfl)),fun f2 hf2=>⟨_,_,_,upo hob1 hf2,T.bq,T.dz,by show 3 < 1000;decide,?_⟩⟩
 have nf2:f2≠x:=fun z=>by rw [z,hob1] at hf2;cases hf2
 have ncf:cs1≠f2:=ak hc1 hf2
 have ncx:cs1≠x:=fun z=>by rw [z,hob1] at hc1;cases hc1
 have s2:aw H (upd (upd H1 f2 (HO.lst (fs.map V.bl))) x (HO.ins Z.bh dx1 (aT "failed" (.ref f2) [("codes",V.ref cs1),("failed",V.ref fl1),("state",V.ref st1)]))):=(s1.lay hf2).rewr hx
 have k2:L2.aq x H1 (upd (upd H1 f2 (HO.lst (fs.map V.bl))) x (HO.ins Z.bh dx1 (aT "failed" (.ref f2) [("codes",V.ref cs1),("failed",V.ref fl1),("state",V.ref st1)]))):=(aq.of ((aw.refl H1).lay hf2)).put
 have hob2:upd (upd H1 f2 (HO.lst (fs.map V.bl))) x (HO.ins Z.bh dx1 (aT "failed" (.ref f2) [("codes",V.ref cs1),("failed",V.ref fl1),("state",V.ref st1)])) x=some (HO.ins Z.bh dx1 [("codes",V.ref cs1),("failed",V.ref f2),("state",V.ref st1)]):=by rw [ah];rfl
 have hff:upd (upd H1 f2 (HO.lst (fs.map V.bl))) x (HO.ins Z.bh dx1 (aT "failed" (.ref f2) [("codes",V.ref cs1),("failed",V.ref fl1),("state",V.ref st1)])) f2=some (HO.lst (fs.map V.bl)):=by rw [az nf2,ah]
 generalize upd (upd H1 f2 (HO.lst (fs.map V.bl))) x (HO.ins Z.bh dx1 (aT "failed" (.ref f2) [("codes",V.ref cs1),("failed",V.ref fl1),("state",V.ref st1)]))=H2 at *
 refine fgo (s2 _ _ hob) T.bq T.a8 rfl ?_
 k_mem
 refine ⟨_,_,_,hob2,T.bq,T.a8,by show 3 < 1000;decide,?_⟩
 have k3:L2.aq x H2 (upd H2 x (HO.ins Z.bh dx1 (aT "state" (.ref st) [("codes",V.ref cs1),("failed",V.ref f2),("state",V.ref st1)]))):=(aq.of (aw.refl H2)).put
 refine q x cs1 f2 _ hx (dN hcs1) (s1.free hf2) (s2.rewr hx) ⟨⟨dx1,by rw [ah];rfl⟩,⟨as1,k3 _ _ ncx (k2 _ _ ncx hc1),(hT1.keepI k2 hob1).keepI k3 hob2⟩,k3 _ _ nf2 hff,(s2.rewr hx).tup hst,ncf,ln⟩
variable (mD:KM P w K mg base CX0 3 Z.bh "twin" (ie K Z))
inductive gm (K:W.Frag)(Z:Adr)(vs:List V)(H:Hp)(Q:VK)(E:XK):Prop | mk (a:Addr) (ds:List Int) (c lv:Int):vs=[.ref a,.int c,.int lv]->SqL K H a (ds.map V.int)->0<=lv->lv < ds.length->Q (.int (if c=0 then ds.getD lv.toNat 0 else bX ds - ds.getD lv.toNat 0)) H->gm K Z vs H Q E
include T cK in
theorem qe:FF P w K mg base CX0 3 "wound_place" "wound_place" gT kz (gm K Z):=fk0 px fun vs H Q E h=>by
 obtain ⟨a,ds,c,lv,rfl,hS,h0,h1,q⟩:=h
 k_all
 refine seg 1 (ag (aB (dc0 cK hr.dn (pa2 (pv' 0) (aQ aA (pv' 0) (pv' 2)))))) fun zt1 zh1 ze1=>?_
 refine ⟨_,ae (aV (ee (pv' 1) ai) (ag (aB (aQ aA (pv' 0) (pv' 2)))) (aC)) zh1,?_⟩
 k_mem
 split
 ·rename_i hc
  k_upd
  rw [if_pos hc] at q
  k_upd
  exact ⟨_,hS,_,ck h0 h1,q⟩
 ·rename_i hc
  k_upd
  rw [if_neg hc] at q
  k_upd
  refine ⟨_,hS,_,ck h0 h1,?_⟩
  k_mem
  exact ⟨a,ds,_,rfl,hS,by omega,q⟩
variable (kP:KD P w K mg base CX0 3 "wound_place" (gm K Z))
inductive j6 (K:W.Frag)(Z:Adr)(vs:List V)(H:Hp)(Q:VK)(E:XK):Prop | mk (a:Addr) (ds:List Int) (pl:Int):vs=[.ref a,.int pl]->SqL K H a (ds.map V.int)->0 < ds.length->ds.length<=1000->(∀(b:Addr) (H':Hp),H b=none->aw H H'->H' b=some (.lst ((iM ds pl).map V.int))->Q (.ref b) H')->j6 K Z vs H Q E
include T cK in
theorem uL:FF P w K mg base CX0 3 "gates_by" "gates_by" kY pf (j6 K Z):=fk0 nT fun vs H Q E h=>by
 obtain ⟨a,ds,pl,rfl,hS,h0,h1,q⟩:=h
 k_all
 refine ⟨_,ae (aD (i:=2) nT.nd rfl (Or.inr rfl) (bN (pa2 (pv' 1) (dc0 cK hr.dn (pa2 (pv' 0) (pv' 1)))))) (ag (aB (nF ["level","depths","stands"] [none,some 0,some 2] (cy (by rfl) T.cY (pa1 (ay av (by rfl) T.bY bu (pa1 (pv' 0))))) (fun _ _ _ _=>(aG (i:=0) (show (["level","depths","stands"]:List Str).Nodup by decide +kernel) rfl orL)) (fun _ _ _ _=>(rP (fN (show OpR _ _ (xn K false) from iQ) (aQ (show IxR _ (rp K) from aA) (pv' 1) (pv' 0)) (pv' 2) (by rfl)))) (fun _ _ _ _=>(pv' 0))))),?_⟩
 k_mem
 refine ⟨a,ds,pl,rfl,hS,h0,?_⟩
 k_mem
 refine ⟨by decide,fun t ht=>⟨_,.inl (((aw.refl H).lay ht).seq hS),by omega,by rw [List.length_map];omega,?_⟩⟩
 refine jm (fun i=>decide (ds.getD i 0=pl\/ds.getD i 0=bX ds - pl)) (fun i=>V.int (i:Int)) (Nat.le_of_lt (cX (by rw [List.length_map];omega))) rfl (fun i hi N q=>?_) (fun i hi _ N q=>?_) (fun b hb=>?_)
 ·rw [List.length_map] at hi
  k_mem
  refine ⟨_,((aw.refl H).lay ht).seq hS,_,by rw [Int.zero_add];exact oO (by omega),_,.inr (SqT.of ah),rfl,rfl,?_⟩
  rw [v9]
  exact q
 ·k_mem
  rw [Int.zero_add]
  exact q
 ·refine q b _ (upn hb) (((aw.refl H).lay ht).lay hb) ?_
  rw [ah]
  unfold iM
  rw [List.map_map,List.length_map]
  rfl
variable (qf:KD P w K mg base CX0 3 "gates_by" (j6 K Z))
inductive ig (K:W.Frag)(Z:Adr)(vs:List V)(H:Hp)(Q:VK)(E:XK):Prop | mk (x dx d c l:Addr) (ds:List Int) (ls:List Cd) (lds:List Ld) (slow fast:Int) (N:Addr->Prop):vs=[.ref x,.ref d,.ref c,.int slow,.int fast,.ref l]->H x=some (.ins Z.aW dx [])->SqL K H d (ds.map V.int)->gN cdV K H c ls->dr K H l lds->ds.length<=1000->ls.length<=1000->lds.length<=1000->((∀p,N p->∃ys,H p=some (.lst ys)))->((¬bG ds->E (.ref Z.iD) none H))->((bG ds->¬((ls.length:Int)=(ds.length:Nat)/\∀x∈ls,c7 x)->E (.ref Z.jT) none H))->((bG ds->((ls.length:Int)=(ds.length:Nat)/\∀x∈ls,c7 x)->¬(1<=slow/\slow<=fast/\fast<=500)->E (.ref Z.iE) none H))->((bG ds->((ls.length:Int)=(ds.length:Nat)/\∀x∈ls,c7 x)->(1<=slow/\slow<=fast/\fast<=500)->¬(lds.length<=30/\∀x∈lds,jy (ds.length:Nat) x)->E (.ref Z.jS) none H))->((bG ds->((ls.length:Int)=(ds.length:Nat)/\∀x∈ls,c7 x)->(1<=slow/\slow<=fast/\fast<=500)->(lds.length<=30/\∀x∈lds,jy (ds.length:Nat) x)->∀bk rl H',aq x H H'->H rl=none->WAt (clZ Z) K H' x bk rl (bb ds ls slow fast lds N) (aH ds ls lds) []->Q .non H'))->ig K Z vs H Q E
include T gH fA jZ j1 dA nW kM kO in
theorem qQ:FF P w K mg base (CXf P w) 3 "__init__" "Works.__init__" iZ md (ig K Z):=fkF gV fun vs H Q E h=>by
 obtain ⟨x,dx,d,c,l,ds,ls,lds,slow,fast,N,rfl,hx,hD,hC,hL,n1,n2,n3,hN,q1,q2,q3,q4,q5⟩:=h
 k_all
 refine ⟨_,ae (aX (dc jZ hr.dn bH (pa1 (pv' 1)))) (ae (aX (dc kO hr.dn bH (pa2 (pv' 2) (ay av (by rfl) T.bY bu (pa1 (pv' 1)))))) (ae (aX (dc j1 hr.dn bH (pa2 (pv' 3) (pv' 4)))) (ae (aX (dc kM hr.dn bH (pa2 (pv' 5) (ay av (by rfl) T.bY bu (pa1 (pv' 1)))))) (ae (bg (pv' 0) (cJ bK (by rfl) T.eY dq (pa1 (pv' 1))) rfl) (ae (bg (pv' 0) (pv' 3) rfl) (ae (bg (pv' 0) (pv' 4) rfl) (ae (bg (pv' 0) (nF ["kind","level","goal"] [none,none,none] (cU (pv' 5)) (fun _ _ _ _=>(show PG _ _ (nI K 3 _) from gC (n:=3) rfl (aJ (aG (i:=0) (show (["kind","level","goal"]:List Str).Nodup by decide +kernel) rfl orL) (aJ (aG (i:=1) (show (["kind","level","goal"]:List Str).Nodup by decide +kernel) rfl orL) (aJ (aG (i:=2) (show (["kind","level","goal"]:List Str).Nodup by decide +kernel) rfl orL) dP))))) (fun _ _ _ _=>gz) (fun _ _ _ _=>(pv' 2))) rfl) (ae (yu ["depth"] [none] (iy:=6) gV.nd rfl rfl (cU (pv' 1)) (fun _ _ _ _=>(aG (i:=0) (show (["depth"]:List Str).Nodup by decide +kernel) rfl orL)) (fun _ _ _ _=>gz) (fun _ _ _ _=>gx)) (ae (aD (i:=7) gV.nd rfl orL (dn dA hr.dn T.pT aY (pa4 (aQ aA (pv' 1) ai) (pv' 6) (dn fA hr.dn T.wK aY (pa1 (pv' 2))) (dn gH hr.dn T.zi aY (pa2 (pv' 5) (ay av (by rfl) T.bY bu (pa1 (pv' 1)))))))) (ag (bg (pv' 0) (dn nW hr.dn T.CF aY (pa2 (pv' 7) (cB (by rfl) T.tf))) rfl))))))))))),?_⟩
 k_mem
 refine ⟨d,ds,rfl,hD,by omega,fun sh=>?_,q1⟩
 k_mem
 refine ⟨_,.inl hD,?_⟩
 rw [List.length_map]
 refine ⟨c,ls,_,rfl,hC,fun h2=>?_,q2 sh⟩
 k_mem
 refine ⟨_,_,rfl,?_⟩
 by_cases h3:1<=slow/\slow<=fast/\fast<=500
 case neg=>rw [if_neg h3];exact q3 sh h2 h3
 rw [if_pos h3]
 k_mem
 refine ⟨_,.inl hD,?_⟩
 rw [List.length_map]
 refine ⟨l,lds,_,rfl,hL,fun h4=>?_,q4 sh h2 h3⟩
 replace q5:=q5 sh h2 h3 h4
 clear q1 q2 q3 q4
 k_mem
 refine ⟨_,.inl hD,fun dl hdl=>⟨_,_,_,upo hx hdl,T.aS,T.bU,by decide,_,_,_,ah,T.aS,T.kK,by show 1 < 1000;decide,_,_,_,ah,T.aS,T.kL,by show 2 < 1000;decide,?_⟩⟩
 have ndx:dl≠x:=fun z=>by rw [z,hx] at hdl;cases hdl
 have k1:L2.aq x H (upd (upd (upd (upd H dl (HO.lst (ds.map V.int))) x (HO.ins Z.aW dx (aT "depths" (.ref dl) []))) x (HO.ins Z.aW dx (aT "slow" (.int slow) (aT "depths" (.ref dl) [])))) x (HO.ins Z.aW dx (aT "fast" (.int fast) (aT "slow" (.int slow) (aT "depths" (.ref dl) []))))):=(((aq.of ((aw.refl H).lay hdl)).put).put).put
 have hx1:upd (upd (upd (upd H dl (HO.lst (ds.map V.int))) x (HO.ins Z.aW dx (aT "depths" (.ref dl) []))) x (HO.ins Z.aW dx (aT "slow" (.int slow) (aT "depths" (.ref dl) [])))) x (HO.ins Z.aW dx (aT "fast" (.int fast) (aT "slow" (.int slow) (aT "depths" (.ref dl) [])))) x=some (HO.ins Z.aW dx [("depths",.ref dl),("slow",.int slow),("fast",.int fast)]):=by rw [ah];rfl
 have hd1:upd (upd (upd (upd H dl (HO.lst (ds.map V.int))) x (HO.ins Z.aW dx (aT "depths" (.ref dl) []))) x (HO.ins Z.aW dx (aT "slow" (.int slow) (aT "depths" (.ref dl) [])))) x (HO.ins Z.aW dx (aT "fast" (.int fast) (aT "slow" (.int slow) (aT "depths" (.ref dl) [])))) dl=some (HO.lst (ds.map V.int)):=by rw [az ndx,az ndx,az ndx,ah]
 generalize upd (upd (upd (upd H dl (HO.lst (ds.map V.int))) x (HO.ins Z.aW dx (aT "depths" (.ref dl) []))) x (HO.ins Z.aW dx (aT "slow" (.int slow) (aT "depths" (.ref dl) [])))) x (HO.ins Z.aW dx (aT "fast" (.int fast) (aT "slow" (.int slow) (aT "depths" (.ref dl) []))))=H1 at *
 obtain ⟨asL,hLs,hLt⟩:=id hL
 refine ⟨⟨_,hLs.keepI k1 hx⟩,mV (fun y=>.int y.2.2) (hL.keepI k1 hx) (by rw [sizeLine_eq];omega) rfl (fun y _ M hM=>by k_mem;exact hM) fun gl hgl=>?_⟩
 k_mem
 refine ⟨_,_,_,upo hx1 hgl,T.aS,T.jW,by show 3 < 1000;decide,?_⟩
 have ngx:gl≠x:=fun z=>by rw [z,hx1] at hgl;cases hgl
 have ngd:dl≠gl:=ak hd1 hgl
 have k2:L2.aq x H1 (upd (upd H1 gl (HO.lst (lds.map fun y=>V.int y.2.2))) x (HO.ins Z.aW dx (aT "goals" (.ref gl) [("depths",.ref dl),("slow",.int slow),("fast",.int fast)]))):=(aq.of ((aw.refl H1).lay hgl)).put
 have hx2:upd (upd H1 gl (HO.lst (lds.map fun y=>V.int y.2.2))) x (HO.ins Z.aW dx (aT "goals" (.ref gl) [("depths",.ref dl),("slow",.int slow),("fast",.int fast)])) x=some (HO.ins Z.aW dx [("depths",.ref dl),("slow",.int slow),("fast",.int fast),("goals",.ref gl)]):=by rw [ah];rfl
 have hg2:upd (upd H1 gl (HO.lst (lds.map fun y=>V.int y.2.2))) x (HO.ins Z.aW dx (aT "goals" (.ref gl) [("depths",.ref dl),("slow",.int slow),("fast",.int fast)])) gl=some (HO.lst ((lds.map (·.2.2)).map V.int)):=by rw [az ngx,ah,List.map_map];rfl
 generalize upd (upd H1 gl (HO.lst (lds.map fun y=>V.int y.2.2))) x (HO.ins Z.aW dx (aT "goals" (.ref gl) [("depths",.ref dl),("slow",.int slow),("fast",.int fast)]))=H2 at *
 have k12:=k1.trans k2
 have hd2:=k2 _ _ ndx hd1
 refine ⟨⟨_,hD.keepI k12 hx⟩,?_⟩
 refine nH (fun _=>true) (fun _=>V.bl false) (hD.keepI k12 hx) (by rw [List.length_map,sizeLine_eq];omega) rfl (fun y _ M hM=>by k_mem;exact hM) (fun y _ _ M hM=>by k_mem;exact hM) fun sh1 hsh1=>?_
 have es:((ds.map V.int).filter fun _=>true).map (fun _=>V.bl false)=(ds.map fun _=>false).map V.bl:=by
  rw [List.filter_eq_self.mpr (by simp),List.map_map,List.map_map];rfl
 rw [es]
 have f3:=(aw.refl H2).lay (o:=HO.lst ((ds.map fun _=>false).map V.bl)) hsh1
 have hs3:upd H2 sh1 (HO.lst ((ds.map fun _=>false).map V.bl)) sh1=some (HO.lst ((ds.map fun _=>false).map V.bl)):=ah
 generalize upd H2 sh1 (HO.lst ((ds.map fun _=>false).map V.bl))=H3 at *
 have k13:L2.aq x H H3:=k12.trans (aq.of f3)
 have sl2:=sh.l2
 k_mem
 refine ⟨_,hD.keepI k13 hx,_,ck (k:=0) (by omega) (by omega),?_⟩
 k_mem
 refine fun b db hb hdb nbd=>?_
 have hb':upd H3 db (.own b) b=none:=by rw [az (Ne.symm nbd)];exact hb
 refine ⟨b,db,c,ls,rfl,ah,(hC.keepI k13 hx).same (((aw.refl H3).lay hdb).lay hb'),n2,fun cs fl st H4 hcs hfl kp hB=>⟨rfl,?_⟩⟩
 have f4:=eB hb hdb kp
 have fcs:=dN hcs
 have ffl:=dN hfl
 clear kp hcs hfl
 have f34:=f3.trans f4
 have k14:L2.aq x H H4:=k13.trans (aq.of f4)
 k_mem
 refine ⟨_,.inl (hD.keepI k14 hx),?_⟩
 rw [List.length_map]
 refine fun y dy hy hdy nyd=>?_
 have hy':upd H4 dy (.own y) y=none:=by rw [az (Ne.symm nyd)];exact hy
 refine ⟨y,dy,l,lds,_,rfl,ah,(hL.keepI k14 hx).same (((aw.refl H4).lay hdy).lay hy'),n3,fun kn wh H5 hkn hwh nkw kp hY=>⟨rfl,?_⟩⟩
 have f5:=eB hy hdy kp
 have fkn:=dN hkn
 have fwh:=dN hwh
 clear kp hkn hwh
 k_mem
 refine fun s ds1 hs hds1 nsd=>?_
 have hs':upd H5 ds1 (.own s) s=none:=by rw [az (Ne.symm nsd)];exact hs
 refine ⟨s,ds1,sh1,b,y,ds.getD 0 0,ds.map fun _=>false,rfl,ah,(((aw.refl H5).lay hds1).lay hs').seq (SqL.of (f5 _ _ (f4 _ _ hs3))),fun ol H6 hol kp hob6 hol6=>⟨rfl,?_⟩⟩
 have f6:=eB hs hds1 kp
 have fol:=dN hol
 clear kp hol
 k_mem
 refine fun bk dbk hbk hdbk nbk=>?_
 refine ⟨bk,dbk,s,rfl,ah,fun rl H7 hrl kp hob7 hrl7=>⟨rfl,?_⟩⟩
 have f7:=eB hbk hdbk kp
 have frl:=dN hrl
 clear kp hrl
 have f26:=(f3.trans f4).trans (f5.trans f6)
 have f27:=f26.trans f7
 have hx7:=f27 _ _ hx2
 k_mem
 refine ⟨_,_,_,hx7,T.aS,T.aZ,by show 4 < 1000;decide,?_⟩
 have k8:L2.aq x H7 (upd H7 x (HO.ins Z.aW dx (aT "log" (.ref bk) [("depths",.ref dl),("slow",.int slow),("fast",.int fast),("goals",.ref gl)]))):=(aq.of (aw.refl H7)).put
 have hx8:upd H7 x (HO.ins Z.aW dx (aT "log" (.ref bk) [("depths",.ref dl),("slow",.int slow),("fast",.int fast),("goals",.ref gl)])) x=some (HO.ins Z.aW dx [("depths",.ref dl),("slow",.int slow),("fast",.int fast),("goals",.ref gl),("log",.ref bk)]):=by rw [ah];rfl
 generalize upd H7 x (HO.ins Z.aW dx (aT "log" (.ref bk) [("depths",.ref dl),("slow",.int slow),("fast",.int fast),("goals",.ref gl)]))=H8 at *
 have frx:∀z,H6 z=none->H z=none:=fun z hz=>by
  by_cases e:z=x
  ·subst e;rw [f26 _ _ hx2] at hz;cases hz
  ·exact k12.free e (f26.free hz)
 obtain ⟨_,⟨asc,oc4,_⟩,of4,_,ncf,_⟩:=id hB
 obtain ⟨_,okn5,owh5⟩:=id hY
 have hsx:s≠x:=fun z=>by rw [z] at hs;rw [f5 _ _ (f34 _ _ hx2)] at hs;cases hs
 have hbx:b≠x:=fun z=>by rw [z] at hb;rw [f3 _ _ hx2] at hb;cases hb
 have hyx:y≠x:=fun z=>by rw [z] at hy;rw [f34 _ _ hx2] at hy;cases hy
 have hbkx:bk≠x:=fun z=>by rw [z] at hbk;rw [f26 _ _ hx2] at hbk;cases hbk
 have f46:=f5.trans f6
 have hN6:∀p,N p->∃ys,H6 p=some (.lst ys):=fun p hp=>by
  obtain ⟨ys,e⟩:=hN p hp
  exact ⟨ys,f26 _ _ (k12 _ _ (fun z=>by rw [z,hx] at e;cases e) e)⟩
 have hNn:∀p,N p->∀z,H z=none->z≠p:=fun p hp z hz e=>by
  obtain ⟨ys,e'⟩:=hN p hp
  rw [←e,hz] at e';cases e'
 have fr3:∀z,z≠x->H3 z=none->H z=none:=fun z e hz=>k13.free e hz
 have nx3:∀z,H3 z=none->z≠x:=fun z hz e=>by rw [e,f3 _ _ hx2] at hz;cases hz
 have gcs:=fr3 cs (nx3 cs fcs) fcs
 have gfl:=fr3 fl (nx3 fl ffl) ffl
 have gkn:=fr3 kn (nx3 kn (f4.free fkn)) (f4.free fkn)
 have gwh:=fr3 wh (nx3 wh (f4.free fwh)) (f4.free fwh)
 have gol:=fr3 ol (nx3 ol (f4.free (f5.free fol))) (f4.free (f5.free fol))
 have cs5:=f5 _ _ oc4
 have fl5:=f5 _ _ of4
 have hst:aO (clZ Z) K H7 rl (bb ds ls slow fast lds N) s ⟨ds1,ol,b,cs,fl,st,y,kn,wh⟩ (aH ds ls lds):=
  ⟨f7 _ _ hob6,f7 _ _ hol6,((hB.same f5).same f6).same f7,(hY.same f6).same f7,
   ⟨ak hol6 frl,ak (f6 _ _ cs5) frl,ak (f6 _ _ fl5) frl,ak (f6 _ _ okn5) frl,ak (f6 _ _ owh5) frl,
   ak cs5 fol,ak fl5 fol,ak okn5 fol,ak owh5 fol,
   (ak fl5 fol).symm,(ak of4 fkn).symm,(ak of4 fwh).symm,
   (ak owh5 fol).symm,ak oc4 fwh,ak of4 fwh,nkw⟩,
   ⟨fun p hp=>by obtain ⟨ys,e⟩:=hN6 p hp;exact ⟨ys,f7 _ _ e⟩,fun p hp=>hNn p hp rl (frx rl frl),fun p hp=>hNn p hp ol gol,fun p hp=>hNn p hp cs gcs,fun p hp=>hNn p hp fl gfl,fun p hp=>hNn p hp kn gkn,fun p hp=>hNn p hp wh gwh⟩⟩
 have hst8:=hst.keepI k8 hx7 hsx hbx hyx
 have nrx:rl≠x:=fun z=>by rw [z] at frl;rw [f26 _ _ hx2] at frl;cases frl
 refine q5 bk rl H8 ((k12.trans (aq.of f27)).trans k8) (frx rl frl) ⟨⟨dx,dl,gl,hx8,k8 _ _ ndx (f27 _ _ hd2),k8 _ _ ngx (f27 _ _ hg2),ak (f26 _ _ hd2) frl,ak (f26 _ _ hg2) frl,fun p hp=>hNn p hp dl hdl,fun p hp=>hNn p hp gl (k1.free ngx hgl)⟩,⟨dbk,s,k8 _ _ hbkx hob7,hst8.at⟩,[],k8 _ _ nrx hrl7,rfl,fun i a r e=>by simp at e⟩
variable (fD:KN P w K mg base (CXf P w) 3 Z.aW (ig K Z))
def qg (Z:Adr)(K:W.Frag)(H:Hp)(w bk rl:Addr)(g:Cfg)(n0:a6)(rs:List Row)(d:Dd)(Q:VK)(E:XK):Prop:=
 (300<=rs.length->∀H',aw H H'->E (.ref Z.fX) none H')/\(rs.length < 300->∀H',aq rl H H'->WAt (clZ Z) K H' w bk rl g n0 (rs++[bD g n0 rs d])->Q (.int (gu rs+oT g (af n0 rs) d)) H')
inductive gn (K:W.Frag)(Z:Adr)(vs:List V)(H:Hp)(Q:VK)(E:XK):Prop | mk (w bk rl:Addr) (g:Cfg) (n0:a6) (rs:List Row) (dd s:Addr) (tk:Int) (dv:List V) (n:a6):vs=[.ref w,.ref dd,.int tk,.ref s]->WAt (clZ Z) K H w bk rl g n0 rs->SqT K H dd dv->cN (clZ Z) K H rl g s n->g.ks.length=n.ws.length->((300<=rs.length->∀H',aw H H'->E (.ref Z.fX) none H'))->((rs.length < 300->∀H',aq rl H H'->WAt (clZ Z) K H' w bk rl g n0 (rs++[⟨gu rs,gu rs+tk,dv,cT g n,n⟩])->Q (.int (gu rs+tk)) H'))->gn K Z vs H Q E
include T mz cG cV in
theorem qh:FF P w K mg base (CXf P w) 3 "write" "Works.write" gX kC (gn K Z):=fkF pA fun vs H Q E h=>by
 obtain ⟨w,bk,rl,g,n0,rs,dd,s0,tk,dv,n,rfl,hW,hD,hS,hl,q1,q2⟩:=h
 k_all
 refine seg 1 (ag (aB (de (pv' 0) cV hr.dn aY))) fun zt1 zh1 ze1=>?_
 refine ⟨_,ae (aX (dm' (ao (pv' 0)) mz hr.dn bH (pa4 (pv' 1) (pv' 2) (dm' (pv' 0) cG hr.dn aY (pa1 (pv' 3))) (pv' 3)))) zh1,?_⟩
 obtain ⟨⟨dx,dl,gl,hob,hdl,hgl,n1,n2⟩,hB⟩:=id hW
 obtain ⟨⟨db,f0,hbo,hF⟩,as,hrl,hR⟩:=id hB
 k_mem
 refine fgo hob T.aS T.aZ rfl ?_
 k_mem
 refine mgo hbo rfl (mgo hob rfl ⟨_,_,_,_,_,_,_,_,rfl,hW,hS,hl,fun H1 s1=>?_⟩)
 k_mem
 refine ⟨bk,rl,dd,s0,g,n0,n,rs,tk,cT g n,dv,rfl,hB.same s1,s1.tup hD,hS.same s1,fun h=>q1 h H1 s1,fun h H2 k2 hB2=>?_⟩
 k_mem
 have k1:L2.aq rl H H2:=(aq.of s1).trans k2
 have hW2:WAt (clZ Z) K H2 w bk rl g n0 _:=(hW.same s1).keep k2 (s1 _ _ hrl) hB2
 obtain ⟨dx2,_,_,hob2,_⟩:=id hW2.ob
 k_upd
 refine mgo hob2 rfl ⟨_,_,_,_,_,_,rfl,hW2,?_⟩
 rw [mQ]
 k_upd
 exact q2 h H2 k1 hW2
variable (a9:KM P w K mg base (CXf P w) 3 Z.aW "write" (gn K Z))
inductive cW (K:W.Frag)(Z:Adr)(vs:List V)(H:Hp)(Q:VK)(E:XK):Prop | mk (w bk rl:Addr) (g:Cfg) (n0:a6) (rs:List Row) (pl:Int):vs=[.ref w,.int pl]->WAt (clZ Z) K H w bk rl g n0 rs->0 < g.ds.length->(∀p,H p=none->Q (.ref p) (upd H p (.tup [.int pl,.int (bX g.ds - pl)])))->cW K Z vs H Q E
include T cK in
theorem j7:FF P w K mg base CX0 3 "both_places" "Works.both_places" c8 fh (cW K Z):=fk0 jP fun vs H Q E h=>by
 obtain ⟨w,bk,rl,g,n0,rs,pl,rfl,hW,hn,q⟩:=h
 k_all
 refine ⟨_,ag (aB (bN (pa2 (pv' 1) (dc0 cK hr.dn (pa2 (ao (pv' 0)) (pv' 1)))))),?_⟩
 obtain ⟨⟨dx,dl,gl,hob,hdl,hgl,n1,n2⟩,hB⟩:=id hW
 obtain ⟨⟨db,f0,hbo,hF⟩,as,hrl,hR⟩:=id hB
 k_mem
 refine fgo hob T.aS T.bU rfl ?_
 k_mem
 refine ⟨_,_,_,rfl,SqL.of hdl,hn,?_⟩
 k_mem
 exact ⟨by decide,q⟩
variable (fi:KM P w K mg base CX0 3 Z.aW "both_places" (cW K Z))
theorem xx {x y z i:Int}(h0:0<=i)(h2:i<=2):atI [V.int x,V.int y,V.int z] i=some (.int (if i=0 then x else if i=1 then y else z)):=by
 rcases (by omega:i=0\/i=1\/i=2) with rfl | rfl | rfl<;>rfl
inductive lE (K:W.Frag)(Z:Adr)(vs:List V)(H:Hp)(Q:VK)(E:XK):Prop | mk (a:Addr) (ns:List Int):vs=[.ref a]->SqL K H a (ns.map V.int)->(∀(p dl cl:Addr) (ds:List Int) (as:List Addr) (ls:List Cd) (slow fast:Int) (H':Hp),aw H H'->H p=none->H dl=none->H cl=none->dl≠cl->H' p=some (.lst [.ref dl,.ref cl,.int slow,.int fast])->H' dl=some (.lst (ds.map V.int))->bG ds->H' cl=some (.lst (as.map V.ref))->cb cdV K H' as ls->ls.length=ds.length->(∀x∈ls,c7 x)->(1<=slow/\slow<=fast/\fast<=500)->Q (.ref p) H')->lE K Z vs H Q E
include T je bZ qc rE in
theorem vR:FF P w K mg base CX0 3 "_law_shaft" "_law_shaft" ix rD (lE K Z):=fk0 dE fun vs H Q E h=>by
 obtain ⟨a,ns,rfl,hS,q⟩:=h
 k_all
 obtain ⟨t1,h1,k1⟩:∃t,PSs (qo CX0 P w K mg base ["_law_script","_law_depths_here","_law_codes_here","_law_cell","_law_slow","_law_fast"] "_law_shaft" (aj ix) zf zv zA zo zs H E).nox ((bI ix).drop 4) t/\∀(dl cl:Addr) (ds:List Int) (as:List Addr) (ls:List Cd) (c slow:Int) (H1:Hp),aw H H1->H dl=none->H cl=none->dl≠cl->H1 dl=some (.lst (ds.map V.int))->bG ds->H1 cl=some (.lst (as.map V.ref))->cb cdV K H1 as ls->ls.length=ds.length->(∀x∈ls,c7 x)->1<=slow->slow<=500->t ({nx:=fun _ H2=>Q .non H2,rt:=Q}:kQ) [some (.ref a),some (.ref dl),some (.ref cl),some (.int c),some (.int slow),none] H1:=by
  refine ⟨_,ae (aV (ee (dc0 bZ hr.dn (pa3 (pv' 3) ai ai)) ai) (ag (aD (i:=4) dE.nd rfl orL ai)) (aC)) (ae (aD (i:=5) dE.nd rfl orL (aQ aA (cv (pa3 (pv' 4) ai (aP bA (pv' 4) (dc0 bZ hr.dn (pa3 (pv' 3) ai (aP bS ai (pv' 4))))))) (ay (kT rfl) (by rfl) T.zh u4 (pa2 ai (dc0 bZ hr.dn (pa3 (pv' 3) ai ai)))))) (ag (aB (cv (pa4 (pv' 1) (pv' 2) (pv' 4) (pv' 5)))))),?_⟩
  intro dl cl ds as ls c slow H1 s1 fd fc ndc hdl hsh hcl hT hlen hg h1 h5
  k_mem
  refine ⟨c,4,16,rfl,by omega,by omega,by omega,fun r4 h40 h41=>?_⟩
  k_mem
  split
  all_goals
   refine ⟨c,2,_,rfl,by omega,by omega,by omega,fun r2 h20 h21=>⟨by decide,fun p1 hp1=>⟨c,3,8,rfl,by omega,by omega,by omega,fun r3 h30 h31=>?_⟩⟩⟩
   k_mem
   refine ⟨_,SqL.of ah,_,xx (by split<;>omega) (by split<;>omega),by decide,fun p2 hp2=>?_⟩
   refine q p2 dl cl ds as ls _ _ _ (s1.trans (((aw.refl H1).lay hp1).lay hp2)) (s1.free (upn hp2)) fd fc ndc ah (upo (upo hdl hp1) hp2) hsh (upo (upo hcl hp1) hp2) (hT.same (((aw.refl H1).lay hp1).lay hp2)) hlen hg ⟨by omega,?_,?_⟩
   ·(repeat' split)<;>omega
   ·(repeat' split)<;>omega
 refine ⟨_,ae (aD (i:=1) dE.nd rfl orL (dc0 qc hr.dn (pa1 (dc0 je hr.dn (pa2 (pv' 0) ai))))) (ae (aD (i:=2) dE.nd rfl orL (dc0 rE hr.dn (pa2 (dc0 je hr.dn (pa2 (pv' 0) ai)) (ay av (by rfl) T.bY bu (pa1 (pv' 1)))))) (ae (aD (i:=3) dE.nd rfl orL (dc0 je hr.dn (pa2 (pv' 0) ai))) (ae (aD (i:=4) dE.nd rfl orL (aP bA ai (dc0 bZ hr.dn (pa3 (pv' 3) ai (aQ aA (cv (pa2 ai ai)) (dc0 bZ hr.dn (pa3 (pv' 3) ai ai))))))) h1))),?_⟩
 k_mem
 refine ⟨a,ns,1,rfl,hS,by omega,?_⟩
 k_mem
 refine ⟨_,rfl,fun dl ds H1 hdn s1 hdl hsh=>?_⟩
 have l2:=hsh.l2
 have l6:=hsh.l6
 k_mem
 refine ⟨a,ns,2,rfl,s1.seq hS,by omega,?_⟩
 k_mem
 refine ⟨_,.inl (SqL.of hdl),?_⟩
 rw [List.length_map]
 refine ⟨_,_,rfl,by omega,by omega,fun cl as ls H2 hcn s2 hcl hT hlen hg=>?_⟩
 have ndc:dl≠cl:=ak hdl hcn
 k_mem
 refine ⟨a,ns,3,rfl,(s1.trans s2).seq hS,by omega,?_⟩
 k_mem
 refine ⟨by decide,fun p hp=>⟨_,0,2,rfl,by omega,by omega,by omega,fun r0 h00 h01=>?_⟩⟩
 have e0:∃m:Int,(m=30\/m=500)/\atI [V.int 30,V.int 500] r0=some (.int m):=zW (x:=30) (y:=500) (by omega)
 obtain ⟨m,hm,em⟩:=e0
 k_mem
 refine ⟨_,SqL.of ah,_,em,_,1,m,rfl,by omega,by omega,by omega,fun r1 h10 h11=>?_⟩
 k_mem
 have sx:=(aw.refl H2).lay (o:=HO.lst [V.int 30,V.int 500]) hp
 exact k1 dl cl ds as ls _ _ _ ((s1.trans s2).trans sx) hdn (s1.free hcn) ndc (sx _ _ (s2 _ _ hdl)) hsh (sx _ _ hcl) (hT.same sx) (by omega) hg (by omega) (by omega)
variable (ki:KD P w K mg base CX0 3 "_law_shaft" (lE K Z))
inductive er (K:W.Frag)(Z:Adr)(vs:List V)(H:Hp)(Q:VK)(E:XK):Prop | mk (s rl:Addr) (g:Cfg) (n:a6) (ys:List V):vs=[.ref s]->cN (clZ Z) K H rl g s n->H rl=some (.lst ys)->g.ls.length<=1000->(∀(s':Addr) (A:SA) (H':Hp),aw H H'->H s'=none->H A.ol=none->H A.b=none->H A.fl=none->H A.y=none->H A.wh=none->aO (clZ Z) K H' rl g s' A n->Q (.ref s') H')->er K Z vs H Q E
include T dA nZ mD in
theorem nD:FF P w K mg base CX0 4 "twin" "Standing.twin" eU jo (er K Z):=fk0 mY fun vs H Q E h=>by
 obtain ⟨s0,rl,g,n,ys,rfl,⟨A0,hA⟩,hrl,hls,q⟩:=h
 k_all
 refine ⟨_,ag (aB (dn dA hr.dn T.pT aY (pa4 (ao (pv' 0)) (ao (pv' 0)) (de (ao (pv' 0)) mD hr.dn aY) (de (ao (pv' 0)) nZ hr.dn aY)))),?_⟩
 k_mem
 refine fgo hA.ob T.aE T.bT rfl (fgo hA.ob T.aE T.bF rfl (fgo hA.ob T.aE T.cu rfl ?_))
 k_mem
 obtain ⟨db,hbb⟩:=hA.be.ob
 obtain ⟨dy,hyb⟩:=hA.ya.ob
 k_upd
 refine mgo hbb rfl ⟨_,_,_,_,_,_,_,rfl,hA.be,hls,fun b1 cs1 fl1 H1 hb1 hc1 hf1 s1 hB1=>?_⟩
 k_upd
 refine fgo (s1 _ _ hA.ob) T.aE T.bc rfl ?_
 k_mem
 refine mgo (s1 _ _ hyb) rfl ⟨_,_,_,_,_,_,rfl,hA.ya.same s1,fun y2 kn2 wh2 H2 hy2 hk2 hw2 nkw s2 hY2=>?_⟩
 refine fun x dx hx hdx nxd=>?_
 have s12:=s1.trans s2
 have hx':upd H2 dx (.own x) x=none:=by rw [az (Ne.symm nxd)];exact hx
 k_upd
 refine ⟨x,dx,A0.ol,b1,y2,n.place,n.gates,rfl,ah,(((aw.refl H2).lay hdx).lay hx').seq (SqL.of (s12 _ _ hA.go)),fun ol H3 hol kp hob3 hol3=>⟨rfl,?_⟩⟩
 have s3:=eB hx hdx kp
 have holn:=dN hol
 obtain ⟨_,⟨as1,oc1,_⟩,of1,_⟩:=id hB1
 obtain ⟨_,okn2,owh2⟩:=id hY2
 have cs2:=s2 _ _ oc1
 have fl2:=s2 _ _ of1
 refine q x ⟨dx,ol,b1,cs1,fl1,A0.st,y2,kn2,wh2⟩ H3 (s12.trans s3) (s12.free hx) (s12.free holn) hb1 hf1 (s1.free hy2) (s1.free hw2) ⟨hob3,hol3,(hB1.same s2).same s3,hY2.same s3,⟨?_,?_,?_,?_,?_,?_,?_,?_,?_,?_,?_,?_,?_,?_,?_,?_⟩,⟨(hA.nn.same (s12.trans s3)).al,hA.nn.nr,?_,?_,?_,?_,?_⟩⟩
 ·exact (ak hrl (s12.free holn)).symm
 ·exact (ak hrl hc1).symm
 ·exact (ak hrl hf1).symm
 ·exact (ak hrl (s1.free hk2)).symm
 ·exact (ak hrl (s1.free hw2)).symm
 ·exact ak cs2 holn
 ·exact ak fl2 holn
 ·exact ak okn2 holn
 ·exact ak owh2 holn
 ·exact (ak fl2 holn).symm
 ·exact (ak of1 hk2).symm
 ·exact (ak of1 hw2).symm
 ·exact (ak owh2 holn).symm
 ·exact ak oc1 hw2
 ·exact ak of1 hw2
 ·exact nkw
 all_goals
  intro q hq
  obtain ⟨us,hu⟩:=hA.nn.al q hq
 ·exact (ak hu (s12.free holn)).symm
 ·exact (ak hu hc1).symm
 ·exact (ak hu hf1).symm
 ·exact (ak hu (s1.free hk2)).symm
 ·exact (ak hu (s1.free hw2)).symm
variable (aR:KM P w K mg base CX0 4 Z.cI "twin" (er K Z))
inductive gp (K:W.Frag)(Z:Adr)(vs:List V)(H:Hp)(Q:VK)(E:XK):Prop | mk (w bk rl:Addr) (g:Cfg) (n0:a6) (rs:List Row):vs=[.ref w]->WAt (clZ Z) K H w bk rl g n0 rs->0 < g.ds.length->(∀p,H p=none->Q (.ref p) (upd H p (.tup [.int (af n0 rs).place,.int (bX g.ds - (af n0 rs).place)])))->gp K Z vs H Q E
include T aF fi in
theorem qi:FF P w K mg base CX0 4 "cages" "Works.cages" gY kE (gp K Z):=fk0 pD fun vs H Q E h=>by
 obtain ⟨w,bk,rl,g,n0,rs,rfl,hW,hn,q⟩:=h
 k_all
 refine ⟨_,ag (aB (dm' (pv' 0) fi hr.dn aY (pa1 (ao (de (ao (pv' 0)) aF hr.dn aY))))),?_⟩
 obtain ⟨⟨dx,dl,gl,hob,hdl,hgl,n1,n2⟩,hB⟩:=id hW
 obtain ⟨⟨db,f0,hbo,hF⟩,as,hrl,hR⟩:=id hB
 k_mem
 refine mgo hob rfl (fgo hob T.aS T.aZ rfl ?_)
 k_mem
 refine mgo hbo rfl ⟨_,_,_,_,_,rfl,hB,fun s0 ⟨A,hA⟩=>?_⟩
 k_mem
 refine fgo hA.ob T.aE T.bT rfl ?_
 k_upd
 exact ⟨_,_,_,_,_,_,_,rfl,hW,hn,q⟩
variable (cA:KM P w K mg base CX0 4 Z.aW "cages" (gp K Z))
inductive ij (K:W.Frag)(Z:Adr)(vs:List V)(H:Hp)(Q:VK)(E:XK):Prop | mk (w bk rl:Addr) (g:Cfg) (n0:a6) (rs:List Row) (lv s:Int):vs=[.ref w,.int lv,.int s]->WAt (clZ Z) K H w bk rl g n0 rs->g.ls.length<=1000->g.ks.length=(af n0 rs).ws.length->((¬(0<=lv/\lv < g.ls.length)->∀H',aw H H'->E (.ref Z.bt) none H'))->((0<=lv->lv < g.ls.length->(af n0 rs).fs.getD lv.toNat false=true->∀H',aw H H'->E (.ref Z.jU) none H'))->((0<=lv->lv < g.ls.length->(af n0 rs).fs.getD lv.toNat false=false->¬(s=(bJ g.ls lv).1\/s=(bJ g.ls lv).2)->∀H',aw H H'->E (.ref Z.lj) none H'))->((0<=lv->lv < g.ls.length->(af n0 rs).fs.getD lv.toNat false=false->(s=(bJ g.ls lv).1\/s=(bJ g.ls lv).2)->qg Z K H w bk rl g n0 rs (.ring lv s) Q E))->ij K Z vs H Q E
include T aF mB a9 aR in
theorem qR:FF P w K mg base (CXf P w) 5 "ring" "Works.ring" i3 me (ij K Z):=fkF kI fun vs H Q E h=>by
 obtain ⟨w,bk,rl,g,n0,rs,lv,s,rfl,hW,hls,hks,q1,q2,q3,q4⟩:=h
 k_all
 refine seg 2 (ag (aB (dm' (pv' 0) a9 hr.dn bH (pa3 (bN (pa3 aI (pv' 1) (pv' 2))) ai (pv' 3))))) fun zt2 zh2 ze2=>?_
 refine seg 1 (ae (aX (dm' (ao (pv' 3)) mB hr.dn bH (pa2 (pv' 1) (pv' 2)))) zh2) fun zt1 zh1 ze1=>?_
 refine ⟨_,ae (aD (i:=3) kI.nd rfl orL (de (de (ao (pv' 0)) aF hr.dn aY) aR hr.dn aY)) zh1,?_⟩
 obtain ⟨⟨dx,dl,gl,hob,hdl,hgl,n1,n2⟩,hB⟩:=id hW
 obtain ⟨⟨db,f0,hbo,hF⟩,as,hrl,hR⟩:=id hB
 k_mem
 refine fgo hob T.aS T.aZ rfl ?_
 k_mem
 refine mgo hbo rfl ⟨_,_,_,_,_,rfl,hB,fun s0 ⟨A0,hA0⟩=>?_⟩
 k_mem
 refine mgo hA0.ob rfl ⟨_,_,_,_,_,rfl,hA0.at,hrl,hls,fun s1 A H1 e1 hs1 ho1 hb1 hf1 hy1 hw1 hA=>?_⟩
 have hW1:=hW.same e1
 have hob1:=e1 _ _ hob
 have hbo1:=e1 _ _ hbo
 have hrl1:=e1 _ _ hrl
 have hdl1:=e1 _ _ hdl
 k_mem
 refine fgo hA.ob T.aE T.cu rfl ?_
 k_mem
 obtain ⟨db1,hbb⟩:=hA.be.ob
 k_upd
 refine mgo hbb rfl ⟨_,_,_,_,_,_,_,_,_,rfl,hA.be,fun h=>q1 h _ e1,fun h h' h2=>q2 h h' h2 _ e1,fun h h' h2 h4=>q3 h h' h2 h4 _ e1,fun h h' h2 h4 st2 H2 k2 hB2=>?_⟩
 have h3:=q4 h h' h2 h4
 have e2:=e1.keeps k2 hb1
 have hA2:=hA.bells k2 hB2
 clear k2 hB2
 k_mem
 refine ⟨_,_,e2 _ _ hob,rfl,by decide,fun p hp=>?_⟩
 have e3:=e2.lay (o:=HO.tup [V.str (Str.ofString "ring"),V.int lv,V.int s]) hp
 have f3:=(aw.refl H2).lay (o:=HO.tup [V.str (Str.ofString "ring"),V.int lv,V.int s]) hp
 k_upd
 refine ⟨_,_,_,_,_,_,p,s1,1,ddV (.ring lv s),a7 g (af n0 rs) (.ring lv s),rfl,hW.same e3,SqT.of (by rw [ah];rfl),?_,?_,fun h H' s'=>h3.1 h H' (e3.trans s'),fun h H' k hWn=>?_⟩
 ·exact (aO.at hA2).same f3
 ·rw [hks];first | rfl | simp only [a7,List.length_set]
 ·k_upd
  exact h3.2 h H' ((aq.of e3).trans k) hWn
variable (fE:KM P w K mg base (CXf P w) 5 Z.aW "ring" (ij K Z))
inductive ff (K:W.Frag)(Z:Adr)(vs:List V)(H:Hp)(Q:VK)(E:XK):Prop | mk (w bk rl:Addr) (g:Cfg) (n0:a6) (rs:List Row) (s:Int):vs=[.ref w,.int s]->WAt (clZ Z) K H w bk rl g n0 rs->g.ls.length<=1000->g.ks.length=(af n0 rs).ws.length->(((∀l r,(af n0 rs).e≠.wait l r)->∀H',aw H H'->E (.ref Z.eD) none H'))->((∀l r,(af n0 rs).e=.wait l r->¬(1<=s/\s<=9)->∀H',aw H H'->E (.ref Z.lj) none H'))->((∀l r,(af n0 rs).e=.wait l r->(1<=s/\s<=9)->(300<=rs.length->∀H',aw H H'->E (.ref Z.fX) none H')/\(rs.length < 300->∀p H',aq rl H H'->WAt (clZ Z) K H' w bk rl g n0 (rs++[bD g n0 rs (.rept s)])->SqT K H' p [.bl (decide (s=r)),.int r,.int s]->Q (.ref p) H')))->ff K Z vs H Q E
include T aF j3 a9 aR in
theorem oo:FF P w K mg base (CXf P w) 5 "repeat" "Works.repeat" fU jG (ff K Z):=fkF eV fun vs H Q E h=>by
 obtain ⟨w,bk,rl,g,n0,rs,s,rfl,hW,hls,hks,q1,q2,q3⟩:=h
 k_all
 refine seg 3 (ag (aB (pv' 3))) fun zt3 zh3 ze3=>?_
 refine seg 2 (ae (aX (dm' (pv' 0) a9 hr.dn bH (pa3 (bN (pa2 aI (pv' 1))) ai (pv' 2)))) zh3) fun zt2 zh2 ze2=>?_
 refine seg 1 (ae (aD (i:=3) eV.nd rfl orL (dm' (ao (pv' 2)) j3 hr.dn bH (pa1 (pv' 1)))) zh2) fun zt1 zh1 ze1=>?_
 refine ⟨_,ae (aD (i:=2) eV.nd rfl orL (de (de (ao (pv' 0)) aF hr.dn aY) aR hr.dn aY)) zh1,?_⟩
 obtain ⟨⟨dx,dl,gl,hob,hdl,hgl,n1,n2⟩,hB⟩:=id hW
 obtain ⟨⟨db,f0,hbo,hF⟩,as,hrl,hR⟩:=id hB
 k_mem
 refine fgo hob T.aS T.aZ rfl ?_
 k_mem
 refine mgo hbo rfl ⟨_,_,_,_,_,rfl,hB,fun s0 ⟨A0,hA0⟩=>?_⟩
 k_mem
 refine mgo hA0.ob rfl ⟨_,_,_,_,_,rfl,hA0.at,hrl,hls,fun s1 A H1 e1 hs1 ho1 hb1 hf1 hy1 hw1 hA=>?_⟩
 have hW1:=hW.same e1
 have hob1:=e1 _ _ hob
 have hbo1:=e1 _ _ hbo
 have hrl1:=e1 _ _ hrl
 have hdl1:=e1 _ _ hdl
 k_mem
 refine fgo hA.ob T.aE T.cu rfl ?_
 k_mem
 obtain ⟨db1,hbb⟩:=hA.be.ob
 k_upd
 refine mgo hbb rfl ⟨_,_,_,_,_,_,_,_,rfl,hA.be,fun h=>q1 h _ e1,fun l r h h'=>q2 l r h h' _ e1,fun l r h h' st2 p2 H2 hp2 k2 hB2 hT2=>?_⟩
 have h3:=q3 l r h h'
 have e2:=e1.keeps k2 hb1
 have hA2:aO (clZ Z) K H2 rl g s1 {A with st:=st2} (a7 g (af n0 rs) (.rept s)):=by
  have:=hA.bells k2 hB2
  have e0:a7 g (af n0 rs) (.rept s)={(af n0 rs) with e:=(if s=r then Eng.armed l r else Eng.other l r s)}:=by
   show a6.mk _ _ _ (sj g (af n0 rs) (.rept s)) _=_
   rw [show sj g (af n0 rs) (.rept s)=(if s=r then Eng.armed l r else Eng.other l r s) from by simp only [sj,h]]
  rw [e0]
  exact this
 clear k2 hB2
 k_mem
 refine ⟨_,_,e2 _ _ hob,rfl,by decide,fun p hp=>?_⟩
 have e3:=e2.lay (o:=HO.tup [V.str (Str.ofString "repeat"),V.int s]) hp
 have f3:=(aw.refl H2).lay (o:=HO.tup [V.str (Str.ofString "repeat"),V.int s]) hp
 k_upd
 refine ⟨_,_,_,_,_,_,p,s1,1,ddV (.rept s),a7 g (af n0 rs) (.rept s),rfl,hW.same e3,SqT.of (by rw [ah];rfl),?_,?_,fun h H' s'=>h3.1 h H' (e3.trans s'),fun h H' k hWn=>?_⟩
 ·exact (aO.at hA2).same f3
 ·rw [hks];first | rfl | simp only [a7,List.length_set]
 ·k_upd
  exact h3.2 h _ H' ((aq.of e3).trans k) hWn ((f3.tup hT2).keep k (e3 _ _ hrl))
variable (dX:KM P w K mg base (CXf P w) 5 Z.aW "repeat" (ff K Z))
inductive dH (K:W.Frag)(Z:Adr)(vs:List V)(H:Hp)(Q:VK)(E:XK):Prop | mk (w bk rl:Addr) (g:Cfg) (n0:a6) (rs:List Row) (wd:Str) (lv:Int) (b:Bool) (d:Dd):vs=[.ref w,.str wd,.int lv,.bl b]->WAt (clZ Z) K H w bk rl g n0 rs->g.ls.length<=1000->g.ks.length=(af n0 rs).ws.length->(af n0 rs).gates.length=g.ds.length->(((wd="open"/\b=true/\d=.opn lv)\/(wd="shut"/\b=false/\d=.sht lv)))->((¬(0<=lv/\lv < g.ds.length)->∀H',aw H H'->E (.ref Z.bt) none H'))->((0<=lv->lv < g.ds.length->(af n0 rs).gates.getD lv.toNat false=b->∀H',aw H H'->E (.ref Z.iF) none H'))->((0<=lv->lv < g.ds.length->(af n0 rs).gates.getD lv.toNat false=!b->qg Z K H w bk rl g n0 rs d Q E))->dH K Z vs H Q E
include T aF bx a9 aR in
theorem lF:FF P w K mg base (CXf P w) 5 "turn_gate" "Works.turn_gate" dW gG (dH K Z):=fkF fV fun vs H Q E h=>by
 obtain ⟨w,bk,rl,g,n0,rs,wd,lv,b,d,rfl,hW,hls,hks,hgl2,hd,q1,q2,q3⟩:=h
 k_all
 refine seg 4 (ag (aB (dm' (pv' 0) a9 hr.dn bH (pa3 (bN (pa2 (pv' 1) (pv' 2))) ai (pv' 4))))) fun zt4 zh4 ze4=>?_
 refine seg 3 (ae (mH (pv' 3) (oH (ao (pv' 4)) (pv' 2) ir)) zh4) fun zt3 zh3 ze3=>?_
 refine seg 2 (ae (aV (ee (aQ aA (ao (pv' 4)) (pv' 2)) (pv' 3)) (ag (aU T.vL (by rfl) T.vF (pa1 aI))) (aC)) zh3) fun zt2 zh2 ze2=>?_
 refine seg 1 (ae (aX (dc bx hr.dn bH (pa2 (pv' 2) (ay av (by rfl) T.bY bu (pa1 (ao (pv' 0))))))) zh2) fun zt1 zh1 ze1=>?_
 refine ⟨_,ae (aD (i:=4) fV.nd rfl orL (de (de (ao (pv' 0)) aF hr.dn aY) aR hr.dn aY)) zh1,?_⟩
 obtain ⟨⟨dx,dl,gl,hob,hdl,hgl,n1,n2⟩,hB⟩:=id hW
 obtain ⟨⟨db,f0,hbo,hF⟩,as,hrl,hR⟩:=id hB
 k_mem
 refine fgo hob T.aS T.aZ rfl ?_
 k_mem
 refine mgo hbo rfl ⟨_,_,_,_,_,rfl,hB,fun s0 ⟨A0,hA0⟩=>?_⟩
 k_mem
 refine mgo hA0.ob rfl ⟨_,_,_,_,_,rfl,hA0.at,hrl,hls,fun s1 A H1 e1 hs1 ho1 hb1 hf1 hy1 hw1 hA=>?_⟩
 have hW1:=hW.same e1
 have hob1:=e1 _ _ hob
 have hbo1:=e1 _ _ hbo
 have hrl1:=e1 _ _ hrl
 have hdl1:=e1 _ _ hdl
 k_mem
 refine fgo hob1 T.aS T.bU rfl ?_
 k_mem
 refine ⟨_,.inl (SqL.of hdl1),_,_,rfl,?_⟩
 rw [List.length_map]
 k_upd
 refine ⟨fun hlv=>?_,fun h=>q1 h _ e1⟩
 k_mem
 refine fgo hA.ob T.aE T.bF rfl ?_
 k_mem
 refine ⟨_,SqL.of hA.go,_,si hlv.1 (by omega),?_⟩
 k_mem
 split
 ·rename_i h
  k_upd
  exact ⟨by decide,q2 hlv.1 hlv.2 h _ e1⟩
 ·rename_i h
  have h3:=q3 hlv.1 hlv.2 (by cases b<;>simpa using h)
  k_upd
  refine fgo hA.ob T.aE T.bF rfl ?_
  k_mem
  refine ⟨_,hA.go,_,oQ hlv.1 (by rw [List.length_map];omega),?_⟩
  have e2:=e1.rewr (o:=HO.lst (((af n0 rs).gates.map V.bl).set lv.toNat (V.bl b))) ho1
  have k2:L2.aq A.ol H1 (upd H1 A.ol (HO.lst (((af n0 rs).gates.map V.bl).set lv.toNat (V.bl b)))):=(aq.of (aw.refl H1)).put
  have hA2:=hA.gates k2 (gs:=(af n0 rs).gates.set lv.toNat b) (by rw [ah,List.map_set])
  generalize upd H1 A.ol (HO.lst (((af n0 rs).gates.map V.bl).set lv.toNat (V.bl b)))=H2 at *
  have hW2:=hW.same e2
  k_upd
  refine ⟨_,_,e2 _ _ hob,rfl,by decide,fun p hp=>?_⟩
  have e3:=e2.lay (o:=HO.tup [V.str wd,V.int lv]) hp
  have f3:=(aw.refl H2).lay (o:=HO.tup [V.str wd,V.int lv]) hp
  k_upd
  refine ⟨_,_,_,_,_,_,p,s1,1,ddV d,a7 g (af n0 rs) d,rfl,hW.same e3,SqT.of ?_,?_,?_,fun h H' s'=>h3.1 h H' (e3.trans s'),fun h H' k hWn=>?_⟩
  ·rw [ah];rcases hd with ⟨rfl,_,rfl⟩ | ⟨rfl,_,rfl⟩<;>rfl
  ·refine (aO.at (A:=A) ?_).same f3
   rcases hd with ⟨_,rfl,rfl⟩ | ⟨_,rfl,rfl⟩<;>exact hA2
  ·rw [hks];rcases hd with ⟨_,rfl,rfl⟩ | ⟨_,rfl,rfl⟩<;>rfl
  ·have:=h3.2 h H' ((aq.of e3).trans k)
   rcases hd with ⟨_,rfl,rfl⟩ | ⟨_,rfl,rfl⟩<;>exact this hWn
variable (cP:KM P w K mg base (CXf P w) 5 Z.aW "turn_gate" (dH K Z))
def AX (w:Addr)(c lv:Int)(kd:Str)(s:Addr)(H:Hp)(gs:List Int)(gates:List Bool)(i:Nat)(σ:St)(H':Hp):Prop:=H'=H/\(∃t,σ=[some (.ref w),some (.int c),some (.int lv),some (.str kd),some (.ref s),t,none,none])/\∀j,j < i->∀x,gs[j]?=some x->gates.getD x.toNat false=false
inductive ik (K:W.Frag)(Z:Adr)(vs:List V)(H:Hp)(Q:VK)(E:XK):Prop | mk (w bk rl:Addr) (g:Cfg) (n0:a6) (rs:List Row) (c lv:Int) (kd:Str):vs=[.ref w,.int c,.int lv,.str kd]->WAt (clZ Z) K H w bk rl g n0 rs->g.ls.length<=1000->g.ks.length=(af n0 rs).ws.length->bG g.ds->(af n0 rs).gates.length=g.ds.length->g.ls.length=g.ds.length->1<=cT g (af n0 rs)->cT g (af n0 rs)<=500->((kd="men"\/kd="coal"))->((¬(0<=lv/\lv < g.ds.length)->∀H',aw H H'->E (.ref Z.bt) none H'))->((0<=lv->lv < g.ds.length->fL g (af n0 rs)=true->∀H',aw H H'->E (.ref Z.mr) none H'))->((0<=lv->lv < g.ds.length->fL g (af n0 rs)=false->(af n0 rs).e≠.armed lv (bO g.ls lv kd)->∀H',aw H H'->E (.ref Z.iC) none H'))->((0<=lv->lv < g.ds.length->fL g (af n0 rs)=false->(af n0 rs).e=.armed lv (bO g.ls lv kd)->qg Z K H w bk rl g n0 rs (.wind c lv kd) Q E))->ik K Z vs H Q E
include T my aF bx cG n6 kP qf a9 aR in
theorem qS:FF P w K mg base (CXf P w) 5 "wind" "Works.wind" i5 mh (ik K Z):=fkF dh fun vs H Q E h=>by
 obtain ⟨w,bk,rl,g,n0,rs,c,lv,kd,rfl,hW,hls,hks,hsh,hgl2,hlc,hsp1,hsp5,hkd,q1,q2,q3,q4⟩:=h
 k_all
 refine seg 7 (ag (aB (dm' (pv' 0) a9 hr.dn bH (pa3 (bN (pa4 aI (pv' 1) (pv' 2) (pv' 3))) (pv' 7) (pv' 4))))) fun zt7 zh7 ze7=>?_
 refine seg 6 (ae (bg (pv' 4) (pv' 6) rfl) zh7) fun zt6 zh6 ze6=>?_
 refine seg 5 (ae (aD (i:=7) dh.nd rfl orL (dc0 my hr.dn (pa2 (ay mW (by rfl) T.zg u5 (pa1 (aP bS (pv' 6) (ao (pv' 4))))) (dm' (pv' 0) cG hr.dn aY (pa1 (pv' 4)))))) zh6) fun zt5 zh5 ze5=>?_
 refine seg 4 (ae (aD (i:=6) dh.nd rfl orL (dc0 kP hr.dn (pa3 (ao (pv' 0)) (pv' 1) (pv' 2)))) zh5) fun zt4 zh4 ze4=>?_
 refine seg 3 (ae (aX (dm' (ao (pv' 4)) n6 hr.dn bH (pa2 (pv' 2) (pv' 3)))) zh4) fun zt3 zh3 ze3=>?_
 refine seg 2 (ae (dB u6 rfl (cU (dc0 qf hr.dn (pa2 (ao (pv' 0)) (ao (pv' 4))))) (aG (i:=5) dh.nd rfl orL) (ag (aV (bV (aQ aA (ao (pv' 4)) (pv' 5))) (ag (aU T.vM (by rfl) T.vG (pa1 aI))) (aC)))) zh3) fun zt2 zh2 ze2=>?_
 refine seg 1 (ae (aX (dc bx hr.dn bH (pa2 (pv' 2) (ay av (by rfl) T.bY bu (pa1 (ao (pv' 0))))))) zh2) fun zt1 zh1 ze1=>?_
 refine ⟨_,ae (aD (i:=4) dh.nd rfl orL (de (de (ao (pv' 0)) aF hr.dn aY) aR hr.dn aY)) zh1,?_⟩
 obtain ⟨⟨dx,dl,gl,hob,hdl,hgl,n1,n2⟩,hB⟩:=id hW
 obtain ⟨⟨db,f0,hbo,hF⟩,as,hrl,hR⟩:=id hB
 k_mem
 refine fgo hob T.aS T.aZ rfl ?_
 k_mem
 refine mgo hbo rfl ⟨_,_,_,_,_,rfl,hB,fun s0 ⟨A0,hA0⟩=>?_⟩
 k_mem
 refine mgo hA0.ob rfl ⟨_,_,_,_,_,rfl,hA0.at,hrl,hls,fun s1 A H1 e1 hs1 ho1 hb1 hf1 hy1 hw1 hA=>?_⟩
 have hW1:=hW.same e1
 have hob1:=e1 _ _ hob
 have hbo1:=e1 _ _ hbo
 have hrl1:=e1 _ _ hrl
 have hdl1:=e1 _ _ hdl
 k_mem
 refine fgo hob1 T.aS T.bU rfl ?_
 k_mem
 refine ⟨_,.inl (SqL.of hdl1),_,_,rfl,?_⟩
 rw [List.length_map]
 k_upd
 refine ⟨fun hlv=>?_,fun h=>q1 h _ e1⟩
 have l6:=hsh.l6
 k_mem
 refine fgo hob1 T.aS T.bU rfl ?_
 k_upd
 refine fgo hA.ob T.aE T.bT rfl ?_
 k_mem
 refine ⟨_,_,_,rfl,SqL.of hdl1,by omega,by omega,fun gb H2 hgb f2 hgb2=>?_⟩
 have e2:=e1.trans f2
 replace hA:=hA.same f2
 k_mem
 refine ⟨⟨_,SqL.of hgb2⟩,?_⟩
 have gr:∀x∈iM g.ds (af n0 rs).place,0<=x/\x < g.ds.length:=fun x hx=>by
  unfold iM at hx
  rw [List.mem_map] at hx
  obtain ⟨i,hi,rfl⟩:=hx
  have:=List.mem_range.mp (List.mem_filter.mp hi).1
  omega
 k_upd
 refine ka ((iM g.ds (af n0 rs).place).map V.int) (AX w c lv kd s1 H2 (iM g.ds (af n0 rs).place) (af n0 rs).gates) ⟨rfl,⟨_,rfl⟩,fun j hj=>absurd hj (Nat.not_lt_zero _)⟩ ?_ ?_ ?_
 ·rintro i σ H' _ ⟨rfl,_⟩
  exact SqL.of hgb2
 ·rintro i x σ H' hx ⟨rfl,⟨t,rfl⟩,hj⟩
  obtain ⟨z,rfl,hz,hzm⟩:=iJ hx
  have hzr:=gr z hzm
  k_mem
  refine fgo hA.ob T.aE T.bF rfl ?_
  k_mem
  refine ⟨_,SqL.of hA.go,_,si hzr.1 (by omega),?_⟩
  k_mem
  split
  ·rename_i hopen
   k_upd
   exact ⟨by decide,q2 hlv.1 hlv.2 (List.any_eq_true.mpr ⟨z,hzm,hopen⟩) _ e2⟩
  ·rename_i hopen
   k_upd
   refine ⟨rfl,⟨_,rfl⟩,fun j hj' y hy=>?_⟩
   by_cases e:j=i
   ·subst e
    rw [hz] at hy
    cases hy
    simpa using hopen
   ·exact hj j (by omega) y hy
 ·rintro σ H' ⟨rfl,⟨t,rfl⟩,hj⟩
  have hno:fL g (af n0 rs)=false:=by
   unfold fL
   rw [List.any_eq_false]
   intro x hx
   obtain ⟨j,hjx⟩:=List.getElem?_of_mem hx
   rw [hj j (by rw [List.length_map];exact (List.getElem?_eq_some_iff.mp hjx).1) x hjx]
   exact Bool.false_ne_true
  k_mem
  refine fgo hA.ob T.aE T.cu rfl ?_
  k_mem
  obtain ⟨db1,hbb⟩:=hA.be.ob
  k_upd
  refine mgo hbb rfl ⟨_,_,_,_,_,_,_,_,_,rfl,hA.be,hkd,fun h=>absurd ⟨hlv.1,by omega⟩ h,fun _ _ h H' s'=>q3 hlv.1 hlv.2 hno h H' (e2.trans s'),fun _ _ harm st2 H3 k3 hB3=>?_⟩
  have h3:=q4 hlv.1 hlv.2 hno harm
  have e3:=e2.keeps k3 hb1
  have hA3:=hA.bells k3 hB3
  clear k3 hB3
  k_mem
  refine fgo (e3 _ _ hob) T.aS T.bU rfl ?_
  k_mem
  refine ⟨_,_,_,_,rfl,SqL.of (e3 _ _ hdl),hlv.1,hlv.2,?_⟩
  rw [show (if c=0 then g.ds.getD lv.toNat 0 else bX g.ds - g.ds.getD lv.toNat 0)=fM g.ds c lv from rfl]
  k_mem
  refine fgo hA3.ob T.aE T.bT rfl ?_
  k_mem
  refine mgo (e3 _ _ hob) rfl ⟨_,_,_,_,_,_,_,_,rfl,hW.same e3,hA3.at,hks,fun H4 f4=>?_⟩
  have e4:=e3.trans f4
  replace hA3:=hA3.same f4
  have hspd:cT g {(af n0 rs) with e:=Eng.used lv (bO g.ls lv kd)}=cT g (af n0 rs):=rfl
  rw [hspd]
  k_upd
  refine ⟨_,_,rfl,by omega,Int.lt_of_le_of_lt hsp5 (by decide),?_⟩
  k_mem
  refine ⟨_,_,_,hA3.ob,T.aE,T.bT,by show 4 < 1000;decide,?_⟩
  have k5:L2.aq s1 H4 (upd H4 s1 (HO.ins (clZ Z).S A.dx (aT "place" (.int (fM g.ds c lv)) [("place",.int (af n0 rs).place),("opened",.ref A.ol),("bells",.ref A.b),("yard",.ref A.y)]))):=(aq.of (aw.refl H4)).put
  have e5:=e4.keeps k5 hs1
  have hA5:=hA3.placed k5 (pl:=fM g.ds c lv) (by rw [ah];rfl)
  clear hgb2 f2 f4
  generalize upd H4 s1 (HO.ins (clZ Z).S A.dx (aT "place" (.int (fM g.ds c lv)) [("place",.int (af n0 rs).place),("opened",.ref A.ol),("bells",.ref A.b),("yard",.ref A.y)]))=H5 at *
  k_upd
  refine ⟨_,_,e5 _ _ hob,rfl,by decide,fun p hp=>?_⟩
  have e6:=e5.lay (o:=HO.tup [V.str (Str.ofString "wind"),V.int c,V.int lv,V.str kd]) hp
  have f6:=(aw.refl H5).lay (o:=HO.tup [V.str (Str.ofString "wind"),V.int c,V.int lv,V.str kd]) hp
  k_upd
  refine ⟨_,_,_,_,_,_,p,s1,(oT g (af n0 rs) (.wind c lv kd)),ddV (.wind c lv kd),a7 g (af n0 rs) (.wind c lv kd),rfl,hW.same e6,SqT.of (by rw [ah];rfl),?_,?_,fun h H' s'=>h3.1 h H' (e6.trans s'),fun h H' k hWn=>?_⟩
  ·exact (aO.at hA5).same f6
  ·rw [hks];first | rfl | simp only [a7,List.length_set]
  ·k_upd
   exact h3.2 h H' ((aq.of e6).trans k) hWn
variable (fF:KM P w K mg base (CXf P w) 5 Z.aW "wind" (ik K Z))
theorem two_deepW {p q c:Int}(h0:0<=c)(h1:c < 2):atI [V.int p,V.int q] c=some (.int (if c=0 then p else q)):=by
 rcases (by omega:c=0\/c=1) with rfl | rfl<;>rfl
inductive dY (K:W.Frag)(Z:Adr)(vs:List V)(H:Hp)(Q:VK)(E:XK):Prop | mk (w bk rl:Addr) (g:Cfg) (n0:a6) (rs:List Row) (c:Int):vs=[.ref w,.int c]->WAt (clZ Z) K H w bk rl g n0 rs->bG g.ds->0<=c->c < 2->(∀H',aw H H'->Q (lvV (bz g.ds (af n0 rs).place c)) H')->dY K Z vs H Q E
include T pX cA in
theorem mE:FF P w K mg base CX0 5 "level_of" "Works.level_of" eh iu (dY K Z):=fk0 mn fun vs H Q E h=>by
 obtain ⟨w,bk,rl,g,n0,rs,c,rfl,hW,hsh,h0,h1,q⟩:=h
 k_all
 refine ⟨_,ag (aB (dc0 pX hr.dn (pa2 (ao (pv' 0)) (aQ du (de (pv' 0) cA hr.dn aY) (pv' 1))))),?_⟩
 obtain ⟨⟨dx,dl,gl,hob,hdl,hgl,n1,n2⟩,hB⟩:=id hW
 obtain ⟨⟨db,f0,hbo,hF⟩,as,hrl,hR⟩:=id hB
 k_mem
 refine fgo hob T.aS T.bU rfl ?_
 k_mem
 refine mgo hob rfl ⟨_,_,_,_,_,_,rfl,hW,by have:=hsh.l2;omega,fun p hp=>?_⟩
 have s1:=(aw.refl H).lay (o:=HO.tup [.int (af n0 rs).place,.int (bX g.ds - (af n0 rs).place)]) hp
 k_mem
 refine ⟨_,SqT.of ah,_,two_deepW h0 h1,?_⟩
 have l6:=hsh.l6
 k_upd
 refine ⟨_,_,_,rfl,SqL.of (s1 _ _ hdl),by omega,fun i hi e=>?_,fun hne=>?_⟩
 ·have q':=q _ s1
  rw [show bz g.ds (af n0 rs).place c=some (i:Int) from by rw [bz];split<;>rename_i hc<;>(first | rw [if_pos hc] at e | rw [if_neg hc] at e)<;>exact jz hsh hi e] at q'
  k_upd
  exact q'
 ·have q':=q _ s1
  rw [show bz g.ds (af n0 rs).place c=none from by rw [bz];split<;>rename_i hc<;>refine t8 fun i hi=>?_<;>have:=hne i hi<;>(first | rw [if_pos hc] at this | rw [if_neg hc] at this)<;>exact this] at q'
  k_upd
  exact q'
variable (cZ:KM P w K mg base CX0 5 Z.aW "level_of" (dY K Z))
noncomputable def j8 (K:W.Frag):Nat->Sp
 | 0=>fun _ _ _ _=>False
 | n+1=>fun vs H Q _=>∃(x y:V) (d:Dt),vs=[x,y]/\Rep K H n x d/\Rep K H n y d/\∀H',aw H H'->Q (.bl true) H'
noncomputable def xy (K:W.Frag)(Z:Adr):Sp:=j8 K 5
def wL (x y:V)(H:Hp)(_:Nat)(σ:St)(H':Hp):Prop:=aw H H'/\∃t,σ=[some x,some y,none,t]
theorem xA {v:V}{T:String}(h:oP v=some T):(["list","tuple"].any (tY T))=false:=by
 cases v<;>simp only [oP,Option.some.injEq,reduceCtorEq] at h<;>subst h<;>decide
theorem uM {v:V}(h:bC v=true):∃T,oP v=some T:=by
 cases v<;>simp only [bC,reduceCtorEq,Bool.false_eq_true] at h<;>exact ⟨_,rfl⟩
theorem xB {v:V}(h:bC v=true):qm v v=true:=by
 cases v<;>simp only [bC,reduceCtorEq,Bool.false_eq_true] at h<;>rfl
include T in
theorem n8 {n:Nat}(dk:KD P w K mg base CX0 n "_law_same" (j8 K n)):FF P w K mg base CX0 (n+1) "_law_same" "_law_same" jQ mj (j8 K (n+1)):=fk0 ni fun vs H Q E h=>by
 obtain ⟨x,y,d,rfl,hx,hy,q⟩:=h
 k_all
 refine ⟨_,ae (aV (cR (bV (ay mO (by rfl) T.bB bp (pa2 (pv' 1) (bN (pa2 (cM (v:=.ty "list") (by rfl) T.eY dq rfl) (cM (v:=.ty "tuple") (by rfl) T.sZ oN rfl))))))) (ae (aD (i:=2) ni.nd rfl orL (fj sA (ay mO (by rfl) T.bB bp (pa2 (pv' 0) (bN (pa2 (cM (v:=.ty "int") (by rfl) T.wJ rR rfl) (cM (v:=.ty "str") (by rfl) T.Bo yg rfl))))) (ay mO (by rfl) T.bB bp (pa2 (pv' 1) (bN (pa2 (cM (v:=.ty "int") (by rfl) T.wJ rR rfl) (cM (v:=.ty "str") (by rfl) T.Bo yg rfl))))) (cD _))) (ag (aB (kg (pv' 2) (kg (fj sA (ay fG (by rfl) T.bB bp (pa2 (pv' 0) (cM (v:=.ty "bool") (by rfl) T.vB rS rfl))) (ay fG (by rfl) T.bB bp (pa2 (pv' 1) (cM (v:=.ty "bool") (by rfl) T.vB rS rfl))) (cD _)) (oG (fj sA (pv' 0) (pv' 1) (cD _)))))))) (aC)) (ae (aV (rz (ay fG (by rfl) T.bB bp (pa2 (pv' 0) (cM (v:=.ty "list") (by rfl) T.eY dq rfl))) (ay fG (by rfl) T.bB bp (pa2 (pv' 1) (cM (v:=.ty "list") (by rfl) T.eY dq rfl)))) (ag (aB gx)) (aC)) (ae (aV (jk (rz (ay fG (by rfl) T.bB bp (pa2 (pv' 0) (cM (v:=.ty "tuple") (by rfl) T.sZ oN rfl))) (ay fG (by rfl) T.bB bp (pa2 (pv' 1) (cM (v:=.ty "tuple") (by rfl) T.sZ oN rfl)))) (gM (rz (ay av (by rfl) T.bY bu (pa1 (pv' 0))) (ay av (by rfl) T.bY bu (pa1 (pv' 1)))))).pt (ag (aB gx)) (aC)) (ae (dB PassesOwn.never rfl (cy (by rfl) T.cY (pa1 (ay av (by rfl) T.bY bu (pa1 (pv' 1))))) (aG (i:=3) ni.nd rfl orL) (ag (aV (cR (bV (dc0 dk hr (pa2 (aQ xY (pv' 0) (pv' 3)) (aQ xY (pv' 1) (pv' 3)))))) (ag (aB gx)) (aC)))) (ag (aB gx))))),?_⟩
 k_mem
 refine ⟨by decide,fun tp htp=>?_⟩
 have s1:=(aw.refl H).lay (o:=HO.tup [V.ty "list",V.ty "tuple"]) htp
 have ht1:upd H tp (HO.tup [V.ty "list",V.ty "tuple"]) tp=some (HO.tup (["list","tuple"].map V.ty)):=ah
 generalize upd H tp (HO.tup [V.ty "list",V.ty "tuple"])=H1 at *
 cases hx with
 | @flat _ v hv=>
  cases hy with
  | flat _=>
   obtain ⟨T0,hT⟩:=uM hv
   refine ⟨_,tp,["list","tuple"],T0,rfl,SqT.of ht1,.inl hT,by decide,?_⟩
   rw [xA hT]
   k_mem
   refine ⟨by decide,fun p1 hp1=>⟨_,p1,["int","str"],T0,rfl,SqT.of ah,.inl hT,by decide,?_⟩⟩
   refine ⟨by decide,fun p2 hp2=>⟨_,p2,["int","str"],T0,rfl,SqT.of ah,.inl hT,by decide,?_⟩⟩
   k_mem
   rw [if_pos rfl]
   refine ⟨_,"bool",T0,rfl,.inl hT,by decide,_,"bool",T0,rfl,.inl hT,by decide,?_⟩
   k_mem
   rw [if_pos rfl]
   refine wt.mp ⟨xB hv,?_⟩
   rw [decide_eq_true rfl]
   exact q _ ((s1.lay hp1).lay hp2)
 | @lst m a xs ds hs hb hl hrx=>
  cases hy with
  | @lst _ b ys _ hs' hb' hl' hry=>
   have ha1:=s1.seq hs
   have hb1:=s1.seq hs'
   refine ⟨.ref b,tp,["list","tuple"],"list",rfl,SqT.of ht1,.inr (.inl ⟨b,ys,rfl,hb1,rfl⟩),by decide,?_⟩
   rw [show (["list","tuple"].any (tY "list"))=true from by decide]
   k_mem
   refine ⟨.ref a,"list","list",rfl,.inr (.inl ⟨a,xs,rfl,ha1,rfl⟩),by decide,.ref b,"list","list",rfl,.inr (.inl ⟨b,ys,rfl,hb1,rfl⟩),by decide,?_⟩
   k_mem
   refine ⟨.ref a,"tuple","list",rfl,.inr (.inl ⟨a,xs,rfl,ha1,rfl⟩),by decide,.ref b,"tuple","list",rfl,.inr (.inl ⟨b,ys,rfl,hb1,rfl⟩),by decide,?_⟩
   k_mem
   refine ⟨xs,.inl ha1,ys,.inl hb1,?_⟩
   rw [if_neg (by omega)]
   refine ⟨ys,.inl hb1,by omega,by omega,?_⟩
   refine cw (wL (.ref a) (.ref b) H1) ⟨aw.refl _,_,rfl⟩ ?_ ?_
   ·rintro i σ H2 hi ⟨s2,t,rfl⟩
    have hi1:i < xs.length:=by omega
    have hi2:i < ys.length:=by omega
    have hi3:i < ds.length:=by omega
    have ex:xs[i]?=some xs[i]:=List.getElem?_eq_getElem hi1
    have ey:ys[i]?=some ys[i]:=List.getElem?_eq_getElem hi2
    have ed:ds[i]?=some ds[i]:=List.getElem?_eq_getElem hi3
    k_mem
    rw [Int.zero_add]
    refine .inl ⟨a,xs,_,_,rfl,rfl,s2.seq ha1,iK ex,.inl ⟨b,ys,_,_,rfl,rfl,s2.seq hb1,iK ey,?_⟩⟩
    refine ⟨_,_,ds[i],rfl,(hrx i _ _ ex ed).same (s1.trans s2),(hry i _ _ ey ed).same (s1.trans s2),fun H3 s3=>?_⟩
    k_mem
    exact ⟨s2.trans s3,_,rfl⟩
   ·rintro σ H2 ⟨s2,t,rfl⟩
    k_mem
    exact q _ (s1.trans s2)
 | @tup m a xs ds hs hb hl hrx=>
  cases hy with
  | @tup _ b ys _ hs' hb' hl' hry=>
   have ha1:=s1.tup hs
   have hb1:=s1.tup hs'
   refine ⟨.ref b,tp,["list","tuple"],"tuple",rfl,SqT.of ht1,.inr (.inr ⟨b,ys,rfl,hb1,rfl⟩),by decide,?_⟩
   rw [show (["list","tuple"].any (tY "tuple"))=true from by decide]
   k_mem
   refine ⟨.ref a,"list","tuple",rfl,.inr (.inr ⟨a,xs,rfl,ha1,rfl⟩),by decide,.ref b,"list","tuple",rfl,.inr (.inr ⟨b,ys,rfl,hb1,rfl⟩),by decide,?_⟩
   k_mem
   refine ⟨.ref a,"tuple","tuple",rfl,.inr (.inr ⟨a,xs,rfl,ha1,rfl⟩),by decide,.ref b,"tuple","tuple",rfl,.inr (.inr ⟨b,ys,rfl,hb1,rfl⟩),by decide,?_⟩
   k_mem
   refine ⟨xs,.inr ha1,ys,.inr hb1,?_⟩
   rw [if_neg (by omega)]
   refine ⟨ys,.inr hb1,by omega,by omega,?_⟩
   refine cw (wL (.ref a) (.ref b) H1) ⟨aw.refl _,_,rfl⟩ ?_ ?_
   ·rintro i σ H2 hi ⟨s2,t,rfl⟩
    have hi1:i < xs.length:=by omega
    have hi2:i < ys.length:=by omega
    have hi3:i < ds.length:=by omega
    have ex:xs[i]?=some xs[i]:=List.getElem?_eq_getElem hi1
    have ey:ys[i]?=some ys[i]:=List.getElem?_eq_getElem hi2
    have ed:ds[i]?=some ds[i]:=List.getElem?_eq_getElem hi3
    k_mem
    rw [Int.zero_add]
    refine .inr (.inl ⟨a,xs,_,_,rfl,rfl,s2.tup ha1,iK ex,.inr (.inl ⟨b,ys,_,_,rfl,rfl,s2.tup hb1,iK ey,?_⟩)⟩)
    refine ⟨_,_,ds[i],rfl,(hrx i _ _ ex ed).same (s1.trans s2),(hry i _ _ ey ed).same (s1.trans s2),fun H3 s3=>?_⟩
    k_mem
    exact ⟨s2.trans s3,_,rfl⟩
   ·rintro σ H2 ⟨s2,t,rfl⟩
    k_mem
    exact q _ (s1.trans s2)
include T in
theorem xC {f:Addr}{fd:FuncData}(b:mg "_law_same"=some (.ref f))(F:Fun K "_law_same" "_law_same" jQ f fd)(c:cS K fd mj []):FF P w K mg base CX0 5 "_law_same" "_law_same" jQ mj (j8 K 5):=
 have h:∀n,KD P w K mg base CX0 n "_law_same" (j8 K n):=fun n=>by
  induction n with
  | zero=>exact ⟨f,fd,_,b,F.kp,c,yl⟩
  | succ n ih=>exact KD.mk b F c (n8 T ih)
 n8 T (h 4)
variable (dk:KD P w K mg base CX0 5 "_law_same" (xy K Z))
inductive dI (K:W.Frag)(Z:Adr)(vs:List V)(H:Hp)(Q:VK)(E:XK):Prop | mk (w bk rl:Addr) (g:Cfg) (n0:a6) (rs:List Row) (lv:Int):vs=[.ref w,.int lv]->WAt (clZ Z) K H w bk rl g n0 rs->g.ls.length<=1000->g.ks.length=(af n0 rs).ws.length->(af n0 rs).gates.length=g.ds.length->((¬(0<=lv/\lv < g.ds.length)->∀H',aw H H'->E (.ref Z.bt) none H'))->((0<=lv->lv < g.ds.length->(af n0 rs).gates.getD lv.toNat false=true->∀H',aw H H'->E (.ref Z.iF) none H'))->((0<=lv->lv < g.ds.length->(af n0 rs).gates.getD lv.toNat false=false->qg Z K H w bk rl g n0 rs (.opn lv) Q E))->dI K Z vs H Q E
include T cP in
theorem lG:FF P w K mg base (CXf P w) 6 "open_gate" "Works.open_gate" dS gE (dI K Z):=fkF k6 fun vs H Q E h=>by
 obtain ⟨w,bk,rl,g,n0,rs,lv,rfl,hW,hls,hks,hgl2,q1,q2,q3⟩:=h
 k_all
 refine ⟨_,ag (aB (dm' (pv' 0) cP hr.dn bH (pa3 aI (pv' 1) gx))),?_⟩
 obtain ⟨dx,dl,gl,hob,_⟩:=id hW.ob
 k_mem
 exact mgo hob rfl ⟨_,_,_,_,_,_,_,_,_,_,rfl,hW,hls,hks,hgl2,.inl ⟨rfl,rfl,rfl⟩,q1,q2,q3⟩
variable (gJ:KM P w K mg base (CXf P w) 6 Z.aW "open_gate" (dI K Z))
inductive cH (K:W.Frag)(Z:Adr)(vs:List V)(H:Hp)(Q:VK)(E:XK):Prop | mk (w bk rl:Addr) (g:Cfg) (n0:a6) (rs:List Row) (lv:Int):vs=[.ref w,.int lv]->WAt (clZ Z) K H w bk rl g n0 rs->g.ls.length<=1000->g.ks.length=(af n0 rs).ws.length->(af n0 rs).gates.length=g.ds.length->((¬(0<=lv/\lv < g.ds.length)->∀H',aw H H'->E (.ref Z.bt) none H'))->((0<=lv->lv < g.ds.length->(af n0 rs).gates.getD lv.toNat false=false->∀H',aw H H'->E (.ref Z.iF) none H'))->((0<=lv->lv < g.ds.length->(af n0 rs).gates.getD lv.toNat false=true->qg Z K H w bk rl g n0 rs (.sht lv) Q E))->cH K Z vs H Q E
include T cP in
theorem lH:FF P w K mg base (CXf P w) 6 "shut_gate" "Works.shut_gate" dU gF (cH K Z):=fkF k7 fun vs H Q E h=>by
 obtain ⟨w,bk,rl,g,n0,rs,lv,rfl,hW,hls,hks,hgl2,q1,q2,q3⟩:=h
 k_all
 refine ⟨_,ag (aB (dm' (pv' 0) cP hr.dn bH (pa3 aI (pv' 1) gx))),?_⟩
 obtain ⟨dx,dl,gl,hob,_⟩:=id hW.ob
 k_mem
 exact mgo hob rfl ⟨_,_,_,_,_,_,_,_,_,_,rfl,hW,hls,hks,hgl2,.inr ⟨rfl,rfl,rfl⟩,q1,q2,q3⟩
variable (gK:KM P w K mg base (CXf P w) 6 Z.aW "shut_gate" (cH K Z))
inductive il (K:W.Frag)(Z:Adr)(vs:List V)(H:Hp)(Q:VK)(E:XK):Prop | mk (w bk rl:Addr) (g:Cfg) (n0:a6) (rs:List Row) (k c:Int):vs=[.ref w,.int k,.int c]->WAt (clZ Z) K H w bk rl g n0 rs->g.ls.length<=1000->g.ks.length=(af n0 rs).ws.length->bG g.ds->(af n0 rs).gates.length=g.ds.length->g.goals.length=(af n0 rs).ws.length->0<=c->c < 2->((¬(0<=k/\k < (af n0 rs).ws.length)->∀H',aw H H'->E (.ref Z.dJ) none H'))->((0<=k->k < (af n0 rs).ws.length->(∀l,bz g.ds (af n0 rs).place c=some l->(af n0 rs).ws.getD k.toNat 0≠l)->∀H',aw H H'->E (.ref Z.iz) none H'))->((∀l,0<=k->k < (af n0 rs).ws.length->bz g.ds (af n0 rs).place c=some l->(af n0 rs).ws.getD k.toNat 0=l->10+c∈(af n0 rs).ws->∀H',aw H H'->E (.ref Z.iA) none H'))->((∀l,0<=k->k < (af n0 rs).ws.length->bz g.ds (af n0 rs).place c=some l->(af n0 rs).ws.getD k.toNat 0=l->¬10+c∈(af n0 rs).ws->(af n0 rs).gates.getD l.toNat false=false->∀H',aw H H'->E (.ref Z.iG) none H'))->((∀l,0<=k->k < (af n0 rs).ws.length->bz g.ds (af n0 rs).place c=some l->(af n0 rs).ws.getD k.toNat 0=l->¬10+c∈(af n0 rs).ws->(af n0 rs).gates.getD l.toNat false=true->qg Z K H w bk rl g n0 rs (.load k c) Q E))->il K Z vs H Q E
include T fz aF fB bM nY a9 aR cZ in
theorem qT:FF P w K mg base (CXf P w) 6 "load" "Works.load" i4 mf (il K Z):=fkF gW fun vs H Q E h=>by
 obtain ⟨w,bk,rl,g,n0,rs,k,c,rfl,hW,hls,hks,hsh,hgl2,hgo,h0,h1,q1,q2,q3,q4,q5⟩:=h
 k_all
 refine seg 6 (ag (aB (dm' (pv' 0) a9 hr.dn bH (pa3 (bN (pa3 aI (pv' 1) (pv' 2))) ai (pv' 3))))) fun zt6 zh6 ze6=>?_
 refine seg 5 (ae (aX (dm' (pv' 0) bM hr.dn bH (pa1 (pv' 4)))) zh6) fun zt5 zh5 ze5=>?_
 refine seg 4 (ae (aX (dm' (ao (pv' 3)) nY hr.dn bH (pa2 (pv' 1) (pv' 2)))) zh5) fun zt4 zh4 ze4=>?_
 refine seg 3 (ae (aV (jk (sH (pv' 4) fI) (gM (rz (aQ aA (de (ao (pv' 3)) fz hr.dn aY) (pv' 1)) (pv' 4)))).pt (ag (aU T.lu (by rfl) T.lq (pa1 aI))) (aC)) zh4) fun zt3 zh3 ze3=>?_
 refine seg 2 (ae (aD (i:=4) gW.nd rfl orL (dm' (pv' 0) cZ hr.dn aY (pa1 (pv' 2)))) zh3) fun zt2 zh2 ze2=>?_
 refine seg 1 (ae (aX (dc fB hr.dn bH (pa2 (pv' 1) (ay av (by rfl) T.bY bu (pa1 (ao (pv' 0))))))) zh2) fun zt1 zh1 ze1=>?_
 refine ⟨_,ae (aD (i:=3) gW.nd rfl orL (de (de (ao (pv' 0)) aF hr.dn aY) aR hr.dn aY)) zh1,?_⟩
 obtain ⟨⟨dx,dl,gl,hob,hdl,hgl,n1,n2⟩,hB⟩:=id hW
 obtain ⟨⟨db,f0,hbo,hF⟩,as,hrl,hR⟩:=id hB
 k_mem
 refine fgo hob T.aS T.aZ rfl ?_
 k_mem
 refine mgo hbo rfl ⟨_,_,_,_,_,rfl,hB,fun s0 ⟨A0,hA0⟩=>?_⟩
 k_mem
 refine mgo hA0.ob rfl ⟨_,_,_,_,_,rfl,hA0.at,hrl,hls,fun s1 A H1 e1 hs1 ho1 hb1 hf1 hy1 hw1 hA=>?_⟩
 have hW1:=hW.same e1
 have hob1:=e1 _ _ hob
 have hbo1:=e1 _ _ hbo
 have hrl1:=e1 _ _ hrl
 have hdl1:=e1 _ _ hdl
 k_mem
 refine fgo hob1 T.aS T.jW rfl ?_
 k_mem
 refine ⟨_,.inl (SqL.of (e1 _ _ hgl)),_,_,rfl,?_⟩
 rw [List.length_map,hgo]
 k_upd
 refine ⟨fun hk=>?_,fun h=>q1 h _ e1⟩
 k_mem
 refine mgo hob1 rfl ⟨_,_,_,_,_,_,_,rfl,hW1,hsh,h0,h1,fun H2 f2=>?_⟩
 have e2:=e1.trans f2
 replace hA:=hA.same f2
 k_mem
 cases hc:bz g.ds (af n0 rs).place c with
 | none=>
  rw [if_pos (show lvV none=V.non from rfl)]
  k_upd
  exact ⟨by decide,q2 hk.1 hk.2 (fun l e=>by rw [hc] at e;cases e) _ e2⟩
 | some l=>
  obtain ⟨l0,l1,_⟩:=iO hc
  have l6:=hsh.l6
  k_upd
  rw [if_neg (show ¬(lvV (some l)=V.non) from fun z=>V.noConfusion z)]
  k_upd
  refine fgo hA.ob T.aE T.bc rfl ?_
  k_mem
  obtain ⟨dy,hyb⟩:=hA.ya.ob
  k_upd
  refine ⟨_,_,hyb,rfl,_,_,_,_,_,_,rfl,hA.ya,fun p hp=>?_⟩
  have e3:=e2.lay (o:=HO.lst ((af n0 rs).ws.map V.int)) hp
  have f3:=(aw.refl H2).lay (o:=HO.lst ((af n0 rs).ws.map V.int)) hp
  have hq3:upd H2 p (HO.lst ((af n0 rs).ws.map V.int)) p=some (HO.lst ((af n0 rs).ws.map V.int)):=ah
  replace hA:=hA.same f3
  generalize upd H2 p (HO.lst ((af n0 rs).ws.map V.int))=H3 at *
  k_mem
  refine ⟨_,SqL.of hq3,_,ck hk.1 hk.2,?_⟩
  simp only [lvV]
  k_mem
  split
  ·rename_i hne
   k_upd
   exact ⟨by decide,q2 hk.1 hk.2 (fun l' e=>by rw [hc] at e;cases e;exact hne) _ e3⟩
  ·rename_i hne
   have heq:(af n0 rs).ws.getD k.toNat 0=l:=Decidable.not_not.mp hne
   k_upd
   refine fgo hA.ob T.aE T.bc rfl ?_
   k_mem
   obtain ⟨dy,hyb⟩:=hA.ya.ob
   k_upd
   refine ⟨_,_,hyb,rfl,_,_,_,_,_,_,_,_,rfl,hA.ya,h0,h1,fun h=>absurd hk h,fun _ _ h=>by omega,fun _ _ _ h H' s'=>q3 l hk.1 hk.2 hc heq h H' (e3.trans s'),fun _ _ _ hni H4 k4 hw4=>?_⟩
   have e4:=e3.keeps k4 hw1
   have hA4:=hA.spots k4 hw4
   clear k4 hw4
   k_mem
   refine mgo (e4 _ _ hob) rfl ⟨_,_,_,_,_,_,_,rfl,hW.same e4,l0,by omega,fun hg=>?_,fun hg=>q4 l hk.1 hk.2 hc heq hni hg _ e4⟩
   have h3:=q5 l hk.1 hk.2 hc heq hni hg
   k_mem
   refine ⟨_,_,e4 _ _ hob,rfl,by decide,fun p hp=>?_⟩
   have e5:=e4.lay (o:=HO.tup [V.str (Str.ofString "load"),V.int k,V.int c]) hp
   have f5:=(aw.refl H4).lay (o:=HO.tup [V.str (Str.ofString "load"),V.int k,V.int c]) hp
   k_upd
   refine ⟨_,_,_,_,_,_,p,s1,1,ddV (.load k c),a7 g (af n0 rs) (.load k c),rfl,hW.same e5,SqT.of (by rw [ah];rfl),?_,?_,fun h H' s'=>h3.1 h H' (e5.trans s'),fun h H' k9 hWn=>?_⟩
   ·exact (aO.at hA4).same f5
   ·rw [hks];first | rfl | simp only [a7,List.length_set]
   ·k_upd
    exact h3.2 h H' ((aq.of e5).trans k9) hWn
variable (mF:KM P w K mg base (CXf P w) 6 Z.aW "load" (il K Z))
inductive fg (K:W.Frag)(Z:Adr)(vs:List V)(H:Hp)(Q:VK)(E:XK):Prop | mk (w bk rl:Addr) (g:Cfg) (n0:a6) (rs:List Row) (c:Int):vs=[.ref w,.int c]->WAt (clZ Z) K H w bk rl g n0 rs->g.ls.length<=1000->g.ks.length=(af n0 rs).ws.length->bG g.ds->(af n0 rs).gates.length=g.ds.length->0<=c->c < 2->((¬10+c∈(af n0 rs).ws->∀H',aw H H'->E (.ref Z.iB) none H'))->((10+c∈(af n0 rs).ws->bz g.ds (af n0 rs).place c=none->∀H',aw H H'->E (.ref Z.iz) none H'))->((∀l,10+c∈(af n0 rs).ws->bz g.ds (af n0 rs).place c=some l->(af n0 rs).gates.getD l.toNat false=false->∀H',aw H H'->E (.ref Z.iG) none H'))->((∀l,10+c∈(af n0 rs).ws->bz g.ds (af n0 rs).place c=some l->(af n0 rs).gates.getD l.toNat false=true->qg Z K H w bk rl g n0 rs (.unload c) Q E))->fg K Z vs H Q E
include T bR aF bM qd a9 aR cZ in
theorem oq:FF P w K mg base (CXf P w) 6 "unload" "Works.unload" fW jH (fg K Z):=fkF eW fun vs H Q E h=>by
 obtain ⟨w,bk,rl,g,n0,rs,c,rfl,hW,hls,hks,hsh,hgl2,h0,h1,q1,q2,q3,q4⟩:=h
 k_all
 refine seg 6 (ag (aB (dm' (pv' 0) a9 hr.dn bH (pa3 (bN (pa2 aI (pv' 1))) ai (pv' 2))))) fun zt6 zh6 ze6=>?_
 refine seg 5 (ae (aX (dm' (ao (pv' 2)) qd hr.dn bH (pa2 (pv' 1) (pv' 3)))) zh6) fun zt5 zh5 ze5=>?_
 refine seg 4 (ae (aX (dm' (pv' 0) bM hr.dn bH (pa1 (pv' 3)))) zh5) fun zt4 zh4 ze4=>?_
 refine seg 3 (ae (aV (sH (pv' 3) fI) (ag (aU T.lu (by rfl) T.lq (pa1 aI))) (aC)) zh4) fun zt3 zh3 ze3=>?_
 refine seg 2 (ae (aD (i:=3) eW.nd rfl orL (dm' (pv' 0) cZ hr.dn aY (pa1 (pv' 1)))) zh3) fun zt2 zh2 ze2=>?_
 refine seg 1 (ae (aV (sH (dm' (ao (pv' 2)) bR hr.dn aY (pa1 (pv' 1))) fI) (ag (aU T.nV (by rfl) T.nU (pa1 aI))) (aC)) zh2) fun zt1 zh1 ze1=>?_
 refine ⟨_,ae (aD (i:=2) eW.nd rfl orL (de (de (ao (pv' 0)) aF hr.dn aY) aR hr.dn aY)) zh1,?_⟩
 obtain ⟨⟨dx,dl,gl,hob,hdl,hgl,n1,n2⟩,hB⟩:=id hW
 obtain ⟨⟨db,f0,hbo,hF⟩,as,hrl,hR⟩:=id hB
 k_mem
 refine fgo hob T.aS T.aZ rfl ?_
 k_mem
 refine mgo hbo rfl ⟨_,_,_,_,_,rfl,hB,fun s0 ⟨A0,hA0⟩=>?_⟩
 k_mem
 refine mgo hA0.ob rfl ⟨_,_,_,_,_,rfl,hA0.at,hrl,hls,fun s1 A H1 e1 hs1 ho1 hb1 hf1 hy1 hw1 hA=>?_⟩
 have hW1:=hW.same e1
 have hob1:=e1 _ _ hob
 have hbo1:=e1 _ _ hbo
 have hrl1:=e1 _ _ hrl
 have hdl1:=e1 _ _ hdl
 k_mem
 refine fgo hA.ob T.aE T.bc rfl ?_
 k_mem
 obtain ⟨dy,hyb⟩:=hA.ya.ob
 k_upd
 refine ⟨_,_,hyb,rfl,_,_,_,_,_,_,_,rfl,hA.ya,h0,h1,fun H2 f2=>?_⟩
 have e2:=e1.trans f2
 replace hA:=hA.same f2
 k_mem
 by_cases hm:10+c∈(af n0 rs).ws
 ·rw [inC,if_pos hm]
  k_upd
  rw [if_neg (show ¬(V.int _=V.non) from fun z=>V.noConfusion z)]
  k_mem
  refine mgo (e2 _ _ hob) rfl ⟨_,_,_,_,_,_,_,rfl,hW.same e2,hsh,h0,h1,fun H3 f3=>?_⟩
  have e3:=e2.trans f3
  replace hA:=hA.same f3
  k_mem
  cases hc:bz g.ds (af n0 rs).place c with
  | none=>
   rw [if_pos (show lvV none=V.non from rfl)]
   k_upd
   exact ⟨by decide,q2 hm hc _ e3⟩
  | some l=>
   obtain ⟨l0,l1,_⟩:=iO hc
   k_upd
   rw [if_neg (show ¬(lvV (some l)=V.non) from fun z=>V.noConfusion z)]
   k_mem
   refine mgo (e3 _ _ hob) rfl ⟨_,_,_,_,_,_,_,rfl,hW.same e3,l0,by omega,fun hg=>?_,fun hg=>q3 l hm hc hg _ e3⟩
   have h3:=q4 l hm hc hg
   k_mem
   refine fgo hA.ob T.aE T.bc rfl ?_
   k_mem
   obtain ⟨dy,hyb⟩:=hA.ya.ob
   k_upd
   refine ⟨_,_,hyb,rfl,_,_,_,_,_,_,_,_,rfl,hA.ya,h0,h1,fun h=>absurd ⟨l0,l1⟩ h,fun _ _ h=>absurd hm h,fun _ _ _ H4 k4 hw4=>?_⟩
   have e4:=e3.keeps k4 hw1
   have hA4:aO (clZ Z) K H4 rl g s1 A (a7 g (af n0 rs) (.unload c)):=by
    have:=hA.spots k4 hw4
    simp only [a7,hc,Option.getD_some]
    exact this
   clear k4 hw4
   k_mem
   refine ⟨_,_,e4 _ _ hob,rfl,by decide,fun p hp=>?_⟩
   have e5:=e4.lay (o:=HO.tup [V.str (Str.ofString "unload"),V.int c]) hp
   have f5:=(aw.refl H4).lay (o:=HO.tup [V.str (Str.ofString "unload"),V.int c]) hp
   k_upd
   refine ⟨_,_,_,_,_,_,p,s1,1,ddV (.unload c),a7 g (af n0 rs) (.unload c),rfl,hW.same e5,SqT.of (by rw [ah];rfl),?_,?_,fun h H' s'=>h3.1 h H' (e5.trans s'),fun h H' k hWn=>?_⟩
   ·exact (aO.at hA4).same f5
   ·rw [hks];first | rfl | simp only [a7,List.length_set]
   ·k_upd
    exact h3.2 h H' ((aq.of e5).trans k) hWn
 ·rw [inC,if_neg hm]
  k_upd
  rw [if_pos rfl]
  k_upd
  exact ⟨by decide,q1 hm _ e2⟩
variable (j9:KM P w K mg base (CXf P w) 6 Z.aW "unload" (fg K Z))
structure cQ (C:Cl)(K:W.Frag)(H:Hp)(w bk rl dl ly:Addr)(g:Cfg)(n0:a6)(rs:List Row):Prop where
 wk:WAt C K H w bk rl g n0 rs
 hd:H dl=some (.lst (g.ds.map V.int))
 hl:H ly=some (.lst ((af n0 rs).ws.map V.int))
 nd:g.N dl
 ny:g.N ly
 ne:dl≠ly
 run:Run g n0 rs
 fs:∀i:Nat,(af n0 rs).fs.getD i false=false
theorem cQ.same {C:Cl}{K:W.Frag}{H H':Hp}{w bk rl dl ly:Addr}{g:Cfg}{n0:a6}{rs:List Row}(h:cQ C K H w bk rl dl ly g n0 rs)(s:aw H H'):cQ C K H' w bk rl dl ly g n0 rs:=⟨h.wk.same s,s _ _ h.hd,s _ _ h.hl,h.nd,h.ny,h.ne,h.run,h.fs⟩
theorem cQ.deed {C:Cl}{K:W.Frag}{H H':Hp}{w bk rl dl ly:Addr}{g:Cfg}{n0:a6}{rs:List Row}{d:Dd}(h:cQ C K H w bk rl dl ly g n0 rs)(k:aq rl H H')(hw:WAt C K H' w bk rl g n0 (rs++[bD g n0 rs d]))(ok:u9 d)(hr:eH g (af n0 rs) d=none)(ew:(a7 g (af n0 rs) d).ws=(af n0 rs).ws)(ef:(a7 g (af n0 rs) d).fs=(af n0 rs).fs):cQ C K H' w bk rl dl ly g n0 (rs++[bD g n0 rs d]):=by
 have e:af n0 (rs++[bD g n0 rs d])=a7 g (af n0 rs) d:=bP _ _ _
 refine ⟨hw,k _ _ (h.wk.off _ h.nd).symm h.hd,?_,h.nd,h.ny,h.ne,.snoc h.run ok hr,?_⟩
 ·rw [e,ew];exact k _ _ (h.wk.off _ h.ny).symm h.hl
 ·rw [e,ef];exact h.fs
theorem cQ.move {C:Cl}{K:W.Frag}{H H' H2:Hp}{w bk rl dl ly:Addr}{g:Cfg}{n0:a6}{rs:List Row}{d:Dd}(h:cQ C K H w bk rl dl ly g n0 rs)(k:aq rl H H')(hw:WAt C K H' w bk rl g n0 (rs++[bD g n0 rs d]))(ok:u9 d)(hr:eH g (af n0 rs) d=none)(ef:(a7 g (af n0 rs) d).fs=(af n0 rs).fs)
  (k2:aq ly H' H2) (e2:H2 ly=some (.lst ((a7 g (af n0 rs) d).ws.map V.int))):cQ C K H2 w bk rl dl ly g n0 (rs++[bD g n0 rs d]):=by
 have e:af n0 (rs++[bD g n0 rs d])=a7 g (af n0 rs) d:=bP _ _ _
 refine ⟨hw.own h.ny k2 e2,k2 _ _ h.ne (k _ _ (h.wk.off _ h.nd).symm h.hd),by rw [e];exact e2,h.nd,h.ny,h.ne,.snoc h.run ok hr,by rw [e,ef];exact h.fs⟩
inductive jj (K:W.Frag)(Z:Adr)(vs:List V)(H:Hp)(Q:VK)(E:XK):Prop | mk (w bk rl dl ly:Addr) (g:Cfg) (n0:a6) (rs:List Row) (c wh:Int):vs=[.ref w,.ref dl,.int (af n0 rs).place,.ref ly,.int c,.int wh]->cQ (clZ Z) K H w bk rl dl ly g n0 rs->lR g->jA g n0->((∀i:Nat,(af n0 rs).gates.getD i false=false))->((c=0\/c=1))->rs.length<=290->(∀H' rs',iL rl ly H H'->cQ (clZ Z) K H' w bk rl dl ly g n0 rs'->(∀i:Nat,(af n0 rs').gates.getD i false=false)->(af n0 rs').place=(af n0 rs).place->rs'.length<=rs.length+3->Q .non H')->jj K Z vs H Q E
include T zm gJ gK mF j9 in
theorem tH:FF P w K mg base (CXf P w) 7 "_law_loading" "_law_loading" jR nQ (jj K Z):=fkF i8 fun vs H Q E h=>by
 obtain ⟨w,bk,rl,dl,ly,g,n0,rs,c,wh,rfl,hb,hg,h0,hgt,hc,hlen,q⟩:=h
 k_all
 refine seg 4 (ag (aX (dm' (pv' 0) gK hr.dn bH (pa1 (pv' 6))))) fun zt4 zh4 ze4=>?_
 refine seg 3 (ae (aV (fN iQ (aP bA ai (pv' 4)) (pv' 3) (by rfl)) (ae (aX (dm' (pv' 0) j9 hr.dn bH (pa1 (pv' 4)))) (ag (mH (pv' 6) (oH (pv' 3) (tS PySem.F.plainAttrs_list PySem.F.slot_list_index PySem.F.type_list_index yr (pv' 3) (pa1 (aP bA ai (pv' 4)))) ir)))) (ae (yu ["_law_k","_law_lying","_law_level","_law_what"] [none,some 3,some 6,some 5] (iy:=7) i8.nd rfl rfl (cy (by rfl) T.cY (pa1 (ay av (by rfl) T.bY bu (pa1 (pv' 3))))) (fun _ _ _ _=>(aG (i:=0) (show (["_law_k","_law_lying","_law_level","_law_what"]:List Str).Nodup by decide +kernel) rfl orL)) (fun _ _ _ _=>(rP (rJ (ee (aQ (show IxR _ (rp K) from aA) (pv' 1) (pv' 0)) (pv' 2)) (ou (ee (cF (pv' 0) ai) (aP bS (pv' 3) ai)))).pt)) (fun _ _ _ _=>(pv' 0))) (ag (aV (fN (AG hr.units0) (pv' 7) (cv jv) (cD _)) (ae (aX (dm' (pv' 0) mF hr.dn bH (pa2 (aQ aA (pv' 7) ai) (pv' 4)))) (ag (mH (aP bA ai (pv' 4)) (oH (pv' 3) (aQ aA (pv' 7) ai) ir)))) (aC))))) zh4) fun zt3 zh3 ze3=>?_
 refine seg 2 (ae (aX (dm' (pv' 0) gJ hr.dn bH (pa1 (pv' 6)))) zh3) fun zt2 zh2 ze2=>?_
 refine seg 1 (ae (aV (jk (oY (pv' 6) ai) (gM (ee (pv' 5) ai))).pt (ag (zz)) (aC)) zh2) fun zt1 zh1 ze1=>?_
 refine ⟨_,ae (aD (i:=6) i8.nd rfl (Or.inr rfl) (dc0 zm hr.dn (pa3 (pv' 1) (pv' 4) (pv' 2)))) zh1,?_⟩
 have hn:=hb.run.snap hg h0
 have l6:=hg.sh.l6
 have lc:=hg.lc
 k_mem
 refine ⟨dl,g.ds,c,_,rfl,SqL.of hb.hd,hg.sh,by omega,by omega,fun H1 s1=>?_⟩
 have hb1:=hb.same s1
 obtain ⟨dx,dl2,gl2,hob,_⟩:=id hb1.wk.ob
 k_mem
 by_cases hl:(bz g.ds (af n0 rs).place c).getD (-1) < 0
 ·rw [if_pos hl]
  k_upd
  exact q H1 rs (iL.of s1) hb1 hgt rfl (by omega)
 ·rw [if_neg hl]
  by_cases hw:wh=0
  ·rw [if_pos hw]
   k_upd
   exact q H1 rs (iL.of s1) hb1 hgt rfl (by omega)
  ·rw [if_neg hw]
   obtain ⟨l,el,el'⟩:=CB hl
   rw [el']
   obtain ⟨l0,l1,_⟩:=iO el
   have gl:=hn.gl
   have o1:eH g (af n0 rs) (.opn l)=none:=vt l0 l1 (hgt _)
   k_upd
   refine mgo hob rfl ⟨_,_,_,_,_,_,_,rfl,hb1.wk,by omega,hn.wl.symm,hn.gl,fun z=>absurd ⟨l0,l1⟩ z,fun _ _ z=>(by rw [hgt] at z;cases z),fun _ _ _=>⟨fun z=>absurd z (by omega),fun _ H2 k2 hW2=>?_⟩⟩
   have hb2:=hb1.deed k2 hW2 trivial o1 rfl rfl
   have e2:af n0 (rs++[bD g n0 rs (.opn l)])=a7 g (af n0 rs) (.opn l):=bP _ _ _
   have w2:(af n0 (rs++[bD g n0 rs (.opn l)])).ws=(af n0 rs).ws:=by rw [e2];rfl
   have p2:(af n0 (rs++[bD g n0 rs (.opn l)])).place=(af n0 rs).place:=by rw [e2];rfl
   have g2:(af n0 (rs++[bD g n0 rs (.opn l)])).gates=(af n0 rs).gates.set l.toNat true:=by rw [e2];rfl
   have n2:(rs++[bD g n0 rs (.opn l)]).length=rs.length+1:=by rw [List.length_append,List.length_singleton]
   have kk2:iL rl ly H H2:=fun b o x1 _ z=>k2 b o x1 (s1 b o z)
   have hn2:=hb2.run.snap hg h0
   generalize rs++[bD g n0 rs (.opn l)]=rs2 at *
   have go2:(af n0 rs2).gates.getD l.toNat false=true:=by rw [g2,mT,if_pos ⟨rfl,by omega⟩]
   have el2:bz g.ds (af n0 rs2).place c=some l:=by rw [p2];exact el
   obtain ⟨dx2,dl3,gl3,hob2,_⟩:=id hb2.wk.ob
   clear hW2
   have wl2:=hn2.wl
   have k30:=hg.k30
   have done:∀(H3:Hp) (rs3:List Row),iL rl ly H H3->cQ (clZ Z) K H3 w bk rl dl ly g n0 rs3->(af n0 rs3).gates=(af n0 rs2).gates->(af n0 rs3).place=(af n0 rs).place->rs3.length<=rs.length+2->∃dx fs,H3 w=some (HO.ins Z.aW dx fs)/\List.lookup (Str.ofString "shut_gate") fs=none/\cH K Z [V.ref w,V.int l] H3 (fun x H1=>Q V.non H1) E:=fun H3 rs3 kk3 hb3 g3 p3 n3=>by
    have o3:eH g (af n0 rs3) (.sht l)=none:=vv l0 l1 (by rw [g3];exact go2)
    obtain ⟨dx4,dl5,gl5,hob4,_⟩:=id hb3.wk.ob
    have hn4:=hb3.run.snap hg h0
    k_upd
    refine mgo hob4 rfl ⟨_,_,_,_,_,_,_,rfl,hb3.wk,by omega,hn4.wl.symm,hn4.gl,fun z=>absurd ⟨l0,l1⟩ z,fun _ _ z=>(by rw [g3,go2] at z;cases z),fun _ _ _=>⟨fun z=>absurd z (by omega),fun _ H4 k4 hW4=>?_⟩⟩
    have hb4:=hb3.deed k4 hW4 trivial o3 rfl rfl
    have e4:af n0 (rs3++[bD g n0 rs3 (.sht l)])=a7 g (af n0 rs3) (.sht l):=bP _ _ _
    refine q H4 _ (fun b o x1 x2 z=>k4 b o x1 (kk3 b o x1 x2 z)) hb4 (fun i=>?_) (by rw [e4];exact p3) (by rw [List.length_append,List.length_singleton];omega)
    rw [e4,show (a7 g (af n0 rs3) (.sht l)).gates=(af n0 rs3).gates.set l.toNat false from rfl,g3,g2,mT]
    k_upd
    split
    ·rfl
    ·rename_i hne
     rw [mT]
     k_upd
     split
     ·rename_i he
      exact absurd ⟨he.1,by rw [List.length_set];exact he.2⟩ hne
     ·exact hgt i
   k_mem
   refine ⟨_,.inl (SqL.of hb2.hl),rfl,by simp [bC],?_⟩
   rw [rZ]
   k_upd
   split
   ·rename_i hin
    have hin':10+c∈(af n0 rs2).ws:=by simpa using hin
    k_upd
    refine mgo hob2 rfl ⟨_,_,_,_,_,_,_,rfl,hb2.wk,by omega,hn2.wl.symm,hg.sh,hn2.gl,by omega,by omega,fun z=>absurd hin' z,fun _ z=>(by rw [el2] at z;cases z),fun l' _ e z=>(by rw [el2] at e;cases e;rw [go2] at z;cases z),fun l' _ e _=>⟨fun z=>absurd z (by omega),fun _ H3 k3 hW3=>?_⟩⟩
    k_mem
    have hly3:=k3 _ _ (hb2.wk.off _ hb2.ny).symm hb2.hl
    obtain ⟨ix1,ix2⟩:=xl hin'
    k_upd
    refine ⟨.inl ⟨rfl,_,SqL.of hly3⟩,_,_,_,rfl,rfl,SqL.of hly3,hin',_,hly3,_,oQ (by omega) (by rw [List.length_map];omega),?_⟩
    rw [Int.toNat_natCast]
    have o3:eH g (af n0 rs2) (.unload c)=none:=qs hin' el2 go2
    have e3:(a7 g (af n0 rs2) (.unload c)).ws=(af n0 rs2).ws.set ((af n0 rs2).ws.idxOf (10+c)) l:=by show (af n0 rs2).ws.set _ ((bz g.ds (af n0 rs2).place c).getD (-1))=_;rw [el2];rfl
    have eL:(List.map V.int (af n0 rs2).ws).set ((af n0 rs2).ws.idxOf (10+c)) (V.int l)=((a7 g (af n0 rs2) (.unload c)).ws).map V.int:=by rw [e3,List.map_set]
    rw [eL]
    have kl:L2.aq ly H3 (upd H3 ly (.lst (((a7 g (af n0 rs2) (.unload c)).ws).map V.int))):=(aq.of (aw.refl H3)).put
    have hb3:=hb2.move k3 hW3 (show u9 (.unload c) from ⟨by omega,by omega⟩) o3 rfl kl ah
    have eN:af n0 (rs2++[bD g n0 rs2 (.unload c)])=a7 g (af n0 rs2) (.unload c):=bP _ _ _
    generalize upd H3 ly (.lst (((a7 g (af n0 rs2) (.unload c)).ws).map V.int))=H4 at *
    k_mem
    exact done H4 _ (fun b o x1 x2 z=>kl b o x2 (k3 b o x1 (kk2 b o x1 x2 z))) hb3 (by rw [eN];rfl) (by rw [eN];exact p2) (by rw [List.length_append,List.length_singleton];omega)
   ·rename_i hin
    have hin':¬10+c∈(af n0 rs2).ws:=by simpa using hin
    k_upd
    refine ⟨_,.inl (SqL.of hb2.hl),by rw [List.length_map];omega,by rw [List.length_map];omega,?_⟩
    rw [List.length_map,Int.toNat_natCast]
    refine jm (fun j=>decide ((af n0 rs2).ws.getD j 0=l) && decide ((j:Int) % 2=wh - 1)) (fun (j:Nat)=>.int (j:Int)) (by rw [sizeLine_eq];omega) rfl (fun i hi N hN=>?_) (fun i hi _ N hN=>?_) fun lw hlw=>?_
    ·k_mem
     k_upd
     refine ⟨_,SqL.of hb2.hl,_,ck (ns:=(af n0 rs2).ws) (k:=0+(i:Int)) (by omega) (by omega),?_⟩
     rw [show ((0:Int)+(i:Int)).toNat=i by omega,Int.zero_add]
     k_mem
     by_cases z:(af n0 rs2).ws.getD i 0=l
     ·rw [if_pos z]
      rw [decide_eq_true z,Bool.true_and] at hN
      by_cases y:(i:Int) % 2=wh - 1
      ·rw [if_pos y];rw [decide_eq_true y] at hN;exact hN
      ·rw [if_neg y];rw [decide_eq_false y] at hN;exact hN
     ·rw [if_neg z]
      rw [decide_eq_false z,Bool.false_and] at hN
      exact hN
    ·k_mem
     rw [Int.zero_add]
     exact hN
    generalize hwf:(List.range (af n0 rs2).ws.length).filter (fun j=>decide ((af n0 rs2).ws.getD j 0=l) && decide ((j:Int) % 2=wh - 1))=wf at *
    (generalize hE:upd H2 lw _=H3 at *;have s3:=dO hE hlw;have e3:=cn hE;clear hE)
    k_upd
    refine ⟨by decide,fun p0 hp0=>?_⟩
    (generalize hE:upd H3 p0 _=H4 at *;have s4:=dO hE hp0;have e4:=cn hE;clear hE)
    k_mem
    refine ⟨_,SqL.of (s4 _ _ e3),_,SqL.of e4,by simp [bC],rfl,?_⟩
    rw [wI]
    have s24:=s3.trans s4
    have kk4:iL rl ly H H4:=fun b o x1 x2 z=>s24 b o (kk2 b o x1 x2 z)
    have hb4:=hb2.same s24
    cases wf with
    | nil=>
     rw [if_neg (by simp)]
     k_mem
     exact done H4 rs2 kk4 hb4 rfl p2 (by omega)
    | cons k0 wr=>
     rw [if_pos (by simp)]
     have hk0:k0∈(List.range (af n0 rs2).ws.length).filter (fun j=>decide ((af n0 rs2).ws.getD j 0=l) && decide ((j:Int) % 2=wh - 1)):=by rw [hwf];exact List.mem_cons_self
     rw [List.mem_filter,List.mem_range,Bool.and_eq_true,decide_eq_true_eq] at hk0
     obtain ⟨k1,k2',_⟩:=hk0
     obtain ⟨dx4,dl5,gl5,hob4,_⟩:=id hb4.wk.ob
     k_upd
     refine ⟨_,_,hob4,rfl,_,SqL.of (s4 _ _ e3),_,iK (k:=0) rfl,?_⟩
     k_upd
     refine ⟨_,_,_,_,_,_,(k0:Int),_,rfl,hb4.wk,by omega,hn2.wl.symm,hg.sh,hn2.gl,by rw [hg.gk];exact hn2.wl.symm,by omega,by omega,fun z=>absurd ⟨by omega,by omega⟩ z,fun _ _ z=>absurd (by rw [Int.toNat_natCast];exact k2') (z l el2),fun l' _ _ e _ z=>absurd z hin',fun l' _ _ e _ _ z=>(by rw [el2] at e;cases e;rw [go2] at z;cases z),fun l' _ _ e _ _ _=>⟨fun z=>absurd z (by omega),fun _ H5 k5 hW5=>?_⟩⟩
     obtain ⟨rr,hrr⟩:=hb2.wk.rows
     have nlr:lw≠rl:=fun z=>by rw [z,hrr] at hlw;cases hlw
     have hlw5:=k5 _ _ nlr (s4 _ _ e3)
     have hly5:=k5 _ _ (hb4.wk.off _ hb4.ny).symm hb4.hl
     k_mem
     refine ⟨_,SqL.of hlw5,_,iK (k:=0) rfl,?_⟩
     k_mem
     refine ⟨_,hly5,_,oQ (by omega) (by rw [List.length_map];omega),?_⟩
     rw [Int.toNat_natCast]
     have o5:eH g (af n0 rs2) (.load k0 c)=none:=uj (by omega) (by omega) el2 (by rw [Int.toNat_natCast];exact k2') hin' go2
     have e5:(a7 g (af n0 rs2) (.load k0 c)).ws=(af n0 rs2).ws.set k0 (10+c):=by show (af n0 rs2).ws.set ((k0:Int).toNat) (10+c)=_;rw [Int.toNat_natCast]
     have eL:(List.map V.int (af n0 rs2).ws).set k0 (V.int (10+c))=((a7 g (af n0 rs2) (.load k0 c)).ws).map V.int:=by rw [e5,List.map_set]
     rw [eL]
     have kl:L2.aq ly H5 (upd H5 ly (.lst (((a7 g (af n0 rs2) (.load k0 c)).ws).map V.int))):=(aq.of (aw.refl H5)).put
     have hb6:=hb4.move k5 hW5 (show u9 (.load k0 c) from ⟨by omega,by omega⟩) o5 rfl kl ah
     have eN:af n0 (rs2++[bD g n0 rs2 (.load k0 c)])=a7 g (af n0 rs2) (.load k0 c):=bP _ _ _
     generalize upd H5 ly (.lst (((a7 g (af n0 rs2) (.load k0 c)).ws).map V.int))=H6 at *
     k_mem
     exact done H6 _ (fun b o x1 x2 z=>kl b o x2 (k5 b o x1 (kk4 b o x1 x2 z))) hb6 (by rw [eN];rfl) (by rw [eN];exact p2) (by rw [List.length_append,List.length_singleton];omega)
variable (gL:KD P w K mg base (CXf P w) 7 "_law_loading" (jj K Z))
noncomputable def vS (w:Str)(i:Int):Ld:=(w,i,0)
noncomputable def ax (m:Nat):List Ld:=(List.range m).flatMap fun (i:Nat)=>[vS "men" i,vS "coal" i]
theorem lI (m:Nat):ax (m+1)=ax m++[vS "men" m]++[vS "coal" m]:=by
 unfold ax
 rw [List.range_succ,List.flatMap_append,List.append_assoc]
 rfl
theorem c3:∀m:Nat,(ax m).length=2 * m
 | 0=>rfl
 | m+1=>by rw [lI,List.length_append,List.length_append,c3 m,List.length_singleton,List.length_singleton];omega
theorem rF:∀(m j:Nat),j < 2 * m->(ax m)[j]?=some (vS (if j % 2=0 then "men" else "coal") ((j / 2:Nat):Int))
 | 0,j,h=>absurd h (by omega)
 | m+1,j,h=>by
  have hl:=c3 m
  rw [lI]
  by_cases h1:j < 2 * m
  ·rw [List.append_assoc,List.getElem?_append_left (by omega)]
   exact rF m j h1
  ·rcases (by omega:j=2 * m\/j=2 * m+1) with rfl | rfl
   ·rw [List.append_assoc,List.getElem?_append_right (by omega),hl,Nat.sub_self,if_pos (by omega),show 2 * m / 2=m by omega]
    rfl
   ·rw [List.append_assoc,List.getElem?_append_right (by omega),hl,show 2 * m+1 - 2 * m=1 by omega,if_neg (by omega),show (2 * m+1) / 2=m by omega]
    rfl
theorem qj (m:Nat):∀x∈ax m,jy (m:Int) x:=fun x hx=>by
 unfold ax at hx
 rw [List.mem_flatMap] at hx
 obtain ⟨i,hi,hx⟩:=hx
 rw [List.mem_range] at hi
 simp only [List.mem_cons,List.not_mem_nil,or_false] at hx
 rcases hx with rfl | rfl<;>exact ⟨⟨by show (0:Int)<=(i:Int);omega,by show (i:Int) < m;omega⟩,by show (0:Int)<=0;omega,by show (0:Int) < m;omega⟩
theorem jr.push36 {K:W.Frag}{H:Hp}{as:List Addr}{ls:List Ld}{a:Addr}{x:Ld}(h:jr K H as ls)(hx:SqT K H a (ldV x)):jr K H (as++[a]) (ls++[x]):=wj.push (P:=fun a x=>SqT K H a (ldV x)) h hx
def CU (H:Hp)(K:W.Frag)(x0 x1 x2 x3 x4:V)(i:Nat)(σ:St)(H':Hp):Prop:=aw H H'/\∃pl as b,σ=[some x0,some x1,some x2,some x3,some x4,some (.ref pl),b,none,none,none,none,none,none,none,none,none,none,none,none,none]/\H' pl=some (.lst (as.map V.ref))/\jr K H' as (ax i)
theorem AY (k:Nat)(h:k < 2):∃kd:Str,atI [V.str "men",.str "coal"] (0+(k:Int))=some (.str kd)/\(kd="men"\/kd="coal")/\∀ls l,bO ls l kd=if k=0 then (bJ ls l).1 else (bJ ls l).2:=by
 rcases (by omega:k=0\/k=1) with rfl | rfl
 ·exact ⟨"men",rfl,.inl rfl,fun ls l=>rfl⟩
 ·exact ⟨"coal",rfl,.inr rfl,fun ls l=>rfl⟩
theorem aw.keeps2 {a b:Addr}{H H1 H2:Hp}(s:aw H H1)(k:iL a b H1 H2)(ha:H a=none)(hb:H b=none):aw H H2:=fun d o e=>k d o (ak e ha) (ak e hb) (s d o e)
def CV (Z:Adr)(K:W.Frag)(H5:Hp)(x0 x1 x2 x3 x4 x5:V)(w bk rl dl ly:Addr)(g:Cfg)(n0:a6)(i:Nat)(σ:St)(H':Hp):Prop:=∃rs,aw H5 H'/\cQ (clZ Z) K H' w bk rl dl ly g n0 rs/\(∀i:Nat,(af n0 rs).gates.getD i false=false)/\rs.length<=6 * i/\∃b c d e f k l m n o p,σ=[some x0,some x1,some x2,some x3,some x4,some x5,b,some (.ref w),some (.ref ly),some (.int (af n0 rs).place),c,d,e,f,k,l,m,n,o,p]
theorem El {m:Nat}{ws:List Int}(hl:ws.length=2 * m)(hr:∀x∈ws,x < 10\/x=10\/x=11):((List.range m).filter (fun k=>decide (10<=ws.getD (2 * k) 0))=[])↔oS ((ax m).map (·.1)) ws=false:=by
 have hg:∀j,j < 2 * m->((ax m).map (·.1))[j]?=some (if j % 2=0 then ("men":Str) else "coal"):=fun j hj=>by rw [List.getElem?_map,rF m j hj];rfl
 constructor
 ·intro h
  refine rj (i:=2 * m) (fun j k x hj hk hx=>?_) (.inr (by omega))
  rw [hg j hj] at hk
  cases hk
  by_cases e:j % 2=0
  ·rw [if_pos e]
   have:=List.filter_eq_nil_iff.mp h (j / 2) (List.mem_range.mpr (by omega))
   rw [show 2 * (j / 2)=j by omega,List.getD_eq_getElem?_getD,hx] at this
   have hx10:¬(10:Int)<=x:=by simpa using this
   rw [decide_eq_false (show ¬(x=10\/x=11) by omega),Bool.and_false]
  ·rw [if_neg e];rfl
 ·intro h
  rw [List.filter_eq_nil_iff]
  intro k hk
  rw [List.mem_range] at hk
  have h2:(2 * k) < ws.length:=by omega
  unfold oS at h
  rw [List.any_eq_false] at h
  have hm:(("men":Str),ws[2 * k])∈((ax m).map (·.1)).zip ws:=by
   refine List.mem_of_getElem? (i:=2 * k) ?_
   rw [List.getElem?_zip_eq_some]
   exact ⟨by rw [hg _ (by omega),if_pos (by omega)],List.getElem?_eq_getElem h2⟩
  have h3:=h _ hm
  have h4:¬(ws[2 * k]=10\/ws[2 * k]=11):=by simpa using h3
  rw [List.getD_eq_getElem?_getD,List.getElem?_eq_getElem h2]
  have h5:=hr _ (List.getElem_mem h2)
  have:¬(10:Int)<=ws[2 * k]:=by omega
  simpa using this
theorem zq {C:Prop}[Decidable C]{A B:Prop}(h:B)(k:B->C->A):if C then A else B:=by split;exact k h ‹_›;exact h
theorem xD {w s:Int}(hs:1<=s):(mR w s - 1) * s < w:=by
 unfold mR
 have h1:=Int.mul_ediv_add_emod (w+s - 1) s
 have h2:=Int.emod_nonneg (w+s - 1) (show s≠0 by omega)
 rw [Int.sub_mul,Int.mul_comm]
 omega
noncomputable def qk (K:W.Frag)(Z:Adr):Sp:=fun vs H Q _=>∃(a:Addr) (ns:List Int),vs=[.ref a]/\SqL K H a (ns.map V.int)/\ns.length<=63/\∀H',Q (.bl true) H'
include T iH je kh cV fC ez fD ki cA fE dX fF dk gL in
theorem CW:FF P w K mg base (CXf P w) 8 "law" "law" mq ze (qk K Z):=fkF bQ fun vs H Q E h=>by
 obtain ⟨a,ns,rfl,hS,hn,q⟩:=h
 k_all
 obtain ⟨t1,h1,k1⟩:∃t,PSs (cxF P w K mg base ["_law_script","_law_depths_here","_law_codes_here","_law_slow","_law_fast","_law_loads","_law_level","_law_works","_law_lying","_law_place","_law_k","_law_cell","_law_cage","_law_side","_law_began","_law_ended","_law_goal","_law_men","_law_speed","_law_due"] "law" (aj mq) zf zv zA zo zs H E) ((bI mq).drop 2) t/\∀(dl cl:Addr) (ds:List Int) (as0:List Addr) (ls:List Cd) (slow fast:Int) (H1:Hp),aw H H1->dl≠cl->H1 dl=some (.lst (ds.map V.int))->bG ds->H1 cl=some (.lst (as0.map V.ref))->cb cdV K H1 as0 ls->ls.length=ds.length->(∀x∈ls,c7 x)->(1<=slow/\slow<=fast/\fast<=500)->t ({nx:=fun _ H2=>Q .non H2,rt:=Q}:kQ) [some (.ref a),some (.ref dl),some (.ref cl),some (.int slow),some (.int fast),none,none,none,none,none,none,none,none,none,none,none,none,none,none,none] H1:=by
  refine seg 6 (ag (aB (kg (dc0 dk hr.dn (pa2 (de (pv' 7) cA hr.dn aY) (bN (pa2 (pv' 9) (aP bS (aQ aA (pv' 1) (lK fq ai)) (pv' 9)))))) (oG (dc0 dk hr.dn (pa2 (de (pv' 7) ez hr.dn aY) (pv' 8))))))) fun zt6 zh6 ze6=>?_
  refine seg 5 (ae (dB u6 rfl (oZ (by rfl) T.cY (pa2 ai (ay (kT rfl) (by rfl) T.zh u4 (pa2 (ay av (by rfl) T.bY bu (pa1 (pv' 0))) ai)))) (aG (i:=10) bQ.nd rfl orL) (ae (aD (i:=11) bQ.nd rfl orL (dc0 kh hr.dn (pa2 (pv' 0) (pv' 10)))) (ae (aX (dc gL hr.dn bH (gy (pv' 7) (gy (pv' 1) (pa4 (pv' 9) (pv' 8) (cF (pv' 11) ai) (cF (ft (pv' 11) ai) ai)))))) (ae (aD (i:=6) bQ.nd rfl orL (aP sy (ft (pv' 11) ai) (ay av (by rfl) T.bY bu (pa1 (pv' 1))))) (ae (aD (i:=12) bQ.nd rfl orL (cF (ft (pv' 11) ai) ai)) (ae (aD (i:=13) bQ.nd rfl orL (cF (ft (pv' 11) ai) ai)) (ae (aX (dm' (pv' 7) fE hr.dn bH (pa2 (pv' 6) (aQ du (aQ aA (pv' 2) (pv' 6)) (pv' 13))))) (ae (aX (dm' (pv' 7) dX hr.dn bH (pa1 (aQ du (aQ aA (pv' 2) (pv' 6)) (pv' 13))))) (ae (aD (i:=14) bQ.nd rfl orL (de (pv' 7) cV hr.dn aY)) (ae (aD (i:=15) bQ.nd rfl orL (dm' (pv' 7) fF hr.dn bH (pa3 (pv' 12) (pv' 6) (aQ aA (cv (pa2 aI aI)) (pv' 13))))) (ae (aD (i:=16) bQ.nd rfl orL (aQ aA (cv (pa2 (aQ aA (pv' 1) (pv' 6)) (aP bS (aQ aA (pv' 1) (lK fq ai)) (aQ aA (pv' 1) (pv' 6))))) (pv' 12))) (ae (yu ["_law_j","_law_lying"] [none,some 8] (iy:=17) bQ.nd rfl rfl (xr (by rfl) T.cY (pa3 ai (ay av (by rfl) T.bY bu (pa1 (pv' 8))) ai)) (fun _ _ _ _=>(aG (i:=0) (show (["_law_j","_law_lying"]:List Str).Nodup by decide +kernel) rfl orL)) (fun _ _ _ _=>(rP (y8 (aQ (show IxR _ (rp K) from aA) (pv' 1) (pv' 0)) ai))) (fun _ _ _ _=>(pv' 0))) (ae (aD (i:=18) bQ.nd rfl orL (aQ aA (cv (pa2 (pv' 3) (pv' 4))) (cJ vx (by rfl) T.wJ rR (pa1 (fj (AF hr.units0) (pv' 17) (cv jv) (cD _)))))) (ae (aV (jk (cR (bV (dc0 iH hr.dn (pa1 (pv' 14))))) (jk (cR (bV (dc0 iH hr.dn (pa1 (pv' 15))))) (gM (oY (aP lW (aP bS (pv' 15) (pv' 14)) (pv' 18)) (ay mW (by rfl) T.zg u5 (pa1 (aP bS (pv' 16) (pv' 9)))))))).pt (ag (aB gx)) (aC)) (ae (aV (rJ (uu (pv' 15) (pv' 14)) (ou (y8 (aP lW (aP bS (aP bS (pv' 15) (pv' 14)) ai) (pv' 18)) (ay mW (by rfl) T.zg u5 (pa1 (aP bS (pv' 16) (pv' 9))))))).pt (ag (aB gx)) (aC)) (ae (aD (i:=9) bQ.nd rfl orL (pv' 16)) (ae (aD (i:=19) bQ.nd rfl orL (bN (pa3 (pv' 14) (pv' 15) (bN (pa4 aI (pv' 12) (pv' 6) (aQ aA (cv (pa2 aI aI)) (pv' 13))))))) (ae (aV (jk (cR (bV (dc0 dk hr.dn (pa2 (aQ aA (de (pv' 7) fC hr.dn aY) (lK fq ai)) (pv' 19))))) (gM (cR (bV (dc0 dk hr.dn (pa2 (de (pv' 7) cV hr.dn aY) (pv' 15))))))).pt (ag (aB gx)) (aC)) (ag (aV (cR (bV (dc0 dk hr.dn (pa2 (de (pv' 7) cA hr.dn aY) (bN (pa2 (pv' 9) (aP bS (aQ aA (pv' 1) (lK fq ai)) (pv' 9)))))))) (ag (aB gx)) (aC))))))))))))))))))))) zh6) fun zt5 zh5 ze5=>?_
  refine seg 4 (ae (aD (i:=9) bQ.nd rfl orL (aQ aA (pv' 1) ai)) zh5) fun zt4 zh4 ze4=>?_
  refine seg 3 (ae (aD (i:=8) bQ.nd rfl (Or.inr rfl) (nF ["_law_one"] [none] (cU (pv' 5)) (fun _ _ _ _=>(aG (i:=0) (show (["_law_one"]:List Str).Nodup by decide +kernel) rfl orL)) (fun _ _ _ _=>gz) (fun _ _ _ _=>(aQ (show IxR _ (wC K) from du) (pv' 0) ai)))) zh4) fun zt3 zh3 ze3=>?_
  refine seg 2 (ae (aD (i:=7) bQ.nd rfl orL (dn fD hr.dn T.AQ bH (gy (cJ bK (by rfl) T.eY dq (pa1 (pv' 1))) (pa4 (cJ bK (by rfl) T.eY dq (pa1 (pv' 2))) (pv' 3) (pv' 4) (pv' 5))))) zh3) fun zt2 zh2 ze2=>?_
  refine seg 1 (ae (dB u6 rfl (cy (by rfl) T.cY (pa1 (ay av (by rfl) T.bY bu (pa1 (pv' 1))))) (aG (i:=6) bQ.nd rfl orL) (ag (aD (i:=5) bQ.nd rfl orL (aP lX (pv' 5) (cv (pa2 (bN (pa3 aI (pv' 6) ai)) (bN (pa3 aI (pv' 6) ai)))))))) zh2) fun zt1 zh1 ze1=>?_
  refine ⟨_,ae (aD (i:=5) bQ.nd rfl orL (cv jv)) zh1,?_⟩
  intro dl cl ds as0 ls slow fast H1 s1 ndc hdl hsh hcl hT hlen hgd hsp
  have l2:=hsh.l2
  have l6:=hsh.l6
  k_mem
  refine ⟨by decide,fun q0 hq0=>?_⟩
  (generalize hE:upd H1 q0 _=H2 at *;have s2:=dO hE hq0;have e2:=cn hE;clear hE)
  k_mem
  refine ⟨_,.inl (SqL.of (s2 _ _ hdl)),by rw [List.length_map];omega,by rw [List.length_map];omega,?_⟩
  rw [List.length_map,Int.toNat_natCast]
  k_upd
  refine cw (CU H1 K (.ref a) (.ref dl) (.ref cl) (.int slow) (.int fast)) ⟨s2,q0,[],_,rfl,e2,rfl,fun i a x e _=>by simp at e⟩ ?_ ?_
  ·rintro i σ H3 hi ⟨s3,pl,as,b,rfl,epl,hA⟩
   have hal:=hA.1
   rw [c3] at hal
   rw [Int.zero_add]
   k_mem
   refine ⟨by decide,fun p4 hp4=>?_⟩
   (generalize hE:upd H3 p4 _=H4 at *;have s4:=dO hE hp4;have e4:=cn hE;clear hE)
   k_upd
   refine ⟨by decide,fun p5 hp5=>?_⟩
   (generalize hE:upd H4 p5 _=H5 at *;have s5:=dO hE hp5;have e5:=cn hE;clear hE)
   k_upd
   refine ⟨by decide,fun p6 hp6=>?_⟩
   (generalize hE:upd H5 p6 _=H6 at *;have s6:=dO hE hp6;have e6:=cn hE;clear hE)
   have s36:=(s4.trans s5).trans s6
   k_upd
   refine ⟨_,s36 _ _ epl,_,e6,by rw [List.length_map,sizeLine_eq];simp only [List.length_cons,List.length_nil];omega,fun p7 hp7=>?_⟩
   (generalize hE:upd H6 p7 _=H7 at *;have s7:=dO hE hp7;have e7:=cn hE;clear hE)
   k_upd
   refine ⟨s3.trans (s36.trans s7),p7,as++[p4]++[p5],_,rfl,by rw [e7];simp,?_⟩
   rw [lI]
   have hA7:jr K H7 as (ax i):=jr.same (s36.trans s7) hA
   exact jr.push36 (jr.push36 hA7 (x:=vS "men" i) (SqT.of (((s5.trans s6).trans s7) _ _ e4))) (x:=vS "coal" i) (SqT.of ((s6.trans s7) _ _ e5))
  ·rintro σ H3 ⟨s3,pl,as,b,rfl,epl,hA⟩
   have hal:=hA.1
   rw [c3] at hal
   k_mem
   refine ⟨_,.inl (SqL.of (s3 _ _ hdl)),fun w1 hw1=>?_⟩
   (generalize hE:upd H3 w1 _=H4 at *;have s4:=dO hE hw1;have e4:=cn hE;clear hE)
   k_upd
   refine ⟨_,.inl (SqL.of ((s3.trans s4) _ _ hcl)),fun w2 hw2=>?_⟩
   (generalize hE:upd H4 w2 _=H5 at *;have s5:=dO hE hw2;have e5:=cn hE;clear hE)
   refine fun x dx hx hdx nxd=>?_
   have s35:=s4.trans s5
   have hx':upd H5 dx (.own x) x=none:=by rw [az (Ne.symm nxd)];exact hx
   have sx:=((aw.refl H5).lay (o:=HO.own x) hdx).lay (o:=HO.ins Z.aW dx []) hx'
   have hsp':=hsp
   k_upd
   refine ⟨x,dx,w1,w2,pl,ds,ls,ax ds.length,slow,fast,(fun z=>z=dl),rfl,ah,sx.seq (SqL.of (s5 _ _ e4)),⟨as0,sx.seq (SqL.of e5),(hT.same (s3.trans s35)).same sx⟩,⟨as,sx.seq (SqL.of (s35 _ _ epl)),jr.same sx (jr.same s35 hA)⟩,by omega,by omega,by rw [c3];omega,fun p hp=>by rw [hp];exact ⟨_,sx _ _ (s35 _ _ (s3 _ _ hdl))⟩,fun h=>absurd hsh h,fun _ h=>absurd ⟨by omega,hgd⟩ h,fun _ _ h=>absurd hsp h,fun _ _ _ h=>absurd ⟨by rw [c3];omega,qj _⟩ h,fun _ _ _ _ bk rl H6 kx hrl hW=>⟨rfl,?_⟩⟩
   have s6:=eB hx hdx kx
   have frl:H5 rl=none:=dN hrl
   clear kx hrl sx
   have s36:=s35.trans s6
   k_mem
   have hl6:=s36 _ _ epl
   k_upd
   refine ⟨⟨_,SqL.of hl6⟩,?_⟩
   refine z8 (fun x=>.int x.2.1) (ls:=ax ds.length) ⟨as,SqL.of hl6,jr.same s36 hA⟩ (by rw [c3,sizeLine_eq];omega) rfl (fun a1 x1 ht N hN=>?_) fun ly hly=>?_
   ·k_mem
    k_upd
    exact ⟨_,ht,_,rfl,hN⟩
   (generalize hE:upd H6 ly _=H7 at *;have s7:=dO hE hly;have e7:=cn hE;clear hE)
   have hWa:=hW.grow hly s7 e7
   k_mem
   have hd7:=((s3.trans s36).trans s7) _ _ hdl
   k_upd
   refine ⟨_,SqL.of hd7,_,ck (ns:=ds) (k:=0) (by omega) (by omega),?_⟩
   k_mem
   have s17:=(s3.trans s36).trans s7
   k_upd
   refine ⟨_,.inl ((s1.trans s17).seq hS),?_⟩
   rw [List.length_map]
   k_mem
   have hj:(if (45:Int) < (ns.length:Int) then 45 else (ns.length:Int))<=45/\(if (45:Int) < (ns.length:Int) then 45 else (ns.length:Int))<=ns.length/\0<=(if (45:Int) < (ns.length:Int) then 45 else (ns.length:Int)):=by split<;>omega
   generalize (if (45:Int) < (ns.length:Int) then 45 else (ns.length:Int))=e45 at *
   have hU:uk ds ls slow fast (ax ds.length):=⟨hsh,hlen,hgd,hsp,by rw [c3];omega,qj _⟩
   have ndl:dl≠ly:=fun z=>by rw [←z,(s3.trans s36) _ _ hdl] at hly;cases hly
   have hb0:cQ (clZ Z) K H7 x bk rl dl ly (bb ds ls slow fast (ax ds.length) fun q=>q=dl\/q=ly) (aH ds ls (ax ds.length)) []:=⟨hWa,hd7,by rw [e7,show (af (aH ds ls (ax ds.length)) []).ws=(ax ds.length).map (fun x=>x.2.1) from rfl,List.map_map];rfl,.inl rfl,.inr rfl,ndl,.nil,fun i=>by show (ls.map fun _=>false).getD i false=false;rw [List.getD_eq_getElem?_getD,List.getElem?_map];cases ls[i]?<;>rfl⟩
   have hg0:∀i:Nat,(af (aH ds ls (ax ds.length)) []).gates.getD i false=false:=fun i=>by show (ds.map fun _=>false).getD i false=false;rw [List.getD_eq_getElem?_getD,List.getElem?_map];cases ds[i]?<;>rfl
   have hly5:H5 ly=none:=s6.free hly
   k_upd
   refine ⟨⟨by decide,by decide,by omega,by omega⟩,?_⟩
   k_upd
   refine cw (CV Z K H5 (.ref a) (.ref dl) (.ref cl) (.int slow) (.int fast) (.ref pl) x bk rl dl ly (bb ds ls slow fast (ax ds.length) fun q=>q=dl\/q=ly) (aH ds ls (ax ds.length))) ⟨[],s6.trans s7,hb0,hg0,Nat.zero_le _,_,_,_,_,_,_,_,_,_,_,_,rfl⟩ ?_ ?_
   ·rintro i σ H8 hi ⟨rs,s8,hb8,hg8,hl8,b0,b1,b2,b3,b4,b5,b6,b7,b8,b9,b10,rfl⟩
    have s08:=((s1.trans s3).trans s35).trans s8
    k_mem
    refine ⟨a,ns,5+(i:Int),rfl,s08.seq hS,by omega,by omega,fun c=>?_⟩
    k_mem
    refine ⟨x,bk,rl,dl,ly,_,_,rs,c % 2,c / 2 % 3,rfl,hb8,hU.cfg _,hU.snap _,hg8,by omega,by omega,fun H9 rs9 k9 hb9 hg9 hp9 hl9=>?_⟩
    have s9:=aw.keeps2 s8 k9 frl hly5
    k_mem
    have hcg:=hU.cfg (fun q=>q=dl\/q=ly)
    have lv0:=Int.emod_nonneg (c / 6) (show (ds.length:Int)≠0 by omega)
    have lv1:=Int.emod_lt_of_pos (c / 6) (show 0 < (ds.length:Int) by omega)
    have hcl5:=(s3.trans s35) _ _ hcl
    have hT5:=hT.same (s3.trans s35)
    obtain ⟨dx9,dl9,gl9,hob9,_⟩:=id hb9.wk.ob
    obtain ⟨ra,era,hra⟩:=sg hT5 lv0 (by rw [hlen];exact lv1)
    k_upd
    refine ⟨_,.inl (SqL.of hb9.hd),by rw [List.length_map];show 0 < (ds.length:Int);omega,?_⟩
    rw [List.length_map,show ((bb ds ls slow fast (ax ds.length) fun q=>q=dl\/q=ly).ds.length:Int)=(ds.length:Int) from rfl]
    generalize c / 6 % (ds.length:Int)=lv at *
    k_upd
    refine ⟨_,_,hob9,rfl,_,SqL.of (s9 _ _ hcl5),_,era,?_⟩
    k_mem
    refine ⟨_,s9.tup hra,_,two_deep (by omega) (by omega),?_⟩
    have hor:(if c / 72 % 2=0 then (bJ ls lv).1 else (bJ ls lv).2)=(bJ ls lv).1\/(if c / 72 % 2=0 then (bJ ls lv).1 else (bJ ls lv).2)=(bJ ls lv).2:=by split<;>simp
    have gcd:=hcg.cd lv0 (show lv < (ds.length:Int) from lv1)
    have hn9:=hb9.run.snap hcg (hU.snap _)
    have lc:=hcg.lc
    have hls6:ls.length<=6:=by omega
    have o9:eH (bb ds ls slow fast (ax ds.length) fun q=>q=dl\/q=ly) (af (aH ds ls (ax ds.length)) rs9) (.ring lv (if c / 72 % 2=0 then (bJ ls lv).1 else (bJ ls lv).2))=none:=ug lv0 lv1 (hb9.fs _) hor
    k_upd
    refine ⟨_,_,_,_,_,_,_,_,rfl,hb9.wk,by show ls.length<=1000;omega,hn9.wl.symm,fun z=>absurd ⟨lv0,by show lv < (ls.length:Int);omega⟩ z,fun _ _ z=>(by rw [hb9.fs] at z;cases z),fun _ _ _ z=>absurd hor z,fun _ _ _ _=>⟨fun z=>absurd z (by omega),fun _ H10 k10 hW10=>?_⟩⟩
    have hb10:=hb9.deed k10 hW10 trivial o9 rfl rfl
    have s10:=aw.keeps s9 k10 frl
    have w10:=bP (aH ds ls (ax ds.length)) rs9 (bD (bb ds ls slow fast (ax ds.length) fun q=>q=dl\/q=ly) (aH ds ls (ax ds.length)) rs9 (.ring lv (if c / 72 % 2=0 then (bJ ls lv).1 else (bJ ls lv).2)))
    have c19:1<=(if c / 72 % 2=0 then (bJ ls lv).1 else (bJ ls lv).2)/\(if c / 72 % 2=0 then (bJ ls lv).1 else (bJ ls lv).2)<=9:=by
     obtain ⟨z1,z2,_⟩:=gcd
     rcases hor with h | h<;>rw [h]<;>first | exact z1 | exact z2
    have ee10:(af (aH ds ls (ax ds.length)) (rs9++[bD (bb ds ls slow fast (ax ds.length) fun q=>q=dl\/q=ly) (aH ds ls (ax ds.length)) rs9 (.ring lv (if c / 72 % 2=0 then (bJ ls lv).1 else (bJ ls lv).2))])).e=.wait lv (if c / 72 % 2=0 then (bJ ls lv).1 else (bJ ls lv).2):=by rw [w10];rfl
    have pp10:(af (aH ds ls (ax ds.length)) (rs9++[bD (bb ds ls slow fast (ax ds.length) fun q=>q=dl\/q=ly) (aH ds ls (ax ds.length)) rs9 (.ring lv (if c / 72 % 2=0 then (bJ ls lv).1 else (bJ ls lv).2))])).place=(af (aH ds ls (ax ds.length)) rs9).place:=by rw [w10];rfl
    have gg10:(af (aH ds ls (ax ds.length)) (rs9++[bD (bb ds ls slow fast (ax ds.length) fun q=>q=dl\/q=ly) (aH ds ls (ax ds.length)) rs9 (.ring lv (if c / 72 % 2=0 then (bJ ls lv).1 else (bJ ls lv).2))])).gates=(af (aH ds ls (ax ds.length)) rs9).gates:=by rw [w10];rfl
    have ln10:(rs9++[bD (bb ds ls slow fast (ax ds.length) fun q=>q=dl\/q=ly) (aH ds ls (ax ds.length)) rs9 (.ring lv (if c / 72 % 2=0 then (bJ ls lv).1 else (bJ ls lv).2))]).length=rs9.length+1:=by rw [List.length_append,List.length_singleton]
    clear w10 hW10 o9
    generalize rs9++[bD (bb ds ls slow fast (ax ds.length) fun q=>q=dl\/q=ly) (aH ds ls (ax ds.length)) rs9 (.ring lv (if c / 72 % 2=0 then (bJ ls lv).1 else (bJ ls lv).2))]=rsA at *
    generalize hcd:(if c / 72 % 2=0 then (bJ ls lv).1 else (bJ ls lv).2)=cd at *
    obtain ⟨dxA,dlA,glA,hobA,_⟩:=id hb10.wk.ob
    have hnA:=hb10.run.snap hcg (hU.snap _)
    k_mem
    refine ⟨_,_,hobA,rfl,_,SqL.of (s10 _ _ hcl5),_,era,?_⟩
    k_mem
    refine ⟨_,s10.tup hra,_,two_deep (by omega) (by omega),?_⟩
    rw [hcd]
    k_upd
    refine ⟨_,_,_,_,_,_,_,rfl,hb10.wk,by show ls.length<=1000;omega,hnA.wl.symm,fun z=>absurd ee10 (z _ _),fun _ _ _ z=>absurd c19 z,fun l' r' el' _=>⟨fun z=>absurd z (by omega),fun _ pB HB kB hWB hpB=>?_⟩⟩
    have oA:eH (bb ds ls slow fast (ax ds.length) fun q=>q=dl\/q=ly) (af (aH ds ls (ax ds.length)) rsA) (.rept cd)=none:=uh ee10 c19.1 c19.2
    have hbB:=hb10.deed kB hWB trivial oA rfl rfl
    have sB:=aw.keeps s10 kB frl
    have wB:=bP (aH ds ls (ax ds.length)) rsA (bD (bb ds ls slow fast (ax ds.length) fun q=>q=dl\/q=ly) (aH ds ls (ax ds.length)) rsA (.rept cd))
    have eeB:(af (aH ds ls (ax ds.length)) (rsA++[bD (bb ds ls slow fast (ax ds.length) fun q=>q=dl\/q=ly) (aH ds ls (ax ds.length)) rsA (.rept cd)])).e=.armed lv cd:=by
     rw [wB]
     show sj (bb ds ls slow fast (ax ds.length) fun q=>q=dl\/q=ly) (af (aH ds ls (ax ds.length)) rsA) (.rept cd)=_
     simp only [sj,ee10,if_true]
    have ppB:(af (aH ds ls (ax ds.length)) (rsA++[bD (bb ds ls slow fast (ax ds.length) fun q=>q=dl\/q=ly) (aH ds ls (ax ds.length)) rsA (.rept cd)])).place=(af (aH ds ls (ax ds.length)) rs9).place:=by rw [wB];exact pp10
    have ggB:(af (aH ds ls (ax ds.length)) (rsA++[bD (bb ds ls slow fast (ax ds.length) fun q=>q=dl\/q=ly) (aH ds ls (ax ds.length)) rsA (.rept cd)])).gates=(af (aH ds ls (ax ds.length)) rs9).gates:=by rw [wB];exact gg10
    have lnB:(rsA++[bD (bb ds ls slow fast (ax ds.length) fun q=>q=dl\/q=ly) (aH ds ls (ax ds.length)) rsA (.rept cd)]).length=rsA.length+1:=by rw [List.length_append,List.length_singleton]
    clear wB hWB oA
    generalize rsA++[bD (bb ds ls slow fast (ax ds.length) fun q=>q=dl\/q=ly) (aH ds ls (ax ds.length)) rsA (.rept cd)]=rsB at *
    obtain ⟨dxB,dlB,glB,hobB,_⟩:=id hbB.wk.ob
    have hnB:=hbB.run.snap hcg (hU.snap _)
    have opB:fL (bb ds ls slow fast (ax ds.length) fun q=>q=dl\/q=ly) (af (aH ds ls (ax ds.length)) rsB)=false:=um fun i=>by rw [ggB];exact hg9 i
    k_mem
    refine mgo hobB rfl ⟨_,_,_,_,_,_,rfl,hbB.wk,?_⟩
    k_mem
    refine ⟨_,_,hobB,rfl,by decide,fun pC hpC=>?_⟩
    (generalize hE:upd HB pC _=HC at *;have sC:=dO hE hpC;have eC:=cn hE;clear hE)
    obtain ⟨k2,hk2,ek2⟩:∃k2:Nat,k2 < 2/\c / 72 % 2=(k2:Int):=by
     have z0:=Int.emod_nonneg (c / 72) (show (2:Int)≠0 by decide)
     have z1:=Int.emod_lt_of_pos (c / 72) (show (0:Int) < 2 by decide)
     k_upd
     exact ⟨(c / 72 % 2).toNat,by omega,by omega⟩
    obtain ⟨kd,ekd,hkd,hcode⟩:=AY k2 hk2
    have ecd:bO ls lv kd=cd:=by
     rw [hcode,←hcd,ek2]
     k_upd
     split<;>split<;>first | rfl | omega
    rw [Int.zero_add,←ek2] at ekd
    have hbC:=hbB.same sC
    have spB:=hcg.speed (af (aH ds ls (ax ds.length)) rsB)
    k_upd
    refine ⟨_,SqL.of eC,_,ekd,_,_,_,_,_,_,_,_,_,rfl,hbC.wk,by show ls.length<=1000;omega,hnB.wl.symm,hsh,hnB.gl,lc,spB.1,spB.2,hkd,fun z=>absurd ⟨lv0,lv1⟩ z,fun _ _ z=>(by rw [opB] at z;cases z),fun _ _ _ z=>absurd (by rw [eeB];show Eng.armed lv cd=.armed lv (bO ls lv kd);rw [ecd]) z,fun _ _ _ _=>⟨fun z=>absurd z (by omega),fun _ HD kD hWD=>?_⟩⟩
    have oB:eH (bb ds ls slow fast (ax ds.length) fun q=>q=dl\/q=ly) (af (aH ds ls (ax ds.length)) rsB) (.wind (c / 36 % 2) lv kd)=none:=ui lv0 lv1 opB (by rw [eeB];show Eng.armed lv cd=.armed lv (bO ls lv kd);rw [ecd])
    have hbD:=hbC.deed kD hWD (show u9 (.wind (c / 36 % 2) lv kd) from ⟨⟨by omega,by omega⟩,hkd⟩) oB rfl rfl
    have sD:=aw.keeps (sB.trans sC) kD frl
    have wD:=bP (aH ds ls (ax ds.length)) rsB (bD (bb ds ls slow fast (ax ds.length) fun q=>q=dl\/q=ly) (aH ds ls (ax ds.length)) rsB (.wind (c / 36 % 2) lv kd))
    have tD:oT (bb ds ls slow fast (ax ds.length) fun q=>q=dl\/q=ly) (af (aH ds ls (ax ds.length)) rsB) (.wind (c / 36 % 2) lv kd)=mR (yx (fM ds (c / 36 % 2) lv - (af (aH ds ls (ax ds.length)) rs9).place)) (cT (bb ds ls slow fast (ax ds.length) fun q=>q=dl\/q=ly) (af (aH ds ls (ax ds.length)) rsB)):=by rw [←ppB];rfl
    have ppD:(af (aH ds ls (ax ds.length)) (rsB++[bD (bb ds ls slow fast (ax ds.length) fun q=>q=dl\/q=ly) (aH ds ls (ax ds.length)) rsB (.wind (c / 36 % 2) lv kd)])).place=fM ds (c / 36 % 2) lv:=by rw [wD];rfl
    have wwD:(af (aH ds ls (ax ds.length)) (rsB++[bD (bb ds ls slow fast (ax ds.length) fun q=>q=dl\/q=ly) (aH ds ls (ax ds.length)) rsB (.wind (c / 36 % 2) lv kd)])).ws=(af (aH ds ls (ax ds.length)) rsB).ws:=by rw [wD];rfl
    have ggD:(af (aH ds ls (ax ds.length)) (rsB++[bD (bb ds ls slow fast (ax ds.length) fun q=>q=dl\/q=ly) (aH ds ls (ax ds.length)) rsB (.wind (c / 36 % 2) lv kd)])).gates=(af (aH ds ls (ax ds.length)) rs9).gates:=by rw [wD];exact ggB
    have lnD:(rsB++[bD (bb ds ls slow fast (ax ds.length) fun q=>q=dl\/q=ly) (aH ds ls (ax ds.length)) rsB (.wind (c / 36 % 2) lv kd)]).length=rsB.length+1:=by rw [List.length_append,List.length_singleton]
    generalize htk:oT (bb ds ls slow fast (ax ds.length) fun q=>q=dl\/q=ly) (af (aH ds ls (ax ds.length)) rsB) (.wind (c / 36 % 2) lv kd)=tk at *
    have hnD':=(hbD.run.snap hcg (hU.snap _))
    generalize hrD:rsB++[bD (bb ds ls slow fast (ax ds.length) fun q=>q=dl\/q=ly) (aH ds ls (ax ds.length)) rsB (.wind (c / 36 % 2) lv kd)]=rsD at *
    have hnD:(af (aH ds ls (ax ds.length)) rsD).ws.length=2 * ds.length:=by rw [hnD'.wl];show ((ax ds.length).map _).length=_;rw [List.length_map,c3]
    k_mem
    have nl2:(0:Nat) < ds.length:=by omega
    have hdD:HD dl=some (.lst (ds.map V.int)):=hbD.hd
    k_upd
    refine ⟨_,SqL.of hdD,_,ck (ns:=ds) lv0 lv1,_,SqL.of hdD,_,rX nl2,_,SqL.of hdD,_,ck (ns:=ds) lv0 lv1,?_⟩
    k_mem
    refine ⟨by decide,fun pE hpE=>?_⟩
    (generalize hE:upd HD pE _=HE at *;have sE:=dO hE hpE;have eE:=cn hE;clear hE)
    have hbE:=hbD.same sE
    k_upd
    refine ⟨_,SqL.of eE,_,two_deep (by omega) (by omega),?_⟩
    generalize hwf:(if c / 36 % 2=0 then ds.getD lv.toNat 0 else bX ds - ds.getD lv.toNat 0)=gl at *
    have hgl:fM ds (c / 36 % 2) lv=gl:=hwf
    rw [hgl] at ppD tD
    rw [hp9] at tD
    dsimp only [Bn,ip,oK,tC,tCB,yM,wq,ud,ue,wo,wm,σS,σ0,σN]
    k_upd
    refine ⟨_,.inl (SqL.of hbE.hl),_,_,_,_,rfl,uo.two (by rw [List.length_map,hnD];omega),?_⟩
    rw [List.length_map,hnD,show (2 * ds.length+1) / 2=ds.length by omega]
    refine r6 ds.length (fun i acc H'=>H'=HE/\acc=((List.range i).filter (fun k=>decide (10<=(af (aH ds ls (ax ds.length)) rsD).ws.getD (2 * k) 0))).map fun (k:Nat)=>V.int (0+(k:Int) * 2)) ⟨rfl,rfl⟩ (fun i _ _ hi _=>hi) (fun _ _ _=>Nat.le_refl _) ?_ ?_
    ·rintro i acc H' hi ⟨rfl,rfl⟩
     k_upd
     refine ⟨by rw [List.length_map,sizeLine_eq];have:=List.length_filter_le (fun k=>decide (10<=(af (aH ds ls (ax ds.length)) rsD).ws.getD (2 * k) 0)) (List.range i);rw [List.length_range] at this;omega,fun x H2 y M hM=>?_⟩
     obtain ⟨e,y⟩:=y
     subst e y
     k_upd
     refine ⟨ym rfl,?_⟩
     k_mem
     refine ⟨_,SqL.of hbE.hl,_,ck (by omega) (by rw [hnD];omega),?_⟩
     k_mem
     rw [show (0+(i:Int) * 2).toNat=2 * i by omega]
     have hM2:=fun acc' h=>hM acc' H2 ⟨rfl,h⟩
     rw [List.range_succ,List.filter_append,List.map_append] at hM2
     k_upd
     split
     ·rename_i h
      k_upd
      refine hM2 _ ?_
      rw [List.filter_cons_of_pos (by simpa using h)]
      rfl
     ·rename_i h
      k_upd
      refine hM2 _ ?_
      rw [List.filter_cons_of_neg (by simpa using h)]
      simp
    rintro acc H' ⟨rfl,rfl⟩ pF hpF
    (generalize hE:upd H' pF _=HF at *;have sF:=dO hE hpF;have eF:=cn hE;clear hE)
    k_mem
    refine ⟨by decide,fun pG hpG=>?_⟩
    (generalize hE:upd HF pG _=HG at *;have sG:=dO hE hpG;have eG:=cn hE;clear hE)
    k_upd
    refine ⟨by decide,fun pI hpI=>?_⟩
    (generalize hE:upd HG pI _=HI at *;have sI:=dO hE hpI;have eI:=cn hE;clear hE)
    k_upd
    refine ⟨_,SqL.of ((sG.trans sI) _ _ eF),_,SqL.of eI,by rw [List.all_map];exact List.all_eq_true.mpr fun _ _=>rfl,rfl,_,SqL.of (sI _ _ eG),?_⟩
    have hsv:atI [V.int slow,V.int fast] (if eqL (((List.range ds.length).filter (fun k=>decide (10<=(af (aH ds ls (ax ds.length)) rsD).ws.getD (2 * k) 0))).map fun (k:Nat)=>V.int (0+(k:Int) * 2)) []=true then 1 else 0)=some (.int (cT (bb ds ls slow fast (ax ds.length) fun q=>q=dl\/q=ly) (af (aH ds ls (ax ds.length)) rsB))):=by
     have hm:=El hnD (fun z hz=>by have:=hnD'.wr z hz;have e:((bb ds ls slow fast (ax ds.length) fun q=>q=dl\/q=ly).ds.length:Int)=ds.length:=rfl;omega)
     rw [wI]
     rw [wwD] at hm ⊢
     unfold cT
     by_cases hb:oS ((ax ds.length).map (·.1)) (af (aH ds ls (ax ds.length)) rsB).ws=true
     ·rw [if_pos (show oS (bb ds ls slow fast (ax ds.length) fun q=>q=dl\/q=ly).ks (af (aH ds ls (ax ds.length)) rsB).ws=true from hb),decide_eq_false (fun z=>by rw [List.map_eq_nil_iff] at z;rw [hm.mp z] at hb;cases hb)]
      rfl
     ·rw [if_neg (show ¬oS (bb ds ls slow fast (ax ds.length) fun q=>q=dl\/q=ly).ks (af (aH ds ls (ax ds.length)) rsB).ws=true from hb),decide_eq_true (by rw [List.map_eq_nil_iff];exact hm.mpr (by simpa using hb))]
      rfl
    generalize cT (bb ds ls slow fast (ax ds.length) fun q=>q=dl\/q=ly) (af (aH ds ls (ax ds.length)) rsB)=sp at *
    have hab:yx (gl - (af (aH ds ls (ax ds.length)) rs).place)<=tk * sp:=by rw [tD,Int.mul_comm];exact xp spB.1
    have hab2:(tk - 1) * sp < yx (gl - (af (aH ds ls (ax ds.length)) rs).place):=by rw [tD];exact xD spB.1
    unfold yx at hab hab2
    k_upd
    refine ⟨_,hsv,_,rfl,?_⟩
    k_mem
    refine ⟨_,rfl,?_⟩
    k_mem
    rw [show gu rsB+tk - gu rsB=tk by omega]
    k_upd
    refine ⟨.inr ⟨by omega,by omega⟩,?_⟩
    k_upd
    rw [if_neg (Int.not_lt.mpr hab)]
    refine zq ?_ fun hT _=>⟨.inr ⟨by omega,by omega⟩,by rw [if_neg (Int.not_le.mpr hab2)];exact hT⟩
    clear hab hab2 hsv tD hnD
    k_upd
    refine ⟨by decide,fun pJ hpJ=>?_⟩
    (generalize hE:upd HI pJ _=HJ at *;have sJ:=dO hE hpJ;have eJ:=cn hE;clear hE)
    k_upd
    refine ⟨_,SqL.of eJ,_,ekd,by decide,fun pK hpK=>?_⟩
    (generalize hE:upd HJ pK _=HK at *;have sK:=dO hE hpK;have eK:=cn hE;clear hE)
    k_upd
    refine ⟨by decide,fun pL hpL=>?_⟩
    (generalize hE:upd HK pL _=HL at *;have sL:=dO hE hpL;have eL:=cn hE;clear hE)
    have sEL:=((((sF.trans sG).trans sI).trans sJ).trans sK).trans sL
    have hbL:=hbE.same sEL
    have hlen':rsD.length<=1000:=by omega
    obtain ⟨dxL,dlL,glL,hobL,_⟩:=id hbL.wk.ob
    k_upd
    refine mgo hobL rfl ⟨_,_,_,_,_,_,rfl,hbL.wk,hlen',fun pM as HM hpM sM eM hTM=>?_⟩
    have hTM2:=hTM
    rw [←hrD] at hTM2
    obtain ⟨asM,aM,rfl,_,hrM⟩:=hTM2.last
    have hrow:lT K HM pL (bD (bb ds ls slow fast (ax ds.length) fun q=>q=dl\/q=ly) (aH ds ls (ax ds.length)) rsB (.wind (c / 36 % 2) lv kd)):=⟨pK,by
     have:=sM.tup (SqT.of (K:=K) eL)
     rw [←htk] at this
     exact this,sM.tup (SqT.of (sL _ _ eK))⟩
    k_mem
    refine ⟨_,SqL.of eM,_,z7,?_⟩
    k_mem
    refine ⟨_,_,_,rfl,rn hrM ⟨.wind (c / 36 % 2) lv kd,rfl⟩,rn hrow ⟨.wind (c / 36 % 2) lv kd,rfl⟩,fun HN sN=>?_⟩
    have hbN:=hbL.same (sM.trans sN)
    obtain ⟨dxN,dlN,glN,hobN,_⟩:=id hbN.wk.ob
    k_mem
    have enow:gu rsD=gu rsB+tk:=by rw [←hrD,mQ,←htk];rfl
    k_upd
    refine mgo hobN rfl ⟨_,_,_,_,_,_,rfl,hbN.wk,?_⟩
    rw [enow]
    k_upd
    refine ⟨_,_,.flat (.int _),rfl,.flat rfl,.flat rfl,fun HO1 sO=>?_⟩
    have hbO:=hbN.same sO
    obtain ⟨dxO,dlO,glO,hobO,_⟩:=id hbO.wk.ob
    k_mem
    refine mgo hobO rfl ⟨_,_,_,_,_,_,rfl,hbO.wk,nl2,fun pP hpP=>?_⟩
    (generalize hE:upd HO1 pP _=HP at *;have sP:=dO hE hpP;have eP:=cn hE;clear hE)
    k_upd
    refine ⟨_,SqL.of (sP _ _ hbO.hd),_,rX nl2,?_⟩
    k_mem
    refine ⟨by decide,fun pR hpR=>?_⟩
    (generalize hE:upd HP pR _=HR at *;have sR:=dO hE hpR;have eR:=cn hE;clear hE)
    rw [ppD] at eP
    k_upd
    refine ⟨_,_,.tup [.flat (.int _),.flat (.int _)],rfl,iq (SqT.of (sR _ _ eP)) (by show 2<=100000;decide) (lV rfl rfl),iq (SqT.of eR) (by show 2<=100000;decide) (lV rfl rfl),fun HS sS=>?_⟩
    k_mem
    have sDS:=((((((sE.trans sEL).trans sM).trans sN).trans sO).trans sP).trans sR).trans sS
    k_upd
    refine ⟨rsD,sD.trans sDS,hbD.same sDS,fun j=>by rw [ggD];exact hg9 j,by omega,?_⟩
    rw [ppD]
    k_upd
    exact ⟨_,_,_,_,_,_,_,_,_,_,_,rfl⟩
   ·rintro σ H8 ⟨rs,s8,hb8,hg8,hl8,b0,b1,b2,b3,b4,b5,b6,b7,b8,b9,b10,rfl⟩
    obtain ⟨dxe,dle,gle,hobe,_⟩:=id hb8.wk.ob
    k_mem
    refine mgo hobe rfl ⟨_,_,_,_,_,_,rfl,hb8.wk,by show 0 < ds.length;omega,fun pa hpa=>?_⟩
    (generalize hE:upd H8 pa _=Ha at *;have sa:=dO hE hpa;have ea:=cn hE;clear hE)
    k_upd
    refine ⟨_,SqL.of (sa _ _ hb8.hd),_,rX (by show 0 < ds.length;omega),?_⟩
    k_mem
    refine ⟨by decide,fun pb hpb=>?_⟩
    (generalize hE:upd Ha pb _=Hb at *;have sb:=dO hE hpb;have eb:=cn hE;clear hE)
    k_upd
    refine ⟨_,_,.tup [.flat (.int _),.flat (.int _)],rfl,iq (SqT.of (sb _ _ ea)) (by show 2<=100000;decide) (lV rfl rfl),iq (SqT.of eb) (by show 2<=100000;decide) (lV rfl rfl),fun Hc sc=>?_⟩
    k_mem
    have hbc:=hb8.same ((sa.trans sb).trans sc)
    obtain ⟨dxf,dlf,glf,hobf,_⟩:=id hbc.wk.ob
    k_upd
    refine mgo hobf rfl ⟨_,_,_,_,_,_,rfl,hbc.wk,fun pd hpd=>?_⟩
    (generalize hE:upd Hc pd _=Hd at *;have sd:=dO hE hpd;have ed:=cn hE;clear hE)
    have hwl:=(hbc.run.snap (hU.cfg _) (hU.snap _)).wl
    have hk30:=(hU.cfg (fun q=>q=dl\/q=ly)).k30
    k_upd
    refine ⟨_,_,.lst ((_:List Int).map V.int |>.map Dt.flat),rfl,t9 (SqL.of ed) (by omega),t9 (SqL.of (sd _ _ hbc.hl)) (by omega),fun He se=>?_⟩
    k_upd
    exact q He
 refine seg 1 (ae (aV (ee (cF (ft (dc0 je hr.dn (pa2 (pv' 0) ai)) ai) ai) ai) (ae (aD (i:=1) bQ.nd rfl orL (aP lX (aP lX (cv (pa1 ai)) (tQ ur (pv' 1) (lY ai) (lY (lK fq ai)))) (cv (pa1 ai)))) (ae (aD (i:=3) bQ.nd rfl orL (aQ aA (cv (pa3 ai ai ai)) (cF (ft (dc0 je hr.dn (pa2 (pv' 0) ai)) ai) ai))) (ag (aD (i:=4) bQ.nd rfl orL ai)))) (aC)) h1) fun zt1 zh1 ze1=>?_
 refine ⟨_,ae (mH (dc0 ki hr.dn (pa1 (pv' 0))) (AI rfl (aJ (aG (i:=1) bQ.nd rfl orL) (aJ (aG (i:=2) bQ.nd rfl orL) (aJ (aG (i:=3) bQ.nd rfl orL) (aJ (aG (i:=4) bQ.nd rfl orL) dP)))))) zh1,?_⟩
 k_mem
 refine ⟨a,ns,rfl,hS,fun p dl cl ds as0 ls slow fast H1 s1 hpn hdn hcn ndc hp hdl hsh hcl hT hlen hgd hsp=>?_⟩
 have l2:=hsh.l2
 have l6:=hsh.l6
 k_mem
 refine ⟨_,SqL.of hp,rfl,?_⟩
 k_mem
 refine ⟨a,ns,0,rfl,s1.seq hS,by decide,?_⟩
 k_mem
 split
 ·rename_i h7
  k_upd
  refine ⟨by decide,fun p1 hp1=>?_⟩
  (generalize hE:upd H1 p1 _=H2 at *;have s2:=dO hE hp1;have e2:=cn hE;clear hE)
  k_upd
  refine ⟨_,SqL.of (s2 _ _ hdl),fun p2 hp2=>?_⟩
  (generalize hE:upd H2 p2 _=H3 at *;have s3:=dO hE hp2;have e3:=cn hE;clear hE)
  k_upd
  refine ⟨_,s3 _ _ e2,_,e3,?_,fun p3 hp3=>?_⟩
  ·have:=eA (List.map V.int ds) (some 1) (some (-1))
   rw [List.length_map] at this
   exact Nat.le_of_lt (cX (by rw [List.length_singleton];omega))
  (generalize hE:upd H3 p3 _=H4 at *;have s4:=dO hE hp3;have e4:=cn hE;clear hE)
  k_upd
  refine ⟨by decide,fun p4 hp4=>?_⟩
  (generalize hE:upd H4 p4 _=H5 at *;have s5:=dO hE hp4;have e5:=cn hE;clear hE)
  k_upd
  refine ⟨_,s5 _ _ e4,_,e5,?_,fun p5 hp5=>?_⟩
  ·have:=eA (List.map V.int ds) (some 1) (some (-1))
   rw [List.length_map] at this
   exact Nat.le_of_lt (cX (by rw [List.length_append,List.length_singleton,List.length_singleton];omega))
  (generalize hE:upd H5 p5 _=H6 at *;have s6:=dO hE hp5;have e6:=cn hE;clear hE)
  k_upd
  refine ⟨by decide,fun p6 hp6=>?_⟩
  (generalize hE:upd H6 p6 _=H7 at *;have s7:=dO hE hp6;have e7:=cn hE;clear hE)
  have s17:=((((s2.trans s3).trans s4).trans s5).trans s6).trans s7
  k_upd
  refine ⟨a,ns,0,rfl,(s1.trans s17).seq hS,by decide,?_⟩
  k_mem
  have m0:=Int.emod_nonneg (ns.getD (0:Int).toNat 0 / 16) (show (3:Int)≠0 by decide)
  have m1:=Int.emod_lt_of_pos (ns.getD (0:Int).toNat 0 / 16) (show (0:Int) < 3 by decide)
  obtain ⟨sp,hsp3,esp⟩:=xf (x:=500) (y:=499) (z:=250) (i:=ns.getD (0:Int).toNat 0 / 16 % 3) (by omega)
  k_upd
  refine ⟨_,SqL.of e7,_,esp,?_⟩
  k_mem
  have e6':H7 p5=some (.lst (([0]++(ds.drop 1).take (ds.length - 1 - 1)++[500]).map V.int)):=by
   rw [s7 _ _ e6,tX ds hsh.l2,List.map_append,List.map_append]
   rfl
  have nlen:([0]++(ds.drop 1).take (ds.length - 1 - 1)++[500]:List Int).length=ds.length:=by
   rw [List.length_append,List.length_append,List.length_take,List.length_drop,List.length_singleton,List.length_singleton];omega
  have ncl:p5≠cl:=fun z=>by
   have:=(((s2.trans s3).trans s4).trans s5) _ _ hcl
   rw [←z,hp5] at this;cases this
  exact k1 p5 cl _ as0 ls sp 500 H7 (s1.trans s17) ncl e6' hsh.ends (s17 _ _ hcl) (hT.same s17) (by rw [nlen];exact hlen) hgd (by omega)
 ·rename_i h7
  exact k1 dl cl ds as0 ls slow fast H1 s1 ndc hdl hsh hcl hT hlen hgd hsp
include T iH je kh cV fC ez fD ki cA fE dX fF dk gL in
theorem CY:FF P w K mg base CX0 8 "law" "law" mq ze (qk K Z):=(CW T iH je kh cV fC ez fD ki cA fE dX fF dk gL).calm fun vs H Q E h=>h
end
theorem CZ {l:W.OpenLaw}{w:World}{K:W.Frag}{h:Heap}{mg:Str->Option Value}{fa:Addr}(X:K.In h)(G:h.Ns mainGlobals mg)(hfa:mg "law"=some (.ref fa)){C0 C1 C2 C3 C4 C5 C6 C7 C8 C9 C10 C11 C12 C13 C14 C15 C16 C17 C18 C19 C20 C21 C22:Addr}{ta_KINDS:Addr}{tk_KINDS_0 tk_KINDS_1:Tok}{tn_KINDS:Nat}{ts_KINDS:Array (Option Value)}{ta_CAGE_SPOTS:Addr}{tk_CAGE_SPOTS_0 tk_CAGE_SPOTS_1:Tok}{to_CAGE_SPOTS:Option Addr}{tn_CAGE_SPOTS:Nat}{ts_CAGE_SPOTS:Array (Option Value)}(fx:Bu K C0 C1 C2 C3 C4 C5 C6 C7 C8 C9 C10 C11 C12 C13 C14 C15 C16 C17 C18 C19 C20 C21 C22 ta_KINDS tk_KINDS_0 tk_KINDS_1 tn_KINDS ts_KINDS ta_CAGE_SPOTS tk_CAGE_SPOTS_0 tk_CAGE_SPOTS_1 to_CAGE_SPOTS tn_CAGE_SPOTS ts_CAGE_SPOTS)
 : ∃Z:Adr,∃fd:FuncData,(∀(s:Shared) (v:Value),BindsTo s fd ⟨[v],[]⟩ [("_law_script",v)])/\∀base:Heap,K.In base->base.Ns mainGlobals mg->fo l.prog w K mg base CX0 8 fa fd ["_law_script"] (qk K Z):=by
 obtain ⟨z_len,z_list,z_enumerate,z_zip,z_range,z_abs,z_isinstance,z_int,z_bool,z_tuple,z_str,z_min,m0,m1,m2,m3,m4,m5,m6,m7,m8,m9,m10,m11,m12,m13,m14,m15,m16,m17,m18,m19,m20,m21,m22,n_MOST_LOADS,n_FEWEST_STROKES,n_MOST_STROKES,n_FEWEST_LEVELS,n_MOST_LEVELS,n_GREATEST_DEPTH,n_GREATEST_SPEED,n_MOST_DEEDS,n_KINDS,lt_KINDS,n_CAGE_SPOTS,lt_CAGE_SPOTS,cl18,na18_kinds,na18_where,na18_many,cl19,na19_codes,na19_failed,na19_state,cl20,na20_place,na20_opened,na20_bells,na20_yard,cl21,na21_first,na21_most,na21_rows,cl22,na22_depths,na22_slow,na22_fast,na22_goals,na22_log,l0,x0,x1,x2,x3,x4,x5,x6,x7,x8,x9,x10,x11,x12,x13,x14,x15,x16,d0,d1,d2,d3,d4,d5,d6,d7,d8,d9,d10,d11,d12,d13,d14,d15,d16,d17,d18,d19,d20,d21,d22,d23,d24,d25,d26,d27,d28,d29,d30,d31,d32,d33,d34,d35,d36,d37,d38,d39,d40,d41,d42,d43,d44,d45,d46,d47,d48,d49,d50,d51,d52,d53,d54,d55,d56,d57,d58,d59,d60,d61,d62⟩:=fx
 obtain ⟨f0,_,b0,F0⟩:=d0
 obtain ⟨f1,_,b1,F1⟩:=d1
 obtain ⟨f2,_,b2,F2⟩:=d2
 obtain ⟨f3,_,b3,F3⟩:=d3
 obtain ⟨f4,_,b4,F4⟩:=d4
 obtain ⟨f5,_,b5,F5⟩:=d5
 obtain ⟨f6,_,b6,F6⟩:=d6
 obtain ⟨f7,_,b7,F7⟩:=d7
 obtain ⟨f8,_,b8,F8⟩:=d8
 obtain ⟨f9,_,b9,F9⟩:=d9
 obtain ⟨f10,_,b10,F10⟩:=d10
 obtain ⟨f11,_,b11,F11⟩:=d11
 obtain ⟨f12,_,b12,F12⟩:=d12
 obtain ⟨f13,_,b13,F13⟩:=d13
 obtain ⟨f14,_,b14,F14⟩:=d14
 obtain ⟨f15,_,b15,F15⟩:=d15
 obtain ⟨f16,_,b16,F16⟩:=d16
 obtain ⟨f17,_,b17,F17⟩:=d17
 obtain ⟨f18,_,b18,F18⟩:=d18
 obtain ⟨f19,_,b19,F19⟩:=d19
 obtain ⟨f20,_,b20,F20⟩:=d20
 obtain ⟨f21,_,b21,F21⟩:=d21
 obtain ⟨f22,_,b22,F22⟩:=d22
 obtain ⟨f23,_,b23,F23⟩:=d23
 obtain ⟨f24,_,b24,F24⟩:=d24
 obtain ⟨f25,_,b25,F25⟩:=d25
 obtain ⟨f26,_,b26,F26⟩:=d26
 obtain ⟨f27,_,b27,F27⟩:=d27
 obtain ⟨f28,_,b28,F28⟩:=d28
 obtain ⟨f29,_,b29,F29⟩:=d29
 obtain ⟨f30,_,b30,F30⟩:=d30
 obtain ⟨f31,_,b31,F31⟩:=d31
 obtain ⟨f32,_,b32,F32⟩:=d32
 obtain ⟨f33,_,b33,F33⟩:=d33
 obtain ⟨f34,_,b34,F34⟩:=d34
 obtain ⟨f35,_,b35,F35⟩:=d35
 obtain ⟨f36,_,b36,F36⟩:=d36
 obtain ⟨f37,_,b37,F37⟩:=d37
 obtain ⟨f38,_,b38,F38⟩:=d38
 obtain ⟨f39,_,b39,F39⟩:=d39
 obtain ⟨f40,_,b40,F40⟩:=d40
 obtain ⟨f41,_,b41,F41⟩:=d41
 obtain ⟨f42,_,b42,F42⟩:=d42
 obtain ⟨f43,_,b43,F43⟩:=d43
 obtain ⟨f44,_,b44,F44⟩:=d44
 obtain ⟨f45,_,b45,F45⟩:=d45
 obtain ⟨f46,_,b46,F46⟩:=d46
 obtain ⟨f47,_,b47,F47⟩:=d47
 obtain ⟨f48,_,b48,F48⟩:=d48
 obtain ⟨f49,_,b49,F49⟩:=d49
 obtain ⟨f50,_,b50,F50⟩:=d50
 obtain ⟨f51,_,b51,F51⟩:=d51
 obtain ⟨f52,_,b52,F52⟩:=d52
 obtain ⟨f53,_,b53,F53⟩:=d53
 obtain ⟨f54,_,b54,F54⟩:=d54
 obtain ⟨f55,_,b55,F55⟩:=d55
 obtain ⟨f56,_,b56,F56⟩:=d56
 obtain ⟨f57,_,b57,F57⟩:=d57
 obtain ⟨f58,_,b58,F58⟩:=d58
 obtain ⟨f59,_,b59,F59⟩:=d59
 obtain ⟨f60,_,b60,F60⟩:=d60
 obtain ⟨f61,_,b61,F61⟩:=d61
 obtain ⟨f62,_,b62,F62⟩:=d62
 have e:=hfa.symm.trans (W.mg_of X G b62)
 cases e
 obtain ⟨oc,od,kV,dc,pm,an,cd,ct,sl,rfl,ll,cc⟩:=F62.ex
 let Z:Adr:=⟨C0,C1,C2,C3,C4,C5,C6,C7,C8,C9,C10,C11,C12,C13,C14,C15,C16,C17,C18,C19,C20,C21,C22,ta_KINDS,ta_CAGE_SPOTS⟩
 refine ⟨Z,W.fnOf "law" "law" (cE mq) (bI mq) (aj mq) .none kV dc pm an cd ct,fun s v=>.of_eq rfl,fun base _ _=>?_⟩
 have T:Txt l.prog w K mg base Z:=⟨W.mg_none_of X G z_len,W.mg_none_of X G z_list,W.mg_none_of X G z_enumerate,W.mg_none_of X G z_zip,W.mg_none_of X G z_range,W.mg_none_of X G z_abs,W.mg_none_of X G z_isinstance,W.mg_none_of X G z_int,W.mg_none_of X G z_bool,W.mg_none_of X G z_tuple,W.mg_none_of X G z_str,W.mg_none_of X G z_min,KI.txt X G n_MOST_LOADS,KI.txt X G n_FEWEST_STROKES,KI.txt X G n_MOST_STROKES,KI.txt X G n_FEWEST_LEVELS,KI.txt X G n_MOST_LEVELS,KI.txt X G n_GREATEST_DEPTH,KI.txt X G n_GREATEST_SPEED,KI.txt X G n_MOST_DEEDS,⟨_,W.mg_of X G n_KINDS,rfl⟩,fun H=>.inr ⟨_,_,_,lt_KINDS,rfl,rfl,(by show 2<=sizeLine;decide),.cons ⟨_,rfl⟩ (.cons ⟨_,rfl⟩ .nil)⟩,⟨_,lt_KINDS,rfl,rfl⟩,⟨_,W.mg_of X G n_CAGE_SPOTS,rfl⟩,fun H=>.inr ⟨_,_,_,lt_CAGE_SPOTS,rfl,rfl,(by show 2<=sizeLine;decide),.cons ⟨_,rfl⟩ (.cons ⟨_,rfl⟩ .nil)⟩,W.mg_of X G m0,W.mg_of X G m1,W.mg_of X G m2,W.mg_of X G m3,W.mg_of X G m4,W.mg_of X G m5,W.mg_of X G m6,W.mg_of X G m7,W.mg_of X G m8,W.mg_of X G m9,W.mg_of X G m10,W.mg_of X G m11,W.mg_of X G m12,W.mg_of X G m13,W.mg_of X G m14,W.mg_of X G m15,W.mg_of X G m16,W.mg_of X G m17,W.mg_of X G m18,W.mg_of X G m19,W.mg_of X G m20,W.mg_of X G m21,W.mg_of X G m22,cl18,na18_kinds,na18_where,na18_many,cl19,na19_codes,na19_failed,na19_state,cl20,na20_place,na20_opened,na20_bells,na20_yard,cl21,na21_first,na21_most,na21_rows,cl22,na22_depths,na22_slow,na22_fast,na22_goals,na22_log,(x0 l0).ex,x0 l0,(x1 l0).ex,x1 l0,(x2 l0).ex,x2 l0,(x3 l0).ex,x3 l0,(x4 l0).ex,x4 l0,(x5 l0).ex,x5 l0,(x6 l0).ex,x6 l0,(x7 l0).ex,x7 l0,(x8 l0).ex,x8 l0,(x9 l0).ex,x9 l0,(x10 l0).ex,x10 l0,(x11 l0).ex,x11 l0,(x12 l0).ex,x12 l0,(x13 l0).ex,x13 l0,(x14 l0).ex,x14 l0,(x15 l0).ex,x15 l0,(x16 l0).ex,x16 l0⟩
 have D0:=KD.mk (W.mg_of X G b0) F0 F0.b2 (uG T)
 have D4:=KN.mk b4 F4 F4.b3 (tj T)
 have D7:=KM.mk cl18 b7 F7 F7.b1 (qH T)
 have D8:=KM.mk cl18 b8 F8 F8.b2 (oh T)
 have D9:=KM.mk cl18 b9 F9 F9.b1 (lz T)
 have D11:=KD.mk (W.mg_of X G b11) F11 F11.b1 (pW T)
 have D13:=KN.mk b13 F13 F13.b2 (qI T)
 have D18:=KD.mk (W.mg_of X G b18) F18 F18.b1 (oi T)
 have D19:=KD.mk (W.mg_of X G b19) F19 F19.b1 (qJ T)
 have D21:=KD.mk (W.mg_of X G b21) F21 F21.b2 (uH T)
 have D24:=KD.mk (W.mg_of X G b24) F24 F24.b2 (oj T)
 have D25:=KD.mk (W.mg_of X G b25) F25 F25.b2 (qK T)
 have D26:=KN.mk b26 F26 F26.b5 (nA T)
 have D28:=KN.mk b28 F28 F28.b3 (tm T)
 have D30:=KM.mk cl21 b30 F30 F30.b1 (uI T)
 have D31:=KM.mk cl21 b31 F31 F31.b1 (pY T)
 have D32:=KM.mk cl21 b32 F32 F32.b1 (tq T)
 have D52:=KD.mk (W.mg_of X G b52) F52 F52.b1 (vO T)
 have D53:=KD.mk (W.mg_of X G b53) F53 F53.b2 (AS T)
 have D54:=KD.mk (W.mg_of X G b54) F54 F54.b3 (xv T)
 have D55:=KD.mk (W.mg_of X G b55) F55 F55.b2 (vP T)
 have D60:=KD.mk (W.mg_of X G b60) F60 F60.b3 (AV T)
 have D1:=KD.mk (W.mg_of X G b1) F1 F1.b2 (pZ T D0)
 have D2:=KD.mk (W.mg_of X G b2) F2 F2.b2 (qL T D0)
 have D3:=KD.mk (W.mg_of X G b3) F3 F3.b2 (p8 T D0)
 have D12:=KD.mk (W.mg_of X G b12) F12 F12.b2 (p9 T D11)
 have D15:=KM.mk cl19 b15 F15 F15.b2 (om T D11)
 have D20:=KD.mk (W.mg_of X G b20) F20 F20.b2 (qa T D19)
 have D29:=KM.mk cl21 b29 F29 F29.b5 (qM T D30)
 have D43:=KM.mk cl22 b43 F43 F43.b2 (km T D9)
 have D45:=KM.mk cl22 b45 F45 F45.b2 (gw T D31)
 have D46:=KM.mk cl22 b46 F46 F46.b1 (tx T D30)
 have D47:=KM.mk cl22 b47 F47 F47.b1 (qN T D32)
 have D50:=KM.mk cl22 b50 F50 F50.b1 (qb T D7 D31)
 have D51:=KM.mk cl22 b51 F51 F51.b2 (nC T D8 D31)
 have D57:=KD.mk (W.mg_of X G b57) F57 F57.b1 (uJ T D54)
 have D58:=KD.mk (W.mg_of X G b58) F58 F58.b2 (vQ T D54)
 have D5:=KM.mk cl18 b5 F5 F5.b3 (tE T D8 D2)
 have D6:=KM.mk cl18 b6 F6 F6.b3 (uK T D8 D1)
 have D10:=KM.mk cl18 b10 F10 F10.b1 (tF T D4)
 have D14:=KM.mk cl19 b14 F14 F14.b3 (qO T D1)
 have D16:=KM.mk cl19 b16 F16 F16.b3 (tG T D1)
 have D17:=KM.mk cl19 b17 F17 F17.b1 (qP T D13)
 have D22:=KD.mk (W.mg_of X G b22) F22 F22.b3 (qe T D20)
 have D23:=KD.mk (W.mg_of X G b23) F23 F23.b2 (uL T D20)
 have D33:=KN.mk b33 F33 F33.b6 (qQ T D4 D13 D18 D24 D26 D28 D3 D12)
 have D42:=KM.mk cl22 b42 F42 F42.b4 (qh T D29 D43 D46)
 have D49:=KM.mk cl22 b49 F49 F49.b2 (j7 T D20)
 have D59:=KD.mk (W.mg_of X G b59) F59 F59.b1 (vR T D53 D54 D57 D58)
 have D27:=KM.mk cl20 b27 F27 F27.b1 (nD T D26 D10 D17)
 have D48:=KM.mk cl22 b48 F48 F48.b1 (qi T D31 D49)
 have D34:=KM.mk cl22 b34 F34 F34.b3 (qR T D31 D14 D42 D27)
 have D35:=KM.mk cl22 b35 F35 F35.b2 (oo T D31 D15 D42 D27)
 have D38:=KM.mk cl22 b38 F38 F38.b4 (lF T D31 D1 D42 D27)
 have D41:=KM.mk cl22 b41 F41 F41.b4 (qS T D25 D31 D1 D43 D16 D22 D23 D42 D27)
 have D44:=KM.mk cl22 b44 F44 F44.b2 (mE T D21 D48)
 have D56:=KD.mk (W.mg_of X G b56) F56 F56.b2 (xC T (W.mg_of X G b56) F56 F56.b2)
 have D36:=KM.mk cl22 b36 F36 F36.b2 (lG T D38)
 have D37:=KM.mk cl22 b37 F37 F37.b2 (lH T D38)
 have D39:=KM.mk cl22 b39 F39 F39.b3 (qT T D7 D31 D2 D45 D5 D42 D27 D44)
 have D40:=KM.mk cl22 b40 F40 F40.b2 (oq T D8 D31 D45 D6 D42 D27 D44)
 have D61:=KD.mk (W.mg_of X G b61) F61 F61.b6 (tH T D60 D36 D37 D39 D40)
 exact CY T D52 D53 D55 D46 D47 D50 D33 D59 D48 D34 D35 D41 D56 D61 _ _ F62
theorem xE {K:W.Frag}{Z:Adr}{H:Hp}{a:Addr}{ns:List Int}(hl:ns.length<=63)(hS:SqL K H a (ns.map V.int)){Q:VK}{E:XK}(q:∀H',Q (.bl true) H'):qk K Z [.ref a] H Q E:=⟨a,ns,rfl,hS,hl,q⟩
noncomputable def SPl (K:W.Frag):Sp:=fun vs H Q _=>∃(a:Addr) (ns:List Int),vs=[.ref a]/\SqL K H a (ns.map V.int)/\ns.length<=63/\∀H',Q (.bl true) H'
theorem EN {l:W.OpenLaw}{q:Program}{loose:List Str}{XP:(Str->Option Value)->Heap->Prop}{YP:World->Heap->Prop}{d:DefRec}{K:Params->W.Frag}(hn:l.most=some 63)(hdf:d.params.defaults=[])
  (hY:∀(w:World) (h:Heap),YP w h->(K w.params).In h)
  (F:∀(w:World) (mg:Str->Option Value) (fa:Addr) (h:Heap),(K w.params).In h->h.Ns mainGlobals mg->mg d.name=some (.ref fa)->
   ∃Z:Adr,∃fd:FuncData,(∀(s:Shared) (u:Value),BindsTo s fd ⟨[u],[]⟩ [("_law_script",u)])/\∀base:Heap,(K w.params).In base->base.Ns mainGlobals mg->fo l.prog w (K w.params) mg base CX0 8 fa fd ["_law_script"] (qk (K w.params) Z)) :
  W.WalkO q loose XP YP l.row.toRowW d [] (fun f vs=>PySem.call f vs):=
 L2.zS (n:=63) (k:=8) (x:="_law_script") (CX:=fun _=>CX0) (sp:=fun w=>SPl (K w.params)) hn (by decide) hdf ⟨rfl,by decide,by decide⟩ hY
  (fun w mg fa h a b c=>let ⟨Z,fd,b1,b2⟩:=F w mg fa h a b c;⟨fd,b1,fun base x y=>(b2 base x y).imp fun vs H Q E ⟨a,ns,e,hS,hl,q⟩=>by subst e;exact xE hl hS q⟩) (fun _ _ a ns hl _ hS=>⟨a,ns,rfl,hS,hl,fun _=>rfl⟩) fun _ _ _ _ _ z=>z
end K36
local macro_rules | `(tactic| walk_at "m_is") => `(tactic| (delta L2.Xm; kts_exm))
local macro_rules | `(tactic| walk_at "h_is") => `(tactic| (delta L2.Kt; kit_is))
local macro_rules | `(tactic| walk_at "n_is") => `(tactic| (delta L2.NI; k_is))
local macro_rules | `(tactic| walk_at "a_is") => `(tactic| (delta L2.aL; k_is))
local macro_rules | `(tactic| walk_at "i_is") => `(tactic| (apply L2.KI.mk; k_is))
local macro_rules | `(tactic| walk_at "c_is") => `(tactic| (apply L2.Cls.mk; iterate 4 k_is))
local macro_rules | `(tactic| walk_at "o_is") => `(tactic| (apply L2.C0I.mk; k_is; exact rfl; k_is; exact rfl; exact rfl))
local macro_rules | `(tactic| walk_at "x_is") => `(tactic| (apply L2.XI.mk; k_is; k_is; exact rfl; exact rfl; k_is; k_is))
local macro_rules | `(tactic| walk_at "d_is") => `(tactic| (apply L2.DI.mk; iterate 4 k_is))
local macro_rules | `(tactic| walk_at "e_is") => `(tactic| (apply L2.MI.mk; iterate 5 k_is))
local macro_rules | `(tactic| walk_at "t_is") => `(tactic| (apply L2.II.mk; iterate 7 k_is))
open PySem PySem.W PyProof.Rows
set_option maxRecDepth 100000 in
set_option maxHeartbeats 0 in
theorem PySem.Challenge.cw_cagebells_k36_whole_men_slowly_holds : PySem.Challenge.rw_cagebells_k36_whole_men_slowly.Holds := by
 refine hd ?_
 k_fill
 refine K36.EN (l:=PySem.Challenge.rw_cagebells_k36_whole_men_slowly) rfl rfl (fun w h Y=>W.kIn_of Y) ?F
 case F=>
  intro w mg fa h KX G hmg
  apply K36.CZ KX G hmg
  apply K36.Bu.mk
  iterate 12 k_is
  iterate 23 walk_at "n_is"
  iterate 8 walk_at "i_is"
  iterate 4 k_is
  walk_at "c_is"
  iterate 3 walk_at "a_is"
  walk_at "c_is"
  iterate 3 walk_at "a_is"
  walk_at "c_is"
  iterate 4 walk_at "a_is"
  walk_at "c_is"
  iterate 3 walk_at "a_is"
  walk_at "c_is"
  iterate 5 walk_at "a_is"
  walk_at "o_is"
  iterate 17 walk_at "x_is"
  iterate 4 walk_at "d_is"
  walk_at "t_is"
  iterate 6 walk_at "e_is"
  iterate 2 walk_at "d_is"
  walk_at "t_is"
  iterate 4 walk_at "e_is"
  iterate 8 walk_at "d_is"
  walk_at "t_is"
  walk_at "e_is"
  walk_at "t_is"
  iterate 4 walk_at "e_is"
  walk_at "t_is"
  iterate 18 walk_at "e_is"
  iterate 11 walk_at "d_is"
