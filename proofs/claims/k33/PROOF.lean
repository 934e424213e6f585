import PyProof.Rows.All
import OpenK.KLine
import KE.RegKIsAll
import KE.RegKTryMore
import Lean
import PyProof.EqAt
import PyProof.EqKinds
import PyProof.TupleCall
import KE.KTupSum
import KE.KItem
import PySem.Challenge.RW_cagebells_k33_whole_wind_just_where
set_option Elab.async false
set_option linter.all false
set_option maxRecDepth 100000
set_option compiler.extract_closed false
noncomputable abbrev JA:=PySem.W.Frag
theorem JB{α β}{l:List α}(f:α→β):(l.map f).length=l.length:=List.length_map f
namespace PySem.W.Fast
noncomputable abbrev T:=True
theorem t:T:=⟨⟩
def tw18151806234482304999:=t
def tw6902112737364599210:=t
def tw15967763439544321217:=t
def tw945728729929846408:=t
def tw861502493610598483:=t
def tw971581097139013665:=t
def tw6904879716082085867:=t
def tw7231104519341178198:=t
def tw6430397310068524805:=t
def tw16458534088629783329:=t
def tw5176576539398594111:=t
def tw9426560678742311164:=t
def tw7774113678449685934:=t
def tw13705001845696326735:=t
def tw13141224326027532124:=t
def tw264932986702033461:=t
def tw115167043885905223:=t
def tw18017129668781235815:=t
def tw15200899802018196936:=t
def tw17723881924890802966:=t
def tw9023412946914863120:=t
def tw6605169337270321112:=t
def tw15018716904364860632:=t
def tw14565471765716263578:=t
def tw983406267505308610:=t
def tw12145756527313086355:=t
def tw15279809834360698895:=t
def tw1168987126351306029:=t
def tw3507769193172341495:=t
def tw10388488172074580225:=t
def tw11589282660436910429:=t
def tw7766106395892283477:=t
def tw9385439782273163706:=t
def tw13813618637161013713:=t
def tw5037459499596335280:=t
def tw14637863174436434189:=t
def tw8924819469995637033:=t
def tw6594970650091316094:=t
def tw9399754086935153974:=t
def tw15895094517606616290:=t
def tw15287547289013875721:=t
def tw10368827614151553891:=t
def tw8857750881085090422:=t
def tw16691165463884887630:=t
def tw17261404542052806724:=t
def tw9189844046219409768:=t
def tw3603697650439363286:=t
def tw14710976976299594304:=t
def tw1207101557538958131:=t
def tw11662115353561507501:=t
def tw6733606326906232124:=t
def tw17558320327384617127:=t
def tw16506471722634982818:=t
def tw16531682779099013679:=t
def tw9358312197846296583:=t
def tw11368310244458860372:=t
def tw4015202173357781934:=t
def tw16109456028575089023:=t
def tw506581581156960101:=t
def tw18003772858949239459:=t
def tw11373181179767321252:=t
def tw17614877247268290040:=t
def tw2546767868308347339:=t
def tw9910136688757260964:=t
def tw5845002605336314091:=t
def tw2875624504187281209:=t
def tw5816495043963226922:=t
def tw3971525946579005399:=t
def tw5462360663327728810:=t
def tw11707130962622978684:=t
def tw10956520680868813917:=t
def tw4860023922305330110:=t
def tw5239429619861171699:=t
def tw10624116801336726872:=t
def tw5459702643516471331:=t
def tw16792556548410726896:=t
def tw16802631365582062104:=t
def tw6128106870883400570:=t
def tw14958820412457663293:=t
def tw6284410105664486691:=t
def tw11207431853666184334:=t
def tw15685335758407661847:=t
def tw4026147355466621588:=t
def tw15227483606004533461:=t
def tw16822532161544500889:=t
def tw3945831679567021610:=t
def tw10953238642706405951:=t
def tw7943549864190904611:=t
def tw4483904966330829159:=t
def tw15401437161963490237:=t
def tw14847308668706973960:=t
def tw11513857634932158529:=t
def tw3846801734645722302:=t
def tw12717557048674177747:=t
def tw1956260828630720203:=t
def tw17518593693041627797:=t
def tw14903569129155370506:=t
def tw3110587219445414310:=t
def tw13367274342830030513:=t
def tw1660798551392318424:=t
def tw14746253646979254834:=t
def tw2931988195819169919:=t
def tw890339118813698166:=t
def tw561727478393794602:=t
def tw7164969610272591079:=t
def tw6548459193220583526:=t
def tw7538781388859322016:=t
def tw9404705873571188630:=t
def tw1864683662541468164:=t
def tw12330612334027959195:=t
def tw7485256538410118956:=t
def tw15936768558149881340:=t
def tw12099505692703838030:=t
def tw16140922888777852060:=t
def tw2466311954974566718:=t
def tw15593559885672580101:=t
def tw10510019762269167821:=t
def tw17079817176256170043:=t
def tw8757050672659960515:=t
def tw9201617497623189827:=t
def tw8297923619242306668:=t
def tw12669407529647801677:=t
def tw3277229846650655979:=t
def tw13601115934706021691:=t
def tw16860917588515726111:=t
def tw7478123994339007903:=t
def tw6828597562223498359:=t
def tw8565224436197482051:=t
def tw17312402878845073609:=t
def tw4490611911172417597:=t
def tw6128145076113358165:=t
def tw15171223727094530161:=t
def tw15969335453137586327:=t
def tw10550934584343373414:=t
def tw17963105932079019327:=t
def tw12138319994727072339:=t
def tw6084841979344569690:=t
def tw1142673529048489019:=t
def tw17659185236578331656:=t
def tw12750670339961964742:=t
def tw1719895430356276633:=t
def tw8151759404152838978:=t
def tw17082689572870858151:=t
def tw3236729772642805936:=t
def tw8413399678365625193:=t
def tw1467881925912835984:=t
def tw15752536640612570366:=t
def tw7220529860990300233:=t
def tw12064304430848566033:=t
def tw4884199854448574:=t
def tw4993863958327201973:=t
def tw4333590680753393835:=t
def tw5467331546851215429:=t
def tw977512076041815475:=t
def tw17170472223608059050:=t
def tw17883462748017686043:=t
def tw12408111787983249662:=t
def tw10295913840692754127:=t
def tw6170744672141170255:=t
def tw17713387462200973399:=t
def tw18073898193381586223:=t
def tw1378205811072252300:=t
def tw15541240446876304647:=t
def tw6194202620331982285:=t
def tw16864618592142003386:=t
def tw4449297822257671152:=t
def tw10886659093417053267:=t
def tw6945566481307383155:=t
def tw17890440400047909864:=t
def tw9679390387850249182:=t
def tw12314708539913122752:=t
def tw8950108695139179302:=t
def tw14284835775768690865:=t
def tw3335794202401238526:=t
def tw2046362190076281809:=t
def tw5960047855520388891:=t
def tw1205604411410820431:=t
def tw2244103112122482387:=t
def tw3436067635600285980:=t
def tw18031968618487185184:=t
def tw10826640976665885199:=t
def tw9104974531708491489:=t
def tw424408320835691240:=t
def tw17382457898008728272:=t
def tw14546174082565282566:=t
def tw2810200551564342888:=t
def tw5832146486336120021:=t
def tw699815216081779126:=t
def tw4334401890000744311:=t
def tw3713540243193553862:=t
def tw18400553757987027518:=t
def tw9317495090193701157:=t
def tw384561282630992784:=t
def tw17823556299335049440:=t
def tw6880980288501444468:=t
def tw18333273249017474000:=t
def tw6472337539984862722:=t
def tw206757683497733573:=t
def tw694261584828832409:=t
def tw247591363613054380:=t
def tw2228412568605170491:=t
def tw13394580363473044415:=t
def tw17986951261819808105:=t
def tw16773468814595293053:=t
def tw16217903435359918192:=t
def tw6125853113672642322:=t
def tw8646635810480103244:=t
def tw757356599333046425:=t
def tw4102176305081739490:=t
def tw6329614223026926184:=t
def tw7607420049574824106:=t
def tw8185545411690514434:=t
def tw4598271963242535575:=t
def tw10341888390210383824:=t
def tw14689541978594310382:=t
def tw17613222154834848340:=t
def tw14170518179582410385:=t
def tw12549542988036985293:=t
def tw7001957589650049515:=t
def tw5306753302271460952:=t
def tw11095110211248682772:=t
def tw4290864757253303354:=t
def tw18105302477358141223:=t
def tw542563422162235373:=t
def tw4971374062829452455:=t
def tw727553628536289456:=t
def tw3831019782443316194:=t
def tw12369848792361866835:=t
def tw11853640710764476214:=t
def tw9584292182412213727:=t
def tw11212356425047092601:=t
def tw10988764466652934233:=t
def tw86012387029904805:=t
def tw13462424878891718212:=t
def tw11401859456886640639:=t
def tw8047209995159408440:=t
def tw14479964200598819128:=t
def tw10052031235695348791:=t
def tw14938211915633500526:=t
def tw13439652990877377571:=t
def tw11267315532378154396:=t
def tw4683681711962371626:=t
def tw18383651708701053236:=t
def tw12125097214300078407:=t
def tw3308634892276815127:=t
def tw10236332898609347644:=t
def tw13437419889732721216:=t
def tw18441984877410159329:=t
def tw18101783494082082527:=t
def tw12960429369202013873:=t
def tw12954591660760965231:=t
def tw7231845647793152400:=t
def tw3297117884562324255:=t
def tw12132732476715806282:=t
def tw8319933024895762948:=t
def tw15166322114958858414:=t
def tw10879749546641988924:=t
def tw1607123104830579860:=t
def tw9536688357841153863:=t
def tw8996207646774452837:=t
def tw8219003486749837733:=t
def tw8166255043249204926:=t
def tw7424060955962978353:=t
def tw4548300405975405348:=t
def tw4436474186459923750:=t
def tw3641951560692057861:=t
def tw3042748168174471775:=t
def tw18124618509676941091:=t
def tw17916429707943930468:=t
def tw17760279517084355780:=t
def tw17318462890700432884:=t
def tw16925712312323332580:=t
def tw14827714588952709054:=t
def tw14760874974797668852:=t
def tw12250869413391326473:=t
def tw1205274952441263945:=t
def tw11564986514327137767:=t
def tw17877845533520812795:=t
def tw17980500129456985241:=t
def tw10842938092177581297:=t
def tw9461873434466728008:=t
def tw1401067106901849026:=t
def tw9630203353718772412:=t
def tw1405720946626083897:=t
def tw17338325484393633139:=t
def tw8733291241859026926:=t
def tw14935467056822913822:=t
def tw3300257896294614128:=t
def tw16583815154217966991:=t
def tw7322748291113730364:=t
def tw7050804516273991350:=t
def tw9860861378791804195:=t
def tw87601786513091389:=t
def tw17271881437230615512:=t
def tw13996866031312336078:=t
def tw12382822922155266910:=t
def tw3075201292733833056:=t
def tw8176730645128964420:=t
def tw14904287247971174143:=t
def tw5537553045615171315:=t
def tw3543459598558145280:=t
def tw2941924889016668590:=t
def tw15402603294489630176:=t
def tw3239113980409921550:=t
def tw15254633091992210921:=t
def tw8002303944043701648:=t
def tw9689729476882780088:=t
def tw12770481643036789091:=t
def tw8157277791214410489:=t
def tw9972681490609642005:=t
def tw11468729153070441980:=t
def tw6526287140368922620:=t
def tw896239598344801917:=t
def tw9381626543082597023:=t
def tw15577281813014381367:=t
def tw11566098044289413073:=t
def tw2773992215795510196:=t
def tw16409965706819354750:=t
def tw4635989785427082552:=t
def tw8997383693586321770:=t
def tw11962351593759143498:=t
def tw7212858340449540239:=t
def tw5610444585433571239:=t
def tw3235425350174046738:=t
def tw11907897558876765624:=t
def tw2868442198168577507:=t
def tw8912161614967838395:=t
def tw18418582437962087742:=t
def tw4313010194945074917:=t
def tw3721919958574915784:=t
def tw1630143524128594353:=t
def tw1000662321505670351:=t
def tw9456574344343218679:=t
def tw7480016910919988345:=t
def tw5438652380644606353:=t
def tw15779231459743154856:=t
def tw13757698761724263525:=t
def tw12772213712371865176:=t
def tw3985964047577975286:=t
def tw9977182230042388008:=t
def tw9879335643197240621:=t
def tw6968137755033780318:=t
def tw5702276774652866934:=t
def tw2455152089536381482:=t
def tw2353497105660221152:=t
def tw1979317910248211280:=t
def tw17351735930882485243:=t
def tw16670775579421159206:=t
def tw16120054744476736488:=t
def tw13855379610559885079:=t
def tw12269216009862288129:=t
def tw11429584451438056573:=t
def tw7249310025045793396:=t
def tw6973427100653255629:=t
def tw539538531456391632:=t
def tw16151628708876355199:=t
def tw14961746396406840608:=t
def tw12528533614272120300:=t
def tw12681666616541194006:=t
def tw11512705759438076691:=t
def tw11692469974320434101:=t
def tw16522183678017940807:=t
def tw4413860948169739490:=t
def tw6162269159774324313:=t
def tw7350462372000428638:=t
def tw6782663255696616371:=t
def tw6278996535519779258:=t
def tw4944497897694004105:=t
def tw17577329170770402720:=t
def tw16859961878692490766:=t
def tw13567515925198824819:=t
def tw11078473246598507814:=t
def tw16053306600634468012:=t
def tw8232614014015475128:=t
def tw13885670934486923800:=t
def tw13861969467909019144:=t
def tw3520257249291928256:=t
def tw3303267245142563540:=t
def tw17348111734160510231:=t
def tw938635154573522699:=t
def tw7007286002206832825:=t
def tw6542358382571353910:=t
def tw14963028359598502718:=t
def tw12627051441459223148:=t
def tw11215392098479208961:=t
def tw5483103596317574428:=t
def tw15621415185263527259:=t
def tw10741264400317747893:=t
def tw17155049476370652306:=t
def tw5649666937502919571:=t
def tw9744259246892133002:=t
def tw9045458381397004210:=t
def tw8865387616306378214:=t
def tw8757255369765604158:=t
def tw819570635367399668:=t
def tw7557421358154311045:=t
def tw7046044490832178742:=t
def tw6714880395473160397:=t
def tw6327569006664949090:=t
def tw6046103115902281144:=t
def tw5783627655825047438:=t
def tw3671519592330383864:=t
def tw3099597729799864441:=t
def tw296083027919845158:=t
def tw258204147387103276:=t
def tw18407495941553956032:=t
def tw17678831435119133177:=t
def tw17339309145561079191:=t
def tw17016834523296244275:=t
def tw16721508838639397229:=t
def tw16378183091871739711:=t
def tw16145670418848962200:=t
def tw15910123707662034135:=t
def tw15590096980072825465:=t
def tw14833712730911297017:=t
def tw14736888041290939073:=t
def tw14538725608371270373:=t
def tw14154597600763967237:=t
def tw14036186469904095446:=t
def tw13813548295540068894:=t
def tw13710940844802916613:=t
def tw13307065042914920193:=t
def tw1293241653719404408:=t
def tw12147665669636231765:=t
def tw12132596417379514657:=t
def tw11524815483048965402:=t
def tw11489344026974618541:=t
def tw11317637306720784765:=t
def tw10479991185640055810:=t
def tw10310341975313369176:=t
def tw10161179621583223854:=t
def tw8120721959483790898:=t
def tw866717566613908145:=t
def tw9784134513789038367:=t
def tw6105849179199505303:=t
def tw3365755272349913518:=t
def tw2314633323536394700:=t
def tw2135409205425526673:=t
def tw14226173905949225808:=t
def tw11384182702204212275:=t
def tw6953138203311097117:=t
def tw2641800013201688601:=t
def tw13937768818610491111:=t
def tw6690350156832105676:=t
def tw2400638427578300857:=t
def tw2692750590507578028:=t
def tw9433028549170029634:=t
def tw9331231397406362311:=t
def tw8159993647027272844:=t
def tw7921390202802761869:=t
def tw5323657890516693427:=t
def tw5010956058597451964:=t
def tw14993981098963755598:=t
def tw14404928986312190071:=t
def tw13484562703626004877:=t
def tw10551173667578312727:=t
def tw3726453103677007866:=t
def tw6191700953566675008:=t
def tw4903002758410956813:=t
def tw523537741815420091:=t
def tw8285278889055680438:=t
def tw6056707288978253535:=t
def tw5285915839522022235:=t
def tw15861351967447197489:=t
def tw14391293386007564604:=t
def tw13669536469129627823:=t
def tw12652081859355081885:=t
def tw11066385474520676512:=t
def tw10888863842102328177:=t
def tw10146569101766770184:=t
def tw9757595895972200118:=t
def tw3344036261162260069:=t
def tw15142666989864626641:=t
def tw14904681115217272601:=t
def tw866652123128751154:=t
def tw8186657734068701312:=t
def tw7770478706760583155:=t
def tw6216382948874008006:=t
def tw6188973233030003785:=t
def tw6060609690816243450:=t
def tw5909976876416983842:=t
def tw514280064592716601:=t
def tw4773484457636388862:=t
def tw3778530596728393105:=t
def tw3681537716864247207:=t
def tw354308444213283272:=t
def tw3438699932752214802:=t
def tw3049343062529576306:=t
def tw209982475168477708:=t
def tw17871049288011112270:=t
def tw17590705303994421779:=t
def tw1725486776273817318:=t
def tw16607193741793207195:=t
def tw16493865465440409018:=t
def tw16248296213531012650:=t
def tw15925456577456769635:=t
def tw15627779663793561183:=t
def tw15418674001244492974:=t
def tw14172470266813156586:=t
def tw13082796549270168242:=t
def tw12524954882073270795:=t
def tw12325864989022198202:=t
def tw11076892268299887525:=t
def tw2731476521559533851:=t
def tw15831126876759372255:=t
def tw11063759124802658401:=t
def tw7053471978191194526:=t
def tw10026605065719503897:=t
def tw9363214764283991203:=t
def tw855453113358079251:=t
def tw8392358500681263680:=t
def tw7764699552788554220:=t
def tw5890639436620234070:=t
def tw13571862603940711859:=t
def tw10149570385669482864:=t
def tw9215358943560890414:=t
def tw8995945545434573385:=t
def tw8919978131948313185:=t
def tw6508132753307246276:=t
def tw577049184839899653:=t
def tw4565167180653195659:=t
def tw4470585836733325578:=t
def tw4267111383703672358:=t
def tw2956708394376553000:=t
def tw2694234056635809718:=t
def tw1835071406663858368:=t
def tw18328257000508772394:=t
def tw18310463660012746435:=t
def tw18094105663378112561:=t
def tw1663524305781585820:=t
def tw14074196154385387334:=t
def tw13956191218907399338:=t
def tw13831308528885131752:=t
def tw13465540834166320765:=t
def tw12768989823518198380:=t
def tw12740759652641322565:=t
def tw4580019852769339753:=t
def tw243476719192100926:=t
def tw2034817482908223496:=t
def tw8854275682344465072:=t
def tw8282588126930224528:=t
def tw6621635546502472408:=t
def tw4843829748527759242:=t
def tw17689344090056996911:=t
def tw14800370929953404514:=t
def tw13265978090383273239:=t
def tw1275065265261079617:=t
def tw12731152576971404446:=t
def tw12405761042648551022:=t
def tw10627929193734500438:=t
def tw10118262284458037933:=t
def tw11402884983299125971:=t
def tw991626836265849350:=t
def tw9320515035125037321:=t
def tw8356303796347215682:=t
def tw5449601097390414333:=t
def tw10374632558016547081:=t
def tw8374155422468719031:=t
def tw1537541725227008683:=t
def tw14261769069557060686:=t
def tw11024694936033576346:=t
def tw6557801498797044033:=t
def tw2333105410213810865:=t
def tw9969077435446430640:=t
def tw9947508896943372755:=t
def tw9592300441314626372:=t
def tw7217548393331319763:=t
def tw6798380500665416597:=t
def tw5634867526602368427:=t
def tw5221592684559293012:=t
def tw5217270863462422736:=t
def tw463774138113389760:=t
def tw3419001889969749887:=t
def tw2983494736656345032:=t
def tw256976265262469064:=t
def tw1998347030407657756:=t
def tw18183970276198133131:=t
def tw15764947353670896545:=t
def tw15763482434359817770:=t
def tw15326580083554890809:=t
def tw14849461344987154502:=t
def tw14022695629967993375:=t
def tw13385558918117058561:=t
def tw12091130801917272685:=t
def tw11161164713144168021:=t
def tw643336161829623379:=t
def tw12930229547647579594:=t
def tw10159399881129095643:=t
def tw6522051377940421278:=t
def tw3592811809046731828:=t
def tw9919008367099125623:=t
def tw8222940686941784037:=t
def tw772564365185477556:=t
def tw6858818405166986180:=t
def tw6631347999910079877:=t
def tw609457278022895560:=t
def tw5994696166404524948:=t
def tw5002640475654186023:=t
def tw447263597446747957:=t
def tw443766864951011646:=t
def tw2950685276103557050:=t
def tw1717767836212652739:=t
def tw16682895059504647277:=t
def tw16636501806038632012:=t
def tw16615150188913437886:=t
def tw16108870410212019532:=t
def tw1495895850433845275:=t
def tw13812277999558781770:=t
def tw13421457143807847188:=t
def tw12459912946257978736:=t
def tw10258873121960336067:=t
def tw9848817304349107530:=t
def tw8760152093665844161:=t
def tw8080008513338510535:=t
def tw5832305185047221409:=t
def tw5444512763150141072:=t
def tw5362036446546632119:=t
def tw4039707410889071942:=t
def tw2403389108928632939:=t
def tw15539815450414544023:=t
def tw15173544498738437827:=t
def tw14703100239697439463:=t
def tw13444670453868202053:=t
def tw12003660372656728261:=t
def tw10910644110388302437:=t
def tw11898673842065290130:=t
def tw2483420100392427323:=t
def tw1825952489489211193:=t
def tw16756451883985382160:=t
def tw10510056951384868246:=t
def tw6822071536725586909:=t
def tw446995266069924076:=t
def tw1915925776726481438:=t
def tw1708089923452030704:=t
def tw3919386906821981792:=t
def tw13034982811429478159:=t
def tw9304451534382375720:=t
def tw6356304189028158447:=t
def tw4096438862311573950:=t
def tw4046790133079468173:=t
def tw3300454383303005205:=t
def tw2869065659524454656:=t
def tw2570914705882880060:=t
def tw16723463757517087524:=t
def tw16654469307462801742:=t
def tw16279288168775177219:=t
def tw15052318979288761249:=t
def tw14842496431369740429:=t
def tw13953587524928339648:=t
def tw10698057553749749337:=t
def tw8060666987683057360:=t
def tw599730875272715187:=t
def tw4684226298888400098:=t
def tw4077048163395320219:=t
def tw2629151800749243262:=t
def tw18048741565030583774:=t
def tw17680797132471856694:=t
def tw15235614512728720:=t
def tw14785633479632635281:=t
def tw13298828918039433023:=t
def tw12188032599808994241:=t
def tw11824586356888161845:=t
def tw9113380124883318265:=t
def tw8981176238543900561:=t
def tw8915285831880473931:=t
def tw8834805137890396735:=t
def tw8006371003960147343:=t
def tw7873748247521183178:=t
def tw786537726763496527:=t
def tw7520747337044880989:=t
def tw651700358538967526:=t
def tw5665240888008139550:=t
def tw5171440476677080432:=t
def tw4757880891971583632:=t
def tw4524658085876675188:=t
def tw429539710256275620:=t
def tw2781441929908095834:=t
def tw2399617604181995578:=t
def tw2358075552688931204:=t
def tw2187251505897268136:=t
def tw2132029292895624192:=t
def tw2041926188850086339:=t
def tw1941844328875101383:=t
def tw18384110700954362821:=t
def tw17410218998227585676:=t
def tw17188069144378779261:=t
def tw17137270108147033825:=t
def tw16797375974695604193:=t
def tw16746677531222629524:=t
def tw15699961213505342161:=t
def tw15504105790966721872:=t
def tw15240619367488684849:=t
def tw14811890972901180937:=t
def tw14334995849660946996:=t
def tw13861322856664149509:=t
def tw13539809779269347639:=t
def tw13349420017058727143:=t
def tw13141587033338554882:=t
def tw12887044766017154078:=t
def tw12884060626414724322:=t
def tw12435058653956393420:=t
def tw11107512795663914464:=t
def tw9959121941294770655:=t
def tw9931937742245647033:=t
def tw9806118890596472461:=t
def tw9796564346219866840:=t
def tw9768418358887946270:=t
def tw9678289623588505577:=t
def tw9646623106273453227:=t
def tw9619071485814978506:=t
def tw9592521066531166775:=t
def tw9553971096990549364:=t
def tw9495317472360511255:=t
def tw9461912720999461741:=t
def tw9402243437249704421:=t
def tw9388066449989048879:=t
def tw9387514328989991554:=t
def tw9197174079833555027:=t
def tw908480701973217441:=t
def tw9003107776662980439:=t
def tw896878414759379649:=t
def tw8909772338491405060:=t
def tw8908233856664302321:=t
def tw8833860146974802555:=t
def tw8833496514701923757:=t
def tw8752102160057688731:=t
def tw8739830900816887780:=t
def tw8737599933303070863:=t
def tw8535803893964050539:=t
def tw8521684928402303493:=t
def tw8498532028676091811:=t
def tw8480184845173159842:=t
def tw8331849164307833061:=t
def tw8274446707539698164:=t
def tw8272569733616993153:=t
def tw8212203176049278890:=t
def tw8191318114535113306:=t
def tw8185220541750880888:=t
def tw8171798328758944481:=t
def tw8122695690928665766:=t
def tw7998583776865276027:=t
def tw7942791058656714990:=t
def tw7933485763601977624:=t
def tw7867829370405329436:=t
def tw7837367980739423823:=t
def tw7828442866392281868:=t
def tw7592715696027808041:=t
def tw7501186508268903616:=t
def tw7374399212775623666:=t
def tw726351398001015727:=t
def tw7181997581385953548:=t
def tw7091221385724896812:=t
def tw7086961617601330827:=t
def tw6942634455013318504:=t
def tw6851275008772768644:=t
def tw6702445572142316249:=t
def tw6701911527682315725:=t
def tw6657536258744368796:=t
def tw6651725471809605288:=t
def tw6607644564249050058:=t
def tw6597789921013551971:=t
def tw6575520176995025181:=t
def tw6549852094080907030:=t
def tw6469784823511061222:=t
def tw6420159726195949164:=t
def tw6408400580700104982:=t
def tw640624198105042115:=t
def tw6331431999304432861:=t
def tw628631919661052299:=t
def tw6259241058660970061:=t
def tw6248682570935725439:=t
def tw622995879521568732:=t
def tw6229817132586351632:=t
def tw6208910965292489261:=t
def tw6172094611929405055:=t
def tw615563214671542189:=t
def tw6124413428159637790:=t
def tw6094820017090691545:=t
def tw5992840812097835891:=t
def tw5953359166732830163:=t
def tw593343749668468936:=t
def tw5920806927976990809:=t
def tw5874822333441161849:=t
def tw5872530126848033075:=t
def tw5805800948307579973:=t
def tw5711038861398032994:=t
def tw5667099127317398114:=t
def tw5662061979359257339:=t
def tw5622701340561072331:=t
def tw5522115075389312692:=t
def tw5498123283257192965:=t
def tw5404398260228975080:=t
def tw5395340147747708899:=t
def tw5388589039460942527:=t
def tw5344687154915797982:=t
def tw5342471268416680606:=t
def tw5341297951324810720:=t
def tw5289818103960998278:=t
def tw5263133172445716209:=t
def tw5233118043267047457:=t
def tw5137589814051832496:=t
def tw5101696844757716304:=t
def tw5086489192560080304:=t
def tw5072417060200589145:=t
def tw5008593111378822452:=t
def tw5000232492035539693:=t
def tw4938610541543285704:=t
def tw4906484309439969231:=t
def tw4859391219904099992:=t
def tw4772062507164038959:=t
def tw4766597723019941021:=t
def tw4734895289157585001:=t
def tw4607425872040536859:=t
def tw4600438763894957952:=t
def tw4547051000311932777:=t
def tw4538635040379822027:=t
def tw4517560463748656503:=t
def tw4382473104129494423:=t
def tw4341293187932698999:=t
def tw4340673293219707767:=t
def tw4321966507151631593:=t
def tw4211115844707057057:=t
def tw4189273013823423559:=t
def tw4186743451310774866:=t
def tw4171853373547519906:=t
def tw4075453323654395381:=t
def tw4063829332388037331:=t
def tw4051853165826885262:=t
def tw3897268976836264337:=t
def tw3851428956369438258:=t
def tw3801850119919557013:=t
def tw3717076922277056940:=t
def tw3676754643040562684:=t
def tw3581434408401558974:=t
def tw3475869608268796686:=t
def tw3456351732281881909:=t
def tw3433779192033484610:=t
def tw3382625519597670723:=t
def tw3350206127114907401:=t
def tw3328118118096588273:=t
def tw3270257207059953099:=t
def tw3233987462203235646:=t
def tw3198059409981156222:=t
def tw306047672372848657:=t
def tw2997492091776894028:=t
def tw2997480634906808460:=t
def tw2990168724187919761:=t
def tw2789304352393801511:=t
def tw2646887283097553488:=t
def tw2595585439558603231:=t
def tw2576523973992343609:=t
def tw256182404569192445:=t
def tw2527701527901579348:=t
def tw2483321941437592071:=t
def tw2392593158011319353:=t
def tw2386784164831690217:=t
def tw2333531293284704758:=t
def tw2295934692909999376:=t
def tw2261719852989239553:=t
def tw2259672571474061568:=t
def tw2213964242967304950:=t
def tw2172276787581067923:=t
def tw2144661209622563809:=t
def tw211337195705725219:=t
def tw2107523057676978006:=t
def tw2080317491765294665:=t
def tw2078950565319712143:=t
def tw2015444344454546412:=t
def tw1972164579936704799:=t
def tw1956775160557780875:=t
def tw1950803216711332702:=t
def tw1937721966566455358:=t
def tw1922157984580058403:=t
def tw1891733041441978011:=t
def tw1848955828906020544:=t
def tw18402647697222807634:=t
def tw18361725300881549022:=t
def tw1835201335921387983:=t
def tw18293242582946804979:=t
def tw18157406047293677543:=t
def tw18146532975450069615:=t
def tw1804834754348979943:=t
def tw18004296560267143027:=t
def tw17937168697417666835:=t
def tw17852080271459398996:=t
def tw17817366049700826239:=t
def tw17691633702590694504:=t
def tw17658959251048325594:=t
def tw17592209452093105858:=t
def tw17590876675597686902:=t
def tw17510684818845775701:=t
def tw17508347553164502932:=t
def tw17499849576073844966:=t
def tw17435391645217708394:=t
def tw17360015989920007124:=t
def tw17334828202450815106:=t
def tw172746767574481773:=t
def tw17267597263503486738:=t
def tw17260811203177919210:=t
def tw17214186515701724070:=t
end PySem.W.Fast
section
open PySem PySem.W PyProof.Rows
set_option maxHeartbeats 0 in
open_top hd for PySem.Challenge.rw_cagebells_k33_whole_wind_just_where
end
set_option Elab.async false
set_option linter.all false
set_option maxRecDepth 100000
namespace L2
open PySem PySem.Spec PyProof.Rows
noncomputable abbrev Key:=Sum Int Str
noncomputable def CY:Key->Value->Bool
 | .inl k,v=>Value.isInt k v
 | .inr x,v=>Value.isStrOf x v
noncomputable def Gr (w:World):Key->Int
 | .inl k=>hashInt k
 | .inr x=>hashStr w x
theorem cF:∀{k:Key} {v:Value},CY k v=true->(∃i t,k=Sum.inl i/\v=Value.int i t)\/(∃x t,k=Sum.inr x/\v=Value.str x t)
 | .inl i,v,h=>by
  obtain ⟨t,e⟩:=Value.isInt_shape (k:=i) (v:=v) h
  exact .inl ⟨i,t,rfl,e⟩
 | .inr x,v,h=>by
  obtain ⟨t,e⟩:=Value.isStrOf_shape (x:=x) (v:=v) h
  exact .inr ⟨x,t,rfl,e⟩
theorem DE (a b:Int):decide ((Sum.inl a:Key)=Sum.inl b)=(a == b):=by
 by_cases e:a=b
 ·subst e;simp
 ·have h:¬(Sum.inl a:Key)=Sum.inl b:=fun q=>e (Sum.inl.inj q)
  rw [decide_eq_false h]
  exact (beq_eq_false_iff_ne.mpr e).symm
theorem DF (a b:Str):decide ((Sum.inr a:Key)=Sum.inr b)=decide (a=b):=by
 by_cases e:a=b
 ·subst e;simp
 ·have h:¬(Sum.inr a:Key)=Sum.inr b:=fun q=>e (Sum.inr.inj q)
  rw [decide_eq_false h,decide_eq_false e]
theorem DG (a:Int)(b:Str):decide ((Sum.inl a:Key)=Sum.inr b)=false:=decide_eq_false (fun q=>nomatch q)
theorem DH (a:Str)(b:Int):decide ((Sum.inr a:Key)=Sum.inl b)=false:=decide_eq_false (fun q=>nomatch q)
noncomputable def ud (prog:Program)(w:World):PySem.KeyKind prog w Key where
 is:=CY
 hash:=Gr w
 inj:=fun v a b ha hb=>by
  rcases cF ha with ⟨i,t,rfl,rfl⟩ | ⟨x,t,rfl,rfl⟩
  ·rcases cF hb with ⟨j,u,rfl,e⟩ | ⟨y,u,rfl,e⟩
   ·injection e with e1 _;rw [e1]
   ·exact nomatch e
  ·rcases cF hb with ⟨j,u,rfl,e⟩ | ⟨y,u,rfl,e⟩
   ·exact nomatch e
   ·injection e with e1 _;rw [e1]
 byValue:=fun k v h=>by
  rcases cF h with ⟨i,t,rfl,rfl⟩ | ⟨x,t,rfl,rfl⟩<;>rfl
 pyHash:=fun hv h=>by
  rcases cF hv with ⟨i,t,rfl,rfl⟩ | ⟨x,t,rfl,rfl⟩
  ·exact wpAny_pyHash_int h
  ·exact wpAny_pyHash_str h
 eqBool:=fun hu hv h=>by
  rcases cF hu with ⟨i,t,rfl,rfl⟩ | ⟨x,t,rfl,rfl⟩
  ·rcases cF hv with ⟨j,u,rfl,rfl⟩ | ⟨y,u,rfl,rfl⟩
   ·rw [DE] at h;exact wpAny_eqBool_int h
   ·rw [DG] at h;exact SeqAt.EqAt.int_str i t y u _ _ _ _ h
  ·rcases cF hv with ⟨j,u,rfl,rfl⟩ | ⟨y,u,rfl,rfl⟩
   ·rw [DH] at h;exact SeqAt.EqAt.str_int x t j u _ _ _ _ h
   ·rw [DF] at h;exact wpAny_eqBool_str h
 «strs»:=fun k x t v h=>by
  rcases cF h with ⟨i,u,rfl,e⟩ | ⟨y,u,rfl,e⟩
  ·exact nomatch e
  ·injection e with e1 _
   subst e1
   cases v<;>rfl
inductive V where
 | non | bl (b:Bool) | int (i:Int) | str (x:Str) | byt (b:Array UInt8) | flt (b:UInt64) | ref (a:Addr) | ty (n:String)
 deriving DecidableEq
noncomputable def bu:V->Value->Prop
 | .non,u=>u=Value.none
 | .bl b,u=>u=Value.bool b
 | .int i,u=>∃t,u=Value.int i t
 | .str x,u=>∃t,u=Value.str x t
 | .byt b,u=>∃t,u=Value.bytes b t
 | .flt b,u=>∃t,u=Value.float b t
 | .ref a,u=>u=Value.ref a
 | .ty n,u=>u=Value.type n
noncomputable abbrev a8:List V->List Value->Prop:=Paired bu
theorem a8.length {xs:List V}{us:List Value}(r:a8 xs us):xs.length=us.length:=Paired.length r
theorem a8.get:∀{xs:List V} {us:List Value} {i:Nat} {x:V},a8 xs us->xs[i]?=some x->∃u,us[i]?=some u/\bu x u
 | _,_,_,_,.nil,e=>by simp at e
 | _,_,0,_,.cons r _,e=>by simp at e;subst e;exact ⟨_,rfl,r⟩
 | _,_,i+1,x,.cons _ t,e=>by
  obtain ⟨u,h1,h2⟩:=a8.get (i:=i) (x:=x) t (by simpa using e)
  exact ⟨u,by simpa using h1,h2⟩
theorem a8.set {x:V}{u:Value}(r:bu x u):∀{xs:List V} {us:List Value} (i:Nat),a8 xs us->a8 (xs.set i x) (us.set i u)
 | _,_,_,.nil=>.nil
 | _,_,0,.cons _ t=>.cons r t
 | _,_,i+1,.cons q t=>.cons q (a8.set r i t)
theorem a8.append:∀{xs ys:List V} {us ws:List Value},a8 xs us->a8 ys ws->a8 (xs++ys) (us++ws)
 | _,_,_,_,.nil,s=>s
 | _,_,_,_,.cons r t,s=>.cons r (a8.append t s)
theorem a8.take:∀{xs:List V} {us:List Value} (n:Nat),a8 xs us->a8 (xs.take n) (us.take n)
 | _,_,0,_=>.nil
 | _,_,_+1,.nil=>.nil
 | _,_,n+1,.cons r t=>.cons r (a8.take n t)
theorem a8.drop:∀{xs:List V} {us:List Value} (n:Nat),a8 xs us->a8 (xs.drop n) (us.drop n)
 | _,_,0,r=>r
 | _,_,_+1,.nil=>.nil
 | _,_,n+1,.cons _ t=>a8.drop n t
noncomputable def rS:Option V->Option Value->Prop
 | some v,some u=>bu v u
 | none,none=>True
 | _,_=>False
noncomputable def KV {κ:Type}:List (κ×V)->List (κ×Value)->Prop:=Paired fun (p:κ×V) (q:κ×Value)=>p.1=q.1/\bu p.2 q.2
noncomputable def kV:Key->V
 | .inl i=>.int i
 | .inr x=>.str x
inductive HO where
 | lst (xs:List V)
 | tup (xs:List V)
 | dK (kvs:List (Key×V)) | dT (kvs:List (List Key×V))
 | set (S:Int->Bool) (n:Nat)
 | ins (C dx:Addr) (fs:List (Str×V))
 | own (x:Addr)
 | xd (fs:List (Str×V))
 | met (f x:Addr)
 | rng (lo hi:Int)
 | frz (o:Obj) (u:HO)
 | tbl (ps:Array Value)
 | ext (φ:Heap->Prop)
noncomputable abbrev Hp:=Addr->Option HO
noncomputable def upd (H:Hp)(a:Addr)(o:HO):Hp:=fun b=>if b=a then some o else H b
theorem ah {H:Hp}{a:Addr}{o:HO}:upd H a o a=some o:=by unfold upd;rw [if_pos rfl]
theorem aE {H:Hp}{a b:Addr}{o:HO}(h:b≠a):upd H a o b=H b:=by unfold upd;rw [if_neg h]
theorem By {H:Hp}{a:Addr}{o u:HO}:upd (upd H a o) a u=upd H a u:=by
 funext b;unfold upd;split<;>rfl
theorem ai {H:Hp}{a b:Addr}{o:HO}(h:H a=some o)(h':H b=none):a≠b:=by
 intro e;subst e;rw [h] at h';cases h'
def qg (h:Heap)(a:Addr)(items:Array Value):Prop:=∃o,h.get? a=some o/\(o.cls=.type "tuple"/\∃n,o.data=.seq items n)/\o.dict=none
theorem qg.tup {h:Heap}{a:Addr}{items:Array Value}(x:qg h a items):IsTup h a items:=let ⟨o,e,c,_⟩:=x;⟨o,e,c⟩
theorem qg.lt {h:Heap}{a:Addr}{items:Array Value}(x:qg h a items):a < h.objs.size:=let ⟨_,e,_⟩:=x;Heap.lt_size e
section
variable (P:Program)(w:World)
noncomputable def fh (H:Hp)(h:Heap)(a:Addr):HO->Prop
 | .lst xs=>xs.length<=sizeLine/\∃(its:List Value) (n:Nat),a8 xs its/\h.get? a=some {cls:=.type "list",data:=.seq its.toArray n}
 | .tup xs=>xs.length<=sizeLine/\∃its:List Value,a8 xs its/\qg h a its.toArray
 | .dK kvs=>kvs.length<=sizeLine/\(a == sysModules)=false/\∃vs,KV kvs vs/\h.DictOf (ud P w) a vs
 | .dT kvs=>kvs.length<=sizeLine/\(a == sysModules)=false/\∃xs:List (List Key×Addr×Value),
   Paired (fun (p:List Key×V) (q:List Key×Addr×Value)=>p.1=q.1/\H q.2.1=some (.tup (p.1.map kV))/\bu p.2 q.2.2) kvs xs/\
   ∃o es ep,h.get? a=some o/\o.ExactDict/\o.data=.dict es ep/\es.toList=xs.map (entryOfKey (tupleKind (ud P w)))/\(xs.map (·.1)).Nodup
 | .set S n=>h.SetOf (intKind P w) a S n
 | .ins C dx fs=>H dx=some (.own a)/\fs.length<=1000/\dx≠a/\h.get? a=some (W.instObj C dx)/\
   ∃mA,h.Ns1 dx mA/\(∀f,rS (fs.lookup f) (mA f))/\PySem.Within mA (fs.map (·.1))
 | .own _=>∃o,h.get? a=some o
 | .xd fs=>∃mA,h.Ns1 a mA/\∀f,rS (fs.lookup f) (mA f)
 | .rng lo hi=>∃t u v,h.get? a=some {cls:=.type "range",data:=.fields #[.int lo t,.int hi u,.int 1 v]}
 | .frz o u=>h.get? a=some o/\fh H h a u
 | .tbl ps=>h.get? a=some {cls:=.none,data:=.fields ps}
 | .met f x=>h.get? a=some (W.methodObj (.ref f) (.ref x))
 | .ext φ=>φ h/\(∃o,h.get? a=some o)/\∀h1 h2:Heap,φ h1->(∀o,h1.get? a=some o->h2.get? a=some o)->φ h2
def HOk (H:Hp)(h:Heap):Prop:=∀a o,H a=some o->fh P w H h a o
end
section
variable {P:Program}{w:World}{H H':Hp}{h h':Heap}{a:Addr}{o:HO}
theorem fh.lt (x:fh P w H h a o):a < h.objs.size:=by
 cases o with
 | lst xs=>obtain ⟨_,_,_,_,e⟩:=x;exact Heap.lt_size e
 | tup xs=>obtain ⟨_,_,_,p⟩:=x;exact p.lt
 | dK kvs=>obtain ⟨_,_,_,_,o,_,_,e,_⟩:=x;exact Heap.lt_size e
 | dT kvs=>obtain ⟨_,_,_,_,o,_,_,e,_⟩:=x;exact Heap.lt_size e
 | set S n=>obtain ⟨o,_,_,_,e,_⟩:=x;exact Heap.lt_size e
 | ins C dx fs=>obtain ⟨_,_,_,e,_⟩:=x;exact Heap.lt_size e
 | own y=>obtain ⟨_,e⟩:=x;exact Heap.lt_size e
 | xd fs=>obtain ⟨_,⟨_,_,_,e,_⟩,_⟩:=x;exact Heap.lt_size e
 | rng lo hi=>obtain ⟨_,_,_,e⟩:=x;exact Heap.lt_size e
 | frz ob u=>obtain ⟨e,_⟩:=x;exact Heap.lt_size e
 | tbl ps=>exact Heap.lt_size (show h.get? a=some _ from x)
 | met f y=>exact Heap.lt_size (show h.get? a=some _ from x)
 | ext φ=>obtain ⟨_,⟨_,e⟩,_⟩:=x;exact Heap.lt_size e
theorem Paired.mapP {α β:Type}{F G:α->β->Prop}:∀{l₁:List α} {l₂:List β},Paired F l₁ l₂->(∀a b,F a b->G a b)->Paired G l₁ l₂
 | _,_,.nil,_=>.nil
 | _,_,.cons r t,f=>.cons (f _ _ r) (Paired.mapP t f)
theorem fh.stay (x:fh P w H h a o)(k:∀b u,(b=a\/H b=some (.own a))->h.get? b=some u->h'.get? b=some u)
  (ho:∀b,H b=some (.own a)->H' b=some (.own a)) (ht:∀b xs,H b=some (.tup xs)->H' b=some (.tup xs)):fh P w H' h' a o:=by
 induction o with
 | lst xs=>obtain ⟨z,its,n,r,e⟩:=x;exact ⟨z,its,n,r,k _ _ (.inl rfl) e⟩
 | tup xs=>obtain ⟨z,its,r,ob,e,c⟩:=x;exact ⟨z,its,r,ob,k _ _ (.inl rfl) e,c⟩
 | dK kvs=>obtain ⟨z,y,vs,r,ob,es,ep,e,c⟩:=x;exact ⟨z,y,vs,r,ob,es,ep,k _ _ (.inl rfl) e,c⟩
 | dT kvs=>
  obtain ⟨z,y,xs,r,ob,es,ep,e,c⟩:=x
  exact ⟨z,y,xs,Paired.mapP r fun p q z=>⟨z.1,ht _ _ z.2.1,z.2.2⟩,ob,es,ep,k _ _ (.inl rfl) e,c⟩
 | set S n=>obtain ⟨ob,es,ep,t,e,c⟩:=x;exact ⟨ob,es,ep,t,k _ _ (.inl rfl) e,c⟩
 | ins C dx fs=>
  obtain ⟨d,z,ne,e,mA,⟨od,es,ep,e2,c⟩,r⟩:=x
  exact ⟨ho _ d,z,ne,k _ _ (.inl rfl) e,mA,⟨od,es,ep,k _ _ (.inr d) e2,c⟩,r⟩
 | own y=>obtain ⟨ob,e⟩:=x;exact ⟨ob,k _ _ (.inl rfl) e⟩
 | xd fs=>obtain ⟨mA,⟨od,es,ep,e,c⟩,r⟩:=x;exact ⟨mA,⟨od,es,ep,k _ _ (.inl rfl) e,c⟩,r⟩
 | rng lo hi=>obtain ⟨t,u,v,e⟩:=x;exact ⟨t,u,v,k _ _ (.inl rfl) e⟩
 | frz ob u ih=>obtain ⟨e,q⟩:=x;exact ⟨k _ _ (.inl rfl) e,ih q⟩
 | tbl ps=>
  have e:h.get? a=some {cls:=.none,data:=.fields ps}:=x
  show h'.get? a=some {cls:=.none,data:=.fields ps}
  exact k a _ (.inl rfl) e
 | met f y=>
  have e:h.get? a=some (W.methodObj (.ref f) (.ref y)):=x
  show h'.get? a=some (W.methodObj (.ref f) (.ref y))
  exact k a _ (.inl rfl) e
 | ext φ=>obtain ⟨p,⟨o,e⟩,st⟩:=x;exact ⟨st _ _ p fun o q=>k _ _ (.inl rfl) q,⟨o,k _ _ (.inl rfl) e⟩,st⟩
theorem HOk.lt (x:HOk P w H h)(e:H a=some o):a < h.objs.size:=(x a o e).lt
theorem HOk.fresh (x:HOk P w H h)(e:h.objs.size<=a):H a=none:=by
 cases q:H a with
 | none=>rfl
 | some u=>exact absurd (Nat.lt_of_lt_of_le (x.lt q) e) (Nat.lt_irrefl _)
theorem HOk.kept (x:HOk P w H h)(k:∀b u,h.get? b=some u->h'.get? b=some u):HOk P w H h':=fun a o e=>
 (x a o e).stay (fun b u _ q=>k b u q) (fun _ q=>q) fun _ _ q=>q
theorem HOk.laid (x:HOk P w H h)(k:∀b u,h.get? b=some u->h'.get? b=some u)(hp:h.objs.size<=a)(new:fh P w (upd H a o) h' a o):HOk P w (upd H a o) h':=fun b u e=>by
 have hn:=x.fresh hp
 by_cases hb:b=a
 ·subst hb;rw [ah] at e;cases e;exact new
 ·rw [aE hb] at e
  exact (x b u e).stay (fun c v _ q=>k c v q) (fun c q=>by rw [aE (ai q hn)];exact q) fun c xs q=>by rw [aE (ai q hn)];exact q
end
def Rd (H:Hp)(a:Addr)(u:HO):Prop:=H a=some u\/∃o,H a=some (.frz o u)
theorem Rd.ok {P:Program}{w:World}{H:Hp}{h:Heap}{a:Addr}{u:HO}(r:Rd H a u)(x:HOk P w H h):fh P w H h a u:=by
 rcases r with r | ⟨o,r⟩
 ·exact x a u r
 ·obtain ⟨_,q⟩:=x a _ r
  exact q
noncomputable def Mut:Option HO->Prop
 | some (.lst _)=>True
 | some (.dK _)=>True
 | some (.dT _)=>True
 | some (.set _ _)=>True
 | some (.ins _ _ _)=>True
 | some (.ext _)=>True
 | _=>False
section
variable {P:Program}{w:World}{H:Hp}{h h':Heap}{x e:Addr}{o':HO}
theorem HOk.write (ok:HOk P w H h)(mu:Mut (H x))(he:e=x\/H e=some (.own x))(k:∀b u,b≠e->h.get? b=some u->h'.get? b=some u)(heo:∃u,h'.get? e=some u)
  (new:fh P w (upd H x o') h' x o'):HOk P w (upd H x o') h':=fun b u q=>by
 have nown:∀c y,H c=some (.own y)->c≠x:=fun c y r z=>by subst z;rw [r] at mu;exact mu
 have ntup:∀c xs,H c=some (.tup xs)->c≠x:=fun c xs r z=>by subst z;rw [r] at mu;exact mu
 by_cases hb:b=x
 ·subst hb;rw [ah] at q;cases q;exact new
 ·rw [aE hb] at q
  by_cases hbe:b=e
  ·have q':H b=some (.own x):=by
    rcases he with z | z
    ·exact absurd (hbe.trans z) hb
    ·rw [hbe];exact z
   rw [q] at q';cases q'
   obtain ⟨v,hv⟩:=heo
   exact ⟨v,by rw [hbe];exact hv⟩
  ·refine (ok b u q).stay (fun c v hc r=>k c v ?_ r) (fun c r=>by rw [aE (nown c b r)];exact r) fun c xs r=>by rw [aE (ntup c xs r)];exact r
   rcases hc with rfl | hc
   ·exact hbe
   ·rintro rfl
    rcases he with z | z
    ·exact nown c b hc z
    ·rw [hc] at z;cases z;exact hb rfl
end
structure Un (fs ex:List Addr)(H H':Hp)(h h':Heap):Prop where
 keep:∀b o,h.get? b=some o->H b=none->b∉fs->b∉ex->h'.get? b=some o
 slot:∀b o,h.get? b=some o->H b=none->b∈fs->b∉ex->∃sl,h'.get? b=some {o with slots:=sl}
 free:∀b o,h.get? b=some o->H b=none->b∉ex->H' b=none
 there:∀b o,h.get? b=some o->b∉ex->∃o',h'.get? b=some o'
 tups:∀b xs,H b=some (.tup xs)->H' b=some (.tup xs)
 frzs:∀b o u,H b=some (.frz o u)->H' b=some (.frz o u)
 tbls:∀b ps,H b=some (.tbl ps)->∃more,H' b=some (.tbl (ps++more))
section
variable {fs fs' ex ex':List Addr}{H H1 H2:Hp}{h h1 h2 h':Heap}{a x e:Addr}{o:HO}
theorem Un.any (u:Un fs ex H H1 h h1){b:Addr}{ob:Obj}(q:h.get? b=some ob)(n:H b=none)(hx:b∉ex):∃sl,h1.get? b=some {ob with slots:=sl}:=by
 by_cases hb:b∈fs
 ·exact u.slot b ob q n hb hx
 ·exact ⟨ob.slots,u.keep b ob q n hb hx⟩
theorem Un.kept (k:∀b u,h.get? b=some u->h'.get? b=some u):Un fs ex H H h h':=
 ⟨fun b ob q _ _ _=>k b ob q,fun b ob q _ _ _=>⟨ob.slots,k b ob q⟩,fun _ _ _ n _=>n,fun b ob q _=>⟨ob,k b ob q⟩,fun _ _ q=>q,fun _ _ _ q=>q,fun _ ps q=>⟨#[],by rw [q];simp⟩⟩
theorem Un.refl:Un fs ex H H h h:=Un.kept fun _ _ q=>q
theorem Un.laid (k:∀b u,h.get? b=some u->h'.get? b=some u)(hp:h.objs.size<=a)(hn:H a=none):Un fs ex H (upd H a o) h h' where
 keep:=fun b u q _ _ _=>k b u q
 slot:=fun b u q _ _ _=>⟨u.slots,k b u q⟩
 free:=fun b u q n _=>by rw [aE (Nat.ne_of_lt (Nat.lt_of_lt_of_le (Heap.lt_size q) hp))];exact n
 there:=fun b u q _=>⟨u,k b u q⟩
 tups:=fun b xs q=>by rw [aE (ai q hn)];exact q
 frzs:=fun b u xs q=>by rw [aE (ai q hn)];exact q
 tbls:=fun b ps q=>⟨#[],by rw [aE (ai q hn),q];simp⟩
theorem Un.write (mu:Mut (H x))(he:e=x\/H e=some (.own x))(k:∀b u,b≠e->h.get? b=some u->h'.get? b=some u)(heo:∃u,h'.get? e=some u):Un fs ex H (upd H x o) h h':=by
 have hx:∀b,H b=none->b≠x:=fun b n z=>by subst z;rw [n] at mu;exact mu
 have hb:∀b,H b=none->b≠e:=fun b n z=>by
  subst z
  rcases he with r | r
  ·exact hx b n r
  ·rw [n] at r;cases r
 have hm:∀b u,H b=some u->¬Mut (some u)->b≠x:=fun b u q nm z=>by subst z;rw [q] at mu;exact nm mu
 refine ⟨fun b u q n _ _=>k b u (hb b n) q,fun b u q n _ _=>⟨u.slots,k b u (hb b n) q⟩,fun b u q n _=>by rw [aE (hx b n)];exact n,fun b u q _=>?_,
  fun b xs q=>by rw [aE (hm b _ q fun z=>z)];exact q,fun b u xs q=>by rw [aE (hm b _ q fun z=>z)];exact q,fun b ps q=>⟨#[],by rw [aE (hm b _ q fun z=>z),q];simp⟩⟩
 by_cases hbe:b=e
 ·subst hbe;exact heo
 ·exact ⟨u,k b u hbe q⟩
end
noncomputable def trk (h:Heap)(H:Hp):List Addr:=(List.range h.objs.size).filter fun a=>(H a).isSome
noncomputable def ue (h:Heap)(H:Hp):Heap:=W.hideAll h (trk h H)
theorem yL (h:Heap)(H:Hp):(ue h H).objs.size=h.objs.size:=W.hideAll_size _ _
theorem zM {h:Heap}{H:Hp}{b:Addr}{o:Obj}(e:h.get? b=some o)(n:H b=none):(ue h H).get? b=some o:=
 W.hideAll_get _ e fun hm=>by
  have q:(H b).isSome=true:=(List.mem_filter.mp hm).2
  rw [n] at q;simp at q
theorem Bz {h:Heap}{H:Hp}{b:Addr}{o:Obj}(e:(ue h H).get? b=some o):h.get? b=some o/\H b=none:=by
 have e':h.get? b=some o:=W.of_hideAll (trk h H) e
 refine ⟨e',?_⟩
 cases q:H b with
 | none=>rfl
 | some x=>
  have hm:b∈trk h H:=List.mem_filter.mpr ⟨List.mem_range.mpr (Heap.lt_size e'),by simp [q]⟩
  have z:(ue h H).get? b=none:=W.hideAll_none (trk h H) hm
  rw [z] at e;cases e
noncomputable def BA (g h:Heap)(L:Addr):List (Addr×Obj):=(List.range h.objs.size).filterMap fun a=>if a=L\/(g.get? a).isSome=true then none else (h.get? a).map fun o=>(a,o)
noncomputable def fz (g h:Heap)(L d:Addr):List (Addr×Obj):=(BA g h L).filter fun p=>decide (p.1≠d)
structure Mod (K:JA)(mg:Str->Option Value)(base:Heap):Prop where
 kin:K.In base
 glob:base.Ns mainGlobals mg
 blt:∃mb,base.Ns builtinsNs mb/\∀x:Str,x≠"__name__"->mb x=bootBuiltins x
 nolimit:base.NoLimit
structure Cx where
 prog:Program
 w:World
 K:JA
 mg:Str->Option Value
 base:Heap
 A:Around
 N:List Str
 s₀:Shared
 H₀:Hp
 env:Env
 outer:List Env
 stack:List Env
 ex:List Addr
 fn:Str->Bool
 calm:Bool
 pn:List (Addr×Obj)
 xe:Value->Shared->Prop
noncomputable def frs (l:List Env):List Addr:=l.filterMap (·.frame)
noncomputable abbrev Cx.fs (X:Cx):List Addr:=frs X.outer
def Vis (sc:Scope)(x:Str):Prop:=sc.names.lookup x=some .local\/sc.names.lookup x=some .cell\/sc.names.lookup x=some .free
def Loc (sc:Scope)(x:Str):Prop:=sc.names.lookup x=some .local\/sc.names.lookup x=some .cell
def Gs (env:Env)(h:Heap)(m:Str->Option Value)(x:Str)(u:Value):Prop:=
 (env.kindOf x=some .local/\m x=some u)\/((env.kindOf x=some .cell\/env.kindOf x=some .free)/\∃c,env.cells.lookup x=some c/\h.IsCell c (some u))
structure Cx.Ok (X:Cx):Prop where
 mod:Mod X.K X.mg X.base
 kind:X.env.scope.kind=.function
 glob:X.env.globals=mainGlobals
 blt:X.env.builtins=builtinsNs
 above:X.s₀.heap.objs.size<=X.env.locals
 inj:∀x y c,X.env.cells.lookup x=some c->X.env.cells.lookup y=some c->x=y
 has:∀x,(X.env.kindOf x=some .cell\/X.env.kindOf x=some .free)->∃c,X.env.cells.lookup x=some c
 cab:∀x c,X.fn x=true->X.env.cells.lookup x=some c->X.s₀.heap.objs.size<=c
 hd:X.calm=true->X.A.handled=none
 frames:X.A.frames=some X.stack
 stk:X.stack=X.outer\/(X.stack=X.env::X.outer/\X.env.frame=some X.env.locals)
 exf:∀b∈X.ex,b≠X.env.locals/\∀x c,X.env.cells.lookup x=some c->c≠b
 bs:∀b o,X.base.get? b=some o->X.s₀.heap.get? b=some o/\X.H₀ b=none
 bsz:X.base.objs.size<=X.s₀.heap.objs.size
 noex:∀b o,X.base.get? b=some o->b∉X.ex
 exfs:∀b∈X.ex,b∉X.fs
 funs:X.s₀.heap.FunFrames X.base X.outer
 frf:∀b∈X.fs,X.H₀ b=none
structure Inv (X:Cx)(pins:List (Addr×Obj))(σ:List (Option V))(H:Hp)(s:Shared):Prop where
 ok:X.Ok
 os:s.os=X.s₀.os
 bare:AllBare s.gens
 base:Un X.fs X.ex X.H₀ H X.s₀.heap s.heap
 loc:∃m,s.heap.Ns X.env.locals m/\∀(i:Nat) (x:Str) (v:V),X.N[i]?=some x->σ[i]?=some (some v)->Vis X.env.scope x->∃u,bu v u/\Gs X.env s.heap m x u
 cell:∀x c,X.env.cells.lookup x=some c->∃v,s.heap.IsCell c v
 free:H X.env.locals=none
 freeC:∀x c,X.env.cells.lookup x=some c->H c=none
 pin:∀p∈X.pn++pins,s.heap.get? p.1=some p.2/\H p.1=none/\p.1≠X.env.locals/\p.1∉X.fs/\∀v,p.2.data≠.cell v
 hok:HOk X.prog X.w H s.heap
 len:σ.length=X.N.length
section
variable {X:Cx}{pins:List (Addr×Obj)}{σ:List (Option V)}{H H':Hp}{s:Shared}{h':Heap}
theorem Cx.Ok.nofr (ok:X.Ok){b:Addr}{o:Obj}(e:X.base.get? b=some o):b∉X.fs:=fun hb=>by
 have:=(ok.funs.mem hb).1
 rw [e] at this;cases this
theorem Inv.bs (I:Inv X pins σ H s):∀b o,X.base.get? b=some o->s.heap.get? b=some o/\H b=none:=fun b o e=>
 ⟨I.base.keep b o (I.ok.bs b o e).1 (I.ok.bs b o e).2 (I.ok.nofr e) (I.ok.noex b o e),I.base.free b o (I.ok.bs b o e).1 (I.ok.bs b o e).2 (I.ok.noex b o e)⟩
theorem Inv.bk (I:Inv X pins σ H s):∀b o,X.base.get? b=some o->s.heap.get? b=some o:=fun b o e=>(I.bs b o e).1
theorem Inv.mod (I:Inv X pins σ H s):Mod X.K X.mg X.base:=I.ok.mod
theorem Inv.kIn (I:Inv X pins σ H s):X.K.In s.heap:=I.ok.mod.kin.keeps I.bk
theorem Inv.fr (I:Inv X pins σ H s):∃m,Fr X.base X.env.locals s.heap m:=
 let ⟨m,hn,_⟩:=I.loc
 ⟨m,hn,I.bk,Nat.le_trans I.ok.bsz I.ok.above⟩
theorem Inv.lt (I:Inv X pins σ H s):X.env.locals < s.heap.objs.size:=let ⟨_,hn,_⟩:=I.loc;hn.lt
theorem Inv.sz (I:Inv X pins σ H s):X.s₀.heap.objs.size<=s.heap.objs.size:=Nat.le_trans I.ok.above (Nat.le_of_lt I.lt)
theorem Inv.nofs (I:Inv X pins σ H s){a:Addr}(h:s.heap.objs.size<=a):a∉X.fs:=fun hb=>by
 obtain ⟨_,o,ho,_⟩:=I.ok.funs.mem hb
 exact absurd (Nat.lt_of_lt_of_le (Heap.lt_size ho) (Nat.le_trans I.sz h)) (Nat.lt_irrefl _)
theorem Inv.cne (I:Inv X pins σ H s):∀x c,X.env.cells.lookup x=some c->c≠X.env.locals:=fun x c e z=>by
 obtain ⟨v,o,ho,hd⟩:=I.cell x c e
 obtain ⟨m,⟨o',es,ep,ho',hd',_⟩,_⟩:=I.loc
 rw [z,ho'] at ho;cases ho;rw [hd'] at hd;cases hd
theorem Inv.funs (I:Inv X pins σ H s):s.heap.FunFrames X.base X.outer:=by
 have all:∀(l:List Env),(∀b∈frs l,b∈X.fs)->X.s₀.heap.FunFrames X.base l->s.heap.FunFrames X.base l:=by
  intro l
  induction l with
  | nil=>intro _ _;trivial
  | cons env r ih=>
   intro hs hl
   obtain ⟨hk,⟨L,o,hf,hn,ho,hd⟩,hr⟩:=hl
   have hL:L∈X.fs:=hs L (by unfold frs;rw [List.filterMap_cons,hf];exact List.mem_cons_self)
   obtain ⟨sl,e⟩:=I.base.slot L o ho (I.ok.frf L hL) hL fun z=>I.ok.exfs L z hL
   exact ⟨hk,⟨L,_,hf,hn,e,hd⟩,ih (fun b hb=>hs b (by unfold frs;rw [List.filterMap_cons,hf];exact List.mem_cons_of_mem _ hb)) hr⟩
 exact all X.outer (fun _ hb=>hb) I.ok.funs
theorem Inv.stack (I:Inv X pins σ H s):s.heap.FunFrames X.base X.stack:=by
 rcases I.ok.stk with e | ⟨e,hf⟩
 ·rw [e];exact I.funs
 ·rw [e]
  obtain ⟨m,hn,_⟩:=I.loc
  refine .cons (by rw [I.ok.kind];decide) hf hn ?_ I.funs
  exact Heap.get?_none_of_le (Nat.le_trans I.ok.bsz I.ok.above)
theorem Inv.stkSub (I:Inv X pins σ H s):∀b∈frs X.stack,b∈X.env.locals::X.fs:=fun b hb=>by
 rcases I.ok.stk with e | ⟨e,hf⟩
 ·rw [e] at hb;exact List.mem_cons_of_mem _ hb
 ·rw [e] at hb
  unfold frs at hb
  rw [List.filterMap_cons,hf] at hb
  exact hb
theorem Inv.stkFree (I:Inv X pins σ H s):∀b∈frs X.stack,H b=none:=fun b hb=>by
 rcases List.mem_cons.mp (I.stkSub b hb) with e | hb
 ·rw [e];exact I.free
 ·obtain ⟨_,o,ho,_⟩:=I.ok.funs.mem hb
  exact I.base.free b o ho (I.ok.frf b hb) fun z=>I.ok.exfs b z hb
theorem Inv.step {g':Array GenState}{t':Nat}{d':Drawn}{ch:List Addr}(I:Inv X pins σ H s)
  (hch:∀b∈ch,(b∈X.ex\/X.s₀.heap.objs.size<=b)/\b≠X.env.locals/\(∀x c,X.env.cells.lookup x=some c->c≠b)/\∀p∈X.pn++pins,p.1≠b)
  (keep:∀b o,b≠X.env.locals->b∉X.fs->b∉ch->s.heap.get? b=some o->H b=none->h'.get? b=some o)
  (slot:∀b o,b≠X.env.locals->b∈X.fs->b∉ch->s.heap.get? b=some o->H b=none->∃sl,h'.get? b=some {o with slots:=sl}) (free:∀b o,b∉ch->s.heap.get? b=some o->H b=none->H' b=none)
  (there:∀b o,b∉ch->s.heap.get? b=some o->∃o',h'.get? b=some o')
  (tups:∀b xs,H b=some (.tup xs)->H' b=some (.tup xs)) (frzs:∀b o u,H b=some (.frz o u)->H' b=some (.frz o u)) (tbls:∀b ps,H b=some (.tbl ps)->∃more,H' b=some (.tbl (ps++more)))
  (ns:∀m,s.heap.Ns X.env.locals m->h'.Ns X.env.locals m) (hok:HOk X.prog X.w H' h') (hg:AllBare g') :
  Inv X pins σ H' {s with heap:=h',gens:=g',drawn:=d',toks:=t'}:=by
 have neL:∀b o,X.s₀.heap.get? b=some o->b≠X.env.locals:=fun b o e=>Nat.ne_of_lt (Nat.lt_of_lt_of_le (Heap.lt_size e) I.ok.above)
 have neC:∀b o,X.s₀.heap.get? b=some o->b∉X.ex->b∉ch:=fun b o e hx hb=>by
  rcases (hch b hb).1 with z | z
  ·exact hx z
  ·exact absurd (Nat.lt_of_lt_of_le (Heap.lt_size e) z) (Nat.lt_irrefl _)
 have cellK:∀x c,X.env.cells.lookup x=some c->∀v,s.heap.IsCell c v->h'.IsCell c v:=fun x c e v ⟨o,ho,hd⟩=>by
  have nch:c∉ch:=fun z=>(hch c z).2.2.1 x c e rfl
  by_cases hc:c∈X.fs
  ·obtain ⟨sl,q⟩:=slot c o (I.cne x c e) hc nch ho (I.freeC x c e)
   exact ⟨_,q,hd⟩
  ·exact ⟨o,keep c o (I.cne x c e) hc nch ho (I.freeC x c e),hd⟩
 refine ⟨I.ok,I.os,hg,⟨fun b o e n hb hx=>?_,fun b o e n hb hx=>?_,fun b o e n hx=>?_,fun b o e hx=>?_,fun b xs e=>tups b xs (I.base.tups b xs e),fun b o xs e=>frzs b o xs (I.base.frzs b o xs e),fun b ps e=>?_⟩,?_,fun x c e=>?_,?_,fun x c e=>?_,fun p hp=>?_,hok,I.len⟩
 ·exact keep b o (neL b o e) hb (neC b o e hx) (I.base.keep b o e n hb hx) (I.base.free b o e n hx)
 ·obtain ⟨sl,e1⟩:=I.base.slot b o e n hb hx
  obtain ⟨sl',e2⟩:=slot b _ (neL b o e) hb (neC b o e hx) e1 (I.base.free b o e n hx)
  exact ⟨sl',e2⟩
 ·obtain ⟨o',e1⟩:=I.base.there b o e hx
  exact free b o' (neC b o e hx) e1 (I.base.free b o e n hx)
 ·obtain ⟨o',e1⟩:=I.base.there b o e hx
  exact there b o' (neC b o e hx) e1
 ·obtain ⟨m1,e1⟩:=I.base.tbls b ps e
  obtain ⟨m2,e2⟩:=tbls b _ e1
  exact ⟨m1++m2,by rw [e2,Array.append_assoc]⟩
 ·obtain ⟨m,hn,hl⟩:=I.loc
  refine ⟨m,ns m hn,fun i x v e1 e2 e3=>?_⟩
  obtain ⟨u,r,l⟩:=hl i x v e1 e2 e3
  refine ⟨u,r,?_⟩
  rcases l with l | ⟨k,c,e,z⟩
  ·exact .inl l
  ·exact .inr ⟨k,c,e,cellK x c e _ z⟩
 ·obtain ⟨v,z⟩:=I.cell x c e
  exact ⟨v,cellK x c e v z⟩
 ·obtain ⟨m,⟨o,_,_,ho,_⟩,_⟩:=I.loc
  exact free _ o (fun z=>(hch _ z).2.1 rfl) ho I.free
 ·obtain ⟨v,o,ho,hd⟩:=I.cell x c e
  exact free c o (fun z=>(hch c z).2.2.1 x c e rfl) ho (I.freeC x c e)
 ·obtain ⟨e,n,ne,nf,d⟩:=I.pin p hp
  have nch:p.1∉ch:=fun z=>(hch p.1 z).2.2.2 p hp rfl
  exact ⟨keep p.1 p.2 ne nf nch e n,free p.1 p.2 nch e n,ne,nf,d⟩
theorem Inv.un {t':Nat}(I:Inv X pins σ H s)(u:Un X.fs [] H H' s.heap h')(hok:HOk X.prog X.w H' h'):Inv X pins σ H' {s with heap:=h',toks:=t'}:=by
 obtain ⟨m,⟨o,es,ep,ho,r⟩,_⟩:=id I.loc
 obtain ⟨sl,hL⟩:=u.any ho I.free (by simp)
 exact I.step (g':=s.gens) (d':=s.drawn) (ch:=[]) (fun _ z=>nomatch z) (fun b o _ hb _ e n=>u.keep b o e n hb (by simp)) (fun b o _ hb _ e n=>u.slot b o e n hb (by simp)) (fun b o _ e n=>u.free b o e n (by simp)) (fun b o _ e=>u.there b o e (by simp)) u.tups u.frzs u.tbls (fun m' hm=>by
  obtain ⟨o',es',ep',ho',r'⟩:=hm
  rw [ho] at ho';cases ho'
  exact ⟨_,es',ep',hL,r'⟩) hok I.bare
theorem Inv.call {g':Array GenState}{t':Nat}{d':Drawn}{ch:List Addr}(I:Inv X pins σ H s)(u:Un (frs X.stack) ch H H' s.heap h')(hok:HOk X.prog X.w H' h')(hg:AllBare g')
  (hch:∀b∈ch,(b∈X.ex\/X.s₀.heap.objs.size<=b)/\b≠X.env.locals/\(∀x c,X.env.cells.lookup x=some c->c≠b)/\∀p∈X.pn++pins,p.1≠b) :
  Inv X pins σ H' {s with heap:=h',gens:=g',drawn:=d',toks:=t'}:=by
 obtain ⟨m,⟨o,es,ep,ho,r⟩,_⟩:=id I.loc
 obtain ⟨sl,hL⟩:=u.any ho I.free fun z=>(hch _ z).2.1 rfl
 exact I.step (ch:=ch) hch (fun b o hL hb hc e n=>u.keep b o e n (fun z=>(List.mem_cons.mp (I.stkSub b z)).elim hL hb) hc) (fun b o _ _ hc e n=>u.any e n hc) (fun b o hc e n=>u.free b o e n hc) (fun b o hc e=>u.there b o e hc) u.tups u.frzs u.tbls (fun m' hm=>by
  obtain ⟨o',es',ep',ho',r'⟩:=hm
  rw [ho] at ho';cases ho'
  exact ⟨_,es',ep',hL,r'⟩) hok hg
theorem Inv.turned {t':Nat}{it:Addr}(I:Inv X pins σ H s)(k:∀b o,b≠it->s.heap.get? b=some o->h'.get? b=some o)(hn:H it=none)(hL:it≠X.env.locals)
  (h1:it∈X.ex\/X.s₀.heap.objs.size<=it) (h2:∀x c,X.env.cells.lookup x=some c->c≠it) (h3:∀p∈X.pn++pins,p.1≠it):Inv X pins σ H {s with heap:=h',toks:=t'}:=by
 have nit:∀b u,H b=some u->b≠it:=fun b u e z=>by rw [z,hn] at e;cases e
 refine I.step (g':=s.gens) (d':=s.drawn) (ch:=[it]) (fun b hb=>?_) (fun b o _ _ hc e _=>k b o (fun z=>hc (by simp [z])) e) (fun b o _ _ hc e _=>⟨o.slots,k b o (fun z=>hc (by simp [z])) e⟩) (fun _ _ _ _ n=>n)
  (fun b o hc e=>⟨o,k b o (fun z=>hc (by simp [z])) e⟩) (fun _ _ e=>e) (fun _ _ _ e=>e) (fun b ps e=>⟨#[],by rw [e];simp⟩) (fun m hm=>?_) (fun b u e=>?_) I.bare
 ·have e:b=it:=by simpa using hb
  subst e
  exact ⟨h1,hL,h2,h3⟩
 ·obtain ⟨o,es,ep,ho,r⟩:=hm
  exact ⟨o,es,ep,k _ o (Ne.symm hL) ho,r⟩
 ·refine (I.hok b u e).stay (fun c v hc q=>k c v ?_ q) (fun _ q=>q) fun _ _ q=>q
  rcases hc with z | z
  ·rw [z];exact nit b u e
  ·exact nit c _ z
theorem Inv.tok (I:Inv X pins σ H s)(t:Nat):Inv X pins σ H {s with toks:=t}:=I.un (h':=s.heap) (t':=t) Un.refl I.hok
theorem Inv.kept {t':Nat}(I:Inv X pins σ H s)(k:∀b u,s.heap.get? b=some u->h'.get? b=some u):Inv X pins σ H {s with heap:=h',toks:=t'}:=I.un (Un.kept k) (I.hok.kept k)
theorem Inv.laid {a:Addr}{o:HO}{t':Nat}(I:Inv X pins σ H s)(k:∀b u,s.heap.get? b=some u->h'.get? b=some u)(hp:s.heap.objs.size<=a)(new:fh X.prog X.w (upd H a o) h' a o) :
  Inv X pins σ (upd H a o) {s with heap:=h',toks:=t'}:=I.un (Un.laid k hp (I.hok.fresh hp)) (I.hok.laid k hp new)
theorem Inv.write {x e:Addr}{o:HO}{t':Nat}(I:Inv X pins σ H s)(mu:Mut (H x))(he:e=x\/H e=some (.own x))(k:∀b u,b≠e->s.heap.get? b=some u->h'.get? b=some u)(heo:∃u,h'.get? e=some u)
  (new:fh X.prog X.w (upd H x o) h' x o):Inv X pins σ (upd H x o) {s with heap:=h',toks:=t'}:=I.un (Un.write mu he k heo) (I.hok.write mu he k heo new)
theorem Inv.weak {σ':List (Option V)}(I:Inv X pins σ H s)(hl:σ'.length=σ.length)(w:∀(i:Nat) v,σ'[i]?=some (some v)->σ[i]?=some (some v)):Inv X pins σ' H s:=
 ⟨I.ok,I.os,I.bare,I.base,let ⟨m,hn,hl'⟩:=I.loc;⟨m,hn,fun i x v e1 e2 e3=>hl' i x v e1 (w i v e2) e3⟩,I.cell,I.free,I.freeC,I.pin,I.hok,hl.trans I.len⟩
theorem Inv.pins_of {pins':List (Addr×Obj)}(I:Inv X pins σ H s)(h:∀p∈pins',s.heap.get? p.1=some p.2/\H p.1=none/\p.1≠X.env.locals/\p.1∉X.fs/\∀v,p.2.data≠.cell v):Inv X pins' σ H s:=
 ⟨I.ok,I.os,I.bare,I.base,I.loc,I.cell,I.free,I.freeC,fun p hp=>(List.mem_append.mp hp).elim (fun z=>I.pin p (List.mem_append_left _ z)) (h p),I.hok,I.len⟩
theorem qh {N:List Str}(hN:N.Nodup){i j:Nat}{x:Str}(a:N[i]?=some x)(b:N[j]?=some x):i=j:=by
 obtain ⟨h1,e1⟩:=List.getElem?_eq_some_iff.mp a
 obtain ⟨h2,e2⟩:=List.getElem?_eq_some_iff.mp b
 exact (List.getElem_inj hN).mp (e1.trans e2.symm)
theorem td {M:Model}{A:Around}{E:Value->Shared->Prop}{i:Nat}{x:Str}{v:V}{u:Value}{Q:Unit->Shared->Prop}(I:Inv X pins σ H s)(hN:X.N.Nodup)(hi:X.N[i]?=some x)(hx:Loc X.env.scope x)(r:bu v u)
  (h:∀s',Inv X pins (σ.set i (some v)) H s'->(∃a,Heap.SameBut a s.heap s'.heap/\(a=X.env.locals\/X.env.cells.lookup x=some a))->Q () s') (hf:X.fn x=true\/X.env.scope.names.lookup x=some .local:=by first | exact .inl rfl | exact .inr rfl | assumption):wpAny M A (storeName X.env x u) Q E s:=by
 obtain ⟨m,hn,hl⟩:=id I.loc
 have hcls:(X.env.scope.kind == .class || (X.env.scope.kind == .module && X.env.locals != X.env.globals))=false:=by rw [I.ok.kind];rfl
 have hiσ:i < σ.length:=by rw [I.len];exact (List.getElem?_eq_some_iff.mp hi).1
 have cne:=I.cne
 have tracked:∀{a:Addr} {h':Heap},(∃o,s.heap.get? a=some o/\H a=none)->Heap.SameBut a s.heap h'->HOk X.prog X.w H h':=fun {a h'} ha hs b ob e=>by
  obtain ⟨_,_,hfree⟩:=ha
  refine (I.hok b ob e).stay (fun c w' hc q=>(hs.2 c ?_).trans q) (fun _ q=>q) fun _ _ q=>q
  rintro rfl
  rcases hc with rfl | hc
  ·rw [hfree] at e;cases e
  ·rw [hfree] at hc;cases hc
 rcases hx with hk | hk
 ·refine wpAny_storeName_local hk hn (fun h' hn' hs=>?_) hcls
  obtain ⟨oL,_,_,hoL,_⟩:=id hn
  refine h _ ⟨I.ok,I.os,I.bare,⟨fun b o e n hb hx=>?_,fun b o e n hb hx=>?_,I.base.free,fun b o e hx=>?_,I.base.tups,I.base.frzs,I.base.tbls⟩,⟨_,hn',fun j y v' e1 e2 e3=>?_⟩,fun y c e=>?_,I.free,I.freeC,fun p hp=>?_,tracked ⟨oL,hoL,I.free⟩ hs,by simpa using I.len⟩ ⟨_,hs,.inl rfl⟩
  ·exact (hs.2 b (Nat.ne_of_lt (Nat.lt_of_lt_of_le (Heap.lt_size e) I.ok.above))).trans (I.base.keep b o e n hb hx)
  ·obtain ⟨sl,e1⟩:=I.base.slot b o e n hb hx
   exact ⟨sl,(hs.2 b (Nat.ne_of_lt (Nat.lt_of_lt_of_le (Heap.lt_size e) I.ok.above))).trans e1⟩
  ·obtain ⟨o',e1⟩:=I.base.there b o e hx
   exact ⟨o',(hs.2 b (Nat.ne_of_lt (Nat.lt_of_lt_of_le (Heap.lt_size e) I.ok.above))).trans e1⟩
  ·by_cases hj:j=i
   ·subst hj
    rw [hi] at e1;cases e1
    rw [List.getElem?_set_self hiσ] at e2
    cases e2
    exact ⟨u,r,.inl ⟨hk,by simp⟩⟩
   ·rw [List.getElem?_set_ne (Ne.symm hj)] at e2
    obtain ⟨u',r',q⟩:=hl j y v' e1 e2 e3
    refine ⟨u',r',?_⟩
    rcases q with ⟨k,e⟩ | ⟨k,c,e,z⟩
    ·refine .inl ⟨k,?_⟩
     have:y≠x:=fun e=>hj (qh hN e1 (e▸hi))
     simp [this,e]
    ·exact .inr ⟨k,c,e,z.sameBut hs (cne y c e)⟩
  ·obtain ⟨w',z⟩:=I.cell y c e
   exact ⟨w',z.sameBut hs (cne y c e)⟩
  ·obtain ⟨e,n,ne,nf,d⟩:=I.pin p hp
   exact ⟨(hs.2 p.1 ne).trans e,n,ne,nf,d⟩
 ·have hfn:X.fn x=true:=by
   rcases hf with z | z
   ·exact z
   ·rw [z] at hk;cases hk
  obtain ⟨c,hc⟩:=I.ok.has x (.inl hk)
  obtain ⟨w',z⟩:=I.cell x c hc
  refine wpAny_storeName_cell I.ok.kind hk hc z (fun h' hc' hs=>?_)
  obtain ⟨oc,hoc,hocd⟩:=id z
  refine h {s with heap:=h'} ⟨I.ok,I.os,I.bare,⟨fun b o e n hb hx=>?_,fun b o e n hb hx=>?_,I.base.free,fun b o e hx=>?_,I.base.tups,I.base.frzs,I.base.tbls⟩,⟨m,hn.sameBut hs (Ne.symm (cne x c hc)),fun j y v' e1 e2 e3=>?_⟩,fun y c' e=>?_,I.free,I.freeC,fun p hp=>?_,tracked ⟨oc,hoc,I.freeC x c hc⟩ hs,by simpa using I.len⟩ ⟨c,hs,.inr hc⟩
  ·exact (hs.2 b (Nat.ne_of_lt (Nat.lt_of_lt_of_le (Heap.lt_size e) (I.ok.cab x c hfn hc)))).trans (I.base.keep b o e n hb hx)
  ·obtain ⟨sl,e1⟩:=I.base.slot b o e n hb hx
   exact ⟨sl,(hs.2 b (Nat.ne_of_lt (Nat.lt_of_lt_of_le (Heap.lt_size e) (I.ok.cab x c hfn hc)))).trans e1⟩
  ·obtain ⟨o',e1⟩:=I.base.there b o e hx
   exact ⟨o',(hs.2 b (Nat.ne_of_lt (Nat.lt_of_lt_of_le (Heap.lt_size e) (I.ok.cab x c hfn hc)))).trans e1⟩
  ·by_cases hj:j=i
   ·subst hj
    rw [hi] at e1;cases e1
    rw [List.getElem?_set_self hiσ] at e2
    cases e2
    exact ⟨u,r,.inr ⟨.inl hk,c,hc,hc'⟩⟩
   ·rw [List.getElem?_set_ne (Ne.symm hj)] at e2
    obtain ⟨u',r',q⟩:=hl j y v' e1 e2 e3
    refine ⟨u',r',?_⟩
    rcases q with q | ⟨k,c',e,z'⟩
    ·exact .inl q
    ·refine .inr ⟨k,c',e,z'.sameBut hs ?_⟩
     rintro rfl
     exact hj (qh hN e1 (I.ok.inj _ _ _ e hc▸hi))
  ·by_cases hcc:c'=c
   ·subst hcc;exact ⟨_,hc'⟩
   ·obtain ⟨w2,z2⟩:=I.cell y c' e
    exact ⟨w2,z2.sameBut hs hcc⟩
  ·obtain ⟨e,n,ne,nf,d⟩:=I.pin p hp
   refine ⟨(hs.2 p.1 ?_).trans e,n,ne,nf,d⟩
   intro q
   rw [q,hoc] at e
   have q':oc=p.2:=Option.some.inj e
   exact d w' (by rw [←q'];exact hocd)
theorem mU {M:Model}{A:Around}{E:Value->Shared->Prop}{i:Nat}{x:Str}{v:V}{u:Value}{Q:Unit->Shared->Prop}(I:Inv X pins σ H s)(hN:X.N.Nodup)(hi:X.N[i]?=some x)(hx:Loc X.env.scope x)(r:bu v u)
  (h:∀s',Inv X pins (σ.set i (some v)) H s'->Q () s') (hf:X.fn x=true\/X.env.scope.names.lookup x=some .local:=by first | exact .inl rfl | exact .inr rfl | assumption):wpAny M A (storeName X.env x u) Q E s:=
 td I hN hi hx r (fun s' I' _=>h s' I') hf
theorem Inv.call' {s':Shared}{ch:List Addr}(I:Inv X pins σ H s)(ho:s'.os=s.os)(u:Un (frs X.stack) ch H H' s.heap s'.heap)(hok:HOk X.prog X.w H' s'.heap)(hg:AllBare s'.gens)
  (hch:∀b∈ch,(b∈X.ex\/X.s₀.heap.objs.size<=b)/\b≠X.env.locals/\(∀x c,X.env.cells.lookup x=some c->c≠b)/\∀p∈X.pn++pins,p.1≠b):Inv X pins σ H' s':=by
 obtain ⟨h',g',d',t',o'⟩:=s'
 have e:o'=s.os:=ho
 subst e
 exact I.call (g':=g') (t':=t') (d':=d') u hok hg hch
end
noncomputable abbrev XK:=Value->Option Addr->Hp->Prop
noncomputable abbrev St:=List (Option V)
noncomputable abbrev VK:=V->Hp->Prop
noncomputable abbrev TE:=St->Hp->VK->Prop
noncomputable abbrev TT:=St->Hp->(Bool->Hp->Prop)->Prop
noncomputable abbrev TA:=St->Hp->(List V->Hp->Prop)->Prop
structure lj where
 nx:St->Hp->Prop
 rt:VK
 bk:St->Hp->Prop:=fun _ _=>False
 ct:St->Hp->Prop:=fun _ _=>False
noncomputable abbrev TS:=lj->St->Hp->Prop
def EP (X:Cx)(pins:List (Addr×Obj))(σ:St)(Q:VK)(u:Value)(s':Shared):Prop:=∃v H',Inv X pins σ H' s'/\bu v u/\Q v H'
def TP (X:Cx)(pins:List (Addr×Obj))(σ:St)(Q:Bool->Hp->Prop)(b:Bool)(s':Shared):Prop:=∃H',Inv X pins σ H' s'/\Q b H'
def AP (X:Cx)(pins:List (Addr×Obj))(σ:St)(Q:List V->Hp->Prop)(us:List Value)(s':Shared):Prop:=∃vs H',Inv X pins σ H' s'/\a8 vs us/\Q vs H'
def SP (X:Cx)(pins:List (Addr×Obj))(D:lj)(f:Flow)(s':Shared):Prop:=
 match f with
 | .next=>∃σ' H',Inv X pins σ' H' s'/\D.nx σ' H'
 | .brk=>∃σ' H',Inv X pins σ' H' s'/\D.bk σ' H'
 | .cont=>∃σ' H',Inv X pins σ' H' s'/\D.ct σ' H'
 | .ret u=>∃v σ' H',Inv X pins σ' H' s'/\bu v u/\D.rt v H'
def PE (X:Cx)(e:Expr)(t:TE):Prop:=
 ∀(pins:List (Addr×Obj)) (s:Shared) (σ:St) (H:Hp) (Q:VK),Inv X pins σ H s->t σ H Q->wpAny (model X.prog X.w) X.A (eval e X.env) (EP X pins σ Q) X.xe s
def PT (X:Cx)(e:Expr)(t:TT):Prop:=
 ∀(pins:List (Addr×Obj)) (s:Shared) (σ:St) (H:Hp) (Q:Bool->Hp->Prop),Inv X pins σ H s->t σ H Q->wpAny (model X.prog X.w) X.A (isTrue e X.env (eval e X.env)) (TP X pins σ Q) X.xe s
def PW (X:Cx)(e:Expr)(t:TT):Prop:=
 ∀(bX:Sem Value) (pins:List (Addr×Obj)) (s:Shared) (σ:St) (H:Hp) (Q:Bool->Hp->Prop),Inv X pins σ H s->t σ H Q->wpAny (model X.prog X.w) X.A (isTrue e X.env bX) (TP X pins σ Q) X.xe s
theorem PW.pt {X:Cx}{e:Expr}{t:TT}(h:PW X e t):PT X e t:=h _
def PA (X:Cx)(es:List Expr)(t:TA):Prop:=
 ∀(pos:Pos) (pins:List (Addr×Obj)) (s:Shared) (σ:St) (H:Hp) (Q:List V->Hp->Prop),Inv X pins σ H s->t σ H Q->wpAny (model X.prog X.w) X.A (spliced (backTo pos (starEach es X.env))) (AP X pins σ Q) X.xe s
def PS (X:Cx)(st:Stmt)(t:TS):Prop:=
 ∀(pins:List (Addr×Obj)) (s:Shared) (σ:St) (H:Hp) (D:lj),Inv X pins σ H s->t D σ H->wpAny (model X.prog X.w) X.A (exec st X.env) (SP X pins D) X.xe s
def PSs (X:Cx)(st:List Stmt)(t:TS):Prop:=
 ∀(pins:List (Addr×Obj)) (s:Shared) (σ:St) (H:Hp) (D:lj),Inv X pins σ H s->t D σ H->wpAny (model X.prog X.w) X.A (execs st X.env) (SP X pins D) X.xe s
theorem thn {α:Type}{t:Sem α}{Q Q':α->Shared->Prop}{M:Model}{A:Around}{E:Value->Shared->Prop}{s:Shared}(h:wpAny M A t Q E s)(hQ:∀a s,Q a s->Q' a s):wpAny M A t Q' E s:=wpAny_mono h hQ fun _ _ x=>x
section
variable {X:Cx}
theorem bin {a b:Expr}{ta tb:TE}(ha:PE X a ta)(hb:PE X b tb){pins:List (Addr×Obj)}{s:Shared}{σ:St}{H:Hp}{R:V->V->Hp->Prop}(I:Inv X pins σ H s)(h:ta σ H fun x H1=>tb σ H1 fun y H2=>R x y H2)
  {α:Type} {Q:α->Shared->Prop} {f:Value->Value->Sem α}
  (hf:∀v u s2 x y H2,Inv X pins σ H2 s2->bu x v->bu y u->R x y H2->wpAny (model X.prog X.w) X.A (f v u) Q X.xe s2) :
  wpAny (model X.prog X.w) X.A (eval a X.env) (fun v s₁=>wpAny (model X.prog X.w) X.A (eval b X.env) (fun u s₂=>wpAny (model X.prog X.w) X.A (f v u) Q X.xe s₂) X.xe s₁) X.xe s:=by
 refine thn (ha pins s σ H _ I h) fun v s1 ⟨x,H1,I1,r1,q1⟩=>?_
 refine thn (hb pins s1 σ H1 _ I1 q1) fun u s2 ⟨y,H2,I2,r2,q2⟩=>?_
 exact hf v u s2 x y H2 I2 r1 r2 q2
noncomputable def DJ (i:Nat):TE:=fun σ H Q=>∃v,σ[i]?=some (some v)/\Q v H
noncomputable def tC (v:V):TE:=fun _ H Q=>Q v H
theorem DK {i:Nat}{x:Str}{pos:Pos}(hN:X.N[i]?=some x)(hv:Vis X.env.scope x)(hd:(x == ("__debug__":Str))=false:=by decide)(hcd:(x == ("__classdict__":Str))=false:=by decide):PE X (.Name x pos) (DJ i):=by
 intro pins s σ H Q I h
 obtain ⟨v,e,h⟩:=h
 obtain ⟨m,hn,hl⟩:=I.loc
 obtain ⟨u,r,l⟩:=hl i x v hN e hv
 have fin:EP X pins σ Q u s:=⟨v,H,I,r,h⟩
 rcases l with ⟨hk,hm⟩ | ⟨hk,c,hc,hcell⟩
 ·exact wpAny_Name (wpAny_loadName_local I.ok.kind hk hn hm fin) hd
 ·rcases hk with hk | hk
  ·exact wpAny_Name (wpAny_loadName_cell I.ok.kind hk hc hcell fin) hd
  ·exact wpAny_Name (wpAny_loadName_free I.ok.kind hk hc hcell fin hcd) hd
theorem af {i j pos}:PE X (.Constant (.int i) j pos) (tC (.int i)):=fun _ _ _ H _ I h=>wpAny_Constant_int ⟨.int i,H,I.tok _,⟨_,rfl⟩,h⟩
theorem fP {b j pos}:PE X (.Constant (.bool b) j pos) (tC (.bl b)):=fun _ _ _ H _ I h=>Constant_bool ⟨.bl b,H,I,rfl,h⟩
theorem i6 {j pos}:PE X (.Constant .none j pos) (tC .non):=fun _ _ _ H _ I h=>Constant_none ⟨.non,H,I,rfl,h⟩
theorem ak {x j pos}:PE X (.Constant (.str x) j pos) (tC (.str x)):=fun _ _ _ H _ I h=>Calls.Constant_str ⟨.str x,H,I.tok _,⟨_,rfl⟩,h⟩
def Gl (X:Cx)(x:Str):Prop:=X.env.kindOf x=some .globalImplicit
theorem mV {E:Value->Shared->Prop}{pins:List (Addr×Obj)}{s:Shared}{σ:St}{H:Hp}{x:Str}{u:Value}{pos:Pos}{Q:Value->Shared->Prop}(I:Inv X pins σ H s)(hg:Gl X x)(hm:X.mg x=some u)(h:Q u s)
  (hd:(x == ("__debug__":Str))=false:=by decide):wpAny (model X.prog X.w) X.A (eval (.Name x pos) X.env) Q E s:=
 Calls.Name_function_global I.ok.kind hg (Calls.loadGlobal_global (by rw [I.ok.glob];exact I.mod.glob.keeps I.bk) hm h) hd
theorem mi {E:Value->Shared->Prop}{pins:List (Addr×Obj)}{s:Shared}{σ:St}{H:Hp}{x:Str}{u:Value}{pos:Pos}{Q:Value->Shared->Prop}(I:Inv X pins σ H s)(hg:Gl X x)(hm:X.mg x=none)(hv:bootBuiltins x=some u)(h:Q u s)
  (hn:x≠"__name__":=by decide) (hd:(x == ("__debug__":Str))=false:=by decide):wpAny (model X.prog X.w) X.A (eval (.Name x pos) X.env) Q E s:=by
 obtain ⟨mb,h1,h2⟩:=I.mod.blt
 exact Calls.Name_function_global I.ok.kind hg (Calls.loadGlobal_builtin (by rw [I.ok.glob];exact I.mod.glob.keeps I.bk) hm (by rw [I.ok.blt];exact h1.keeps I.bk) ((h2 x hn).trans hv) h) hd
theorem gS {x:Str}{v:V}{u:Value}{pos:Pos}(hg:Gl X x)(hm:X.mg x=some u)(r:bu v u)(hd:(x == ("__debug__":Str))=false:=by decide):PE X (.Name x pos) (tC v):=
 fun _ _ _ H _ I h=>mV I hg hm ⟨v,H,I,r,h⟩ hd
theorem dE {x:Str}{v:V}{u:Value}{pos:Pos}(hg:Gl X x)(hm:X.mg x=none)(hv:bootBuiltins x=some u)(r:bu v u)(hn:x≠"__name__":=by decide)(hd:(x == ("__debug__":Str))=false:=by decide):PE X (.Name x pos) (tC v):=
 fun _ _ _ H _ I h=>mi I hg hm hv ⟨v,H,I,r,h⟩ hn hd
variable {a b:Expr}{ta tb:TE}{pos:Pos}
def PC (X:Cx)(op:CmpOp)(a b:Expr)(t:TE):Prop:=
 ∀(pins:List (Addr×Obj)) (s:Shared) (σ:St) (H:Hp) (Q:VK),Inv X pins σ H s->t σ H Q->
  wpAny (model X.prog X.w) X.A (eval a X.env) (fun v s₁=>wpAny (model X.prog X.w) X.A (eval b X.env) (fun u s₂=>wpAny (model X.prog X.w) X.A (compareOp op v u) (EP X pins σ Q) X.xe s₂) X.xe s₁) X.xe s
theorem zN (b:Expr){op:CmpOp}(h:op≠.In)(h2:op≠.NotIn):behindInMarks op b=false:=by
 have e1:(op == CmpOp.In)=false:=by cases op<;>first | rfl | exact absurd rfl h
 have e2:(op == CmpOp.NotIn)=false:=by cases op<;>first | rfl | exact absurd rfl h2
 cases b<;>simp [behindInMarks,e1,e2]
noncomputable def tB (t:TE):TT:=fun σ H Q=>t σ H fun x H1=>∃c,x=.bl c/\Q c H1
theorem Gu {op:CmpOp}{t:TE}(h:PC X op a b t)(h1:behindInMarks op b=false:=by first | exact zN _ (by decide) (by decide) | rfl):PT X (.Compare a [op] [b] pos) (tB t):=by
 intro pins s σ H Q I hw
 refine wpAny_isTrue_Compare1 (thn (h pins s σ H _ I hw) fun v s1 h1=>thn h1 fun u s2 h2=>thn h2 fun c s3 ⟨x,H1,I1,r1,q1⟩=>?_) h1
 obtain ⟨d,rfl,q⟩:=q1
 cases r1
 exact wpAny_truthy_bool ⟨H1,I1,q⟩
theorem DL {e:Expr}{t:TE}(h:PE X e t)(he:∀bX,isTrue e X.env bX=(do let v ←bX;standAt e.pos;holding [v] (truthy v)):=by intro _;rfl):PT X e (tB t):=by
 intro pins s σ H Q I hw
 refine isTrue_plain (thn (h pins s σ H _ I hw) fun v s1 ⟨x,H1,I1,r1,q1⟩=>?_) (he _)
 obtain ⟨d,rfl,q⟩:=q1
 cases r1
 exact wpAny_truthy_bool ⟨H1,I1,q⟩
variable {tA tB':TT}{fz:List Expr}
noncomputable def Fi (t u:TT):TT:=fun σ H Q=>t σ H fun c H1=>if c=true then u σ H1 Q else Q false H1
noncomputable def tOr (t u:TT):TT:=fun σ H Q=>t σ H fun c H1=>if c=true then Q true H1 else u σ H1 Q
noncomputable def Fj (t:TT):TT:=fun σ H Q=>t σ H fun c H1=>Q (!c) H1
theorem fU (ha:PT X a tA):PW X (.BoolOp .And [a] pos) tA:=by
 intro wh pins s σ H Q I h
 refine isTrue_and (thn (ha pins s σ H Q I h) fun c s1 e=>?_)
 cases c with
 | true=>exact isTrue_and_nil e
 | false=>exact e
theorem jR (ha:PT X a tA):PW X (.BoolOp .Or [a] pos) tA:=by
 intro wh pins s σ H Q I h
 refine isTrue_or (thn (ha pins s σ H Q I h) fun c s1 e=>?_)
 cases c with
 | false=>exact isTrue_or_nil e
 | true=>exact e
theorem i7 (ha:PT X a tA)(hb:PW X (.BoolOp .And (b::fz) pos) tB'):PW X (.BoolOp .And (a::b::fz) pos) (Fi tA tB'):=by
 intro wh pins s σ H Q I h
 refine isTrue_and (thn (ha pins s σ H _ I h) fun c s1 ⟨H1,I1,q1⟩=>?_)
 cases c with
 | true=>exact hb wh pins s1 σ H1 Q I1 q1
 | false=>exact ⟨H1,I1,q1⟩
theorem mW (ha:PT X a tA)(hb:PW X (.BoolOp .Or (b::fz) pos) tB'):PW X (.BoolOp .Or (a::b::fz) pos) (tOr tA tB'):=by
 intro wh pins s σ H Q I h
 refine isTrue_or (thn (ha pins s σ H _ I h) fun c s1 ⟨H1,I1,q1⟩=>?_)
 cases c with
 | true=>exact ⟨H1,I1,q1⟩
 | false=>exact hb wh pins s1 σ H1 Q I1 q1
theorem dH (ha:PT X a tA):PT X (.UnaryOp .Not a pos) (Fj tA):=by
 intro pins s σ H Q I h
 exact isTrue_not (ha pins s σ H (fun c H1=>Q (!c) H1) I h)
noncomputable def CZ (ta tb:TE):TE:=fun σ H Q=>ta σ H fun x H1=>∃c,x=.bl c/\if c=true then tb σ H1 Q else Q (.bl false) H1
noncomputable def Fk (ta tb:TE):TE:=fun σ H Q=>ta σ H fun x H1=>∃c,x=.bl c/\if c=true then Q (.bl true) H1 else tb σ H1 Q
theorem uf {op}{t:TE}(h:PE X a t):PE X (.BoolOp op [a] pos) t:=fun pins s σ H Q I hw=>BoolOp_one (h pins s σ H Q I hw)
theorem DM (ha:PE X a ta)(hb:PE X (.BoolOp .And (b::fz) pos) tb):PE X (.BoolOp .And (a::b::fz) pos) (CZ ta tb):=by
 intro pins s σ H Q I h
 refine BoolOp_and (thn (ha pins s σ H _ I h) fun v s1 ⟨x,H1,I1,r1,q1⟩=>?_)
 obtain ⟨c,rfl,q1⟩:=q1
 cases r1
 refine wpAny_truthy_bool ?_
 cases c with
 | true=>exact hb pins s1 σ H1 Q I1 q1
 | false=>exact ⟨.bl false,H1,I1,rfl,q1⟩
theorem Fl (ha:PE X a ta)(hb:PE X (.BoolOp .Or (b::fz) pos) tb):PE X (.BoolOp .Or (a::b::fz) pos) (Fk ta tb):=by
 intro pins s σ H Q I h
 refine BoolOp_or (thn (ha pins s σ H _ I h) fun v s1 ⟨x,H1,I1,r1,q1⟩=>?_)
 obtain ⟨c,rfl,q1⟩:=q1
 cases r1
 refine wpAny_truthy_bool ?_
 cases c with
 | false=>exact hb pins s1 σ H1 Q I1 q1
 | true=>exact ⟨.bl true,H1,I1,rfl,q1⟩
noncomputable def tIf (t:TT)(ta tb:TE):TE:=fun σ H Q=>t σ H fun c H1=>if c=true then ta σ H1 Q else tb σ H1 Q
theorem vf {c:Expr}(hc:PT X c tA)(ha:PE X a ta)(hb:PE X b tb):PE X (.IfExp c a b pos) (tIf tA ta tb):=by
 intro pins s σ H Q I h
 refine wpAny_IfExp (thn (hc pins s σ H _ I h) fun d s1 ⟨H1,I1,q1⟩=>?_)
 cases d with
 | true=>exact ha pins s1 σ H1 Q I1 q1
 | false=>exact hb pins s1 σ H1 Q I1 q1
end
def SqL (K:JA)(H:Hp)(a:Addr)(xs:List V):Prop:=
 Rd H a (.lst xs)\/
  ∃(o:Obj) (its:Array Value) (n:Nat),K.lookup a=some o/\o.cls=.type "list"/\o.dict=none/\o.data=.seq its n/\its.size<=sizeLine/\a8 xs its.toList
def SqT (K:JA)(H:Hp)(a:Addr)(xs:List V):Prop:=
 Rd H a (.tup xs)\/
  ∃(o:Obj) (its:Array Value) (n:Nat),K.lookup a=some o/\o.cls=.type "tuple"/\o.data=.seq its n/\its.size<=sizeLine/\a8 xs its.toList
noncomputable def Gv:Value->Option V
 | .none=>some .non
 | .bool b=>some (.bl b)
 | .int i _=>some (.int i)
 | .str x _=>some (.str x)
 | .bytes b _=>some (.byt b)
 | .float b _=>some (.flt b)
 | .ref a=>some (.ref a)
 | .type n=>some (.ty n)
 | _=>none
theorem bu.abs {x:V}{u:Value}(r:bu x u):Gv u=some x:=by
 cases x with
 | non=>cases r;rfl
 | bl _=>cases r;rfl
 | int _=>obtain ⟨t,rfl⟩:=r;rfl
 | str _=>obtain ⟨t,rfl⟩:=r;rfl
 | byt _=>obtain ⟨t,rfl⟩:=r;rfl
 | flt _=>obtain ⟨t,rfl⟩:=r;rfl
 | ref _=>cases r;rfl
 | ty _=>cases r;rfl
theorem bu.inj {x y:V}{u:Value}(r:bu x u)(q:bu y u):x=y:=Option.some.inj (r.abs.symm.trans q.abs)
theorem a8.inj:∀{xs ys:List V} {us:List Value},a8 xs us->a8 ys us->xs=ys
 | _,_,_,.nil,.nil=>rfl
 | _,_,_,.cons r t,.cons r' t'=>by rw [r.inj r',a8.inj t t']
section
variable {X:Cx}{pins:List (Addr×Obj)}{σ:St}{H:Hp}{s:Shared}{a:Addr}{xs ys:List V}
theorem SqL.of {K:JA}(h:H a=some (.lst xs)):SqL K H a xs:=.inl (.inl h)
theorem SqT.of {K:JA}(h:H a=some (.tup xs)):SqT K H a xs:=.inl (.inl h)
theorem Inv.list (I:Inv X pins σ H s)(h:SqL X.K H a xs):∃its:List Value,a8 xs its/\PlainL s.heap a its.toArray/\xs.length<=sizeLine:=by
 rcases h with h | ⟨o,its,n,hk,hc,hd,hs,hz,r⟩
 ·obtain ⟨z,its,n,r,e⟩:=h.ok I.hok
  exact ⟨its,r,⟨_,n,e,rfl,rfl,rfl⟩,z⟩
 ·refine ⟨its.toList,r,⟨o,n,I.kIn a o hk,hc,hd,by simpa using hs⟩,?_⟩
  have e:=r.length
  simp only [Array.length_toList] at e
  omega
theorem Inv.tuple (I:Inv X pins σ H s)(h:SqT X.K H a xs):∃its:List Value,a8 xs its/\IsTup s.heap a its.toArray/\xs.length<=sizeLine:=by
 rcases h with h | ⟨o,its,n,hk,hc,hs,hz,r⟩
 ·obtain ⟨z,its,r,p⟩:=h.ok I.hok
  exact ⟨its,r,p.tup,z⟩
 ·refine ⟨its.toList,r,⟨o,I.kIn a o hk,hc,n,by simpa using hs⟩,?_⟩
  have e:=r.length
  simp only [Array.length_toList] at e
  omega
theorem Inv.list_inj (I:Inv X pins σ H s)(h:SqL X.K H a xs)(h':SqL X.K H a ys):xs=ys:=by
 obtain ⟨its,r,⟨o,n,e,_,_,d⟩,_⟩:=I.list h
 obtain ⟨its',r',⟨o',n',e',_,_,d'⟩,_⟩:=I.list h'
 rw [e] at e';cases e'
 rw [d] at d'
 injection d' with d1 _
 have:its=its':=by simpa using congrArg Array.toList d1
 subst this
 exact r.inj r'
end
noncomputable abbrev Cx.wish (X:Cx)(E:Value->Shared->Prop):Cx:={X with xe:=E}
noncomputable abbrev Cx.nox (X:Cx):Cx:=X.wish fun _ _=>False
theorem Cx.Ok.wish {X:Cx}(ok:X.Ok)(E:Value->Shared->Prop):(X.wish E).Ok:=
 ⟨ok.mod,ok.kind,ok.glob,ok.blt,ok.above,ok.inj,ok.has,ok.cab,ok.hd,ok.frames,ok.stk,ok.exf,ok.bs,ok.bsz,ok.noex,ok.exfs,ok.funs,ok.frf⟩
theorem Cx.Ok.unwish {X:Cx}{E:Value->Shared->Prop}(ok:(X.wish E).Ok):X.Ok:=
 ⟨ok.mod,ok.kind,ok.glob,ok.blt,ok.above,ok.inj,ok.has,ok.cab,ok.hd,ok.frames,ok.stk,ok.exf,ok.bs,ok.bsz,ok.noex,ok.exfs,ok.funs,ok.frf⟩
section
variable {X:Cx}{pins:List (Addr×Obj)}{σ:St}{H:Hp}{s:Shared}{E:Value->Shared->Prop}
theorem Inv.wish (I:Inv X pins σ H s)(E:Value->Shared->Prop):Inv (X.wish E) pins σ H s:=⟨I.ok.wish E,I.os,I.bare,I.base,I.loc,I.cell,I.free,I.freeC,I.pin,I.hok,I.len⟩
theorem Inv.unwish (I:Inv (X.wish E) pins σ H s):Inv X pins σ H s:=⟨I.ok.unwish,I.os,I.bare,I.base,I.loc,I.cell,I.free,I.freeC,I.pin,I.hok,I.len⟩
theorem SP.unwish {D:lj}{f:Flow}{s':Shared}(h:SP (X.wish E) pins D f s'):SP X pins D f s':=by
 cases f with
 | next=>obtain ⟨σ',H',I,q⟩:=h;exact ⟨σ',H',I.unwish,q⟩
 | brk=>obtain ⟨σ',H',I,q⟩:=h;exact ⟨σ',H',I.unwish,q⟩
 | cont=>obtain ⟨σ',H',I,q⟩:=h;exact ⟨σ',H',I.unwish,q⟩
 | ret u=>obtain ⟨v,σ',H',I,r,q⟩:=h;exact ⟨v,σ',H',I.unwish,r,q⟩
theorem PSs.nox {st:List Stmt}{t:TS}(h:PSs X.nox st t):PSs X st t:=fun pins s σ H D I hw=>
 wpAny_mono (h pins s σ H D (I.wish _) hw) (fun _ _ q=>q.unwish) fun _ _ z=>False.elim z
end
section
variable {X:Cx}{st:Stmt}{fz:List Stmt}{t u:TS}{e:Expr}{te:TE}{pos:Pos}
noncomputable def Dc:TS:=fun D σ H=>D.nx σ H
noncomputable def Fm (t u:TS):TS:=fun D σ H=>t {D with nx:=u D} σ H
theorem aD:PSs X [] Dc:=fun _ _ σ H _ I h=>wpAny_execs_nil ⟨σ,H,I,h⟩
theorem ae (h1:PS X st t)(h2:PSs X fz u):PSs X (st::fz) (Fm t u):=by
 intro pins s σ H D I h
 refine wpAny_execs_cons (thn (h1 pins s σ H {D with nx:=u D} I h) fun f s1 q=>?_)
 cases f with
 | next=>
  obtain ⟨σ',H',I',q⟩:=q
  exact h2 pins s1 σ' H' D I' q
 | ret v=>exact q
 | brk=>exact q
 | cont=>exact q
theorem ag (h1:PS X st t):PSs X [st] t:=by
 intro pins s σ H D I h
 refine wpAny_execs_cons (thn (h1 pins s σ H D I h) fun f s1 q=>?_)
 cases f with
 | next=>exact wpAny_execs_nil q
 | ret v=>exact q
 | brk=>exact q
 | cont=>exact q
theorem Inv.quiet {pins:List (Addr×Obj)}{σ:St}{H:Hp}{s:Shared}(I:Inv X pins σ H s):interactive X.env=false:=by simp [interactive,I.ok.kind]
noncomputable def De (te:TE):TS:=fun D σ H=>te σ H fun _ H1=>D.nx σ H1
theorem bD (he:PE X e te)(hs:swapsWith e none pos.line X.env=pure false:=by rfl):PS X (.Expr e pos) (De te):=by
 intro pins s σ H D I h
 exact wpAny_Expr_any (thn (he pins s σ H _ I h) fun v s1 ⟨x,H1,I1,r1,q1⟩=>⟨σ,H1,I1,q1⟩) I.quiet hs
noncomputable def Fn (te:TE):TS:=fun D σ H=>te σ H D.rt
theorem aA (he:PE X e te):PS X (.Return (some e) pos) (Fn te):=by
 intro pins s σ H D I h
 exact wpAny_Return_some (thn (he pins s σ H _ I h) fun v s1 ⟨x,H1,I1,r1,q1⟩=>⟨x,σ,H1,I1,r1,q1⟩)
noncomputable def Fo (c:TT)(t u:TS):TS:=fun D σ H=>c σ H fun b H1=>if b=true then t D σ H1 else u D σ H1
theorem aK {c:Expr}{a b:List Stmt}{tc:TT}(hc:PT X c tc)(ha:PSs X a t)(hb:PSs X b u):PS X (.If c a b pos) (Fo tc t u):=by
 intro pins s σ H D I h
 refine wpAny_If (thn (hc pins s σ H _ I h) fun d s1 ⟨H1,I1,q1⟩=>?_)
 cases d with
 | true=>exact ha pins s1 σ H1 D I1 q1
 | false=>exact hb pins s1 σ H1 D I1 q1
end
noncomputable abbrev TG:=V->St->Hp->(St->Hp->Prop)->Prop
noncomputable abbrev TGs:=List V->St->Hp->(St->Hp->Prop)->Prop
def PG (X:Cx)(target:Expr)(t:TG):Prop:=
 ∀(pins:List (Addr×Obj)) (s:Shared) (σ:St) (H:Hp) (v:V) (u:Value) (Q:St->Hp->Prop),Inv X pins σ H s->bu v u->t v σ H Q->
  wpAny (model X.prog X.w) X.A (assign target X.env u) (fun _ s'=>∃σ' H',Inv X pins σ' H' s'/\Q σ' H') X.xe s
def PGs (X:Cx)(ts:List Expr)(t:TGs):Prop:=
 ∀(pins:List (Addr×Obj)) (s:Shared) (σ:St) (H:Hp) (vs:List V) (us:List Value) (Q:St->Hp->Prop),Inv X pins σ H s->a8 vs us->t vs σ H Q->
  wpAny (model X.prog X.w) X.A (assignInOrder ((assignEach ts X.env).map (·.2)) us) (fun _ s'=>∃σ' H',Inv X pins σ' H' s'/\Q σ' H') X.xe s
noncomputable abbrev DN:=V->V->V->Hp->(Hp->Prop)->Prop
def DO (X:Cx)(t:DN):Prop:=
 ∀(pins:List (Addr×Obj)) (s:Shared) (σ:St) (H:Hp) (o i v:V) (ov iv u:Value) (Q:Hp->Prop),Inv X pins σ H s->bu o ov->bu i iv->bu v u->t o i v H Q->
  wpAny (model X.prog X.w) X.A (setItem ov iv u) (fun _ s'=>∃H',Inv X pins σ H' s'/\Q H') X.xe s
section
variable {X:Cx}{pos:Pos}
noncomputable def eg (i:Nat):TG:=fun v σ H Q=>Q (σ.set i (some v)) H
theorem aM {i:Nat}{x:Str}(hN:X.N.Nodup)(hi:X.N[i]?=some x)(hx:Loc X.env.scope x)(hf:X.fn x=true\/X.env.scope.names.lookup x=some .local:=by first | exact .inl rfl | exact .inr rfl | assumption):PG X (.Name x pos) (eg i):=by
 intro pins s σ H v u Q I r h
 exact wpAny_assign_Name (mU I hN hi hx r (fun s' I'=>⟨_,H,I',h⟩) hf)
noncomputable def DP:TGs:=fun vs σ H Q=>vs=[]/\Q σ H
noncomputable def vg (t:TG)(u:TGs):TGs:=fun vs σ H Q=>∃v r,vs=v::r/\t v σ H fun σ' H'=>u r σ' H' Q
theorem BB:PGs X [] DP:=by
 intro pins s σ H vs us Q I r h
 obtain ⟨e,h⟩:=h
 subst e
 cases r
 exact assignInOrder_nil ⟨σ,H,I,h⟩
theorem zO {e:Expr}{es:List Expr}{t:TG}{u:TGs}(h1:PG X e t)(h2:PGs X es u)
  (hs:(assignEach (e::es) X.env).map (·.2)=assign e X.env::(assignEach es X.env).map (·.2):=by rfl):PGs X (e::es) (vg t u):=by
 intro pins s σ H vs us Q I r h
 obtain ⟨v,vr,e1,h⟩:=h
 subst e1
 cases r with
 | cons r rr=>
  rw [hs]
  refine assignInOrder_cons (thn (h1 pins s σ H _ _ _ I r h) fun _ s1 ⟨σ1,H1,I1,q1⟩=>?_)
  exact h2 pins s1 σ1 H1 _ _ Q I1 rr q1
noncomputable def DQ (K:JA)(n:Nat)(t:TGs):TG:=fun v σ H Q=>∃a xs,v=.ref a/\SqT K H a xs/\xs.length=n/\t xs σ H Q
theorem DR {es:List Expr}{k:Nat}{t:TGs}{n:Nat}(hc:X.calm=true)(h:PGs X es t)
  (hn:(assignEach es X.env).length=n:=by rfl) (hst:(assignEach es X.env).findIdx? (·.1)=none:=by rfl):PG X (.Tuple es k pos) (DQ X.K n t):=by
 intro pins s σ H v u Q I r hw
 obtain ⟨a,xs,e1,hq,hl,hw⟩:=hw
 subst e1
 cases r
 obtain ⟨its,rv,ht,hz⟩:=I.tuple hq
 refine assign_Tuple_tuple (I.ok.hd hc) ht (by simp [hn,←hl,rv.length]) hst fun h' hx=>?_
 have I1:Inv X pins σ H {s with heap:=h'}:=I.kept (t':=s.toks) fun b o e=>hx b o (Nat.ne_of_lt (Heap.lt_size e)) e
 exact h pins _ σ H xs _ Q I1 (by simpa using rv) hw
noncomputable def Fp (to ti:TE)(t:DN):TG:=fun v σ H Q=>to σ H fun o H1=>ti σ H1 fun i H2=>t o i v H2 fun H3=>Q σ H3
theorem zP {o i:Expr}{to ti:TE}{t:DN}(ho:PE X o to)(hi:PE X i ti)(hs:DO X t)
  (ha:∀v,assign (.Subscript o i pos) X.env v=(do
   let ov ←holding [v] (eval o X.env)
   let iv ←holding [v,ov] (eval i X.env)
   standAt pos
   holding [v,ov,iv] (setItem ov iv v)
   release [v,ov,iv] []):=by intro _;rfl):PG X (.Subscript o i pos) (Fp to ti t):=by
 intro pins s σ H v u Q I r h
 rw [ha]
 refine wpAny_bind (wpAny_holding (thn (ho pins s σ H _ I h) fun ov s1 ⟨x,H1,I1,r1,q1⟩=>?_))
 refine wpAny_bind (wpAny_holding (thn (hi pins s1 σ H1 _ I1 q1) fun iv s2 ⟨y,H2,I2,r2,q2⟩=>?_))
 refine wpAny_bind (wpAny_standAt (wpAny_bind (wpAny_holding (thn (hs pins s2 σ H2 x y v ov iv u _ I2 r1 r2 r q2) fun _ s3 ⟨H3,I3,q3⟩=>?_))))
 exact wpAny_release ⟨σ,H3,I3,q3⟩
noncomputable def zQ (te:TE)(g:TG):TS:=fun D σ H=>te σ H fun x H1=>g x σ H1 D.nx
theorem wJ {tg e:Expr}{te:TE}{g:TG}(he:PE X e te)(hg:PG X tg g)(hs:swapsWithSole [tg] e pos.line X.env=pure false:=by rfl)(hw:swappedStores [tg] e X.env=pure none:=by rfl)
  (h1:(assignEach [tg] X.env).map (·.2)=[assign tg X.env]:=by rfl):PS X (.Assign [tg] e pos) (zQ te g):=by
 intro pins s σ H D I h
 refine wpAny_Assign_stores (thn (he pins s σ H _ I h) fun v s1 ⟨x,H1,I1,r1,q1⟩=>?_) hs hw
 rw [h1]
 exact thn (hg pins s1 σ H1 x v _ I1 r1 q1) fun _ s2 q=>q
theorem aJ {i:Nat}{x:Str}{e:Expr}{te:TE}{pos':Pos}(hN:X.N.Nodup)(hi:X.N[i]?=some x)(hx:Loc X.env.scope x)(he:PE X e te)(hs:swapsWith e (some (.Name x pos')) pos.line X.env=pure false:=by rfl)(hf:X.fn x=true\/X.env.scope.names.lookup x=some .local:=by first | exact .inl rfl | exact .inr rfl | assumption) :
  PS X (.Assign [.Name x pos'] e pos) (zQ te (eg i)):=by
 intro pins s σ H D I h
 refine wpAny_Assign_Name (thn (he pins s σ H _ I h) fun v s1 ⟨y,H1,I1,r1,q1⟩=>?_) hs
 exact mU I1 hN hi hx r1 (fun s2 I2=>⟨_,H1,I2,q1⟩) hf
end
structure It where
 go:Nat->Hp->Prop
 yld:Nat->Hp->V->Hp->Prop
 stop:Nat->Hp->Prop
def oz (X:Cx)(pins:List (Addr×Obj))(H:Hp)(b:Addr):Prop:=
 H b=none/\b≠X.env.locals/\b∉X.fs/\(b∈X.ex\/X.s₀.heap.objs.size<=b)/\(∀x c,X.env.cells.lookup x=some c->c≠b)/\∀p∈X.pn++pins,p.1≠b
theorem Inv.fpOk {X:Cx}{pins:List (Addr×Obj)}{σ:St}{H H':Hp}{s:Shared}{b:Addr}(I:Inv X pins σ H s)(hb:s.heap.objs.size<=b)(hn:H' b=none):oz X pins H' b:=by
 refine ⟨hn,Nat.ne_of_gt (Nat.lt_of_lt_of_le I.lt hb),I.nofs hb,.inr (Nat.le_trans I.sz hb),fun x c e z=>?_,fun p hp z=>?_⟩
 ·obtain ⟨v,q⟩:=I.cell x c e
  exact absurd (Nat.lt_of_lt_of_le q.lt (by rw [z];exact hb)) (Nat.lt_irrefl _)
 ·exact absurd (Nat.lt_of_lt_of_le (Heap.lt_size (I.pin p hp).1) (by rw [z];exact hb)) (Nat.lt_irrefl _)
structure yM (P:Program)(w:World)(K:JA)(tg:Expr)(J:It)(fp:List Addr)(it:Addr)(tn:Nat->Heap->Prop):Prop where
 mem:it∈fp
 obj:∀i h,tn i h->∀b∈fp,∃o,h.get? b=some o/\∀v,o.data≠.cell v
 keep:∀i h h',tn i h->(∀b∈fp,∀o,h.get? b=some o->h'.get? b=some o)->tn i h'
 item:∀(X:Cx),X.prog=P->X.w=w->X.K=K->X.calm=true->∀(i:Nat) (pins:List (Addr×Obj)) (s:Shared) (σ:St) (H:Hp) (E:Value->Shared->Prop),Inv X pins σ H s->(∀b∈fp,oz X pins H b)->tn i s.heap->J.go i H->
  wpAny (model P w) X.A (pyNext (.ref it)) (fun r s1=>∃u,r=some u/\
   wpAny (model P w) X.A (letOwnedTupleGo tg (.ref it) u) (fun _ s2=>∃x H',Inv X pins σ H' s2/\bu x u/\J.yld i H x H'/\tn (i+1) s2.heap/\∀b∈fp,H' b=none) E s1) E s
 done:∀(X:Cx),X.prog=P->X.w=w->X.K=K->X.calm=true->∀(i:Nat) (pins:List (Addr×Obj)) (s:Shared) (σ:St) (H:Hp) (E:Value->Shared->Prop),Inv X pins σ H s->(∀b∈fp,oz X pins H b)->tn i s.heap->J.stop i H->
  wpAny (model P w) X.A (pyNext (.ref it)) (fun r s1=>r=none/\Inv X pins σ H s1) E s
 self:∀(A:Around) (i:Nat) (s:Shared) (Q:Value->Shared->Prop) (E:Value->Shared->Prop),tn i s.heap->Q (.ref it) s->wpAny (model P w) A (pyIter (.ref it)) Q E s
noncomputable abbrev TI:=St->Hp->(It->Hp->Prop)->Prop
def PIE (X:Cx)(pins:List (Addr×Obj))(σ:St)(tg:Expr)(R:It->Hp->Prop)(itv:Value)(s2:Shared):Prop:=
 ∃(it:Addr) (fp:List Addr) (tn:Nat->Heap->Prop) (J:It) (H':Hp),itv=.ref it/\Inv X pins σ H' s2/\yM X.prog X.w X.K tg J fp it tn/\tn 0 s2.heap/\(∀b∈fp,oz X pins H' b)/\R J H'
def PI (X:Cx)(tg iter:Expr)(wi:TI):Prop:=
 ∀(pins:List (Addr×Obj)) (s:Shared) (σ:St) (H:Hp) (R:It->Hp->Prop),Inv X pins σ H s->wi σ H R->
  wpAny (model X.prog X.w) X.A (eval iter X.env) (fun v s1=>wpAny (model X.prog X.w) X.A (pyIter v) (PIE X pins σ tg R) X.xe s1) X.xe s
theorem zR {M:Model}{A:Around}{E:Value->Shared->Prop}{s:Shared}{tg:Expr}{it:Addr}{u:Value}{o:Obj}{n:String}{vs:Array Value}{Q:Unit->Shared->Prop}(ho:s.heap.get? it=some o)(hc:o.cls=.type n)(hd:o.data=.fields vs)
  (hn:["enumerate","zip","dict_itemiterator","dict_reverseitemiterator","odict_iterator","itertools.zip_longest","itertools.pairwise"].contains n=false) (hQ:Q () s):wpAny M A (letOwnedTupleGo tg (.ref it) u) Q E s:=by
 unfold letOwnedTupleGo
 cases tg<;>first
  | exact wpAny_pure hQ
  | (cases u<;>first
    | exact wpAny_pure hQ
    | (refine wpAny_bind (wpAny_load ho ?_)
       rw [hc,hd]
       show wpAny M A (if (["enumerate","zip","dict_itemiterator","dict_reverseitemiterator","odict_iterator","itertools.zip_longest","itertools.pairwise"].contains n && vs[0]? == some (rawInt _))=true then _ else _) Q E s
       rw [if_neg (by intro h;rw [hn,Bool.false_and] at h;cases h)]
       exact wpAny_pure hQ))
noncomputable def Itl (K:JA)(a:Addr):It:=
 ⟨fun i H=>∃xs x,SqL K H a xs/\xs[i]?=some x,fun i H x H'=>H'=H/\∀xs,SqL K H a xs->xs[i]?=some x,fun i H=>∃xs,SqL K H a xs/\xs.length<=i⟩
noncomputable def Itr (lo:Int)(n:Nat):It:=⟨fun i _=>i < n,fun i H x H'=>H'=H/\x=.int (lo+i),fun i _=>n<=i⟩
theorem yN {P:Program}{w:World}{K:JA}{tg:Expr}(a it:Addr):yM P w K tg (Itl K a) [it] it (fun i h=>h.IsListIter it a i) where
 mem:=by simp
 obj:=fun i h st b hb=>by
  have e:b=it:=by simpa using hb
  subst e
  obtain ⟨o,e,c,d⟩:=st
  exact ⟨o,e,fun v z=>by rw [d] at z;cases z⟩
 keep:=fun i h h' st k=>st.at fun o e=>k it (by simp) o e
 item:=by
  intro X hP hw hK hc i pins s σ H E I hf st hg
  subst hP hw hK
  obtain ⟨xs,x,hq,hx⟩:=hg
  obtain ⟨its,rv,p,hz⟩:=I.list hq
  obtain ⟨u,hu,ru⟩:=rv.get hx
  obtain ⟨f0,f1,f2,f3,f4,f5⟩:=hf it (by simp)
  refine wpAny_pyNext_list_item st p.isList (x:=u) (by simpa using hu) fun h' st' sb=>?_
  have I1:Inv X pins σ H {s with heap:=h'}:=I.turned (t':=s.toks) (fun b o hb e=>(sb.2 b hb).trans e) f0 f1 f3 f4 f5
  obtain ⟨o,e,c,d⟩:=id st'
  exact ⟨u,rfl,zR (s:={s with heap:=h'}) e c d (by decide) ⟨x,H,I1,ru,⟨rfl,fun ys hy=>by rw [I.list_inj hy hq];exact hx⟩,st',fun b hb=>(hf b hb).1⟩⟩
 done:=by
  intro X hP hw hK hc i pins s σ H E I hf st hg
  subst hP hw hK
  obtain ⟨xs,hq,hx⟩:=hg
  obtain ⟨its,rv,p,hz⟩:=I.list hq
  obtain ⟨f0,f1,f2,f3,f4,f5⟩:=hf it (by simp)
  have hl:=rv.length
  exact wpAny_pyNext_list_end (I.ok.hd hc) st p.isList (by simp;omega) fun h' eb=>⟨rfl,I.turned (t':=s.toks) (fun b o hb e=>eb b o hb e) f0 f1 f3 f4 f5⟩
 self:=fun _ _ _ _ _ st h=>wpAny_pyIter_listiter st h
theorem wK {P:Program}{w:World}{K:JA}{tg:Expr}(it:Addr)(lo:Int)(n:Nat):yM P w K tg (Itr lo n) [it] it (fun i h=>IsRangeIter h it (lo+(i:Nat) * 1) ((n:Int) - (i:Nat)) 1) where
 mem:=by simp
 obj:=fun i h st b hb=>by
  have e:b=it:=by simpa using hb
  subst e
  exact ⟨_,st,fun v z=>by
   have z':Data.fields _=Data.cell v:=z
   cases z'⟩
 keep:=fun i h h' st k=>k it (by simp) _ st
 item:=by
  intro X hP hw hK hc i pins s σ H E I hf st hg
  subst hP hw hK
  obtain ⟨f0,f1,f2,f3,f4,f5⟩:=hf it (by simp)
  have W:=Walks.range (prog:=X.prog) (w:=X.w) (I.ok.hd hc) it lo 1 n
  refine W.item i s _ _ hg st fun v h' tk hv st' kk=>?_
  obtain ⟨t,rfl⟩:=hv
  have I1:Inv X pins σ H {s with heap:=h',toks:=tk}:=I.turned (fun b o hb e=>kk b o (by simpa using hb) e) f0 f1 f3 f4 f5
  refine ⟨_,rfl,zR (s:={s with heap:=h',toks:=tk}) (n:="range_iterator") st' rfl rfl (by decide) ⟨.int (lo+i),H,I1,⟨t,?_⟩,⟨rfl,rfl⟩,st',fun b hb=>(hf b hb).1⟩⟩
  rw [Int.mul_one]
 done:=by
  intro X hP hw hK hc i pins s σ H E I hf st hg
  subst hP hw hK
  obtain ⟨f0,f1,f2,f3,f4,f5⟩:=hf it (by simp)
  exact wpAny_pyNext_range_end (I.ok.hd hc) st (by have:n<=i:=hg;omega) fun h' eb=>⟨rfl,I.turned (t':=s.toks) (fun b o hb e=>eb b o hb e) f0 f1 f3 f4 f5⟩
 self:=fun _ _ _ _ _ st h=>wpAny_pyIter_rangeiter st h
section
variable {X:Cx}{tg:Expr}
noncomputable def Df (K:JA)(tl:TE):TI:=fun σ H R=>tl σ H fun x H1=>∃a,x=.ref a/\(∃xs,SqL K H1 a xs)/\R (Itl K a) H1
theorem BC {l:Expr}{tl:TE}(hl:PE X l tl):PI X tg l (Df X.K tl):=by
 intro pins s σ H R I h
 refine thn (hl pins s σ H _ I h) fun v s1 ⟨x,H1,I1,r1,q1⟩=>?_
 obtain ⟨a,e,⟨xs,hq⟩,q⟩:=q1
 subst e
 cases r1
 obtain ⟨its,rv,p,hz⟩:=I1.list hq
 refine wpAny_pyIter_list p.isList ?_
 refine ⟨s1.heap.objs.size,[s1.heap.objs.size],_,_,H1,rfl,I1.kept (t':=s1.toks) fun b o e=>Heap.get?_push_of_some _ e,yN a _,⟨_,Heap.get?_push_size _ rfl,rfl,rfl⟩,fun b hb=>?_,q⟩
 have e:b=s1.heap.objs.size:=by simpa using hb
 subst e
 exact I1.fpOk (Nat.le_refl _) (I1.hok.fresh (Nat.le_refl _))
theorem vh {pins:List (Addr×Obj)}{σ:St}{H:Hp}{s:Shared}{R:It->Hp->Prop}{E:Value->Shared->Prop}{lo hi:Int}{t u v:Tok}{tk:Nat}(I:Inv X pins σ H s)(h1:-(2 ^ 62)<=lo)(h2:lo < 2 ^ 62)(h3:-(2 ^ 62)<=hi)(h4:hi < 2 ^ 62)
  (q:R (Itr lo (hi - lo).toNat) H):wpAny (model X.prog X.w) X.A (pyIter (.ref s.heap.objs.size)) (PIE X pins σ tg R) E {s with heap:=s.heap.push {cls:=.type "range",data:=.fields #[.int lo t,.int hi u,.int 1 v]},toks:=tk}:=by
 refine wpAny_pyIter_range (IsRange.new ..) (small_one h1 h2 h3 h4) ?_
 have I1:Inv X pins σ H {s with heap:=s.heap.push {cls:=.type "range",data:=.fields #[.int lo t,.int hi u,.int 1 v]},toks:=tk}:=I.kept fun b o e=>Heap.get?_push_of_some _ e
 refine ⟨(s.heap.push {cls:=.type "range",data:=.fields #[.int lo t,.int hi u,.int 1 v]}).objs.size,[(s.heap.push {cls:=.type "range",data:=.fields #[.int lo t,.int hi u,.int 1 v]}).objs.size],_,_,H,rfl,
  I1.kept (t':=tk) fun b o e=>Heap.get?_push_of_some _ e,wK _ lo (hi - lo).toNat,?_,fun b hb=>?_,q⟩
 ·have e1:lo+((0:Nat):Int) * 1=lo:=by simp
  have e2:(((hi - lo).toNat:Nat):Int) - ((0:Nat):Int)=Builtin.Range.rangeSize lo hi 1:=by rw [rangeSize_one];split<;>omega
  show IsRangeIter _ _ (lo+((0:Nat):Int) * 1) ((((hi - lo).toNat:Nat):Int) - ((0:Nat):Int)) 1
  rw [e1,e2]
  exact Heap.get?_push_size _ rfl
 ·have e:b=(s.heap.push {cls:=.type "range",data:=.fields #[.int lo t,.int hi u,.int 1 v]}).objs.size:=by simpa using hb
  subst e
  exact I1.fpOk (Nat.le_refl _) (I1.hok.fresh (Nat.le_refl _))
noncomputable def Dg (ta:TA):TI:=fun σ H R=>ta σ H fun vs H1=>∃j:Int,vs=[.int j]/\-(2 ^ 62)<=j/\j < 2 ^ 62/\R (Itr 0 j.toNat) H1
noncomputable def Dh (ta:TA):TI:=fun σ H R=>ta σ H fun vs H1=>∃i j:Int,vs=[.int i,.int j]/\(-(2 ^ 62)<=i/\i < 2 ^ 62/\-(2 ^ 62)<=j/\j < 2 ^ 62)/\R (Itr i (j - i).toNat) H1
theorem yO {a:Expr}{ta:TA}{p pos:Pos}(hg:Gl X "range")(hm:X.mg "range"=none)(ha:PA X [a] ta)(hs:starEach [a] X.env=[(false,eval a X.env)]:=by rfl):PI X tg (.Call (.Name "range" p) [a] [] pos) (Dg ta):=by
 intro pins s σ H R I h
 refine Call_ (mi I hg hm boot_range (PyProof.Rows.callWith_type1 (thn (ha pos pins s σ H _ I h) fun us s1 ⟨vs,H1,I1,r1,q1⟩=>?_) hs rfl))
 obtain ⟨j,e,q1,q2,q⟩:=q1
 subst e
 cases r1 with
 | cons r rr=>
  cases rr
  obtain ⟨t,rfl⟩:=r
  exact call_range_1 (vh I1 (by omega) (by omega) q1 q2 (by simpa using q))
theorem yP {a b:Expr}{ta:TA}{p pos:Pos}(hg:Gl X "range")(hm:X.mg "range"=none)(ha:PA X [a,b] ta)(hs:starEach [a,b] X.env=[(false,eval a X.env),(false,eval b X.env)]:=by rfl)(hs2:starEach [b] X.env=[(false,eval b X.env)]:=by rfl) :
  PI X tg (.Call (.Name "range" p) [a,b] [] pos) (Dh ta):=by
 intro pins s σ H R I h
 refine Call_ (mi I hg hm boot_range (PyProof.Rows.callWith_type1 (thn (ha pos pins s σ H _ I h) fun us s1 ⟨vs,H1,I1,r1,q1⟩=>?_) (by rw [hs,hs2]) (by rw [hs2];rfl)))
 obtain ⟨i,j,e,⟨q1,q2,q3,q4⟩,q⟩:=q1
 subst e
 cases r1 with
 | cons r rr=>
  cases rr with
  | cons r' rr=>
   cases rr
   obtain ⟨t,rfl⟩:=r
   obtain ⟨t',rfl⟩:=r'
   exact call_range_2 (vh I1 q1 q2 q3 q4 q)
noncomputable def Fq (wi:TI)(g:TG)(tb:TS):TS:=fun D σ H=>wi σ H fun J H1=>∃W:Nat->Nat->St->Hp->Prop,(∃m,W 0 m σ H1)/\∀i m σ H,W i m σ H->
 (J.stop i H/\D.nx σ H)\/(J.go i H/\∃N:St->Hp->Prop,(∀σ' H',N σ' H'->∃m',m' < m/\W (i+1) m' σ' H')/\∀x H',J.yld i H x H'->g x σ H' fun σ2 H2=>tb {D with nx:=N,ct:=N,bk:=D.nx} σ2 H2)
noncomputable def qi (fp:List Addr)(h:Heap):List (Addr×Obj):=fp.filterMap fun b=>(h.get? b).map fun o=>(b,o)
theorem i8 {fp:List Addr}{h:Heap}{b:Addr}{o:Obj}(hb:b∈fp)(e:h.get? b=some o):(b,o)∈qi fp h:=List.mem_filterMap.mpr ⟨b,hb,by rw [e];rfl⟩
theorem yQ {fp:List Addr}{h:Heap}{p:Addr×Obj}(hp:p∈qi fp h):p.1∈fp/\h.get? p.1=some p.2:=by
 obtain ⟨b,hb,e⟩:=List.mem_filterMap.mp hp
 cases q:h.get? b with
 | none=>rw [q] at e;cases e
 | some o=>
  rw [q] at e
  have e':(b,o)=p:=Option.some.inj e
  subst e'
  exact ⟨hb,q⟩
theorem Inv.pinned {pins:List (Addr×Obj)}{σ:St}{H:Hp}{s:Shared}{fp:List Addr}(I:Inv X pins σ H s)(hf:∀b∈fp,oz X pins H b)(ho:∀b∈fp,∃o,s.heap.get? b=some o/\∀v,o.data≠.cell v):Inv X (pins++qi fp s.heap) σ H s:=
 I.pins_of fun p hp=>(List.mem_append.mp hp).elim (fun z=>I.pin p (List.mem_append_right _ z)) fun z=>by
  obtain ⟨hb,e⟩:=yQ z
  obtain ⟨f0,f1,f2,_⟩:=hf p.1 hb
  obtain ⟨o,e',d⟩:=ho p.1 hb
  rw [e] at e';cases e'
  exact ⟨e,f0,f1,f2,d⟩
theorem Inv.unpinned {pins pl:List (Addr×Obj)}{σ:St}{H:Hp}{s:Shared}(I:Inv X (pins++pl) σ H s):Inv X pins σ H s:=I.pins_of fun p hp=>I.pin p (List.mem_append_right _ (List.mem_append_left _ hp))
theorem dI {iter:Expr}{body:List Stmt}{wi:TI}{g:TG}{tb:TS}{pos:Pos}(hp:PassesOwn (model X.prog X.w) X.A X.env X.xe)(hc:X.calm=true)(hi:PI X tg iter wi)(hg:PG X tg g)(hb:PSs X body tb)
  (hs:∀x,foldedSetIterable iter X.env x=pure x:=by intro _;rfl):PS X (.For tg iter body [] pos) (Fq wi g tb):=by
 intro pins s σ H D I h
 refine wpAny_For (thn (hi pins s σ H _ I h) fun v s1 h1=>thn h1 fun itv s2 h2=>?_) hs
 obtain ⟨it,fp,tn,J,H2,e,I2,T,st2,f2,W,⟨m0,w0⟩,turn⟩:=h2
 subst e
 have stat:∀{H':Hp},(∀b∈fp,H' b=none)->∀b∈fp,oz X pins H' b:=fun hn b hb=>⟨hn b hb,(f2 b hb).2⟩
 refine codeAny_forLoop_any (fun n s'=>∃i σ' H',Inv X pins σ' H' s'/\tn i s'.heap/\(∀b∈fp,H' b=none)/\W i n σ' H') ?_ m0 ⟨0,σ,H2,I2,st2,fun b hb=>(f2 b hb).1,w0⟩
 rintro n s3 ⟨i,σ3,H3,I3,st3,fr3,w3⟩
 rcases turn i n σ3 H3 w3 with ⟨stop,qn⟩ | ⟨go,N,hN,step⟩
 ·refine wpAny_passesOwn hp (thn (T.done X rfl rfl rfl hc i pins s3 σ3 H3 X.xe I3 (stat fr3) st3 stop) fun r s4 ⟨hr,I4⟩=>?_)
  subst hr
  exact wpAny_execs_nil ⟨σ3,H3,I4,qn⟩
 ·refine wpAny_passesOwn hp (thn (T.item X rfl rfl rfl hc i pins s3 σ3 H3 X.xe I3 (stat fr3) st3 go) fun r s4 ⟨u,hr,h4⟩=>?_)
  subst hr
  refine wpAny_passesOwn hp (thn h4 fun _ s5 ⟨x,H5,I5,r5,y5,st5,fr5⟩=>?_)
  have I5':=I5.pinned (stat fr5) (T.obj _ _ st5)
  refine wpAny_passesOwn hp (thn (hg _ s5 σ3 H5 x u _ I5' r5 (step x H5 y5)) fun _ s6 ⟨σ6,H6,I6,q6⟩=>?_)
  refine wpAny_passesOwn hp (thn (hb _ s6 σ6 H6 _ I6 q6) fun f s7 q7=>?_)
  have again:∀{σ7:St} {H7:Hp},Inv X (pins++qi fp s5.heap) σ7 H7 s7->N σ7 H7->∃m,m < n/\∃i σ' H',Inv X pins σ' H' s7/\tn i s7.heap/\(∀b∈fp,H' b=none)/\W i m σ' H':=fun {σ7 H7} I7 n7=>by
   obtain ⟨m',hm,w7⟩:=hN σ7 H7 n7
   refine ⟨m',hm,i+1,σ7,H7,I7.unpinned,T.keep _ _ _ st5 fun b hb o e=>(I7.pin (b,o) (List.mem_append_right _ (List.mem_append_right _ (i8 hb e)))).1,fun b hb=>?_,w7⟩
   obtain ⟨o,e,d⟩:=T.obj _ _ st5 b hb
   exact (I7.pin (b,o) (List.mem_append_right _ (List.mem_append_right _ (i8 hb e)))).2.1
  cases f with
  | next=>obtain ⟨σ7,H7,I7,n7⟩:=q7;exact again I7 n7
  | cont=>obtain ⟨σ7,H7,I7,n7⟩:=q7;exact again I7 n7
  | brk=>obtain ⟨σ7,H7,I7,q7⟩:=q7;exact ⟨σ7,H7,I7.unpinned,q7⟩
  | ret v=>obtain ⟨x7,σ7,H7,I7,r7,q7⟩:=q7;exact ⟨x7,σ7,H7,I7.unpinned,r7,q7⟩
end
theorem zS {K:JA}{a:Addr}{xs:List V}{g:TG}{tb:TS}{D:lj}{σ:St}{H:Hp}(Pv:Nat->St->Hp->Prop)(h0:Pv 0 σ H)(hl:∀i σ H,i<=xs.length->Pv i σ H->SqL K H a xs)
  (hs:∀i x σ H,xs[i]?=some x->Pv i σ H->g x σ H fun σ2 H2=>tb {D with nx:=Pv (i+1),ct:=Pv (i+1),bk:=D.nx} σ2 H2) (hd:∀σ H,Pv xs.length σ H->D.nx σ H) :
  ∃W:Nat->Nat->St->Hp->Prop,(∃m,W 0 m σ H)/\∀i m σ H,W i m σ H->
   ((Itl K a).stop i H/\D.nx σ H)\/((Itl K a).go i H/\∃N:St->Hp->Prop,(∀σ' H',N σ' H'->∃m',m' < m/\W (i+1) m' σ' H')/\∀x H',(Itl K a).yld i H x H'->g x σ H' fun σ2 H2=>tb {D with nx:=N,ct:=N,bk:=D.nx} σ2 H2):=by
 refine ⟨fun i m σ H=>m=xs.length - i/\i<=xs.length/\Pv i σ H,⟨xs.length,by simp,Nat.zero_le _,h0⟩,?_⟩
 rintro i m σ H ⟨rfl,hi,p⟩
 have q:=hl i σ H hi p
 by_cases hlt:i < xs.length
 ·refine .inr ⟨⟨xs,xs[i],q,by simp [hlt]⟩,Pv (i+1),fun σ' H' p'=>⟨xs.length - (i+1),by omega,rfl,hlt,p'⟩,fun x H' y=>?_⟩
  obtain ⟨e,y⟩:=y
  subst e
  exact hs i x σ _ (y xs q) p
 ·have e:i=xs.length:=by omega
  subst e
  exact .inl ⟨⟨xs,q,Nat.le_refl _⟩,hd σ H p⟩
theorem yR {lo:Int}{n:Nat}{g:TG}{tb:TS}{D:lj}{σ:St}{H:Hp}(Pv:Nat->St->Hp->Prop)(h0:Pv 0 σ H)
  (hs:∀i σ H,i < n->Pv i σ H->g (.int (lo+i)) σ H fun σ2 H2=>tb {D with nx:=Pv (i+1),ct:=Pv (i+1),bk:=D.nx} σ2 H2) (hd:∀σ H,Pv n σ H->D.nx σ H) :
  ∃W:Nat->Nat->St->Hp->Prop,(∃m,W 0 m σ H)/\∀i m σ H,W i m σ H->
   ((Itr lo n).stop i H/\D.nx σ H)\/((Itr lo n).go i H/\∃N:St->Hp->Prop,(∀σ' H',N σ' H'->∃m',m' < m/\W (i+1) m' σ' H')/\∀x H',(Itr lo n).yld i H x H'->g x σ H' fun σ2 H2=>tb {D with nx:=N,ct:=N,bk:=D.nx} σ2 H2):=by
 refine ⟨fun i m σ H=>m=n - i/\i<=n/\Pv i σ H,⟨n,by simp,Nat.zero_le _,h0⟩,?_⟩
 rintro i m σ H ⟨rfl,hi,p⟩
 by_cases hlt:i < n
 ·refine .inr ⟨hlt,Pv (i+1),fun σ' H' p'=>⟨n - (i+1),by omega,rfl,hlt,p'⟩,fun x H' y=>?_⟩
  obtain ⟨e,y⟩:=y
  subst e y
  exact hs i σ _ hlt p
 ·have e:i=n:=by omega
  subst e
  exact .inl ⟨Nat.le_refl _,hd σ H p⟩
noncomputable abbrev R2:=V->V->Hp->VK->Prop
def OpR (X:Cx)(f:Value->Value->Sem Value)(r:R2):Prop:=
 ∀(pins:List (Addr×Obj)) (s:Shared) (σ:St) (H:Hp) (x y:V) (v u:Value) (Q:VK),Inv X pins σ H s->bu x v->bu y u->r x y H Q->
  wpAny (model X.prog X.w) X.A (f v u) (EP X pins σ Q) X.xe s
def UnR (X:Cx)(f:Value->Sem Value)(r:V->Hp->VK->Prop):Prop:=
 ∀(pins:List (Addr×Obj)) (s:Shared) (σ:St) (H:Hp) (x:V) (v:Value) (Q:VK),Inv X pins σ H s->bu x v->r x H Q->
  wpAny (model X.prog X.w) X.A (f v) (EP X pins σ Q) X.xe s
def cZ (X:Cx)(f:Value)(r:List V->Hp->VK->Prop):Prop:=
 ∀(pins:List (Addr×Obj)) (s:Shared) (σ:St) (H:Hp) (xs:List V) (us:List Value) (Q:VK),Inv X pins σ H s->a8 xs us->r xs H Q->
  wpAny (model X.prog X.w) X.A (call f us) (EP X pins σ Q) X.xe s
def Gw (X:Cx)(r:V->Hp->(Bool->Hp->Prop)->Prop):Prop:=
 ∀(pins:List (Addr×Obj)) (s:Shared) (σ:St) (H:Hp) (x:V) (v:Value) (Q:Bool->Hp->Prop),Inv X pins σ H s->bu x v->r x H Q->
  wpAny (model X.prog X.w) X.A (truthy v) (TP X pins σ Q) X.xe s
noncomputable def tOp (r:R2)(ta tb:TE):TE:=fun σ H Q=>ta σ H fun x H1=>tb σ H1 fun y H2=>r x y H2 Q
noncomputable def tUn (r:V->Hp->VK->Prop)(ta:TE):TE:=fun σ H Q=>ta σ H fun x H1=>r x H1 Q
noncomputable def rI (C:Int->Int->Prop)(g:Int->Int->V):R2:=fun x y H Q=>∃i j,x=.int i/\y=.int j/\C i j/\Q (g i j) H
noncomputable def rI0 (g:Int->Int->V):R2:=fun x y H Q=>∃i j,x=.int i/\y=.int j/\Q (g i j) H
noncomputable def rU (g:Int->V):V->Hp->VK->Prop:=fun x H Q=>∃i,x=.int i/\Q (g i) H
section
variable {X:Cx}{a b c:Expr}{ta tb tc:TE}{pos:Pos}
theorem DS (ha:PE X a ta)(hb:PE X b tb){pins:List (Addr×Obj)}{s:Shared}{σ:St}{H:Hp}{R:V->V->Hp->Prop}(I:Inv X pins σ H s)
  (h:ta σ H fun x H1=>tb σ H1 fun y H2=>R x y H2) {Q:Value->Shared->Prop} {f:Value->Value->Sem Value}
  (hf:∀v u s2 x y H2,Inv X pins σ H2 s2->bu x v->bu y u->R x y H2->wpAny (model X.prog X.w) X.A (f v u) Q X.xe s2) :
  wpAny (model X.prog X.w) X.A (eval a X.env) (fun v s₁=>wpAny (model X.prog X.w) X.A (eval b X.env) (fun u s₂=>wpAny (model X.prog X.w) X.A (f v u) Q X.xe s₂) X.xe s₁) X.xe s:=by
 refine thn (ha pins s σ H _ I h) fun v s1 ⟨x,H1,I1,r1,q1⟩=>?_
 refine thn (hb pins s1 σ H1 _ I1 q1) fun u s2 ⟨y,H2,I2,r2,q2⟩=>?_
 exact hf v u s2 x y H2 I2 r1 r2 q2
theorem aV {op:Operator}{r:R2}(ho:OpR X (binaryOp op) r)(ha:PE X a ta)(hb:PE X b tb):PE X (.BinOp a op b pos) (tOp r ta tb):=by
 intro pins s σ H Q I h
 exact wpAny_BinOp (DS ha hb I h fun v u s2 x y H2 I2 rx ry q=>ho pins s2 σ H2 x y v u Q I2 rx ry q)
theorem iL {op:UnaryOp}{r:V->Hp->VK->Prop}(ho:UnR X (unaryOp op) r)(ha:PE X a ta):PE X (.UnaryOp op a pos) (tUn r ta):=by
 intro pins s σ H Q I h
 exact UnaryOp_ (thn (ha pins s σ H _ I h) fun v s1 ⟨x,H1,I1,r1,q1⟩=>ho pins s1 σ H1 x v Q I1 r1 q1)
theorem opI {f:Value->Value->Sem Value}{C:Int->Int->Prop}{g:Int->Int->Int}
  (rule:∀(i j:Int) (t u:Tok) (s:Shared) (Q:Value->Shared->Prop) (E:Value->Shared->Prop),C i j->Q (.int (g i j) s.toks) {s with toks:=s.toks+1}->wpAny (model X.prog X.w) X.A (f (.int i t) (.int j u)) Q E s) :
  OpR X f (rI C fun i j=>.int (g i j)):=by
 intro pins s σ H x y v u Q I rx ry h
 obtain ⟨i,j,rfl,rfl,hc,q⟩:=h
 obtain ⟨t,rfl⟩:=rx
 obtain ⟨t',rfl⟩:=ry
 exact rule i j t t' s _ _ hc ⟨.int (g i j),H,I.tok _,⟨_,rfl⟩,q⟩
theorem Fs {f:Value->Value->Sem Value}{g:Int->Int->Int}
  (rule:∀(i j:Int) (t u:Tok) (s:Shared) (Q:Value->Shared->Prop) (E:Value->Shared->Prop),Q (.int (g i j) s.toks) {s with toks:=s.toks+1}->wpAny (model X.prog X.w) X.A (f (.int i t) (.int j u)) Q E s) :
  OpR X f (rI0 fun i j=>.int (g i j)):=by
 intro pins s σ H x y v u Q I rx ry h
 obtain ⟨i,j,rfl,rfl,q⟩:=h
 obtain ⟨t,rfl⟩:=rx
 obtain ⟨t',rfl⟩:=ry
 exact rule i j t t' s _ _ ⟨.int (g i j),H,I.tok _,⟨_,rfl⟩,q⟩
theorem BD {f:Value->Value->Sem Value}{g:Int->Int->Bool}
  (rule:∀(i j:Int) (t u:Tok) (s:Shared) (Q:Value->Shared->Prop) (E:Value->Shared->Prop),Q (.bool (g i j)) s->wpAny (model X.prog X.w) X.A (f (.int i t) (.int j u)) Q E s) :
  OpR X f (rI0 fun i j=>.bl (g i j)):=by
 intro pins s σ H x y v u Q I rx ry h
 obtain ⟨i,j,rfl,rfl,q⟩:=h
 obtain ⟨t,rfl⟩:=rx
 obtain ⟨t',rfl⟩:=ry
 exact rule i j t t' s _ _ ⟨.bl (g i j),H,I,rfl,q⟩
def zT (i j:Int):Prop:=0 < j/\j < 1073741824
def Gx (i j:Int):Prop:=0<=j/\j<=1000000/\i.natAbs < 2 ^ 64
def qj (i j:Int):Prop:=(-(2 ^ 64) < i/\i < 2 ^ 64)\/(-(2 ^ 64) < j/\j < 2 ^ 64)
theorem qj.ok {i j:Int}(h:qj i j):IntMulOk i j:=by
 rcases h with ⟨h1,h2⟩ | ⟨h1,h2⟩
 ·exact .of_left (intBits_le_64 h1 h2)
 ·exact .of_right (intBits_le_64 h1 h2)
theorem DT:OpR X (binaryOp .Add) (rI0 fun i j=>.int (i+j)):=Fs fun _ _ _ _ _ _ _ q=>add_int q
theorem DU:OpR X (binaryOp .Sub) (rI0 fun i j=>.int (i - j)):=Fs fun _ _ _ _ _ _ _ q=>sub_int q
theorem wL:OpR X (binaryOp .Mult) (rI qj fun i j=>.int (i * j)):=opI fun _ _ _ _ _ _ _ hc q=>mul_int q hc.ok
theorem BE:OpR X (binaryOp .FloorDiv) (rI zT fun i j=>.int (i / j)):=opI fun i j _ _ _ _ _ hc q=>by
 have h1:(0:Int) < j:=hc.1
 have h2:j < 1073741824:=hc.2
 exact floordiv_int (by omega) (by rw [Int.fdiv_eq_ediv_of_nonneg i (by omega)];exact q) (.inl (PyProof.noPylong_small (by omega)))
theorem zU:OpR X (binaryOp .Mod) (rI (fun _ j=>0 < j) fun i j=>.int (i % j)):=opI fun i j _ _ _ _ _ hc q=>by
 have h1:(0:Int) < j:=hc
 exact mod_int' (by omega) (by rw [Int.fmod_eq_emod_of_nonneg i (by omega)];exact q)
theorem unI {f:Value->Sem Value}{g:Int->Int}
  (rule:∀(i:Int) (t:Tok) (s:Shared) (Q:Value->Shared->Prop) (E:Value->Shared->Prop),Q (.int (g i) s.toks) {s with toks:=s.toks+1}->wpAny (model X.prog X.w) X.A (f (.int i t)) Q E s) :
  UnR X f (rU fun i=>.int (g i)):=by
 intro pins s σ H x v Q I rx h
 obtain ⟨i,rfl,q⟩:=h
 obtain ⟨t,rfl⟩:=rx
 exact rule i t s _ _ ⟨.int (g i),H,I.tok _,⟨_,rfl⟩,q⟩
theorem DV:UnR X (unaryOp .USub) (rU fun i=>.int (-i)):=unI fun _ _ _ _ _ q=>neg_int q
end
noncomputable def rT:V->V->Bool
 | .non,.non=>true | .non,.int _=>true | .int _,.non=>true | .non,.bl _=>true | .bl _,.non=>true | .non,.str _=>true | .str _,.non=>true
 | .int _,.int _=>true | .bl _,.bl _=>true | .str _,.str _=>true | .byt _,.byt _=>true
 | .int _,.str _=>true | .str _,.int _=>true | .bl _,.str _=>true | .str _,.bl _=>true
 | _,_=>false
noncomputable def rEq:R2:=fun x y H Q=>rT x y=true/\Q (.bl (decide (x=y))) H
noncomputable def rNe:R2:=fun x y H Q=>rT x y=true/\Q (.bl (!decide (x=y))) H
theorem xP {i j:Int}:decide (V.int i=V.int j)=(i == j):=by
 rw [Bool.eq_iff_iff]
 simp
theorem zV {i j:Bool}:decide (V.bl i=V.bl j)=(i == j):=by
 rw [Bool.eq_iff_iff]
 simp
theorem xQ {i j:Str}:decide (V.str i=V.str j)=(i == j):=by
 rw [Bool.eq_iff_iff]
 simp
theorem xR {i j:Array UInt8}:decide (V.byt i=V.byt j)=(i.toList == j.toList):=by
 rw [Bool.eq_iff_iff]
 cases i
 cases j
 simp
section
variable {X:Cx}{a b c:Expr}{ta tb tc:TE}{pos:Pos}
theorem bH {pins:List (Addr×Obj)}{σ:St}{H:Hp}{s:Shared}{Q:VK}{k k':Bool}(I:Inv X pins σ H s)(q:Q (.bl k) H)(e:k=k'):EP X pins σ Q (.bool k') s:=by
 subst e
 exact ⟨.bl k,H,I,rfl,q⟩
theorem Di:OpR X (compareOp .Eq) rEq:=by
 intro pins s σ H x y v u Q I rx ry h
 obtain ⟨hs,q⟩:=h
 cases x with
 | non=>
  cases rx
  cases y with
  | non=>cases ry;exact PySem.EqNone.eq_none_none (bH I q (by simp))
  | bl j=>cases ry;exact PySem.EqNone.eq_none_bool (bH I q (by simp))
  | int j=>obtain ⟨t',rfl⟩:=ry;exact PySem.EqNone.eq_none_int (bH I q (by simp))
  | str j=>obtain ⟨t',rfl⟩:=ry;exact PySem.EqNone.eq_none_str (bH I q (by simp))
  | _=>exact absurd (show false=true from hs) Bool.false_ne_true
 | bl i=>
  cases rx
  cases y with
  | non=>cases ry;exact PySem.EqNone.eq_bool_none (bH I q (by simp))
  | bl j=>cases ry;exact eq_bool (bH I q zV)
  | str j=>obtain ⟨t',rfl⟩:=ry;exact PySem.EqMixed.eq_bool_str (bH I q (by simp))
  | _=>exact absurd (show false=true from hs) Bool.false_ne_true
 | int i=>
  obtain ⟨t,rfl⟩:=rx
  cases y with
  | non=>cases ry;exact PySem.EqNone.eq_int_none (bH I q (by simp))
  | int j=>obtain ⟨t',rfl⟩:=ry;exact eq_int (bH I q xP)
  | str j=>obtain ⟨t',rfl⟩:=ry;exact PySem.EqMixed.eq_int_str (bH I q (by simp))
  | _=>exact absurd (show false=true from hs) Bool.false_ne_true
 | str i=>
  obtain ⟨t,rfl⟩:=rx
  cases y with
  | non=>cases ry;exact PySem.EqNone.eq_str_none (bH I q (by simp))
  | bl j=>cases ry;exact PySem.EqMixed.eq_str_bool (bH I q (by simp))
  | int j=>obtain ⟨t',rfl⟩:=ry;exact PySem.EqMixed.eq_str_int (bH I q (by simp))
  | str j=>obtain ⟨t',rfl⟩:=ry;exact eq_str (bH I q xQ)
  | _=>exact absurd (show false=true from hs) Bool.false_ne_true
 | byt i=>
  obtain ⟨t,rfl⟩:=rx
  cases y with
  | byt j=>obtain ⟨t',rfl⟩:=ry;exact W.eq_bytes (bH I q xR)
  | _=>exact absurd (show false=true from hs) Bool.false_ne_true
 | _=>cases y<;>exact absurd (show false=true from hs) Bool.false_ne_true
theorem Ft:OpR X (compareOp .NotEq) rNe:=by
 intro pins s σ H x y v u Q I rx ry h
 obtain ⟨hs,q⟩:=h
 cases x with
 | non=>
  cases rx
  cases y with
  | non=>cases ry;exact PySem.EqNone.ne_none_none (bH I q (by simp))
  | bl j=>cases ry;exact PySem.EqNone.ne_none_bool (bH I q (by simp))
  | int j=>obtain ⟨t',rfl⟩:=ry;exact PySem.EqNone.ne_none_int (bH I q (by simp))
  | str j=>obtain ⟨t',rfl⟩:=ry;exact PySem.EqNone.ne_none_str (bH I q (by simp))
  | _=>exact absurd (show false=true from hs) Bool.false_ne_true
 | bl i=>
  cases rx
  cases y with
  | non=>cases ry;exact PySem.EqNone.ne_bool_none (bH I q (by simp))
  | bl j=>cases ry;exact ne_bool (bH I q (congrArg not zV))
  | str j=>obtain ⟨t',rfl⟩:=ry;exact PySem.EqMixed.ne_bool_str (bH I q (by simp))
  | _=>exact absurd (show false=true from hs) Bool.false_ne_true
 | int i=>
  obtain ⟨t,rfl⟩:=rx
  cases y with
  | non=>cases ry;exact PySem.EqNone.ne_int_none (bH I q (by simp))
  | int j=>obtain ⟨t',rfl⟩:=ry;exact ne_int (bH I q (congrArg not xP))
  | str j=>obtain ⟨t',rfl⟩:=ry;exact PySem.EqMixed.ne_int_str (bH I q (by simp))
  | _=>exact absurd (show false=true from hs) Bool.false_ne_true
 | str i=>
  obtain ⟨t,rfl⟩:=rx
  cases y with
  | non=>cases ry;exact PySem.EqNone.ne_str_none (bH I q (by simp))
  | bl j=>cases ry;exact PySem.EqMixed.ne_str_bool (bH I q (by simp))
  | int j=>obtain ⟨t',rfl⟩:=ry;exact PySem.EqMixed.ne_str_int (bH I q (by simp))
  | str j=>obtain ⟨t',rfl⟩:=ry;exact ne_str (bH I q (congrArg not xQ))
  | _=>exact absurd (show false=true from hs) Bool.false_ne_true
 | byt i=>
  obtain ⟨t,rfl⟩:=rx
  cases y with
  | byt j=>obtain ⟨t',rfl⟩:=ry;exact W.ne_bytes (bH I q (congrArg not xR))
  | _=>exact absurd (show false=true from hs) Bool.false_ne_true
 | _=>cases y<;>exact absurd (show false=true from hs) Bool.false_ne_true
theorem Dj:OpR X (compareOp .Lt) (rI0 fun i j=>.bl (decide (i < j))):=BD fun _ _ _ _ _ _ _ q=>lt_int q
theorem Dk:OpR X (compareOp .LtE) (rI0 fun i j=>.bl (decide (i<=j))):=BD fun _ _ _ _ _ _ _ q=>le_int q
theorem Fu:OpR X (compareOp .Gt) (rI0 fun i j=>.bl (decide (j < i))):=BD fun _ _ _ _ _ _ _ q=>gt_int q
theorem Dl:OpR X (compareOp .GtE) (rI0 fun i j=>.bl (decide (j<=i))):=BD fun _ _ _ _ _ _ _ q=>ge_int q
theorem bE (b:Expr){op:CmpOp}(h:op≠.In:=by decide)(h2:op≠.NotIn:=by decide):behindInMarks op b=false:=by
 have e1:(op == CmpOp.In)=false:=by cases op<;>first | rfl | exact absurd rfl h
 have e2:(op == CmpOp.NotIn)=false:=by cases op<;>first | rfl | exact absurd rfl h2
 cases b<;>simp [behindInMarks,e1,e2]
theorem bR {op:CmpOp}{r:R2}(ho:OpR X (compareOp op) r)(ha:PE X a ta)(hb:PE X b tb)(hm:behindInMarks op b=false):PE X (.Compare a [op] [b] pos) (tOp r ta tb):=by
 intro pins s σ H Q I h
 exact wpAny_Compare1 (DS ha hb I h fun v u s2 x y H2 I2 rx ry q=>ho pins s2 σ H2 x y v u Q I2 rx ry q) hm
noncomputable def mX (t:TE):TT:=fun σ H Q=>t σ H fun x H'=>∃k,x=.bl k/\Q k H'
theorem i9 {op:CmpOp}{r:R2}(ho:OpR X (compareOp op) r)(ha:PE X a ta)(hb:PE X b tb)(hm:behindInMarks op b=false):PT X (.Compare a [op] [b] pos) (mX (tOp r ta tb)):=by
 intro pins s σ H Q I h
 refine wpAny_isTrue_Compare1 (thn (ha pins s σ H _ I h) fun v s1 ⟨x,H1,I1,r1,q1⟩=>thn (hb pins s1 σ H1 _ I1 q1) fun u s2 ⟨y,H2,I2,r2,q2⟩=>
  thn (ho pins s2 σ H2 x y v u _ I2 r1 r2 q2) fun c s3 ⟨z,H3,I3,r3,k,e,q3⟩=>?_) hm
 subst e
 cases r3
 exact wpAny_truthy_bool ⟨H3,I3,q3⟩
def Fv (K:JA)(x:V)(H:Hp)(k:Bool):Prop:=
 match x with
 | .non=>k=false
 | .bl b=>k=b
 | .int i=>k=(i != 0)
 | .str y=>y.length<=sizeLine/\k=((y.length:Int) != 0)
 | .byt y=>y.size<=sizeLine/\k=((y.size:Int) != 0)
 | .ref p=>(∃xs,SqL K H p xs/\k=!xs.isEmpty)\/(∃xs,SqT K H p xs/\k=!xs.isEmpty)\/∃kvs,H p=some (.dK kvs)/\k=!kvs.isEmpty
 | _=>False
theorem wM {κ:Type}{kvs:List (κ×V)}{vs:List (κ×Value)}(r:KV kvs vs):(!vs.isEmpty)=!kvs.isEmpty:=by
 cases r<;>rfl
theorem qk {xs:List V}{its:List Value}(r:a8 xs its):(!its.toArray.isEmpty)=!xs.isEmpty:=by
 cases r<;>simp
theorem oA:(sizeLine:Nat) < 2 ^ 63:=by rw [sizeLine_eq];decide
theorem DW:Gw X (fun x H Q=>∃k,Fv X.K x H k/\Q k H):=by
 intro pins s σ H x v Q I rx h
 obtain ⟨k,e,q⟩:=h
 have hl:=oA
 have hs:sizeLine=16777216:=sizeLine_eq
 cases x with
 | non=>
  cases rx
  have e':k=false:=e
  subst e'
  exact truthy_none ⟨H,I,q⟩
 | bl b=>
  cases rx
  have e':k=b:=e
  subst e'
  exact wpAny_truthy_bool ⟨H,I,q⟩
 | int i=>
  obtain ⟨t,rfl⟩:=rx
  have e':k=(i != 0):=e
  subst e'
  exact PySem.P.truthy_int ⟨H,I,q⟩
 | str y=>
  obtain ⟨t,rfl⟩:=rx
  obtain ⟨hy,e'⟩:y.length<=sizeLine/\k=((y.length:Int) != 0):=e
  subst e'
  exact PySem.P.truthy_str (by omega) ⟨H,I.tok _,q⟩
 | byt y=>
  obtain ⟨t,rfl⟩:=rx
  obtain ⟨hy,e'⟩:y.size<=sizeLine/\k=((y.size:Int) != 0):=e
  subst e'
  exact W.truthy_bytes (by omega) ⟨H,I.tok _,q⟩
 | ref p=>
  cases rx
  have e':(∃xs,SqL X.K H p xs/\k=!xs.isEmpty)\/(∃xs,SqT X.K H p xs/\k=!xs.isEmpty)\/∃kvs,H p=some (.dK kvs)/\k=!kvs.isEmpty:=e
  rcases e' with ⟨xs,hx,e'⟩ | ⟨xs,hx,e'⟩ | ⟨kvs,hx,e'⟩
  ·subst e'
   obtain ⟨its,r,pl,hz⟩:=I.list hx
   have hlen:=r.length
   exact wpAny_truthy_list pl.isList (by simp only [List.size_toArray];omega) ⟨H,I.tok _,by rw [qk r];exact q⟩
  ·subst e'
   obtain ⟨its,r,pl,hz⟩:=I.tuple hx
   have hlen:=r.length
   exact truthy_tuple pl (by simp only [List.size_toArray];omega) ⟨H,I.tok _,by rw [qk r];exact q⟩
  ·subst e'
   obtain ⟨hz,hS,vs,r,m⟩:kvs.length<=sizeLine/\(p == sysModules)=false/\∃vs,KV kvs vs/\s.heap.DictOf (ud X.prog X.w) p vs:=I.hok p _ hx
   have hlen:kvs.length=vs.length:=Paired.length r
   exact wpAny_truthy_dict hS m (by omega) ⟨H,I.tok _,by rw [wM r];exact q⟩
 | _=>exact (show False from e).elim
theorem ql (ha:PE X a ta)(he:∀bX,isTrue a X.env bX=(do let v ←bX;standAt a.pos;holding [v] (truthy v))) :
  PT X a (fun σ H Q=>ta σ H fun x H'=>∃k,Fv X.K x H' k/\Q k H'):=by
 intro pins s σ H Q I h
 exact isTrue_plain (thn (ha pins s σ H _ I h) fun v s1 ⟨x,H1,I1,r1,q1⟩=>DW pins s1 σ H1 x v Q I1 r1 q1) (he _)
theorem vi {x:V}{us:List Value}(r:a8 [x] us):∃u,us=[u]/\bu x u:=by
 cases r with
 | cons r1 r2=>cases r2;exact ⟨_,rfl,r1⟩
theorem xS {x y:V}{us:List Value}(r:a8 [x,y] us):∃u w',us=[u,w']/\bu x u/\bu y w':=by
 cases r with
 | cons r1 r2=>
  cases r2 with
  | cons r3 r4=>cases r4;exact ⟨_,_,rfl,r1,r3⟩
theorem zW:cZ X (.builtin "abs") (fun xs H Q=>∃i,xs=[.int i]/\Q (.int (if i < 0 then -i else i)) H):=by
 intro pins s σ H xs us Q I r h
 obtain ⟨i,rfl,q⟩:=h
 obtain ⟨u,rfl,t,rfl⟩:=vi r
 exact call_abs_int fun u tk=>⟨.int (if i < 0 then -i else i),H,I.tok _,⟨_,rfl⟩,q⟩
theorem yS (hc:X.calm=true):cZ X (.builtin "min") (fun xs H Q=>∃i j,xs=[.int i,.int j]/\Q (.int (if j < i then j else i)) H):=by
 intro pins s σ H xs us Q I r h
 obtain ⟨i,j,rfl,q⟩:=h
 obtain ⟨u,w',rfl,⟨t,rfl⟩,⟨t',rfl⟩⟩:=xS r
 refine min_two_ints (I.ok.hd hc) fun h' tk k=>⟨_,H,I.kept k,?_,q⟩
 by_cases hj:j < i
 ·rw [if_pos hj,if_pos hj];exact ⟨_,rfl⟩
 ·rw [if_neg hj,if_neg hj];exact ⟨_,rfl⟩
theorem yT:cZ X (.type "int") (fun xs H Q=>(∃i,xs=[.int i]/\Q (.int i) H)\/∃k,xs=[.bl k]/\Q (.int (if k then 1 else 0)) H):=by
 intro pins s σ H xs us Q I r h
 rcases h with ⟨i,rfl,q⟩ | ⟨k,rfl,q⟩
 ·obtain ⟨u,rfl,t,rfl⟩:=vi r
  exact call_int_int ⟨.int i,H,I,⟨_,rfl⟩,q⟩
 ·obtain ⟨u,rfl,r1⟩:=vi r
  cases r1
  exact call_int_bool ⟨.int (if k then 1 else 0),H,I.tok _,⟨_,rfl⟩,q⟩
end
structure wN (h:Heap)(x dx C:Addr)(mA:Str->Option Value):Prop where
 obj:h.get? x=some (W.instObj C dx)
 ns:h.Ns1 dx mA
 ne:dx≠x
theorem yU {h:Heap}{dx:Addr}{mA:Str->Option Value}(n:h.Ns1 dx mA):∃od,h.get? dx=some od/\∀name,W.lookIn name od=some (mA name):=by
 obtain ⟨o,es,ep,ho,hd,hk,_,hm⟩:=n
 refine ⟨o,ho,fun name=>?_⟩
 have e:=hm name
 unfold nsFind findBy at e
 rw [←Array.find?_toList] at e
 unfold W.lookIn
 rw [hd]
 dsimp only
 split
 ·rename_i y q
  rw [q] at e
  exact congrArg some e
 ·rename_i q
  rw [q] at e
  have a:es.toList.any (·.refKey)=false:=by
   rw [List.any_eq_false]
   intro y hy
   obtain ⟨z,t,hkey⟩:=hk y (Array.mem_toList_iff.mp hy)
   simp [DictEntry.refKey,hkey]
  have a':¬es.toList.any (·.refKey)=true:=by rw [a];exact Bool.false_ne_true
  rw [if_neg a']
  exact congrArg some e
theorem wN.look {h:Heap}{x dx C:Addr}{mA:Str->Option Value}(I:wN h x dx C mA):∃od,W.InstAt h x (W.instObj C dx) C (some od)/\∀name,W.lookIn name od=some (mA name):=
 let ⟨od,ho,hl⟩:=yU I.ns
 ⟨od,⟨I.obj,rfl,rfl,ho⟩,hl⟩
section
variable {prog:Program}{w:World}{A:Around}{E:Value->Shared->Prop}{s:Shared}{K:JA}{x dx C f:Addr}{mA:Str->Option Value}{name:Str}{v:Value}
theorem BF {expr:Bool}{Q:Value->Shared->Prop}(X:K.In s.heap)(I:wN s.heap x dx C mA)(hg:W.plainGet K C name=true)(hh:W.hasDictIn K C=true)
  (ha:W.findIn K (.ref C) name=some none) (hv:mA name=some v) (hv':W.handedIn v=true) (h:Q v {s with toks:=s.toks+1}) :
  wpAny (model prog w) A (getAttr (.ref x) name expr) Q E s:=by
 obtain ⟨od,J,hl⟩:=I.look
 exact W.get_value X J (W.plainGet_of hg).1 (W.findObj_own hh ha rfl (by rw [hl,hv])) hv' h
theorem zX {pl:Sem Bool}{Q:Value×List Value->Shared->Prop}(X:K.In s.heap)(I:wN s.heap x dx C mA)(hg:W.plainGet K C name=true)
  (hf:W.findIn K (.ref C) name=some (some (.ref f))) (ht:W.isFn K (.ref f)=true) (hv:mA name=none) (h:Q (.ref f,[.ref x]) s) :
  wpAny (model prog w) A (getMethod (.ref x) name pl) Q E s:=by
 obtain ⟨od,J,hl⟩:=I.look
 exact W.method_fn X J (W.plainGet_of hg).1 (W.plainGet_of hg).2 hf (beq_iff_eq.mp ht) (by show (W.lookIn name od).map (·.isSome)=some false;rw [hl,hv];rfl) h
theorem BG {ns:List Str}{Q:Unit->Shared->Prop}(X:K.In s.heap)(I:wN s.heap x dx C mA)
  (hs:W.findIn K (.ref C) "__setattr__"=some (some (.builtin "object.__setattr__"))) (hp:W.plainOver K C=true) (ht:W.takerIn K C name=some none) (hh:W.hasDictIn K C=true)
  (hw:PySem.Within mA ns) (hsz:ns.length<=sizeLine)
  (h:∀h',wN h' x dx C (fun y=>if y=name then some v else mA y)->Heap.SameBut dx s.heap h'->Q () {s with heap:=h',toks:=s.toks+2}) :
  wpAny (model prog w) A (setAttr (.ref x) name v) Q E s:=by
 obtain ⟨od,J,hl⟩:=I.look
 refine W.set_plain X J hs (W.osa_open (s:={s with toks:=s.toks+1}) (r:=none) X J hp ht fun b=>?_)
 obtain ⟨cd,hc,hd'⟩:=W.any_some hh
 have hx:s.heap.get? x=some ⟨.ref C,some dx,.plain,#[]⟩:=I.obj
 refine wpAny_bind (wpAny_pure (wpAny_bind (wpAny_bind (wpAny_loadPart hx (wpAny_bind (W.Looks.here (s:={s with toks:=s.toks+1}) (W.looks_clsIn X hc) ?_))))))
 rw [hd']
 refine wpAny_pure (a:=some dx) (wpAny_bind (wpAny_pure (wpAny_bind ?_)))
 refine wpAny_nsSet1 (s:={s with toks:=s.toks+1}) I.ns fun h' hn2 hs2=>?_
 obtain ⟨oD,esD,epD,hoD,hdD,hcD⟩:=hn2.count (PySem.Within.cons name v hw)
 refine wpAny_bind (wpAny_lookBehind hoD (by rw [hdD];exact pastItsLine_dict (Nat.le_trans hcD (by rw [List.length_cons];omega))) ?_)
 exact wpAny_pure (h _ ⟨(hs2.2 _ (Ne.symm I.ne)).trans I.obj,hn2,I.ne⟩ hs2)
theorem zY {R:Result->Shared->Prop}{vs:List Value}{kw:List (Str×Value)}(X:K.In s.heap)(hm:W.makesIn K C=true)
  (hi:W.findIn K (.ref C) "__init__"=some (some (.ref f))) (hf:W.typeIn K (.ref f)=some (.type "function"))
  (h:codeAny (model prog w) (A.under (.builtin "type.__call__" ⟨.ref C::vs,kw⟩)) (.call (.ref f) ⟨.ref (s.heap.objs.size+1)::vs,kw⟩) (W.InitBack (s.heap.objs.size+1) R)
   {s with heap:=(s.heap.push W.emptyDict).push (W.instObj C s.heap.objs.size)}) :
  codeAny (model prog w) A (.call (.ref C) ⟨vs,kw⟩) R s:=by
 obtain ⟨hh,g,d,t,os⟩:=s
 exact W.make_core (W.makes_of X hm) (W.looks_findIn X hi) (fun self=>W.bind_fn X self hf) (.inl rfl) h
end
noncomputable def aX (f:Str)(v:V):List (Str×V)->List (Str×V)
 | []=>[(f,v)]
 | (g,x)::r=>if g=f then (g,v)::r else (g,x)::aX f v r
theorem o6 (f g:Str)(v:V):∀fs:List (Str×V),(aX f v fs).lookup g=if g=f then some v else fs.lookup g
 | []=>by
  show List.lookup g [(f,v)]=_
  by_cases h:g=f
  ·have hb:(g == f)=true:=beq_iff_eq.mpr h
   simp only [List.lookup,hb,if_pos h]
  ·have hb:(g == f)=false:=beq_eq_false_iff_ne.mpr h
   simp only [List.lookup,hb,if_neg h]
 | (k,x)::r=>by
  have ih:=o6 f g v r
  rw [show aX f v ((k,x)::r)=(if k=f then (k,v)::r else (k,x)::aX f v r) from rfl]
  by_cases hk:k=f
  ·rw [if_pos hk]
   by_cases h:g=k
   ·have hb:(g == k)=true:=beq_iff_eq.mpr h
    simp only [List.lookup,hb,if_pos (h.trans hk)]
   ·have hb:(g == k)=false:=beq_eq_false_iff_ne.mpr h
    simp only [List.lookup,hb,if_neg (fun e:g=f=>h (e.trans hk.symm))]
  ·rw [if_neg hk]
   by_cases h:g=k
   ·have hb:(g == k)=true:=beq_iff_eq.mpr h
    simp only [List.lookup,hb,if_neg (fun e:g=f=>hk (h.symm.trans e))]
   ·have hb:(g == k)=false:=beq_eq_false_iff_ne.mpr h
    simp only [List.lookup,hb]
    exact ih
theorem oB (f:Str)(v:V):∀fs:List (Str×V),f∈(aX f v fs).map (·.1)/\∀g,g∈fs.map (·.1)->g∈(aX f v fs).map (·.1)
 | []=>⟨by simp [aX],fun g h=>by simp at h⟩
 | (k,x)::r=>by
  obtain ⟨i1,i2⟩:=oB f v r
  rw [show aX f v ((k,x)::r)=(if k=f then (k,v)::r else (k,x)::aX f v r) from rfl]
  by_cases hk:k=f
  ·rw [if_pos hk]
   subst hk
   exact ⟨by simp,fun g h=>by simpa using h⟩
  ·rw [if_neg hk]
   refine ⟨?_,fun g h=>?_⟩
   ·rw [List.map_cons]
    exact List.mem_cons_of_mem _ i1
   ·rw [List.map_cons] at h ⊢
    rcases List.mem_cons.mp h with e | e
    ·exact List.mem_cons.mpr (.inl e)
    ·exact List.mem_cons_of_mem _ (i2 g e)
theorem jS (f:Str)(v:V):∀fs:List (Str×V),(aX f v fs).length<=fs.length+1
 | []=>by simp [aX]
 | (k,x)::r=>by
  have ih:=jS f v r
  rw [show aX f v ((k,x)::r)=(if k=f then (k,v)::r else (k,x)::aX f v r) from rfl]
  by_cases hk:k=f
  ·rw [if_pos hk,List.length_cons,List.length_cons];omega
  ·rw [if_neg hk,List.length_cons,List.length_cons];omega
theorem rS.some_of {v:V}{o:Option Value}(r:rS (some v) o):∃u,o=some u/\bu v u:=by
 cases o with
 | none=>exact (show False from r).elim
 | some u=>exact ⟨u,rfl,r⟩
theorem rS.none_of {o:Option Value}(r:rS none o):o=none:=by
 cases o with
 | none=>rfl
 | some u=>exact (show False from r).elim
theorem yV {v:V}{u:Value}(r:bu v u):W.handedIn u=true:=by
 cases v with
 | non=>cases (show u=Value.none from r);rfl
 | bl b=>cases (show u=Value.bool b from r);rfl
 | int i=>obtain ⟨t,e⟩:=(show ∃t,u=Value.int i t from r);cases e;rfl
 | str x=>obtain ⟨t,e⟩:=(show ∃t,u=Value.str x t from r);cases e;rfl
 | byt b=>obtain ⟨t,e⟩:=(show ∃t,u=Value.bytes b t from r);cases e;rfl
 | flt b=>obtain ⟨t,e⟩:=(show ∃t,u=Value.float b t from r);cases e;rfl
 | ref a=>cases (show u=Value.ref a from r);rfl
 | ty n=>cases (show u=Value.type n from r);rfl
section
variable {P:Program}{w:World}{H H':Hp}{h h':Heap}{a C dx:Addr}{fs fs':List (Str×V)}
theorem ug (hok:HOk P w H h)(e:H a=some (.ins C dx fs)):∃mA,wN h a dx C mA/\(∀f,rS (fs.lookup f) (mA f))/\PySem.Within mA (fs.map (·.1))/\fs.length<=1000/\H dx=some (.own a):=by
 obtain ⟨d,z,ne,ob,mA,n,r,q⟩:=(show fh P w H h a (.ins C dx fs) from hok a _ e)
 exact ⟨mA,⟨ob,n,ne⟩,r,q,z,d⟩
end
structure Cls (K:JA)(C:Addr):Prop where
 pg:W.plainGet K C Str.empty=true
 hd:W.hasDictIn K C=true
 po:W.plainOver K C=true
 sa:W.findIn K (.ref C) "__setattr__"=some (some (.builtin "object.__setattr__"))
theorem Cls.get {K:JA}{C:Addr}(c:Cls K C)(f:Str):W.plainGet K C f=true:=c.pg
def aP (K:JA)(C:Addr)(f:Str):Prop:=W.findIn K (.ref C) f=some none
theorem aP.taker {K:JA}{C:Addr}{f:Str}(n:aP K C f):W.takerIn K C f=some none:=by
 unfold W.takerIn
 rw [show W.findIn K (.ref C) f=some none from n]
 rfl
structure vj (K:JA)(C:Addr)(m:Str)(f:Addr):Prop where
 at_:W.findIn K (.ref C) m=some (some (.ref f))
 fn:W.isFn K (.ref f)=true
 kp:W.keepIn K (.ref f)=true
section
variable {X:Cx}{pins:List (Addr×Obj)}{σ:St}{H:Hp}{s:Shared}{a C dx:Addr}{fs:List (Str×V)}{f:Str}{v:V}{A:Around}{E:Value->Shared->Prop}
theorem wO {b:Bool}{Q:Value->Shared->Prop}(I:Inv X pins σ H s)(e:H a=some (.ins C dx fs))(c:Cls X.K C)(n:aP X.K C f)(l:fs.lookup f=some v)
  (h:∀u s',Inv X pins σ H s'->bu v u->Q u s'):wpAny (model X.prog X.w) A (getAttr (.ref a) f b) Q E s:=by
 obtain ⟨mA,O,r,_,_,_⟩:=ug I.hok e
 obtain ⟨u,hu,ru⟩:=rS.some_of (v:=v) (o:=mA f) (by rw [←l];exact r f)
 exact BF I.kIn O (c.get f) c.hd n hu (yV ru) (h u _ (I.tok _) ru)
theorem ja {m:Str}{g:Addr}{pl:Sem Bool}{Q:Value×List Value->Shared->Prop}(I:Inv X pins σ H s)(e:H a=some (.ins C dx fs))(c:Cls X.K C)(k:vj X.K C m g)(l:fs.lookup m=none)
  (h:Q (.ref g,[.ref a]) s):wpAny (model X.prog X.w) A (getMethod (.ref a) m pl) Q E s:=by
 obtain ⟨mA,O,r,_,_,_⟩:=ug I.hok e
 have hn:mA m=none:=rS.none_of (by rw [←l];exact r m)
 exact zX I.kIn O (c.get m) k.at_ k.fn hn h
theorem wQ {y:V}{u:Value}{Q:Unit->Shared->Prop}(I:Inv X pins σ H s)(e:H a=some (.ins C dx fs))(c:Cls X.K C)(n:aP X.K C f)(hl:fs.length < 1000)(ry:bu y u)
  (h:∀s',Inv X pins σ (upd H a (.ins C dx (aX f y fs))) s'->Q () s'):wpAny (model X.prog X.w) A (setAttr (.ref a) f u) Q E s:=by
 obtain ⟨mA,O,r,wi,_,ho⟩:=ug I.hok e
 have hz:(fs.map (·.1)).length<=sizeLine:=by rw [JB,sizeLine_eq];omega
 refine BG I.kIn O c.sa c.po n.taker c.hd wi hz fun h' O' sb=>h _ ?_
 have hd:∃o,h'.get? dx=some o:=let ⟨o,_,_,e',_⟩:=O'.ns;⟨o,e'⟩
 refine I.write (x:=a) (e:=dx) (by rw [e];exact True.intro) (.inr ho) (fun b q hb z=>(sb.2 b hb).trans z) hd ?_
 refine ⟨by rw [aE O.ne];exact ho,?_,O.ne,O'.obj,_,O'.ns,fun g=>?_,fun g hg=>?_⟩
 ·have:=jS f y fs;omega
 ·show rS ((aX f y fs).lookup g) (if g=f then some u else mA g)
  rw [o6]
  by_cases q:g=f
  ·rw [if_pos q,if_pos q];exact ry
  ·rw [if_neg q,if_neg q];exact r g
 ·by_cases q:g=f
  ·rw [q];exact (oB f y fs).1
  ·refine (oB f y fs).2 g (wi g fun z=>hg ?_)
   show (if g=f then some u else mA g)=none
   rw [if_neg q];exact z
theorem Inv.made (I:Inv X pins σ H s):Inv X pins σ (upd (upd H s.heap.objs.size (.own (s.heap.objs.size+1))) (s.heap.objs.size+1) (.ins C s.heap.objs.size []))
  {s with heap:=(s.heap.push W.emptyDict).push (W.instObj C s.heap.objs.size)}:=by
 have e1:(s.heap.push W.emptyDict).get? s.heap.objs.size=some W.emptyDict:=Heap.get?_push_size s.heap rfl
 have e2:((s.heap.push W.emptyDict).push (W.instObj C s.heap.objs.size)).get? (s.heap.objs.size+1)=some (W.instObj C s.heap.objs.size):=by
  have:=Heap.get?_push_size (s.heap.push W.emptyDict) (o:=W.instObj C s.heap.objs.size) rfl
  rwa [Heap.size_push] at this
 have e3:(s.heap.push W.emptyDict).Ns s.heap.objs.size (fun _=>none):=⟨W.emptyDict,#[],_,e1,rfl,(fun e he=>absurd he (by simp)),fun _=>rfl⟩
 have I1:=I.laid (a:=s.heap.objs.size) (o:=.own (s.heap.objs.size+1)) (h':=s.heap.push W.emptyDict) (t':=s.toks) (fun b u q=>Heap.get?_push_of_some _ q) (Nat.le_refl _) ⟨_,e1⟩
 refine I1.laid (a:=s.heap.objs.size+1) (o:=.ins C s.heap.objs.size []) (t':=s.toks) (fun b u q=>Heap.get?_push_of_some _ q) (Nat.le_of_eq (Heap.size_push _ _)) ?_
 have ne:s.heap.objs.size≠s.heap.objs.size+1:=Nat.ne_of_lt (Nat.lt_succ_self _)
 refine ⟨by rw [aE ne,ah],Nat.zero_le _,ne,e2,fun _=>none,(Heap.Ns1.of_empty e3).at fun o q=>Heap.get?_push_of_some _ q,fun _=>True.intro,fun y hy=>absurd rfl hy⟩
theorem BH {prog:Program}{w:World}{env:Env}{e:Expr}{f:Str}{pos:Pos}{s:Shared}{Q:Value->Shared->Prop}(hb:attributeBase e f env (eval e env)=eval e env)
  (h:wpAny (model prog w) A (eval e env) (fun o s₁=>wpAny (model prog w) A (getAttr o f true) Q E s₁) E s):wpAny (model prog w) A (eval (.Attribute e f pos) env) Q E s:=
 Attribute_any_ h (by rw [arm_eval_Attribute,hb])
end
noncomputable def Fw (K:JA)(ta:TE)(f:Str):TE:=fun σ H Q=>ta σ H fun x H1=>∃a C dx fs v,x=.ref a/\H1 a=some (.ins C dx fs)/\Cls K C/\aP K C f/\fs.lookup f=some v/\Q v H1
noncomputable def Fx (K:JA)(ta tv:TE)(f:Str):TS:=fun D σ H=>tv σ H fun y H1=>ta σ H1 fun x H2=>∃a C dx fs,x=.ref a/\H2 a=some (.ins C dx fs)/\Cls K C/\aP K C f/\fs.length < 1000/\
 D.nx σ (upd H2 a (.ins C dx (aX f y fs)))
section
variable {X:Cx}{o e value:Expr}{f:Str}{pos pos' tpos:Pos}{ta tv:TE}
theorem DY (he:PE X e ta)(hb:attributeBase e f X.env (eval e X.env)=eval e X.env):PE X (.Attribute e f pos) (Fw X.K ta f):=by
 intro pins s σ H Q I h
 refine BH hb (thn (he pins s σ H _ I h) fun u s1 ⟨x,H1,I1,rx,a,C,dx,fs,v,ex,ea,c,n,l,q⟩=>?_)
 subst ex
 obtain rfl:u=Value.ref a:=rx
 exact wO I1 ea c n l fun u' s2 I2 ru=>⟨v,H1,I2,ru,q⟩
theorem DZ (ha:PE X o ta)(hv:PE X value tv)(hs:swapsWith value (some (.Attribute o f pos')) pos.line X.env=pure false):PS X (.Assign [.Attribute o f pos'] value pos) (Fx X.K ta tv f):=by
 intro pins s σ H D I h
 refine plainObj_wpAny_Assign_Attribute (thn (hv pins s σ H _ I h) fun u s1 ⟨y,H1,I1,ry,q⟩=>thn (ha pins s1 σ H1 _ I1 q) fun ov s2 ⟨x,H2,I2,rx,a,C,dx,fs,ex,ea,c,n,l,q2⟩=>?_) hs
 subst ex
 obtain rfl:ov=Value.ref a:=rx
 exact wQ I2 ea c n l ry fun s3 I3=>⟨σ,_,I3,q2⟩
theorem Dm {pl:Sem Bool}{m:Str}{apos:Pos}{args:List Expr}{pins:List (Addr×Obj)}{s:Shared}{σ:St}{H:Hp}{Q:Value->Shared->Prop}{te:TE}(he:PE X e te)(I:Inv X pins σ H s)
  (h:te σ H fun x H1=>∃a C dx fs g,x=.ref a/\H1 a=some (.ins C dx fs)/\Cls X.K C/\vj X.K C m g/\fs.lookup m=none/\
   ∀s1,Inv X pins σ H1 s1->wpAny (model X.prog X.w) X.A (callWith pos (.ref g) [.ref a] (backTo pos (starEach args X.env)) (backToKw pos (keywordEach [] X.env))) Q X.xe s1)
  (ht:eval (.Call (.Attribute e m apos) args [] pos) X.env=(do
   let ov ←eval e X.env
   standAt apos.atName
   let (f,first) ←holding [ov] (getMethod ov m pl)
   callWith pos f first (backTo pos (starEach args X.env)) (backToKw pos (keywordEach [] X.env)))) :
  wpAny (model X.prog X.w) X.A (eval (.Call (.Attribute e m apos) args [] pos) X.env) Q X.xe s:=by
 refine W.methodCall_KW (pl:=pl) (thn (he pins s σ H _ I h) fun u s1 ⟨x,H1,I1,rx,a,C,dx,fs,g,ex,ea,c,k,l,q⟩=>?_) ht
 subst ex
 obtain rfl:u=Value.ref a:=rx
 exact ja I1 ea c k l (q s1 I1)
end
structure cH (k:Nat)(A:Around):Prop where
 hd:A.handled=none
 dp:A.depth+3 * k+5 < recursionLimit
 un:A.units+16 * k+200 < cLine
theorem cH.mono {j k:Nat}{A:Around}(r:cH k A)(h:j<=k):cH j A:=⟨r.hd,by have:=r.dp;omega,by have:=r.un;omega⟩
theorem cH.deeper {k:Nat}{A:Around}(r:cH (k+1) A)(env:Env):cH k (A.deeper env):=
 ⟨r.hd,by have:=r.dp;show A.depth+1+3 * k+5 < _;omega,by have:=r.un;show A.units+3+16 * k+200 < _;omega⟩
theorem wR {A:Around}{C:Addr}{us:List Value}{kw:List (Str×Value)}:(A.under (.builtin "type.__call__" ⟨.ref C::us,kw⟩)).depth=A.depth+1:=by
 first | rfl | simp [Around.under,Code.weight,Code.isCreation,Code.isGuard,Code.isCaller,Code.frames,Code.isFrame,guardIds]
theorem wU {A:Around}{C:Addr}{us:List Value}{kw:List (Str×Value)}:(A.under (.builtin "type.__call__" ⟨.ref C::us,kw⟩)).units=A.units+1:=by
 first | rfl | simp [Around.under,Code.cUnits,Code.frames,Code.isFrame]
theorem cH.make {k:Nat}{A:Around}(r:cH (k+1) A)(C:Addr)(us:List Value)(kw:List (Str×Value)):cH k (A.under (.builtin "type.__call__" ⟨.ref C::us,kw⟩)):=
 ⟨r.hd,by have:=r.dp;rw [wR];omega,by have:=r.un;rw [wU];omega⟩
theorem cH.depth {k:Nat}{A:Around}(r:cH k A):A.depth < recursionLimit:=by have:=r.dp;omega
theorem cH.units0 {k:Nat}{A:Around}(r:cH k A):A.units < cLine:=by have:=r.un;omega
noncomputable def rV:TA:=fun _ H Q=>Q [] H
noncomputable def jI (ta:TE)(tr:TA):TA:=fun σ H Q=>ta σ H fun x H1=>tr σ H1 fun xs H2=>Q (x::xs) H2
section
variable {X:Cx}{e:Expr}{es:List Expr}{te:TE}{t:TA}{pos:Pos}
theorem fA:PA X [] rV:=fun _ _ _ _ H Q I h=>Calls.spliced_nil ⟨[],H,I,.nil,h⟩
theorem fV (ha:PE X e te)(hr:PA X es t)(hs:starEach (e::es) X.env=(false,eval e X.env)::starEach es X.env:=by rfl):PA X (e::es) (jI te t):=by
 intro pos pins s σ H Q I h
 rw [hs]
 show wpAny _ _ (spliced ((false,eval e X.env)::backTo pos (starEach es X.env))) _ _ s
 refine Calls.spliced_cons (thn (ha pins s σ H _ I h) fun u s1 ⟨x,H1,I1,r1,q1⟩=>?_)
 exact thn (hr pos pins s1 σ H1 _ I1 q1) fun us s2 ⟨xs,H2,I2,r2,q2⟩=>⟨x::xs,H2,I2,.cons r1 r2,q2⟩
noncomputable def Fy (t:TA):TE:=fun σ H Q=>t σ H fun xs H1=>xs.length<=sizeLine/\∀p,H1 p=none->Q (.ref p) (upd H1 p (.tup xs))
noncomputable def Fz (t:TA):TE:=fun σ H Q=>t σ H fun xs H1=>xs.length<=sizeLine/\∀p,H1 p=none->Q (.ref p) (upd H1 p (.lst xs))
theorem bc {x1}(h:PA X es t):PE X (.Tuple es x1 pos) (Fy t):=by
 intro pins s σ H Q I hq
 refine wpAny_Tuple_spliced (thn (h pos pins s σ H _ I hq) fun us s1 ⟨xs,H1,I1,r,z,q⟩=>⟨by rw [←r.length];exact z,?_⟩)
 have hf:H1 s1.heap.objs.size=none:=I1.hok.fresh (Nat.le_refl _)
 refine ⟨.ref s1.heap.objs.size,upd H1 s1.heap.objs.size (.tup xs),I1.laid (t':=s1.toks) (fun b u e=>Heap.get?_push_of_some _ e) (Nat.le_refl _) ?_,rfl,q _ hf⟩
 exact ⟨z,us,r,⟨_,Heap.get?_push_size _ rfl,⟨rfl,_,rfl⟩,rfl⟩⟩
theorem br (h:PA X es t):PE X (.List es pos) (Fz t):=by
 intro pins s σ H Q I hq
 refine wpAny_List_spliced (thn (h pos pins s σ H _ I hq) fun us s1 ⟨xs,H1,I1,r,z,q⟩=>⟨by rw [←r.length];exact z,?_⟩)
 have hf:H1 s1.heap.objs.size=none:=I1.hok.fresh (Nat.le_refl _)
 refine ⟨.ref s1.heap.objs.size,upd H1 s1.heap.objs.size (.lst xs),I1.laid (t':=s1.toks) (fun b u e=>Heap.get?_push_of_some _ e) (Nat.le_refl _) ?_,rfl,q _ hf⟩
 exact ⟨z,us,0,r,Heap.get?_push_size _ rfl⟩
end
noncomputable abbrev Sp:=List V->Hp->VK->XK->Prop
noncomputable abbrev CXT:=List Env->Hp->Shared->XK->Value->Shared->Prop
structure wV (P:Program)(w:World)(K:JA)(mg:Str->Option Value)(base:Heap)(A:Around)(outer:List Env)(s:Shared)(H:Hp):Prop where
 frames:A.frames=some outer
 mod:Mod K mg base
 bs:∀b o,base.get? b=some o->s.heap.get? b=some o/\H b=none
 bsz:base.objs.size<=s.heap.objs.size
 funs:s.heap.FunFrames base outer
 frf:∀b∈frs outer,H b=none
 hok:HOk P w H s.heap
 bare:AllBare s.gens
def CE (outer:List Env)(P:Program)(w:World)(H:Hp)(s:Shared)(Q:VK)(u:Value)(s':Shared):Prop:=
 ∃v H',s'.os=s.os/\AllBare s'.gens/\Un (frs outer) [] H H' s.heap s'.heap/\HOk P w H' s'.heap/\bu v u/\Q v H'
def CR (CX:CXT)(outer:List Env)(P:Program)(w:World)(H:Hp)(s:Shared)(Q:VK)(E:XK)(r:Result)(s':Shared):Prop:=
 match r with
 | .ok (.ret u)=>CE outer P w H s Q u s'
 | .ok _=>False
 | .error e=>CX outer H s E e s'
structure fi (P:Program)(w:World)(K:JA)(mg:Str->Option Value)(base:Heap)(CX:CXT)(k:Nat)(f:Addr)(fd:FuncData)(ps:List Str)(sp:Sp):Prop where
 len:∀vs H Q E,sp vs H Q E->vs.length=ps.length
 run:∀(A:Around) (outer:List Env) (s:Shared) (H:Hp) (args:Args) (us:List Value) (vs:List V) (Q:VK) (E:XK),cH k A->wV P w K mg base A outer s H->BindsTo s fd args (ps.zip us)->a8 vs us->sp vs H Q E->
  codeAny (model P w) A (.call (.ref f) args) (CR CX outer P w H s Q E) s
theorem fi.imp {P:Program}{w:World}{K:JA}{mg:Str->Option Value}{base:Heap}{CX:CXT}{k:Nat}{f:Addr}{fd:FuncData}{ps:List Str}{sp sp':Sp}(F:fi P w K mg base CX k f fd ps sp)
  (h:∀vs H Q E,sp' vs H Q E->sp vs H Q E):fi P w K mg base CX k f fd ps sp':=
 ⟨fun vs H Q E q=>F.len vs H Q E (h _ _ _ _ q),fun A outer s H args us vs Q E hr he hb hv hs=>F.run A outer s H args us vs Q E hr he hb hv (h _ _ _ _ hs)⟩
theorem wV.make {P:Program}{w:World}{K:JA}{mg:Str->Option Value}{base:Heap}{A:Around}{outer:List Env}{s:Shared}{H:Hp}(e:wV P w K mg base A outer s H)(C:Addr)(us:List Value)(kw:List (Str×Value)) :
  wV P w K mg base (A.under (.builtin "type.__call__" ⟨.ref C::us,kw⟩)) outer s H:=⟨by first | exact e.frames | (simpa [Around.under,Code.envs,Code.isFrame,pushEnvs] using e.frames),e.mod,e.bs,e.bsz,e.funs,e.frf,e.hok,e.bare⟩
section
variable {X:Cx}{pins:List (Addr×Obj)}{σ:St}{H:Hp}{s s':Shared}
theorem Inv.env0 (I:Inv X pins σ H s):wV X.prog X.w X.K X.mg X.base X.A X.stack s H:=
 ⟨I.ok.frames,I.ok.mod,I.bs,Nat.le_trans I.ok.bsz I.sz,I.stack,I.stkFree,I.hok,I.bare⟩
theorem Inv.after {Q:VK}{u:Value}(I:Inv X pins σ H s)(h:CE X.stack X.prog X.w H s Q u s'):EP X pins σ Q u s':=by
 obtain ⟨v,H',os,bare,un,hok,r,q⟩:=h
 obtain ⟨hh,g,d,t,os'⟩:=s'
 obtain rfl:os'=s.os:=os
 exact ⟨v,H',I.call (h':=hh) (g':=g) (d':=d) (t':=t) (ch:=[]) un hok bare (fun b z=>absurd z (by simp)),r,q⟩
end
noncomputable def xT (sp:Sp)(dvs:List V)(E:XK)(t:TA):TE:=fun σ H Q=>t σ H fun vs H1=>sp (vs++dvs) H1 Q E
noncomputable def tf (C:Addr)(m:Str)(sp:Sp)(dvs:List V)(E:XK)(ta:TE)(t:TA):TE:=fun σ H Q=>ta σ H fun x H1=>∃a dx fs,x=.ref a/\H1 a=some (.ins C dx fs)/\fs.lookup m=none/\
 t σ H1 fun vs H2=>sp (x::(vs++dvs)) H2 Q E
noncomputable def zZ (C:Addr)(sp:Sp)(dvs:List V)(E:XK)(t:TA):TE:=fun σ H Q=>t σ H fun vs H1=>∀x dx,H1 x=none->H1 dx=none->dx≠x->
 sp (.ref x::(vs++dvs)) (upd (upd H1 dx (.own x)) x (.ins C dx [])) (fun v H2=>v=.non/\Q (.ref x) H2) E
def cS (K:JA)(fd:FuncData)(ps:List Str)(ds:List Value):Prop:=
 ∀(s:Shared) (us:List Value),K.In s.heap->(us++ds).length=ps.length->BindsTo s fd ⟨us,[]⟩ (ps.zip (us++ds))
theorem cS.all {K:JA}{fd:FuncData}{ps:List Str}(h:∀us:List Value,us.length=ps.length->bindArgs fd ⟨us,[]⟩=pure (ps.zip us)):cS K fd ps []:=fun s us _ hl=>by
 rw [List.append_nil] at hl ⊢
 exact .of_eq (h us hl)
def eh (CX:CXT)(X:Cx)(E:XK):Prop:=∀(pins:List (Addr×Obj)) (σ:St) (H:Hp) (s:Shared) (e:Value) (s':Shared),Inv X pins σ H s->CX X.stack H s E e s'->X.xe e s'
section
variable {X:Cx}{CX:CXT}{k:Nat}{f C:Addr}{fd:FuncData}{ps:List Str}{sp:Sp}{dvs:List V}{ds:List Value}{E:XK}{x m:Str}{p pos apos:Pos}{e o:Expr}{es:List Expr}{ta:TE}{t:TA}
theorem wW {pins:List (Addr×Obj)}{σ:St}{H:Hp}{s:Shared}{Q:VK}{us:List Value}{vs:List V}(F:fi X.prog X.w X.K X.mg X.base CX k f fd ps sp)(hr:cH k X.A)(hb:cS X.K fd ps ds)(hd:a8 dvs ds)(hx:eh CX X E)
  (I:Inv X pins σ H s) (r:a8 vs us) (h:sp (vs++dvs) H Q E):wpAny (model X.prog X.w) X.A (call (.ref f) us) (EP X pins σ Q) X.xe s:=by
 have r2:a8 (vs++dvs) (us++ds):=r.append hd
 have hl:(us++ds).length=ps.length:=by rw [←r2.length];exact F.len _ _ _ _ h
 refine wpAny_call (codeAny_mono (F.run X.A X.stack s H ⟨us,[]⟩ (us++ds) (vs++dvs) Q E hr I.env0 (hb s us I.kIn hl) r2 h) fun r s' hq=>?_)
 cases r with
 | error e=>exact hx pins σ H s e s' I hq
 | ok fl=>
  cases fl with
  | ret u=>exact I.after hq
  | next=>exact False.elim hq
  | brk=>exact False.elim hq
  | cont=>exact False.elim hq
theorem BI (F:fi X.prog X.w X.K X.mg X.base CX k f fd ps sp)(hr:cH k X.A)(hg:Gl X x)(hm:X.mg x=some (.ref f))(hk:W.keepIn X.K (.ref f)=true)(hb:cS X.K fd ps ds)(hd:a8 dvs ds)(hx:eh CX X E)
  (ha:PA X (e::es) t) (hdb:(x == ("__debug__":Str))=false:=by decide) (he:starEach (e::es) X.env=(false,eval e X.env)::starEach es X.env:=by rfl) (hpl:(backTo pos (starEach es X.env)).any (·.1)=false:=by rfl) :
  PE X (.Call (.Name x p) (e::es) [] pos) (xT sp dvs E t):=by
 intro pins s σ H Q I h
 refine wpAny_Call_Name_kw (mV I hg hm ?_ hdb)
 refine W.callWith_K (h₀:=X.base) I.ok.mod.kin hk (thn (ha pos pins s σ H _ I h) fun us s1 ⟨vs,H1,I1,r,q⟩=>⟨I1.kIn,?_⟩) he hpl
 exact wW F hr hb hd hx I1 r q
theorem BJ {pl:Sem Bool}(he:PE X o ta)(c:Cls X.K C)(hm:vj X.K C m f)(F:fi X.prog X.w X.K X.mg X.base CX k f fd ps sp)(hr:cH k X.A)(hb:cS X.K fd ps ds)(hd:a8 dvs ds)(hx:eh CX X E)(ha:PA X (e::es) t)
  (hst:starEach (e::es) X.env=(false,eval e X.env)::starEach es X.env:=by rfl) (hpl:(backTo pos (starEach es X.env)).any (·.1)=false:=by rfl)
  (ht:eval (.Call (.Attribute o m apos) (e::es) [] pos) X.env=(do
   let ov ←eval o X.env
   standAt apos.atName
   let (f,first) ←holding [ov] (getMethod ov m pl)
   callWith pos f first (backTo pos (starEach (e::es) X.env)) (backToKw pos (keywordEach [] X.env))):=by rfl) :
  PE X (.Call (.Attribute o m apos) (e::es) [] pos) (tf C m sp dvs E ta t):=by
 intro pins s σ H Q I h
 refine W.methodCall_KW (pl:=pl) (thn (he pins s σ H _ I h) fun u s1 ⟨x,H1,I1,rx,a,dx,fs,ex,ea,l,q⟩=>?_) ht
 subst ex
 obtain rfl:u=Value.ref a:=rx
 refine ja I1 ea c hm l ?_
 refine W.callWith_K (first:=[.ref a]) (h₀:=X.base) I.ok.mod.kin hm.kp (thn (ha pos pins s1 σ H1 _ I1 q) fun us s2 ⟨vs,H2,I2,r,q2⟩=>⟨I2.kIn,?_⟩) hst hpl
 exact wW (us:=.ref a::us) (vs:=.ref a::vs) F hr hb hd hx I2 (.cons rfl r) q2
theorem z5 {pl:Sem Bool}(he:PE X o ta)(c:Cls X.K C)(hm:vj X.K C m f)(F:fi X.prog X.w X.K X.mg X.base CX k f fd ps sp)(hr:cH k X.A)(hb:cS X.K fd ps ds)(hd:a8 dvs ds)(hx:eh CX X E)
  (ht:eval (.Call (.Attribute o m apos) [] [] pos) X.env=(do
   let ov ←eval o X.env
   standAt apos.atName
   let (f,first) ←holding [ov] (getMethod ov m pl)
   callWith pos f first (backTo pos (starEach [] X.env)) (backToKw pos (keywordEach [] X.env))):=by rfl) :
  PE X (.Call (.Attribute o m apos) [] [] pos) (tf C m sp dvs E ta rV):=by
 intro pins s σ H Q I h
 refine W.methodCall_KW (pl:=pl) (thn (he pins s σ H _ I h) fun u s1 ⟨x,H1,I1,rx,a,dx,fs,ex,ea,l,q⟩=>?_) ht
 subst ex
 obtain rfl:u=Value.ref a:=rx
 refine ja I1 ea c hm l ?_
 exact W.callWith_K0 (first:=[.ref a]) I1.kIn hm.kp (wW (us:=[.ref a]) (vs:=[.ref a]) F hr hb hd hx I1 (.cons rfl .nil) q)
structure Mk (K:JA)(C f:Addr):Prop where
 makes:W.makesIn K C=true
 init:W.findIn K (.ref C) "__init__"=some (some (.ref f))
 fn:W.isFn K (.ref f)=true
 kp:W.keepIn K (.ref C)=true
theorem z6 {pins:List (Addr×Obj)}{σ:St}{H:Hp}{s:Shared}{Q:VK}{us:List Value}{vs:List V}(M:Mk X.K C f)(F:fi X.prog X.w X.K X.mg X.base CX k f fd ps sp)(hr:cH (k+1) X.A)(hb:cS X.K fd ps ds)(hd:a8 dvs ds)
  (hx:eh CX X E) (I:Inv X pins σ H s) (r:a8 vs us)
  (h:∀x dx,H x=none->H dx=none->dx≠x->sp (.ref x::(vs++dvs)) (upd (upd H dx (.own x)) x (.ins C dx [])) (fun v H2=>v=.non/\Q (.ref x) H2) E) :
  wpAny (model X.prog X.w) X.A (call (.ref C) us) (EP X pins σ Q) X.xe s:=by
 have hq:=h (s.heap.objs.size+1) s.heap.objs.size (I.hok.fresh (Nat.le_succ _)) (I.hok.fresh (Nat.le_refl _)) (Nat.ne_of_lt (Nat.lt_succ_self _))
 have I2:=Inv.made (C:=C) I
 have r2:a8 (V.ref (s.heap.objs.size+1)::(vs++dvs)) (Value.ref (s.heap.objs.size+1)::(us++ds)):=.cons rfl (r.append hd)
 have hl:(Value.ref (s.heap.objs.size+1)::us++ds).length=ps.length:=by
  have e:=r2.length
  rw [F.len _ _ _ _ hq] at e
  exact e.symm
 refine wpAny_call (zY (f:=f) I.kIn M.makes M.init (beq_iff_eq.mp M.fn) (codeAny_mono (F.run _ X.stack _ _ ⟨Value.ref (s.heap.objs.size+1)::us,[]⟩ (Value.ref (s.heap.objs.size+1)::(us++ds)) _ _ E (hr.make C us [])
  (I2.env0.make C us []) (hb _ (Value.ref (s.heap.objs.size+1)::us) I2.kIn hl) r2 hq) fun r s' hq'=>?_))
 cases r with
 | error e=>exact hx pins σ _ _ e s' I2 hq'
 | ok fl=>
  cases fl with
  | ret u=>
   obtain ⟨v,H',I3,rv,ev,q3⟩:=I2.after hq'
   subst ev
   exact ⟨rv,⟨V.ref (s.heap.objs.size+1),H',I3,rfl,q3⟩⟩
  | next=>exact False.elim hq'
  | brk=>exact False.elim hq'
  | cont=>exact False.elim hq'
theorem BK (M:Mk X.K C f)(F:fi X.prog X.w X.K X.mg X.base CX k f fd ps sp)(hr:cH (k+1) X.A)(hg:Gl X x)(hm:X.mg x=some (.ref C))(hb:cS X.K fd ps ds)(hd:a8 dvs ds)(hx:eh CX X E)
  (ha:PA X (e::es) t) (hdb:(x == ("__debug__":Str))=false:=by decide) (he:starEach (e::es) X.env=(false,eval e X.env)::starEach es X.env:=by rfl) (hpl:(backTo pos (starEach es X.env)).any (·.1)=false:=by rfl) :
  PE X (.Call (.Name x p) (e::es) [] pos) (zZ C sp dvs E t):=by
 intro pins s σ H Q I h
 refine wpAny_Call_Name_kw (mV I hg hm ?_ hdb)
 refine W.callWith_K (h₀:=X.base) I.ok.mod.kin M.kp (thn (ha pos pins s σ H _ I h) fun us s1 ⟨vs,H1,I1,r,q⟩=>⟨I1.kIn,?_⟩) he hpl
 exact z6 M F hr hb hd hx I1 r q
end
structure az (N P:List Str)(sc:Scope):Prop where
 kind:sc.kind=.function
 co:sc.isCoroutine=false
 gen:sc.isGenerator=false
 nd:N.Nodup
 pre:N.take P.length=P
 par:∀x∈P,sc.names.lookup x=some .local\/sc.names.lookup x=some .cell
 nofree:∀y∈sc.names,y.2≠.free
theorem tj {kindOf:Str->Option NameKind}{x:Str}:∀{binds:List (Str×Value)} {m:Str->Option Value},(∀v,(x,v)∉binds)->bindL kindOf binds m x=m x
 | [],_,_=>rfl
 | (n,v)::r,m,h=>by
  unfold bindL
  rw [tj fun w hw=>h w (List.mem_cons_of_mem _ hw)]
  split
  ·have:x≠n:=by rintro rfl;exact h v List.mem_cons_self
   simp [this]
  ·rfl
theorem tm {kindOf:Str->Option NameKind}{x:Str}:∀{binds:List (Str×Value)} {m:Str->Option Value},(∀v,(x,v)∉binds)->bindC kindOf binds m x=m x
 | [],_,_=>rfl
 | (n,v)::r,m,h=>by
  unfold bindC
  rw [tm fun w hw=>h w (List.mem_cons_of_mem _ hw)]
  split
  ·rfl
  ·have:x≠n:=by rintro rfl;exact h v List.mem_cons_self
   simp [this]
theorem tq {kindOf:Str->Option NameKind}{x:Str}{v:Value}:∀{P:List Str} {vs:List Value} {i:Nat} {m:Str->Option Value},P.Nodup->P[i]?=some x->vs[i]?=some v->kindOf x=some .local->
  bindL kindOf (P.zip vs) m x=some v
 | [],_,_,_,_,h,_,_=>by simp at h
 | _::_,[],_,_,_,_,h,_=>by simp at h
 | p::P,w::vs,0,m,nd,h1,h2,hk=>by
  simp at h1 h2;subst h1;subst h2
  show bindL kindOf ((p,w)::P.zip vs) m p=_
  unfold bindL
  rw [tj fun v hv=>(List.nodup_cons.mp nd).1 (List.of_mem_zip hv).1,if_pos hk]
  simp
 | p::P,w::vs,i+1,m,nd,h1,h2,hk=>by
  show bindL kindOf ((p,w)::P.zip vs) m x=_
  unfold bindL
  exact tq (i:=i) (List.nodup_cons.mp nd).2 (by simpa using h1) (by simpa using h2) hk
theorem tu {kindOf:Str->Option NameKind}{x:Str}{v:Value}:∀{P:List Str} {vs:List Value} {i:Nat} {m:Str->Option Value},P.Nodup->P[i]?=some x->vs[i]?=some v->kindOf x≠some .local->
  bindC kindOf (P.zip vs) m x=some v
 | [],_,_,_,_,h,_,_=>by simp at h
 | _::_,[],_,_,_,_,h,_=>by simp at h
 | p::P,w::vs,0,m,nd,h1,h2,hk=>by
  simp at h1 h2;subst h1;subst h2
  show bindC kindOf ((p,w)::P.zip vs) m p=_
  unfold bindC
  rw [tm fun v hv=>(List.nodup_cons.mp nd).1 (List.of_mem_zip hv).1,if_neg hk]
  simp
 | p::P,w::vs,i+1,m,nd,h1,h2,hk=>by
  show bindC kindOf ((p,w)::P.zip vs) m x=_
  unfold bindC
  exact tu (i:=i) (List.nodup_cons.mp nd).2 (by simpa using h1) (by simpa using h2) hk
noncomputable def jJ (N:List Str)(vs:List V):St:=vs.map some++List.replicate (N.length - vs.length) none
noncomputable def rW (CX:CXT)(P:Program)(w:World)(K:JA)(mg:Str->Option Value)(base:Heap)(N:List Str)(qual:Str)(scope:Scope)(f:Addr)(cd:Value)(A:Around)(outer:List Env)(s:Shared)(H:Hp)(E:XK):Cx where
 prog:=P
 w:=w
 K:=K
 mg:=mg
 base:=base
 A:=A.deeper (envOfC qual scope s.heap.objs.size f cd)
 N:=N
 s₀:=s
 H₀:=H
 env:=envOfC qual scope s.heap.objs.size f cd
 outer:=outer
 stack:=envOfC qual scope s.heap.objs.size f cd::outer
 ex:=[]
 calm:=true
 fn:=fun _=>true
 pn:=[]
 xe:=fun e s'=>wpAny (model P w) (A.deeper (envOfC qual scope s.heap.objs.size f cd)) (leaving (envOfC qual scope s.heap.objs.size f cd) e) (fun _ s''=>CX outer H s E e s'') (fun e' s''=>CX outer H s E e' s'') s'
theorem vk {sc:Scope}{n:Nat}{x:Str}(h:sc.names.lookup x=some .cell):∃c,(cellsFrom n sc.names []).lookup x=some c:=by
 have q:=W.cellsFrom_some sc.names n [] (.inl h)
 exact Option.isSome_iff_exists.mp q
theorem yW {CX:CXT}{P:Program}{w:World}{K:JA}{mg:Str->Option Value}{base:Heap}{N ps:List Str}{qual:Str}{scope:Scope}{f:Addr}{cd:Value}{A:Around}{outer:List Env}{s s1:Shared}{H:Hp}{E:XK}{us:List Value}{vs:List V}
  (S:az N ps scope) (hd:A.handled=none) (e0:wV P w K mg base A outer s H) (hl:vs.length=ps.length) (r:a8 vs us)
  (x:InCallC s s.heap.objs.size (bindL (envOfC qual scope s.heap.objs.size f cd).kindOf (ps.zip us) fun _=>none) (cellsFrom (s.heap.objs.size+1) scope.names []) (bindC (envOfC qual scope s.heap.objs.size f cd).kindOf (ps.zip us) fun _=>none) s1) :
  Inv (rW CX P w K mg base N qual scope f cd A outer s H E) [] (jJ N vs) H s1:=by
 have hpl:ps.length<=N.length:=by have:=congrArg List.length S.pre;rw [List.length_take] at this;omega
 obtain ⟨h1,tk,rfl,hk⟩:=x.done
 have noA:∀b:Addr,b∉(rW CX P w K mg base N qual scope f cd A outer s H E).ex:=fun b z=>absurd (show b∈([]:List Addr) from z) (by simp)
 refine ⟨⟨e0.mod,S.kind,rfl,rfl,Nat.le_refl _,fun y z c h1 h2=>?_,fun y hy=>?_,fun y c _ h=>?_,fun _=>hd,Around.frames_deeper e0.frames,.inr ⟨rfl,rfl⟩,fun b z=>absurd z (noA b),e0.bs,e0.bsz,fun b _ _=>noA b,fun b z=>absurd z (noA b),e0.funs,e0.frf⟩,
  rfl,e0.bare,Un.kept hk,⟨_,x.toInCall.ns,fun i y v h1 h2 h3=>?_⟩,fun y c h=>⟨_,x.cell y c h⟩,e0.hok.fresh (Nat.le_refl _),fun y c h=>?_,fun p hp=>absurd (show p∈([]:List (Addr×Obj)) from hp) (by simp),e0.hok.kept hk,?_⟩
 ·exact name_of_addr x.apart (PySem.mem_of_lookup h1) (PySem.mem_of_lookup h2)
 ·have hy:scope.names.lookup y=some .cell\/scope.names.lookup y=some .free:=hy
  rcases hy with hy | hy
  ·exact vk hy
  ·exact absurd rfl (S.nofree _ (PySem.mem_of_lookup hy))
 ·exact Nat.le_of_lt (x.above y c (PySem.mem_of_lookup h))
 ·have hi:i < vs.length:=by
   unfold jJ at h2
   by_cases hi:i < vs.length
   ·exact hi
   ·rw [List.getElem?_append_right (by simpa using hi)] at h2
    rw [List.getElem?_replicate] at h2
    split at h2<;>cases h2
  have ha:vs[i]?=some v:=by
   unfold jJ at h2
   rw [List.getElem?_append_left (by simpa using hi),List.getElem?_map] at h2
   cases e:vs[i]? with
   | none=>rw [e] at h2;cases h2
   | some a=>rw [e] at h2;cases h2;rfl
  obtain ⟨u,hu,rv⟩:=r.get ha
  have hp:ps[i]?=some y:=by
   rw [←S.pre,List.getElem?_take_of_lt (by omega)];exact h1
  have ndP:ps.Nodup:=by rw [←S.pre];exact S.nd.sublist (List.take_sublist _ _)
  refine ⟨u,rv,?_⟩
  rcases S.par y (List.mem_of_getElem? hp) with k | k
  ·exact .inl ⟨k,tq ndP hp hu k⟩
  ·obtain ⟨c,e⟩:=vk (n:=s.heap.objs.size+1) k
   refine .inr ⟨.inl k,c,e,?_⟩
   have q:=x.cell y c e
   rw [tu ndP hp hu (by show scope.names.lookup y≠_;rw [k];decide)] at q
   exact q
 ·exact e0.hok.fresh (Nat.le_of_lt (x.above y c (PySem.mem_of_lookup h)))
 ·unfold jJ
  show _=N.length
  rw [List.length_append,JB,List.length_replicate]
  omega
theorem Dn {CX:CXT}{P:Program}{w:World}{K:JA}{mg:Str->Option Value}{base:Heap}{k:Nat}{f:Addr}{name qual:Str}{params:Arguments}{body:List Stmt}{scope:Scope}{dV kV doc pm cdv ct oc:Value}{an od:Option Addr}
  {osl:Array (Option Value)} {N ps:List Str} {sp:Sp} (lk:K.lookup f=some ⟨oc,od,.func (W.fnOf name qual params body scope dV kV doc pm an cdv ct),osl⟩) (hcd:W.codeIn K cdv qual=true) (S:az N ps scope)
  (len:∀vs H Q E,sp vs H Q E->vs.length=ps.length)
  (hbody:∀(A:Around) (outer:List Env) (s:Shared) (H:Hp) (vs:List V) (Q:VK) (E:XK),cH k (A.deeper (envOfC qual scope s.heap.objs.size f cdv))->sp vs H Q E->
   ∃t,PSs (rW CX P w K mg base N qual scope f cdv A outer s H E) body t/\t {nx:=fun _ H'=>Q .non H',rt:=Q} (jJ N vs) H) :
  fi P w K mg base CX (k+1) f (W.fnOf name qual params body scope dV kV doc pm an cdv ct) ps sp:=by
 refine ⟨len,fun A outer s H args us vs Q E hr e0 hb r hsp=>?_⟩
 have hl:=len _ _ _ _ hsp
 have KX:K.In s.heap:=e0.mod.kin.keeps fun b o e=>(e0.bs b o e).1
 have lim:s.heap.NoLimit:=e0.mod.nolimit.keeps fun b o e=>(e0.bs b o e).1
 have hkind:∀y∈ps.zip us,scope.names.lookup y.1=some .local\/(scope.names.lookup y.1=some .cell/\((cellsFrom (s.heap.objs.size+1) scope.names []).lookup y.1).isSome=true):=fun ⟨n,v⟩ hy=>by
  rcases S.par n (List.of_mem_zip hy).1 with q | q
  ·exact .inl q
  ·exact .inr ⟨q,W.cellsFrom_some _ _ _ (.inl q)⟩
 refine codeAny_call_function hr.depth (KX _ _ lk) rfl S.co S.gen rfl (W.codeRec_of KX hcd) (hb _ _ _ _ ?_)
 refine wpAny_newFunctionEnv_cells S.kind hkind fun env he s1 x=>?_
 subst he
 refine ⟨lim.keeps x.toInCall.keep,codeAny_func ?_⟩
 obtain ⟨t,ht,hq⟩:=hbody A outer s H vs Q E (hr.deeper _) hsp
 have I:Inv (rW CX P w K mg base N qual scope f cdv A outer s H E) [] (jJ N vs) H s1:=yW S hr.hd e0 hl r x
 refine wpAny_mono (ht [] s1 (jJ N vs) H _ I hq) (fun fl s' hs=>?_) fun e s' hs=>hs
 have fin:∀{σ':St} {H':Hp} {v:V} {u:Value},Inv (rW CX P w K mg base N qual scope f cdv A outer s H E) [] σ' H' s'->bu v u->Q v H'->CE outer P w H s Q u s':=
  fun {σ' H' v u} J rv q=>⟨v,H',J.os,J.bare,J.base,J.hok,rv,q⟩
 cases fl with
 | ret u=>
  obtain ⟨v,σ',H',J,rv,q⟩:=hs
  exact fin J rv q
 | next=>
  obtain ⟨σ',H',J,q⟩:=hs
  exact fin (v:=V.non) (u:=Value.none) J rfl q
 | brk=>
  obtain ⟨_,_,_,q⟩:=hs
  exact False.elim q
 | cont=>
  obtain ⟨_,_,_,q⟩:=hs
  exact False.elim q
section
variable {X:Cx}{x:Str}{p pos:Pos}{e:Expr}{es:List Expr}{t:TA}{id T:String}{r:List V->Hp->VK->Prop}
noncomputable def tCB (r:List V->Hp->VK->Prop)(t:TA):TE:=fun σ H Q=>t σ H fun vs H1=>r vs H1 Q
theorem aF (hc:cZ X (.builtin id) r)(hg:Gl X x)(hm:X.mg x=none)(hv:bootBuiltins x=some (.builtin id))(ha:PA X (e::es) t)(hn:x≠"__name__":=by decide)(hdb:(x == ("__debug__":Str))=false:=by decide)
  (he:starEach (e::es) X.env=(false,eval e X.env)::starEach es X.env:=by rfl) (hpl:(backTo pos (starEach es X.env)).any (·.1)=false:=by rfl):PE X (.Call (.Name x p) (e::es) [] pos) (tCB r t):=by
 intro pins s σ H Q I h
 refine wpAny_Call_Name_kw (mi I hg hm hv ?_ hn hdb)
 exact PyProof.Rows.callWith_builtin1 (thn (ha pos pins s σ H _ I h) fun us s1 ⟨vs,H1,I1,r1,q1⟩=>hc pins s1 σ H1 vs us Q I1 r1 q1) he hpl
theorem bB (hc:cZ X (.type T) r)(hg:Gl X x)(hm:X.mg x=none)(hv:bootBuiltins x=some (.type T))(ha:PA X (e::es) t)(hn:x≠"__name__":=by decide)(hdb:(x == ("__debug__":Str))=false:=by decide)
  (he:starEach (e::es) X.env=(false,eval e X.env)::starEach es X.env:=by rfl) (hpl:(backTo pos (starEach es X.env)).any (·.1)=false:=by rfl):PE X (.Call (.Name x p) (e::es) [] pos) (tCB r t):=by
 intro pins s σ H Q I h
 refine wpAny_Call_Name_kw (mi I hg hm hv ?_ hn hdb)
 exact PyProof.Rows.callWith_type1 (thn (ha pos pins s σ H _ I h) fun us s1 ⟨vs,H1,I1,r1,q1⟩=>hc pins s1 σ H1 vs us Q I1 r1 q1) he hpl
end
end L2
namespace HT
open PySem PyProof.Rows
section
open PySem.SeqAt
open PySem.AutoSeq1 (wpAny_loadPart')
open PySem.MeetsSeq PySem.MeetsSeq2 PySem.MeetsSeq3
end
section
variable {prog:Program}{w:World}{A:Around}{E:Value->Shared->Prop}{s:Shared}
noncomputable def sIx (n d:Nat):Option Int->Nat
 | none=>d
 | some v=>if v < 0 then (v+(n:Int)).toNat else min v.toNat n
theorem z7 (n d:Nat):sIx n d none=d:=rfl
theorem xU (n d k:Nat):sIx n d (some (k:Int))=min k n:=by
 show (if (k:Int) < 0 then ((k:Int)+(n:Int)).toNat else min (k:Int).toNat n)=min k n
 rw [if_neg (by omega),Int.toNat_natCast]
theorem BL (v:Int)(n d:Nat):(if v < 0 then max (v+(n:Int)) 0 else min v (n:Int))=((sIx n d (some v):Nat):Int):=by
 show (if v < 0 then max (v+(n:Int)) 0 else min v (n:Int))=(((if v < 0 then (v+(n:Int)).toNat else min v.toNat n):Nat):Int)
 by_cases hv:v < 0
 ·simp only [if_pos hv];omega
 ·simp only [if_neg hv];omega
end
end HT
namespace L2
open PySem PySem.Spec PyProof.Rows
noncomputable abbrev TO:=St->Hp->(Option Int->Hp->Prop)->Prop
def PO (X:Cx)(e:Option Expr)(t:TO):Prop:=
 ∀(pins:List (Addr×Obj)) (s:Shared) (σ:St) (H:Hp) (Q:Option Int->Hp->Prop),Inv X pins σ H s->t σ H Q->
  wpAny (model X.prog X.w) X.A (evalPart e X.env) (fun u s'=>∃o H',Inv X pins σ H' s'/\IsPart u o/\Q o H') X.xe s
noncomputable def xV:TO:=fun _ H Q=>Q none H
noncomputable def Dp (t:TE):TO:=fun σ H Q=>t σ H fun x H1=>∃i,x=.int i/\Q (some i) H1
theorem wX {ns:List Int}:∀{us:List Value},a8 (ns.map V.int) us->IntsAre us ns:=by
 induction ns with
 | nil=>intro us r;rw [List.map_nil] at r;cases r;exact .nil
 | cons n ns ih=>
  intro us r
  rw [List.map_cons] at r
  cases r with
  | cons r1 r2=>
   obtain ⟨t,e⟩:=r1
   subst e
   exact .cons n t (ih r2)
section
variable {X:Cx}{e:Expr}{te:TE}{lo hi:Option Expr}{tl th:TO}{pos p2:Pos}
theorem BM:PO X none xV:=by
 intro pins s σ H Q I h
 rw [evalPart_none]
 exact wpAny_pure ⟨none,H,I,.none,h⟩
theorem BN (h:PE X e te):PO X (some e) (Dp te):=by
 intro pins s σ H Q I hw
 rw [evalPart_some]
 refine thn (h pins s σ H _ I hw) fun u s1 ⟨x,H1,I1,r1,q1⟩=>?_
 obtain ⟨i,rfl,q⟩:=q1
 obtain ⟨t,rfl⟩:=r1
 exact ⟨some i,H1,I1,.int i t,q⟩
def SlR (X:Cx)(r:V->Option Int->Option Int->Hp->VK->Prop):Prop:=
 ∀(pins:List (Addr×Obj)) (s:Shared) (σ:St) (H:Hp) (x:V) (v vl vu:Value) (lo hi:Option Int) (sl:Addr) (Q:VK),Inv X pins σ H s->bu x v->s.heap.IsSliceOf sl vl vu .none->IsPart vl lo->IsPart vu hi->r x lo hi H Q->
  ∃T id,typeLookup (.type T) "__getitem__"=pure (some (.builtin id))/\s.TypeIs v T/\wpAny (model X.prog X.w) X.A (getItem v (.ref sl)) (EP X pins σ Q) X.xe s
noncomputable def tSl (r:V->Option Int->Option Int->Hp->VK->Prop)(te:TE)(tl th:TO):TE:=fun σ H Q=>te σ H fun x H1=>tl σ H1 fun l H2=>th σ H2 fun u H3=>r x l u H3 Q
theorem vm {r:V->Option Int->Option Int->Hp->VK->Prop}(hr:SlR X r)(he:PE X e te)(hl:PO X lo tl)(hu:PO X hi th):PE X (.Subscript e (.Slice lo hi none p2) pos) (tSl r te tl th):=by
 intro pins s σ H Q I h
 refine Subscript_ (thn (he pins s σ H _ I h) fun v s1 ⟨x,H1,I1,r1,q1⟩=>?_)
 refine wpAny_Slice (thn (hl pins s1 σ H1 _ I1 q1) fun vl s2 ⟨l,H2,I2,pl,q2⟩=>thn (hu pins s2 σ H2 _ I2 q2) fun vu s3 ⟨u,H3,I3,pu,q3⟩=>?_)
 rw [evalPart_none]
 refine wpAny_pure ?_
 have I4:Inv X pins σ H3 {s3 with heap:=s3.heap.push {cls:=.type "slice",data:=.fields #[vl,vu,.none]}}:=I3.kept (t':=s3.toks) fun b ob q=>Heap.get?_push_of_some _ q
 obtain ⟨T,id,hT,ht,hg⟩:=hr pins {s3 with heap:=s3.heap.push {cls:=.type "slice",data:=.fields #[vl,vu,.none]}} σ H3 x v vl vu l u s3.heap.objs.size Q I4 r1 (Heap.IsSliceOf.new ..) pl pu q3
 show wpAny (model X.prog X.w) X.A (subscriptTail e (.Slice lo hi none p2) v (.ref s3.heap.objs.size)) (EP X pins σ Q) X.xe {s3 with heap:=s3.heap.push {cls:=.type "slice",data:=.fields #[vl,vu,.none]}}
 exact tail_any (ops:=[.ref s3.heap.objs.size,v]) ht hT hg (by with_unfolding_all rfl)
noncomputable def rX (xs:List V)(lo hi:Option Int):List V:=(xs.drop (HT.sIx xs.length 0 lo)).take (HT.sIx xs.length xs.length hi - HT.sIx xs.length 0 lo)
theorem jT (xs:List V)(lo hi:Option Int):(rX xs lo hi).length<=xs.length:=by
 unfold rX
 rw [List.length_take,List.length_drop]
 omega
end
noncomputable def ixN (n:Nat)(i:Int):Option Nat:=if 0<=i then (if i < n then some i.toNat else none) else if -(n:Int)<=i then some (i+n).toNat else none
noncomputable def atI {α:Type}(xs:List α)(i:Int):Option α:=(ixN xs.length i).bind fun j=>xs[j]?
theorem xW {n:Nat}{i:Int}{j:Nat}(h:ixN n i=some j):seqIndex? i n=some j/\j < n/\-(n:Int)<=i/\i < n:=by
 unfold ixN at h
 by_cases h0:0<=i
 ·rw [if_pos h0] at h
  by_cases h1:i < n
  ·rw [if_pos h1] at h
   have e:i.toNat=j:=Option.some.inj h
   exact ⟨by rw [seqIndex_of h0 h1,e],by omega,by omega,h1⟩
  ·rw [if_neg h1] at h;cases h
 ·rw [if_neg h0] at h
  by_cases h1:-(n:Int)<=i
  ·rw [if_pos h1] at h
   have e:(i+n).toNat=j:=Option.some.inj h
   exact ⟨by rw [seqIndex_neg (by omega) h1,e],by omega,h1,by omega⟩
  ·rw [if_neg h1] at h;cases h
theorem uh {α:Type}{xs:List α}{i:Int}{v:α}(h:atI xs i=some v):∃j,seqIndex? i xs.length=some j/\xs[j]?=some v/\j < xs.length/\-(xs.length:Int)<=i/\i < xs.length:=by
 unfold atI at h
 cases e:ixN xs.length i with
 | none=>rw [e] at h;cases h
 | some j=>
  rw [e] at h
  obtain ⟨h1,h2,h3,h4⟩:=xW e
  exact ⟨j,h1,h,h2,h3,h4⟩
theorem xX {α:Type}{xs:List α}{j:Nat}{v:α}(h:xs[j]?=some v):atI xs (j:Int)=some v:=by
 have hj:j < xs.length:=(List.getElem?_eq_some_iff.mp h).1
 have e:ixN xs.length (j:Int)=some j:=by
  unfold ixN
  rw [if_pos (by omega),if_pos (by omega)];simp
 unfold atI;rw [e];exact h
def xY (b:Expr):Prop:=∀o i,subscripted b false o i=operate [o,i] (getItem o i)
def IxR (X:Cx)(r:R2):Prop:=
 ∀(value slice:Expr) (pins:List (Addr×Obj)) (s:Shared) (σ:St) (H:Hp) (x y:V) (v u:Value) (Q:VK),Inv X pins σ H s->bu x v->bu y u->r x y H Q->
  subscripted slice false v u=operate [v,u] (getItem v u)->wpAny (model X.prog X.w) X.A (subscriptTail value slice v u) (EP X pins σ Q) X.xe s
def MtR (X:Cx)(id:String)(r:V->List V->Hp->VK->Prop):Prop:=
 ∀(pins:List (Addr×Obj)) (s:Shared) (σ:St) (H:Hp) (x:V) (xs:List V) (v:Value) (us:List Value) (Q:VK),Inv X pins σ H s->bu x v->a8 xs us->r x xs H Q->
  wpAny (model X.prog X.w) X.A (call (.builtin id) (v::us)) (EP X pins σ Q) X.xe s
section
variable {X:Cx}{a b:Expr}{ta tb:TE}{pos:Pos}
theorem IxR.or {r r':R2}(h:IxR X r)(h':IxR X r'):IxR X (fun x y H Q=>r x y H Q\/r' x y H Q):=by
 intro value slice pins s σ H x y v u Q I rx ry q hs
 rcases q with q | q
 ·exact h value slice pins s σ H x y v u Q I rx ry q hs
 ·exact h' value slice pins s σ H x y v u Q I rx ry q hs
theorem FA {r:R2}(hr:IxR X r)(ha:PE X a ta)(hb:PE X b tb)(hs:xY b):PE X (.Subscript a b pos) (tOp r ta tb):=by
 intro pins s σ H Q I h
 exact Subscript_ (DS ha hb I h fun v u s2 x y H2 I2 rx ry q=>hr a b pins s2 σ H2 x y v u Q I2 rx ry q (hs _ _))
noncomputable def Ea (K:JA):R2:=fun x y H Q=>∃p xs i v,x=.ref p/\y=.int i/\SqL K H p xs/\atI xs i=some v/\Q v H
noncomputable def Eb (K:JA):R2:=fun x y H Q=>∃p xs i v,x=.ref p/\y=.int i/\SqT K H p xs/\atI xs i=some v/\Q v H
noncomputable def FC:R2:=fun x y H Q=>∃z i c,x=.str z/\y=.int i/\z.length<=sizeLine/\atI z.cps.toList i=some c/\Q (.str ⟨#[c]⟩) H
theorem xZ:IxR X (Ea X.K):=by
 intro value slice pins s σ H x y v u Q I rx ry h hs
 obtain ⟨p,xs,i,z,rfl,rfl,hq,he,q⟩:=h
 cases rx
 obtain ⟨t,rfl⟩:=ry
 obtain ⟨its,r,pl,hz⟩:=I.list hq
 obtain ⟨j,h1,h2,h3,h4,h5⟩:=uh he
 obtain ⟨w,ew,rw'⟩:=r.get h2
 have hl:=r.length
 have hn:=oA
 have fin:EP X pins σ Q w s:=⟨z,H,I,rw',q⟩
 by_cases h0:0<=i
 ·have hj:i.toNat=j:=by
   rw [seqIndex_of h0 h5] at h1
   exact Option.some.inj h1
  exact item_listR pl.isList h0 (by omega) (by rw [hj];simpa using ew) fin hs
 ·have hj:(i+(its.toArray.size:Int)).toNat=j:=by
   rw [seqIndex_neg (by omega) h4] at h1
   rw [List.size_toArray,←hl]
   exact Option.some.inj h1
  exact subscriptTail_builtinR (x:=w) pl.isList.typeIs slot_list_getitem.lookup
   (wpAny_getItem_list_neg (Q:=fun r s'=>r=w/\EP X pins σ Q r s') pl.isList (by omega) (by rw [List.size_toArray]<;>omega) (by omega) (by rw [hj];simpa using ew) ⟨rfl,fin⟩) hs
theorem z8:IxR X (Eb X.K):=by
 intro value slice pins s σ H x y v u Q I rx ry h hs
 obtain ⟨p,xs,i,z,rfl,rfl,hq,he,q⟩:=h
 cases rx
 obtain ⟨t,rfl⟩:=ry
 obtain ⟨its,r,pl,hz⟩:=I.tuple hq
 obtain ⟨j,h1,h2,h3,h4,h5⟩:=uh he
 obtain ⟨w,ew,rw'⟩:=r.get h2
 have hl:=r.length
 have hn:=oA
 have fin:EP X pins σ Q w s:=⟨z,H,I,rw',q⟩
 exact subscriptTail_builtinR (x:=w) pl.typeIs slot_tuple_getitem.lookup
  (getItem_tuple (j:=j) (Q:=fun r s'=>r=w/\EP X pins σ Q r s') pl (by omega) (by omega) (by rw [List.size_toArray,←hl];exact h1) (by simpa using ew) ⟨rfl,fin⟩) hs
theorem Ec:IxR X FC:=by
 intro value slice pins s σ H x y v u Q I rx ry h hs
 obtain ⟨z,i,c,rfl,rfl,hz,he,q⟩:=h
 obtain ⟨t,rfl⟩:=rx
 obtain ⟨t',rfl⟩:=ry
 obtain ⟨j,h1,h2,h3,h4,h5⟩:=uh he
 have hl:z.cps.toList.length=z.length:=by simp [Str.length]
 rw [hl] at h1 h4 h5
 have hn:=oA
 exact tail_any (typeIs_str s z t) slot_str_getitem.lookup (getItem_str (c:=c) (by
  have e1:decide (i < -(2 ^ 63:Int))=false:=decide_eq_false (by omega)
  have e2:decide (i≥2 ^ 63)=false:=decide_eq_false (by omega)
  rw [e1,e2,Bool.or_false]) (by rw [h1];simpa using h2) ⟨.str ⟨#[c]⟩,H,I.tok _,⟨_,rfl⟩,q⟩) hs
noncomputable def rIx (K:JA):R2:=fun x y H Q=>Ea K x y H Q\/Eb K x y H Q\/FC x y H Q
theorem z9:IxR X (rIx X.K):=xZ.or (z8.or Ec)
theorem wY (its:List Value)(n j:Nat)(u:Value):Obj.mapSeq (·.setIfInBounds j u) {cls:=.type "list",data:=.seq its.toArray n}={cls:=.type "list",data:=.seq (its.set j u).toArray n}:=by
 simp [Obj.mapSeq]
theorem Inv.lst {pins:List (Addr×Obj)}{σ:St}{H:Hp}{s:Shared}{p:Addr}{xs:List V}(I:Inv X pins σ H s)(h:H p=some (.lst xs)) :
  ∃(its:List Value) (n:Nat),a8 xs its/\s.heap.get? p=some {cls:=.type "list",data:=.seq its.toArray n}/\xs.length<=sizeLine:=by
 obtain ⟨z,its,n,r,e⟩:=I.hok p _ h
 exact ⟨its,n,r,e,z⟩
theorem Inv.lstUpd {pins:List (Addr×Obj)}{σ:St}{H:Hp}{s:Shared}{p:Addr}{xs ys:List V}{its its':List Value}{n n':Nat}{f:Obj->Obj}(I:Inv X pins σ H s)(h:H p=some (.lst xs))
  (ho:s.heap.get? p=some {cls:=.type "list",data:=.seq its.toArray n}) (hf:f {cls:=.type "list",data:=.seq its.toArray n}={cls:=.type "list",data:=.seq its'.toArray n'}) (r:a8 ys its') (hz:ys.length<=sizeLine) (t:Nat) :
  Inv X pins σ (upd H p (.lst ys)) {s with heap:=s.heap.update p f,toks:=t}:=by
 have e:(s.heap.update p f).get? p=some {cls:=.type "list",data:=.seq its'.toArray n'}:=by
  rw [Heap.get?_update_self f ho (by rw [hf]<;>rfl),hf]
 refine I.write (x:=p) (e:=p) (by rw [h];trivial) (.inl rfl) (fun b u hb q=>(Heap.get?_update_other _ _ (Ne.symm hb)).trans q) ⟨_,e⟩ ?_
 exact ⟨hz,its',n',r,e⟩
noncomputable def Dq:V->V->V->Hp->(Hp->Prop)->Prop:=fun o i v H Q=>∃p xs k j,o=.ref p/\i=.int k/\H p=some (.lst xs)/\ixN xs.length k=some j/\Q (upd H p (.lst (xs.set j v)))
theorem Aa:DO X Dq:=by
 intro pins s σ H o i v ov iv u Q I ro ri rv h
 obtain ⟨p,xs,k,j,rfl,rfl,hp,hj,q⟩:=h
 cases ro
 obtain ⟨t,rfl⟩:=ri
 obtain ⟨its,n,r,ho,hz⟩:=I.lst hp
 obtain ⟨h1,h2,h3,h4⟩:=xW hj
 have hl:=r.length
 have hn:=oA
 have I':Inv X pins σ (upd H p (.lst (xs.set j v))) {s with heap:=s.heap.update p (Obj.mapSeq (·.setIfInBounds j u))}:=
  I.lstUpd hp ho (wY its n j u) (r.set rv j) (by rw [List.length_set];exact hz) s.toks
 by_cases h0:0<=k
 ·have hk:k.toNat=j:=by
   rw [seqIndex_of h0 h4] at h1
   exact Option.some.inj h1
  exact W.ki_setAt ho h0 (by omega) (by rw [List.size_toArray,←hl];exact h4) (by rw [hk];exact ⟨_,I',q⟩)
 ·have hk:(k+(its.toArray.size:Int)).toNat=j:=by
   rw [seqIndex_neg (by omega) h3] at h1
   rw [List.size_toArray,←hl]
   exact Option.some.inj h1
  exact W.ki_setBack ho (by omega) (by rw [List.size_toArray,←hl];exact h3) (by omega) (by rw [hk];exact ⟨_,I',q⟩)
theorem ui (lo hi:Option Int)(n:Nat):(sliceBounds lo hi none n).1=((HT.sIx n 0 lo:Nat):Int)/\(sliceBounds lo hi none n).2.1=((HT.sIx n n hi:Nat):Int)/\(sliceBounds lo hi none n).2.2=1:=by
 refine ⟨?_,?_,rfl⟩
 ·cases lo with
  | none=>simp [sliceBounds,HT.sIx]
  | some i=>
   simp only [sliceBounds,HT.sIx,Option.getD_none,show (1:Int) > 0 by decide,if_true]
   by_cases h:i < 0
   ·simp only [h,if_true]<;>omega
   ·simp only [h,if_false]<;>omega
 ·cases hi with
  | none=>simp [sliceBounds,HT.sIx]
  | some i=>
   simp only [sliceBounds,HT.sIx,Option.getD_none,show (1:Int) > 0 by decide,if_true]
   by_cases h:i < 0
   ·simp only [h,if_true]<;>omega
   ·simp only [h,if_false]<;>omega
theorem rY (its:List Value)(lo hi:Option Int):slicePick its.toArray lo hi none=((its.drop (HT.sIx its.length 0 lo)).take (HT.sIx its.length its.length hi - HT.sIx its.length 0 lo)).toArray:=by
 obtain ⟨h1,h2,h3⟩:=ui lo hi its.toArray.size
 unfold slicePick
 rw [h1,h2,h3]
 simp only [sliceRange_one,pick_run,List.size_toArray]<;>rfl
noncomputable def FD (K:JA):V->Option Int->Option Int->Hp->VK->Prop:=fun x lo hi H Q=>∃a xs,x=.ref a/\SqL K H a xs/\∀p,H p=none->Q (.ref p) (upd H p (.lst (rX xs lo hi)))
theorem BO:SlR X (FD X.K):=by
 intro pins s σ H x v vl vu lo hi sl Q I rx hs pl pu h
 obtain ⟨a,xs,rfl,hx,q⟩:=h
 cases rx
 obtain ⟨its,r,ht,hz⟩:=I.list hx
 have hlen:=r.length
 refine ⟨"list",_,slot_list_getitem.lookup,ht.isList.typeIs,?_⟩
 refine wpAny_getItem_list_slice ht.isList hs pl pu .none (by simp) ?_ (by rw [List.size_toArray]<;>omega)
 rw [rY,←hlen]
 refine ⟨.ref s.heap.objs.size,_,I.laid (t':=s.toks) (o:=.lst (rX xs lo hi)) (fun b ob q=>Heap.get?_push_of_some _ q) (Nat.le_refl _) ?_,rfl,q _ (I.hok.fresh (Nat.le_refl _))⟩
 exact ⟨Nat.le_trans (jT xs lo hi) hz,_,0,(r.drop (HT.sIx xs.length 0 lo)).take (HT.sIx xs.length xs.length hi - HT.sIx xs.length 0 lo),Heap.get?_push_size _ rfl⟩
noncomputable def a7:V->Bool
 | .non=>true
 | .bl _=>true
 | .int _=>true
 | .str _=>true
 | _=>false
noncomputable def eqV:V->V->Bool
 | .non,.non=>true
 | .bl a,.bl b=>a == b
 | .bl a,.int b=>(if a then 1 else 0) == b
 | .int a,.bl b=>a == (if b then 1 else 0)
 | .int a,.int b=>a == b
 | .str a,.str b=>a == b
 | _,_=>false
theorem jU {A:Around}{s:Shared}{y x:V}{u v:Value}(ry:bu y u)(rx:bu x v)(fy:a7 y=true)(fx:a7 x=true):SeqAt.EqAt A s u v (eqV y x):=by
 cases y with
 | non=>
  cases ry
  cases x with
  | non=>cases rx;exact SeqAt.EqAt.same _
  | bl b=>cases rx;exact SeqAt.EqAt.none_bool b
  | int b=>obtain ⟨t,rfl⟩:=rx;exact SeqAt.EqAt.none_int b t
  | str b=>obtain ⟨t,rfl⟩:=rx;exact SeqAt.EqAt.none_str b t
  | _=>exact absurd (show false=true from fx) Bool.false_ne_true
 | bl a=>
  cases ry
  cases x with
  | non=>cases rx;exact SeqAt.EqAt.bool_none a
  | bl b=>cases rx;exact SeqAt.EqAt.bool_bool a b
  | int b=>obtain ⟨t,rfl⟩:=rx;exact SeqAt.EqAt.bool_int a b t
  | str b=>obtain ⟨t,rfl⟩:=rx;exact SeqAt.EqAt.bool_str a b t
  | _=>exact absurd (show false=true from fx) Bool.false_ne_true
 | int a=>
  obtain ⟨t',rfl⟩:=ry
  cases x with
  | non=>cases rx;exact SeqAt.EqAt.int_none a t'
  | bl b=>cases rx;exact SeqAt.EqAt.int_bool a t' b
  | int b=>obtain ⟨t,rfl⟩:=rx;exact SeqAt.EqAt.int_int a t' b t
  | str b=>obtain ⟨t,rfl⟩:=rx;exact SeqAt.EqAt.int_str a t' b t
  | _=>exact absurd (show false=true from fx) Bool.false_ne_true
 | str a=>
  obtain ⟨t',rfl⟩:=ry
  cases x with
  | non=>cases rx;exact SeqAt.EqAt.str_none a t'
  | bl b=>cases rx;exact SeqAt.EqAt.str_bool a t' b
  | int b=>obtain ⟨t,rfl⟩:=rx;exact SeqAt.EqAt.str_int a t' b t
  | str b=>obtain ⟨t,rfl⟩:=rx;exact SeqAt.EqAt.str_str a t' b t
  | _=>exact absurd (show false=true from fx) Bool.false_ne_true
 | _=>exact absurd (show false=true from fy) Bool.false_ne_true
noncomputable def eqU (x:V)(u:Value):Bool:=match u with
 | .none=>eqV .non x
 | .bool b=>eqV (.bl b) x
 | .int i _=>eqV (.int i) x
 | .str z _=>eqV (.str z) x
 | _=>false
theorem wZ {x y:V}{u:Value}(r:bu y u)(f:a7 y=true):eqU x u=eqV y x:=by
 cases y with
 | non=>cases r;rfl
 | bl b=>cases r;rfl
 | int i=>obtain ⟨t,rfl⟩:=r;rfl
 | str z=>obtain ⟨t,rfl⟩:=r;rfl
 | _=>exact absurd (show false=true from f) Bool.false_ne_true
theorem mY {x:V}:∀{xs:List V} {us:List Value},a8 xs us->xs.all a7=true->us.any (eqU x)=xs.any fun y=>eqV y x
 | _,_,.nil,_=>rfl
 | y::xs,u::us,.cons r t,f=>by
  rw [List.all_cons,Bool.and_eq_true] at f
  rw [List.any_cons,List.any_cons,wZ r f.1,mY t f.2]
theorem iM {A:Around}{s:Shared}{x:V}{v:Value}(rx:bu x v)(fx:a7 x=true):∀{xs:List V} {us:List Value},a8 xs us->xs.all a7=true->∀u∈us,SeqAt.EqAt A s u v (eqU x u)
 | _,_,.nil,_=>fun u hu=>by cases hu
 | y::xs,u::us,.cons r t,f=>fun u' hu=>by
  rw [List.all_cons,Bool.and_eq_true] at f
  rcases List.mem_cons.mp hu with rfl | hu
  ·rw [wZ r f.1];exact jU r rx f.1 fx
  ·exact iM rx fx t f.2 u' hu
noncomputable def inV (x:V)(xs:List V):Bool:=xs.any fun y=>eqV y x
noncomputable def rIn (K:JA)(neg:Bool):R2:=fun x y H Q=>∃p xs,y=.ref p/\(SqL K H p xs\/SqT K H p xs)/\a7 x=true/\xs.all a7=true/\Q (.bl (if neg then !inV x xs else inV x xs)) H
theorem yX:OpR X (compareOp .In) (rIn X.K false):=by
 intro pins s σ H x y v u Q I rx ry h
 obtain ⟨p,xs,rfl,hq,fx,fs,q⟩:=h
 cases ry
 rcases hq with hq | hq
 ·obtain ⟨its,r,pl,hz⟩:=I.list hq
  refine SeqAt.in_listAt (eqU x) pl.isList (fun w hw=>iM rx fx r fs w (by simpa using hw)) ⟨.bl _,H,I,rfl,?_⟩
  rw [show its.toArray.any (eqU x)=its.any (eqU x) by simp,mY r fs]
  exact q
 ·obtain ⟨its,r,pl,hz⟩:=I.tuple hq
  refine SeqAt.in_tupleAt (eqU x) pl (fun w hw=>iM rx fx r fs w (by simpa using hw)) ⟨.bl _,H,I,rfl,?_⟩
  rw [show its.toArray.any (eqU x)=its.any (eqU x) by simp,mY r fs]
  exact q
theorem uj:OpR X (compareOp .NotIn) (rIn X.K true):=by
 intro pins s σ H x y v u Q I rx ry h
 obtain ⟨p,xs,rfl,hq,fx,fs,q⟩:=h
 cases ry
 rcases hq with hq | hq
 ·obtain ⟨its,r,pl,hz⟩:=I.list hq
  refine SeqAt.notIn_listAt (eqU x) pl.isList (fun w hw=>iM rx fx r fs w (by simpa using hw)) ⟨.bl _,H,I,rfl,?_⟩
  rw [show its.toArray.any (eqU x)=its.any (eqU x) by simp,mY r fs]
  exact q
 ·obtain ⟨its,r,pl,hz⟩:=I.tuple hq
  refine SeqAt.notIn_tupleAt (eqU x) pl (fun w hw=>iM rx fx r fs w (by simpa using hw)) ⟨.bl _,H,I,rfl,?_⟩
  rw [show its.toArray.any (eqU x)=its.any (eqU x) by simp,mY r fs]
  exact q
theorem uk:cZ X (.builtin "len") (fun xs H Q=>∃p ys,xs=[.ref p]/\(SqL X.K H p ys\/SqT X.K H p ys)/\Q (.int ys.length) H):=by
 intro pins s σ H xs us Q I r h
 obtain ⟨p,ys,rfl,hq,q⟩:=h
 obtain ⟨u,rfl,rx⟩:=vi r
 cases rx
 have hn:=oA
 rcases hq with hq | hq
 ·obtain ⟨its,r',pl,hz⟩:=I.list hq
  have hlen:=r'.length
  exact Calls.call_len_list pl.isList (by simp only [List.size_toArray]<;>omega) ⟨.int ys.length,H,I.tok _,⟨s.toks+1,by rw [List.size_toArray,hlen]⟩,q⟩
 ·obtain ⟨its,r',pl,hz⟩:=I.tuple hq
  have hlen:=r'.length
  exact len_tuple pl (by simp only [List.size_toArray]<;>omega) ⟨.int ys.length,H,I.tok _,⟨s.toks+1,by rw [List.size_toArray,hlen]⟩,q⟩
theorem um:cZ X (.type "list") (fun xs H Q=>∃p ys,xs=[.ref p]/\(SqL X.K H p ys\/SqT X.K H p ys)/\∀l,H l=none->Q (.ref l) (upd H l (.lst ys))):=by
 intro pins s σ H xs us Q I r h
 obtain ⟨p,ys,rfl,hq,q⟩:=h
 obtain ⟨u,rfl,rx⟩:=vi r
 cases rx
 have fin:∀(its:List Value),a8 ys its->ys.length<=sizeLine->∀(h':Heap) (c':Nat),(∀b o',s.heap.get? b=some o'->h'.get? b=some o')->
   h'.get? s.heap.objs.size=some {cls:=.type "list",dict:=none,data:=.seq its.toArray c',slots:=#[]}->EP X pins σ Q (.ref s.heap.objs.size) {s with heap:=h'}:=fun its r' hz h' c' kp e=>
  ⟨.ref s.heap.objs.size,_,I.laid (t':=s.toks) kp (Nat.le_refl _) (show fh X.prog X.w _ h' _ (.lst ys) from ⟨hz,its,c',r',e⟩),rfl,q _ (I.hok.fresh (Nat.le_refl _))⟩
 rcases hq with hq | hq
 ·obtain ⟨its,r',pl,hz⟩:=I.list hq
  have hlen:=r'.length
  obtain ⟨o,ho,hc,n,hd⟩:=pl.isList
  exact call_list_seq p (.inl rfl) ho hc hd (fun h' c' kp e=>fin its r' hz h' c' kp e) (by simp only [List.size_toArray]<;>omega)
 ·obtain ⟨its,r',pl,hz⟩:=I.tuple hq
  have hlen:=r'.length
  obtain ⟨o,ho,hc,n,hd⟩:=pl
  exact call_list_seq p (.inr rfl) ho hc hd (fun h' c' kp e=>fin its r' hz h' c' kp e) (by simp only [List.size_toArray]<;>omega)
def tyV (K:JA)(T:String)(x:V)(H:Hp):Prop:=match x with
 | .str _=>T="str"
 | .int _=>T="int"
 | .ref p=>(T="list"/\∃xs,SqL K H p xs)\/(T="tuple"/\∃o,K.lookup p=some o/\o.cls=.type "tuple"/\o.dict=none)\/
   (T="dict"/\((∃kvs,H p=some (.dK kvs))\/∃kvs,H p=some (.dT kvs)))\/(T="set"/\∃S n,H p=some (.set S n))
 | _=>False
theorem Ab {pins:List (Addr×Obj)}{σ:St}{H:Hp}{s:Shared}{T:String}{x:V}{v:Value}(I:Inv X pins σ H s)(r:bu x v)(ty:tyV X.K T x H) :
  s.TypeIs v T/\∀a,v=.ref a->∃ob,s.heap.get? a=some ob/\ob.dict=none:=by
 cases x with
 | str z=>
  obtain ⟨t,rfl⟩:=r
  cases (show T="str" from ty)
  exact ⟨typeIs_str s z t,fun _ e=>nomatch e⟩
 | int i=>
  obtain ⟨t,rfl⟩:=r
  cases (show T="int" from ty)
  exact ⟨typeIs_int s i t,fun _ e=>nomatch e⟩
 | ref p=>
  cases r
  rcases ty with ⟨rfl,xs,hq⟩ | ⟨rfl,o,hk,hc,hd⟩ | ⟨rfl,hk⟩ | ⟨rfl,S,n,hk⟩
  ·obtain ⟨its,_,pl,_⟩:=I.list hq
   refine ⟨pl.isList.typeIs,fun a e=>?_⟩
   cases e
   obtain ⟨o,n,e,c,hd,_⟩:=pl
   exact ⟨o,e,hd⟩
  ·refine ⟨⟨o,I.kIn p o hk,hc⟩,fun a e=>?_⟩
   cases e
   exact ⟨o,I.kIn _ o hk,hd⟩
  ·have z:∃o,s.heap.get? p=some o/\o.ExactDict:=by
    rcases hk with ⟨kvs,hk⟩ | ⟨kvs,hk⟩
    ·obtain ⟨_,_,_,_,o,_,_,e,ex,_⟩:=I.hok p _ hk
     exact ⟨o,e,ex⟩
    ·obtain ⟨_,_,_,_,o,_,_,e,ex,_⟩:=I.hok p _ hk
     exact ⟨o,e,ex⟩
   obtain ⟨o,e,ex⟩:=z
   refine ⟨⟨o,e,ex.1⟩,fun a e2=>?_⟩
   cases e2
   exact ⟨o,e,ex.2.1⟩
  ·obtain ⟨o,_,_,_,e,ex,_⟩:=I.hok p _ hk
   refine ⟨⟨o,e,ex.1⟩,fun a e2=>?_⟩
   cases e2
   exact ⟨o,e,ex.2.1⟩
 | _=>exact False.elim ty
noncomputable def FE (K:JA)(T:String)(r:V->List V->Hp->VK->Prop)(to:TE):TE:=fun σ H Q=>to σ H fun x H1=>tyV K T x H1/\r x [] H1 Q
noncomputable def tBM (K:JA)(T:String)(r:V->List V->Hp->VK->Prop)(to:TE)(t:TA):TE:=fun σ H Q=>to σ H fun x H1=>tyV K T x H1/\t σ H1 fun xs H2=>r x xs H2 Q
variable {o e:Expr}{es:List Expr}{to:TE}{t:TA}{name:Str}{apos cpos:Pos}{T id:String}{r:V->List V->Hp->VK->Prop}
theorem Ac (pa:PlainAttrs T)(slot:Slot T name id)(hty:typeOf (.builtin id)=pure (.type "method_descriptor"))(hm:MtR X id r)(ho:PE X o to)
  (hbase:attributeBase o name X.env (eval o X.env)=eval o X.env:=by rfl) (hline:(apos.endLine == cpos.line)=true:=by rfl):PE X (.Call (.Attribute o name apos) [] [] cpos) (FE X.K T r to):=by
 intro pins s σ H Q I h
 refine wpAny_Call_method0_late hbase hline (thn (ho pins s σ H _ I h) fun v s1 ⟨x,H1,I1,r1,ty,q1⟩=>?_)
 obtain ⟨h1,h2⟩:=Ab I1 r1 ty
 exact ⟨T,id,pa,slot,hty,h1,h2,Calls.callWith_builtin rfl (PySem.evalArgs_none (hm pins s1 σ H1 x [] v [] Q I1 r1 .nil q1))⟩
theorem mZ (pa:PlainAttrs T)(slot:Slot T name id)(hty:typeOf (.builtin id)=pure (.type "method_descriptor"))(hm:MtR X id r)(ho:PE X o to)(ha:PA X (e::es) t)
  (hbase:attributeBase o name X.env (eval o X.env)=eval o X.env:=by rfl)
  (hfew:((backTo cpos (starEach (e::es) X.env)).all (fun x=>!x.1) && (backToKw cpos (keywordEach [] X.env)).all (fun x=>x.1.isSome)
   && decide ((e::es).length+([]:List Keyword).length+(if ([]:List Keyword).isEmpty then 0 else 1) < 30))=true:=by rfl)
  (hline:(apos.endLine == cpos.line)=true:=by rfl) (hs:starEach (e::es) X.env=(false,eval e X.env)::starEach es X.env:=by rfl) (hplain:(backTo cpos (starEach es X.env)).any (·.1)=false:=by rfl) :
  PE X (.Call (.Attribute o name apos) (e::es) [] cpos) (tBM X.K T r to t):=by
 intro pins s σ H Q I h
 refine wpAny_Call_method_late hbase hfew hline rfl (thn (ho pins s σ H _ I h) fun v s1 ⟨x,H1,I1,r1,ty,q1⟩=>?_)
 obtain ⟨h1,h2⟩:=Ab I1 r1 ty
 refine ⟨T,id,pa,slot,hty,h1,h2,?_⟩
 have hA:=ha cpos pins s1 σ H1 _ I1 q1
 rw [hs] at hA ⊢
 refine Calls.callWith_builtin (by show (false || (backTo cpos (starEach es X.env)).any (·.1))=false;rw [hplain]<;>rfl) (Calls.evalArgs_plain ?_)
 exact thn hA fun us s2 ⟨vs,H2,I2,r2,q2⟩=>hm pins s2 σ H2 x vs v us Q I2 r1 r2 q2
end
def MtM (X:Cx)(id:String)(r:V->List V->Hp->VK->Prop):Prop:=
 ∀(pins:List (Addr×Obj)) (s:Shared) (σ:St) (H:Hp) (x:V) (xs:List V) (v:Value) (us:List Value) (Q:VK),Inv X pins σ H s->bu x v->a8 xs us->r x xs H Q->
  wpAny (model X.prog X.w) X.A (call (.builtin id) (v::us)) (EP X pins σ Q) X.xe s
theorem a8.one:∀{x:V} {us:List Value},a8 [x] us->∃u,us=[u]/\bu x u
 | _,_,.cons r .nil=>⟨_,rfl,r⟩
theorem a8.two:∀{x y:V} {us:List Value},a8 [x,y] us->∃u v,us=[u,v]/\bu x u/\bu y v
 | _,_,_,.cons r (.cons q .nil)=>⟨_,_,rfl,r,q⟩
theorem a8.zero:∀{us:List Value},a8 [] us->us=[]
 | _,.nil=>rfl
theorem a8.dropLast {xs:List V}{us:List Value}(h:a8 xs us):a8 xs.dropLast us.dropLast:=by
 induction h with
 | nil=>exact .nil
 | cons r t ih=>
  cases t with
  | nil=>exact .nil
  | cons q t'=>exact .cons r ih
theorem w6 {α:Type}(l:List α):l.eraseIdx (l.length - 1)=l.dropLast:=by
 induction l with
 | nil=>rfl
 | cons a r ih=>
  cases r with
  | nil=>rfl
  | cons b r=>
   have e:(a::b::r).length - 1=((b::r).length - 1)+1:=by
    have h1:(a::b::r).length=r.length+2:=rfl
    have h2:(b::r).length=r.length+1:=rfl
    omega
   rw [e,List.eraseIdx_cons_succ,ih]
   all_goals rfl
section
variable {X:Cx}{pins:List (Addr×Obj)}{σ:St}{H:Hp}{s:Shared}{l b:Addr}{xs ys zs:List V}
theorem Inv.lset {its its':List Value}{n:Nat}{f:Array Value->Array Value}{t':Nat}(I:Inv X pins σ H s)(hH:H l=some (.lst xs))
  (e:s.heap.get? l=some {cls:=.type "list",data:=.seq its.toArray n}) (hf:f its.toArray=its'.toArray) (hv:a8 ys its') (hz:ys.length<=sizeLine) :
  Inv X pins σ (upd H l (.lst ys)) {s with heap:=s.heap.update l (Obj.mapSeq f),toks:=t'}:=by
 have q:=PySem.IsL.update e f
 rw [hf] at q
 refine I.write (x:=l) (e:=l) (by rw [hH];exact trivial) (.inl rfl) (fun b' u hb hu=>(Heap.get?_update_other s.heap (Obj.mapSeq f) (Ne.symm hb)).trans hu) ⟨_,q⟩ ?_
 exact ⟨hz,its',_,hv,q⟩
theorem Inv.lnew {its:List Value}{t':Nat}(I:Inv X pins σ H s)(hv:a8 ys its)(hz:ys.length<=sizeLine) :
  Inv X pins σ (upd H s.heap.objs.size (.lst ys)) {s with heap:=s.heap.push {cls:=.type "list",data:=.seq its.toArray},toks:=t'}:=
 I.laid (fun _ _ q=>Heap.get?_push_of_some _ q) (Nat.le_refl _) ⟨hz,its,0,hv,Heap.get?_push_size _ rfl⟩
theorem Inv.fresh (I:Inv X pins σ H s):H s.heap.objs.size=none:=I.hok.fresh (Nat.le_refl _)
theorem Inv.lstM (I:Inv X pins σ H s)(hH:H l=some (.lst xs)):xs.length<=sizeLine/\∃(its:List Value) (n:Nat),a8 xs its/\xs.length=its.length/\s.heap.get? l=some {cls:=.type "list",data:=.seq its.toArray n}:=by
 obtain ⟨z,its,n,r,e⟩:=I.hok l _ hH
 exact ⟨z,its,n,r,r.length,e⟩
theorem Ad {n:Nat}(h:n<=sizeLine):Builtin.List.listTooLong n=false:=by
 unfold Builtin.List.listTooLong
 exact decide_eq_false (by omega)
end
section
variable {X:Cx}
noncomputable def yb:V->List V->Hp->VK->Prop:=fun x vs H Q=>∃l xs y,x=.ref l/\vs=[y]/\H l=some (.lst xs)/\xs.length < sizeLine/\Q .non (upd H l (.lst (xs++[y])))
theorem yY:MtM X "list.append" yb:=by
 intro pins s σ H x vs v us Q I rx rv h
 obtain ⟨l,xs,y,rfl,rfl,hH,hz,q⟩:=h
 cases rx
 obtain ⟨u,rfl,ru⟩:=rv.one
 obtain ⟨z,its,n,r,hl,e⟩:=I.lstM hH
 refine call_meets F.slot_list_append ⟨_,e,rfl⟩ F.entry_list_append (F.args_list_append_2 _ _) (PySem.list_append l its.toArray n u (by rw [List.size_toArray];omega)) ⟨e,?_⟩
 refine ⟨.non,_,I.lset (its':=its++[u]) hH e (by simp) (r.append (.cons ru .nil)) ?_,rfl,q⟩
 rw [List.length_append,List.length_singleton]
 omega
noncomputable def BP:V->List V->Hp->VK->Prop:=fun x vs H Q=>∃l b xs zs,x=.ref l/\vs=[.ref b]/\H l=some (.lst xs)/\H b=some (.lst zs)/\xs.length+zs.length<=sizeLine/\Q .non (upd H l (.lst (xs++zs)))
theorem Fh:MtM X "list.extend" BP:=by
 intro pins s σ H x vs v us Q I rx rv h
 obtain ⟨l,b,xs,zs,rfl,rfl,hH,hB,hz,q⟩:=h
 cases rx
 obtain ⟨u,rfl,ru⟩:=rv.one
 cases ru
 obtain ⟨z,its,n,r,hl,e⟩:=I.lstM hH
 obtain ⟨z2,its2,n2,r2,hl2,e2⟩:=I.lstM hB
 have hsz:its.toArray.size+its2.toArray.size<=sizeLine:=by rw [List.size_toArray,List.size_toArray];omega
 have hlong:¬(!its.toArray.isEmpty && Builtin.List.listTooLong (its.toArray.size+its2.toArray.size))=true:=by
  rw [Ad hsz,Bool.and_false]
  exact Bool.false_ne_true
 refine call_meets F.slot_list_extend ⟨_,e,rfl⟩ F.entry_list_extend (F.args_list_extend_2 _ _)
  (AutoSeq1.list_extend_list_list_0 l its.toArray n b its2.toArray n2 hlong (by rw [List.size_toArray];omega) (by omega)) ⟨e,e2,?_⟩
 refine ⟨.non,_,I.lset (its':=its++its2) hH e (by simp) (r.append r2) ?_,rfl,q⟩
 rw [List.length_append]
 omega
noncomputable def Ed:V->List V->Hp->VK->Prop:=fun x vs H Q=>∃l xs y,x=.ref l/\vs=[]/\H l=some (.lst xs)/\xs[xs.length - 1]?=some y/\Q y (upd H l (.lst xs.dropLast))
theorem Ee:MtM X "list.pop" Ed:=by
 intro pins s σ H x vs v us Q I rx rv h
 obtain ⟨l,xs,y,rfl,rfl,hH,hy,q⟩:=h
 cases rx
 have hus:=rv.zero
 subst hus
 obtain ⟨z,its,n,r,hl,e⟩:=I.lstM hH
 obtain ⟨u,hu,ru⟩:=r.get hy
 have hy':its.toArray[its.toArray.size - 1]?=some u:=by
  show its.toArray[its.length - 1]?=some u
  rw [←Array.getElem?_toList,←hl]
  exact hu
 refine call_meets F.slot_list_pop ⟨_,e,rfl⟩ F.entry_list_pop (F.args_list_pop_1 _) (MeetsSeq.list_pop_last l its.toArray n u hy' (by rw [List.size_toArray];omega)) ⟨e,?_⟩
 refine ⟨y,_,I.lset (its':=its.dropLast) hH e ?_ r.dropLast ?_,ru,q⟩
 ·show its.toArray.eraseIdxIfInBounds (its.toArray.size - 1)=its.dropLast.toArray
  rw [List.size_toArray,List.eraseIdxIfInBounds_toArray,w6]
 ·rw [List.length_dropLast]
  omega
noncomputable def FG:R2:=fun x y H Q=>∃l b xs zs,x=.ref l/\y=.ref b/\H l=some (.lst xs)/\H b=some (.lst zs)/\xs.length+zs.length<=sizeLine/\∀p,H p=none->Q (.ref p) (upd H p (.lst (xs++zs)))
theorem Ef:OpR X (binaryOp .Add) FG:=by
 intro pins s σ H x y v u Q I rx ry h
 obtain ⟨l,b,xs,zs,rfl,rfl,hH,hB,hz,q⟩:=h
 cases rx
 cases ry
 obtain ⟨z,its,n,r,hl,e⟩:=I.lstM hH
 obtain ⟨z2,its2,n2,r2,hl2,e2⟩:=I.lstM hB
 refine PySem.P.add_list e e2 ?_ (by rw [List.size_toArray,List.size_toArray];omega)
 have ea:its.toArray++its2.toArray=(its++its2).toArray:=by simp
 rw [ea]
 exact ⟨.ref _,_,I.lnew (t':=s.toks) (r.append r2) (by rw [List.length_append];omega),rfl,q _ I.fresh⟩
end
section
variable {prog:Program}{w:World}{A:Around}{E:Value->Shared->Prop}{s:Shared}
set_option maxRecDepth 100000 in
end
end L2
namespace Att
open PySem PySem.W PySem.Calls PyProof.Rows
theorem pG {P:Params}{h:Heap}:∀(ns:List Int) (vs:List Value),WellAll P h vs (ns.map WData.int)->IntsAre vs ns:=by
 intro ns
 induction ns with
 | nil=>
  intro vs w
  rw [List.map_nil] at w
  cases w
  exact .nil
 | cons n ns ih=>
  intro vs w
  rw [List.map_cons] at w
  cases w with
  | cons a b=>
   cases a
   exact .cons _ _ (ih _ b)
theorem yZ {l:OpenLaw}{n:Nat}(hn:l.most=some n){P:Params}{h:Heap}{args:List WData}{vals:List Value}
  (hpre:l.row.toRowW.claim.pre args=true) (hwl:WellAll P h vals args) :
  ∃a vs ns,vals=[Value.ref a]/\args=[WData.list (ns.map WData.int)]/\h.get? a=some {cls:=.type "list",data:=.seq vs.toArray}/\IntsAre vs ns/\ns.length<=n:=by
 have hsh:WShape.hasAll [] args [.list .int]=true:=(pre_splitW hpre).1
 have hc:l.pre.holds [] {args:=args}=true:=(pre_splitW hpre).2
 obtain ⟨d,r,rfl,h1,h2⟩:=hasAllW_cons hsh
 obtain rfl:=hasAllW_nil h2
 obtain ⟨xs,rfl,h3⟩:=hasW_list h1
 obtain ⟨ns,rfl⟩:=items_int h3
 have hlen:ns.length<=n:=by
  unfold OpenLaw.pre at hc
  have h4:(WTm.not (.lt (.lit (.int (n:Int))) (.len (.arg 0)))).holds [] {args:=[.list (ns.map .int)]}=true:=by
   have h4:=(holds_andW hc).1
   rw [hn] at h4
   exact h4
  have h5:=condW_of h4 (w_not (w_lt w_lit (w_len_list (w_arg rfl))))
  rw [JB] at h5
  refine Nat.le_of_not_lt fun q=>?_
  have q':(n:Int) < ((ns.length:Nat):Int):=by omega
  first
   | (rw [decide_eq_true q'] at h5;exact absurd h5 (by decide))
   | (simp at h5;omega)
 cases hwl with
 | cons w1 w2=>
  cases w2
  cases w1 with
  | list ho hall=>exact ⟨_,_,ns,rfl,rfl,ho,pG ns _ hall,hlen⟩
theorem y0 (l:OpenLaw)(args:List WData):l.row.toRowW.claim.post args (.bool true) args=true:=
 postW_of (r:=l.row.toRowW) (X:=(true == true))
  (show WShape.has [] (.bool true) .bool=true by first | rfl | decide | simp [WShape.has,WShape.arms,WShape.armsAll])
  (show (WTm.eq .res (.lit (.bool true))).value [] {args:=args,res:=some (.bool true),after:=args}=some (.bool (true == true)) from w_eq_bool (w_res rfl) w_lit) rfl
theorem vn {l:OpenLaw}{n:Nat}{q:Program}{loose:List Str}{XP:(Str->Option Value)->Heap->Prop}{YP:World->Heap->Prop}{d:DefRec}
  (hn:l.most=some n) (hdf:d.params.defaults=[])
  (call:∀(w:World) (s₀ s₁:Shared) (mg mb:Str->Option Value) (fa:Addr) (o:Obj) (pm cd doc:Value) (a:Addr) (vs:List Value) (ns:List Int),
   Ground q loose [] XP w s₀ mg mb s₁.heap->YP w s₁.heap->
   s₁.heap.get? fa=some o->o.data=.func (docDef d.name d.params d.body d.scope pm cd doc)->s₁.heap.CodeRec cd d.name->mg d.name=some (.ref fa)->
   s₁.heap.get? a=some {cls:=.type "list",data:=.seq vs.toArray}->IntsAre vs ns->ns.length<=n->s₁.gens=#[]->
   codeAny (model l.prog w) callerA (.call (.ref fa) ⟨[.ref a],[]⟩) (fun r s'=>r=.ok (.ret (.bool true))/\OldK s₁.heap s'.heap/\s'.os=s₁.os/\AllBare s'.gens) s₁) :
  WalkO q loose XP YP l.row.toRowW d [] (fun f vs=>PySem.call f vs):=by
 intro w s₀ s₁ mg mb G Y fa o pm cd doc dV kV ho hd hcd hD hmg hg args vals as hpre hlay hrd hwl hlo
 obtain rfl:dV=.none:=Dflts.none hD hdf
 obtain rfl:kV=.none:=Dflts.noKw hD
 obtain ⟨a,vs,ns,rfl,rfl,hobj,hints,hlen⟩:=yZ hn hpre hwl
 refine enter_call (codeAny_mono (call w s₀ s₁ mg mb fa o pm cd doc a vs ns G Y ho (fd_plain hd) hcd hmg hobj hints hlen hg) fun r s' hq=>?_)
 obtain ⟨rfl,h2,h3,h4⟩:=hq
 exact ⟨.inl ⟨.bool true,.bool true,[],rfl,fun _=>rfl,.bool true,y0 l _,fun _=>⟨List.Pairwise.nil,fun _ hm=>(nomatch hm)⟩⟩,h2,h3,h4⟩
end Att
namespace L2
open PySem PySem.Spec PyProof.Rows
theorem tw:∀{vs:List Value} {ns:List Int},IntsAre vs ns->a8 (ns.map V.int) vs
 | _,_,.nil=>.nil
 | _,_,.cons n t h=>.cons ⟨t,rfl⟩ (tw h)
def Eg (H:Hp):Prop:=∀b,H b=none\/∃o xs,H b=some (.frz o (.lst xs))
theorem Ae {P:Program}{w:World}{K:JA}{mg mb:Str->Option Value}{CX:CXT}{k:Nat}{fa a:Addr}{fd:FuncData}{x:Str}{sp:Sp}{s₁:Shared}{vs:List Value}{ns:List Int}
  (KX:K.In s₁.heap) (hns:s₁.heap.Ns mainGlobals mg) (hb:s₁.heap.Ns builtinsNs mb) (hbb:∀x:Str,x≠"__name__"->mb x=bootBuiltins x) (hlim:s₁.heap.NoLimit) (hg:s₁.gens=#[])
  (ha:s₁.heap.get? a=some {cls:=.type "list",data:=.seq vs.toArray}) (hi:IntsAre vs ns) (hl:ns.length<=sizeLine) (hr:cH k callerA)
  (F:∀base:Heap,K.In base->base.Ns mainGlobals mg->fi P w K mg base CX k fa fd [x] sp) (hbind:∀(s:Shared) (u:Value),BindsTo s fd ⟨[u],[]⟩ [(x,u)])
  (hsp:∀H:Hp,Eg H->SqL K H a (ns.map V.int)->sp [.ref a] H (fun v _=>v=.bl true) fun _ _ _=>False)
  (hCX:∀H e s',CX [] H s₁ (fun _ _ _=>False) e s'->False) :
  codeAny (model P w) callerA (.call (.ref fa) ⟨[.ref a],[]⟩) (fun r s'=>r=.ok (.ret (.bool true))/\OldK s₁.heap s'.heap/\s'.os=s₁.os/\AllBare s'.gens) s₁:=by
 have rv:=tw hi
 have lenV:=hi.length
 have core:∀H:Hp,Eg H->SqL K H a (ns.map V.int)->HOk P w H s₁.heap->(∀b,H b≠none->b=a)->(H a≠none->K.lookup a=none)->
   codeAny (model P w) callerA (.call (.ref fa) ⟨[.ref a],[]⟩) (fun r s'=>r=.ok (.ret (.bool true))/\OldK s₁.heap s'.heap/\s'.os=s₁.os/\AllBare s'.gens) s₁:=by
  intro H hO hS hok hA hK
  have base_of:∀{b:Addr} {o:Obj},s₁.heap.get? b=some o->H b=none->(ue s₁.heap H).get? b=some o:=fun e n=>zM e n
  have noA:∀{b:Addr} {o:Obj} {es:Array DictEntry} {ep:Nat},s₁.heap.get? b=some o->o.data=.dict es ep->H b=none:=fun {b o es ep} e d=>by
   cases q:H b with
   | none=>rfl
   | some u=>
    have e':b=a:=hA b (by rw [q];simp)
    subst e'
    rw [ha] at e;cases e
    have d':Data.seq vs.toArray _=Data.dict es ep:=d
    cases d'
  have nsK:∀{b:Addr} {m:Str->Option Value},s₁.heap.Ns b m->(ue s₁.heap H).Ns b m:=fun {b m} ⟨o,es,ep,e,d,r⟩=>⟨o,es,ep,base_of e (noA e d),d,r⟩
  have hKb:K.In (ue s₁.heap H):=fun b o e=>base_of (KX b o e) (by
   cases q:H b with
   | none=>rfl
   | some u=>
    have e':b=a:=hA b (by rw [q];simp)
    subst e'
    rw [hK (by rw [q];simp)] at e;cases e)
  have hM:Mod K mg (ue s₁.heap H):=⟨hKb,nsK hns,⟨mb,nsK hb,hbb⟩,let ⟨mc,h1,h2⟩:=hlim;⟨mc,nsK h1,h2⟩⟩
  have e0:wV P w K mg (ue s₁.heap H) callerA [] s₁ H:=⟨rfl,hM,fun b o e=>Bz e,Nat.le_of_eq (yL _ _),trivial,fun b hb=>absurd (show b∈([]:List Addr) from hb) (by simp),hok,.of_eq hg⟩
  refine codeAny_mono ((F _ hKb (nsK hns)).run callerA [] s₁ H ⟨[.ref a],[]⟩ [.ref a] [.ref a] _ _ hr e0 (hbind s₁ (.ref a)) (.cons rfl .nil) (hsp H hO hS)) fun r s' h=>?_
  cases r with
  | error e=>exact (hCX H e s' h).elim
  | ok fl=>
   cases fl with
   | next=>exact False.elim h
   | brk=>exact False.elim h
   | cont=>exact False.elim h
   | ret u=>
    obtain ⟨v,H',os,bare,un,hok',r',q⟩:=h
    have q':v=.bl true:=q
    subst q'
    obtain rfl:u=Value.bool true:=r'
    refine ⟨rfl,OldK.of_keep fun b o e=>?_,os,bare⟩
    cases q:H b with
    | none=>exact un.keep b o e q (by intro z;exact absurd (show b∈([]:List Addr) from z) (by simp)) (by simp)
    | some u=>
     rcases hO b with z | ⟨ob,xs,z⟩
     ·rw [q] at z;cases z
     ·have z2:=un.frzs b ob _ z
      obtain ⟨e1,_⟩:=hok b _ z
      obtain ⟨e2,_⟩:=hok' b _ z2
      rw [e] at e1;cases e1
      exact e2
 cases hk:K.lookup a with
 | some o=>
  have e:=KX a o hk
  rw [ha] at e
  cases e
  refine core (fun _=>none) (fun _=>.inl rfl) (.inr ⟨_,vs.toArray,_,hk,rfl,rfl,rfl,by rw [List.size_toArray,lenV];exact hl,by simpa using rv⟩) (fun b u z=>by have z':(none:Option HO)=some u:=z;cases z') (fun b z=>absurd rfl z) fun z=>absurd rfl z
 | none=>
  refine core (fun b=>if b=a then some (.frz {cls:=.type "list",data:=.seq vs.toArray} (.lst (ns.map V.int))) else none) (fun b=>?_) (.inl (.inr ⟨{cls:=.type "list",data:=.seq vs.toArray},if_pos rfl⟩)) (fun b u z=>?_) (fun b z=>?_) fun _=>hk
  ·by_cases hb:b=a
   ·exact .inr ⟨_,_,if_pos hb⟩
   ·exact .inl (if_neg hb)
  ·by_cases hb:b=a
   ·have z':=(if_pos hb).symm.trans z
    cases z'
    subst hb
    exact ⟨ha,by rw [JB];exact hl,vs,_,rv,ha⟩
   ·have z':=(if_neg hb).symm.trans z
    cases z'
  ·by_cases hb:b=a
   ·exact hb
   ·exact absurd (if_neg hb) z
theorem BQ {l:W.OpenLaw}{n k:Nat}{q:Program}{loose:List Str}{XP:(Str->Option Value)->Heap->Prop}{YP:World->Heap->Prop}{d:DefRec}{K:Params->JA}{CX:World->CXT}{sp:World->Sp}{x:Str}
  (hn:l.most=some n) (hn2:n<=sizeLine) (hdf:d.params.defaults=[]) (hr:cH k callerA)
  (hY:∀(w:World) (h:Heap),YP w h->(K w.params).In h)
  (F:∀(w:World) (mg:Str->Option Value) (fa:Addr) (h:Heap),(K w.params).In h->h.Ns mainGlobals mg->mg d.name=some (.ref fa)->
   ∃fd:FuncData,(∀(s:Shared) (u:Value),BindsTo s fd ⟨[u],[]⟩ [(x,u)])/\
    ∀base:Heap,(K w.params).In base->base.Ns mainGlobals mg->fi l.prog w (K w.params) mg base (CX w) k fa fd [x] (sp w))
  (hsp:∀(w:World) (H:Hp) (a:Addr) (ns:List Int),ns.length<=n->Eg H->SqL (K w.params) H a (ns.map V.int)->sp w [.ref a] H (fun v _=>v=.bl true) fun _ _ _=>False)
  (hCX:∀(w:World) (H:Hp) (s:Shared) (e:Value) (s':Shared),CX w [] H s (fun _ _ _=>False) e s'->False) :
  W.WalkO q loose XP YP l.row.toRowW d [] (fun f vs=>PySem.call f vs):=by
 refine Att.vn hn hdf fun w s₀ s₁ mg mb fa o pm cd doc a vs ns G Y ho hd hcd hmg hobj hints hlen hg=>?_
 have KX:=hY w _ Y
 obtain ⟨fd,hb,hF⟩:=F w mg fa _ KX G.T.g hmg
 exact Ae KX G.T.g G.T.b G.T.builtins G.T.nolimit hg hobj hints (Nat.le_trans hlen hn2) hr hF hb (fun H hO hS=>hsp w H a ns hlen hO hS) fun H e s'=>hCX w H s₁ e s'
noncomputable def aZ (s:Stmt)(j:Nat):Stmt:=match s with
 | .ClassDef _ _ _ body _ _ _ _ _ _ _=>body.getD j (.Pass ⟨0,0,0,0⟩)
 | _=>.Pass ⟨0,0,0,0⟩
noncomputable def cL (s:Stmt):Arguments:=match s with
 | .FunctionDef _ a _ _ _ _ _ _ _ _=>a
 | _=>{posonlyargs:=[],args:=[],vararg:=none,kwonlyargs:=[],kw_defaults:=[],kwarg:=none,defaults:=[]}
noncomputable def bQ (s:Stmt):List Stmt:=match s with
 | .FunctionDef _ _ b _ _ _ _ _ _ _=>b
 | _=>[]
noncomputable def aj (s:Stmt):Scope:=match s with
 | .FunctionDef _ _ _ _ _ _ sc _ _ _=>sc
 | _=>{kind:=.function,names:=[],isGenerator:=false,isCoroutine:=false}
noncomputable abbrev CX0:CXT:=fun _ _ _ _ _ _=>False
noncomputable abbrev E0:XK:=fun _ _ _=>False
theorem bY {X:Cx}:eh CX0 X E0:=fun _ _ _ _ _ _ _ h=>h.elim
structure Fun (K:JA)(x qual:Str)(st:Stmt)(f:Addr)(fd:FuncData):Prop where
 ex:∃(oc:Value) (od:Option Addr) (kV doc pm:Value) (an:Option Addr) (cdv ct:Value) (osl:Array (Option Value)),
  fd=W.fnOf x qual (cL st) (bQ st) (aj st) .none kV doc pm an cdv ct/\K.lookup f=some ⟨oc,od,.func fd,osl⟩/\W.codeIn K cdv qual=true
 kp:W.keepIn K (.ref f)=true
section
variable {P:Program}{w:World}{K:JA}{mg:Str->Option Value}{base:Heap}
theorem Fun.ok {x qual:Str}{st:Stmt}{f:Addr}{fd:FuncData}{N ps:List Str}{k:Nat}{sp:Sp}(F:Fun K x qual st f fd)(S:az N ps (aj st))(len:∀vs H Q E,sp vs H Q E->vs.length=ps.length)
  (hbody:∀(cdv:Value) (A:Around) (outer:List Env) (s:Shared) (H:Hp) (vs:List V) (Q:VK) (E:XK),cH k (A.deeper (envOfC qual (aj st) s.heap.objs.size f cdv))->sp vs H Q E->
   ∃t,PSs (rW CX0 P w K mg base N qual (aj st) f cdv A outer s H E).nox (bQ st) t/\t {nx:=fun _ H'=>Q .non H',rt:=Q} (jJ N vs) H):fi P w K mg base CX0 (k+1) f fd ps sp:=by
 obtain ⟨oc,od,kV,doc,pm,an,cdv,ct,osl,rfl,lk,hcd⟩:=F.ex
 refine Dn lk hcd S len fun A outer s H vs Q E hr hsp=>?_
 obtain ⟨t,h,q⟩:=hbody cdv A outer s H vs Q E hr hsp
 exact ⟨t,h.nox,q⟩
theorem Fun.binds {x qual:Str}{st:Stmt}{f:Addr}{fd:FuncData}{ps:List Str}(F:Fun K x qual st f fd)
  (h:∀(kV doc pm:Value) (an:Option Addr) (cdv ct:Value) (us:List Value),us.length=ps.length->bindArgs (W.fnOf x qual (cL st) (bQ st) (aj st) .none kV doc pm an cdv ct) ⟨us,[]⟩=pure (ps.zip us)):cS K fd ps []:=by
 obtain ⟨oc,od,kV,doc,pm,an,cdv,ct,osl,rfl,lk,hcd⟩:=F.ex
 exact .all (h kV doc pm an cdv ct)
theorem w8 {x qual:Str}{st:Stmt}{f:Addr}{oc:Value}{od an:Option Addr}{osl:Array (Option Value)}{kV doc pm cdv ct:Value}(l:K.lookup f=some ⟨oc,od,.func (W.fnOf x qual (cL st) (bQ st) (aj st) .none kV doc pm an cdv ct),osl⟩)
  (c:W.codeIn K cdv qual=true) (k:W.keepIn K (.ref f)=true):Fun K x qual st f (W.fnOf x qual (cL st) (bQ st) (aj st) .none kV doc pm an cdv ct):=⟨⟨oc,od,kV,doc,pm,an,cdv,ct,osl,rfl,l,c⟩,k⟩
end
theorem dX {n:Nat}(h:n<=1000):n < sizeLine:=Nat.lt_of_le_of_lt h (by decide)
section
variable {X:Cx}
theorem pv (i:Nat){x:Str}{pos:Pos}(hN:X.N[i]?=some x:=by rfl)(hv:Vis X.env.scope x:=by first | exact Or.inl rfl | exact Or.inr (Or.inl rfl) | exact Or.inr (Or.inr rfl))(hd:(x == ("__debug__":Str))=false:=by decide)
  (hcd:(x == ("__classdict__":Str))=false:=by decide):PE X (.Name x pos) (DJ i):=DK hN hv hd hcd
end
theorem FH {A B:Prop}(h:B):if false=true then A else B:=by
 rw [if_neg Bool.false_ne_true]
 exact h
theorem FI {A B:Prop}(h:A):if true=true then A else B:=by
 rw [if_pos rfl]
 exact h
def aC (H H':Hp):Prop:=∀b o,H b=some o->H' b=some o
theorem aC.refl (H:Hp):aC H H:=fun _ _ h=>h
theorem aC.trans {H H1 H2:Hp}(a:aC H H1)(b:aC H1 H2):aC H H2:=fun c o h=>b c o (a c o h)
theorem aC.free {H H':Hp}(e:aC H H'){l:Addr}(h:H' l=Option.none):H l=Option.none:=by
 cases q:H l with
 | none=>rfl
 | some o=>
  rw [e l o q] at h
  cases h
theorem aC.seq {K:JA}{H H':Hp}{a:Addr}{xs:List V}(e:aC H H')(h:SqL K H a xs):SqL K H' a xs:=by
 rcases h with (h | ⟨o,h⟩) | h
 ·exact .inl (.inl (e _ _ h))
 ·exact .inl (.inr ⟨o,e _ _ h⟩)
 ·exact .inr h
end L2
set_option maxHeartbeats 4000000
namespace L2
open PySem PySem.Spec PyProof.Rows
noncomputable def gQ (cells:List (Str×Addr)):List (Str×NameKind)->List (Str×Addr)->List (Str×Addr)
 | [],acc=>acc
 | (n,k)::r,acc=>if (k == NameKind.free)=true then (match cells.lookup n with | some c=>gQ cells r ((n,c)::acc) | none=>gQ cells r acc) else gQ cells r acc
theorem jV {scope:Scope}{env:Env}(h:∀y∈scope.names,y.2=.free->∃c,env.cells.lookup y.1=some c):closureFor scope env=pure (gQ env.cells scope.names []):=by
 have key:∀(l:List (Str×NameKind)) (acc:List (Str×Addr)),(∀y∈l,y.2=.free->∃c,env.cells.lookup y.1=some c)->
   (forIn l acc fun x s=>if (x.snd == NameKind.free)=true then do
       let c ←cellOf env x.fst
       pure (ForInStep.yield ((x.fst,c)::s))
      else pure (ForInStep.yield s))=(pure (gQ env.cells l acc):Sem _):=by
  intro l
  induction l with
  | nil=>intro acc _;rfl
  | cons y r ih=>
   intro acc hy
   obtain ⟨n,k⟩:=y
   have ih':=fun a=>ih a fun z hz=>hy z (List.mem_cons_of_mem _ hz)
   by_cases hk:(k == NameKind.free)=true
   ·obtain ⟨c,hc⟩:=hy (n,k) List.mem_cons_self (by simpa using hk)
    have hc':env.cells.lookup n=some c:=hc
    simp only [List.forIn_cons,hk,if_true,cellOf,hc',pure_bind,gQ]
    exact ih' _
   ·simp only [List.forIn_cons,hk,if_false,pure_bind,gQ]
    exact ih' _
 simp only [closureFor]
 rw [key _ _ h]
 rfl
theorem pV {cells:List (Str×Addr)}:∀{l:List (Str×NameKind)} {acc:List (Str×Addr)} {x:Str} {c:Addr},(∀x c,acc.lookup x=some c->cells.lookup x=some c)->(gQ cells l acc).lookup x=some c->cells.lookup x=some c
 | [],acc,x,c,h,e=>h x c e
 | (n,k)::r,acc,x,c,h,e=>by
  unfold gQ at e
  split at e
  ·split at e
   ·rename_i d hd
    refine pV (l:=r) (acc:=(n,d)::acc) (fun y b hy=>?_) e
    rw [List.lookup_cons] at hy
    split at hy
    ·rename_i z
     have zn:y=n:=by simpa using z
     cases hy
     rw [zn];exact hd
    ·exact h y b hy
   ·exact pV h e
  ·exact pV h e
theorem ng {cells:List (Str×Addr)}{x:Str}:∀{l:List (Str×NameKind)} {acc:List (Str×Addr)},(∃c,acc.lookup x=some c)->∃c,(gQ cells l acc).lookup x=some c
 | [],acc,h=>h
 | (n,k)::r,acc,h=>by
  unfold gQ
  split
  ·split
   ·rename_i d hd
    refine ng (l:=r) ?_
    rw [List.lookup_cons]
    split
    ·exact ⟨_,rfl⟩
    ·exact h
   ·exact ng h
  ·exact ng h
theorem jW {cells:List (Str×Addr)}{x:Str}:∀{l:List (Str×NameKind)} {acc:List (Str×Addr)},l.lookup x=some .free->(∃c,cells.lookup x=some c)->∃c,(gQ cells l acc).lookup x=some c
 | [],acc,h,_=>by simp at h
 | (n,k)::r,acc,h,hc=>by
  rw [List.lookup_cons] at h
  unfold gQ
  split at h
  ·rename_i z
   have zn:x=n:=by simpa using z
   cases h
   subst zn
   obtain ⟨c,hc⟩:=hc
   rw [if_pos (by decide),hc]
   refine ng ⟨c,?_⟩
   rw [List.lookup_cons]
   simp
  ·split
   ·split
    ·exact jW h hc
    ·exact jW h hc
   ·exact jW h hc
theorem fQ {env:Env}:∀{names:List (Str×NameKind)} {x:Str},names.lookup x=some .free->
  (names.map fun (n,k)=>if (k == NameKind.free && env.scope.kind == .function && env.kindOf n == some .cell) then (n,NameKind.cell) else (n,k)).lookup x=some .cell\/
  (names.map fun (n,k)=>if (k == NameKind.free && env.scope.kind == .function && env.kindOf n == some .cell) then (n,NameKind.cell) else (n,k)).lookup x=some .free
 | [],_,h=>by simp at h
 | (n,k)::r,x,h=>by
  have ih:=@fQ env r x
  show List.lookup x ((if (k == NameKind.free && env.scope.kind == .function && env.kindOf n == some .cell)=true then (n,NameKind.cell) else (n,k))::_)=_\/List.lookup x ((if (k == NameKind.free && env.scope.kind == .function && env.kindOf n == some .cell)=true then (n,NameKind.cell) else (n,k))::_)=_
  cases hx:x == n with
  | true=>
   simp only [List.lookup_cons,hx] at h
   cases h
   by_cases hc:(NameKind.free == NameKind.free && env.scope.kind == .function && env.kindOf n == some .cell)=true
   ·rw [if_pos hc];left;simp only [List.lookup_cons,hx]
   ·rw [if_neg hc];right;simp only [List.lookup_cons,hx]
  | false=>
   simp only [List.lookup_cons,hx] at h
   by_cases hc:(k == NameKind.free && env.scope.kind == .function && env.kindOf n == some .cell)=true
   ·rw [if_pos hc];simp only [List.lookup_cons,hx];exact ih h
   ·rw [if_neg hc];simp only [List.lookup_cons,hx];exact ih h
theorem fR {env:Env}:∀{names:List (Str×NameKind)} {x:Str},(∀y∈names,y.2≠NameKind.cell)->
  ((names.map fun (n,k)=>if (k == NameKind.free && env.scope.kind == .function && env.kindOf n == some .cell) then (n,NameKind.cell) else (n,k)).lookup x=some .cell\/
  (names.map fun (n,k)=>if (k == NameKind.free && env.scope.kind == .function && env.kindOf n == some .cell) then (n,NameKind.cell) else (n,k)).lookup x=some .free)->names.lookup x=some .free
 | [],_,_,h=>by simp at h
 | (n,k)::r,x,hn,h=>by
  have ih:=@fR env r x fun y hy=>hn y (List.mem_cons_of_mem _ hy)
  have h':List.lookup x ((if (k == NameKind.free && env.scope.kind == .function && env.kindOf n == some .cell)=true then (n,NameKind.cell) else (n,k))::(r.map fun (n,k)=>if (k == NameKind.free && env.scope.kind == .function && env.kindOf n == some .cell) then (n,NameKind.cell) else (n,k)))=some .cell\/List.lookup x ((if (k == NameKind.free && env.scope.kind == .function && env.kindOf n == some .cell)=true then (n,NameKind.cell) else (n,k))::(r.map fun (n,k)=>if (k == NameKind.free && env.scope.kind == .function && env.kindOf n == some .cell) then (n,NameKind.cell) else (n,k)))=some .free:=h
  cases hx:x == n with
  | true=>
   simp only [List.lookup_cons,hx]
   by_cases hc:(k == NameKind.free && env.scope.kind == .function && env.kindOf n == some .cell)=true
   ·have hk:k=NameKind.free:=by
     rw [Bool.and_eq_true,Bool.and_eq_true] at hc
     simpa using hc.1.1
    rw [hk]
   ·rw [if_neg hc] at h'
    simp only [List.lookup_cons,hx] at h'
    rcases h' with h' | h'
    ·exact absurd (Option.some.inj h') (hn (n,k) List.mem_cons_self)
    ·exact h'
  | false=>
   simp only [List.lookup_cons,hx]
   by_cases hc:(k == NameKind.free && env.scope.kind == .function && env.kindOf n == some .cell)=true
   ·rw [if_pos hc] at h';simp only [List.lookup_cons,hx] at h';exact ih h'
   ·rw [if_neg hc] at h';simp only [List.lookup_cons,hx] at h';exact ih h'
noncomputable def blk (X:Cx)(Nc:List Str)(scope:Scope)(C:Addr)(s₀:Shared)(H₀:Hp)(ex:List Addr):Cx:=
 {X with N:=Nc,s₀:=s₀,H₀:=H₀,env:=compEnvC scope (gQ X.env.cells scope.names []) C X.env,outer:=X.stack,ex:=ex,fn:=fun _=>false,pn:=[],xe:=fun _ _=>False}
noncomputable def bV (cm:List (Option Nat))(σ:St):St:=cm.map fun o=>match o with
 | none=>none
 | some i=>(σ[i]?).getD none
def Wk (σ σ':St):Prop:=σ.length=σ'.length/\∀(i:Nat) (v:V),σ[i]?=some (some v)->σ'[i]?=some (some v)
noncomputable def vo (wi:TI)(g:TG)(tc:TT)(te:TE)(cm:List (Option Nat)):TE:=fun σ H Q=>wi σ H fun J H1=>∃W:Nat->Nat->List V->Hp->Prop,(∃m,W 0 m [] H1)/\∀i m acc H,W i m acc H->
 (J.stop i H/\∀p,H p=none->Q (.ref p) (upd H p (.lst acc)))\/
 (J.go i H/\acc.length < sizeLine/\∀x H',J.yld i H x H'->g x (bV cm σ) H' fun σ2 H2=>Wk (bV cm σ) σ2/\tc σ2 H2 fun b H3=>if b=true then te σ2 H3 fun v H4=>∃m',m' < m/\W (i+1) m' (acc++[v]) H4 else ∃m',m' < m/\W (i+1) m' acc H3)
def PIf (X:Cx)(ifs:List Expr)(t:TT):Prop:=
 ∀(pins:List (Addr×Obj)) (s:Shared) (σ:St) (H:Hp) (Q:Bool->Hp->Prop),Inv X pins σ H s->t σ H Q->
  wpAny (model X.prog X.w) X.A (forIn ifs true fun c r=>if r=true then do let ok ←isTrue c X.env (eval c X.env);pure (ForInStep.yield ok) else pure (ForInStep.yield r)) (TP X pins σ Q) X.xe s
noncomputable def vp:TT:=fun _ H Q=>Q true H
theorem jb {X:Cx}:PIf X [] vp:=fun _ _ σ H _ I h=>wpAny_pure ⟨H,I,h⟩
theorem pW {X:Cx}{c:Expr}{t:TT}(h:PT X c t):PIf X [c] t:=fun pins s σ H Q I q=>wpAny_tests_one (h pins s σ H Q I q)
theorem Inv.track {X:Cx}{pins:List (Addr×Obj)}{σ:St}{H:Hp}{s:Shared}{D:Addr}{o:HO}(I:Inv X pins σ H s)(hn:H D=none)(h0:X.s₀.heap.objs.size<=D)(hL:D≠X.env.locals)
  (hcl:∀x c,X.env.cells.lookup x=some c->c≠D) (hp:∀p∈X.pn++pins,p.1≠D) (new:fh X.prog X.w (upd H D o) s.heap D o):Inv X pins σ (upd H D o) s:=by
 have hb:∀b u,X.s₀.heap.get? b=some u->b≠D:=fun b u e=>Nat.ne_of_lt (Nat.lt_of_lt_of_le (Heap.lt_size e) h0)
 refine ⟨I.ok,I.os,I.bare,⟨I.base.keep,I.base.slot,fun b u e n hx=>?_,I.base.there,fun b xs e=>?_,fun b u xs e=>?_,fun b ps e=>?_⟩,I.loc,I.cell,?_,fun x c e=>?_,fun p hpp=>?_,fun b u e=>?_,I.len⟩
 ·rw [aE (hb b u e)];exact I.base.free b u e n hx
 ·have q:=I.base.tups b xs e;rw [aE (ai q hn)];exact q
 ·have q:=I.base.frzs b u xs e;rw [aE (ai q hn)];exact q
 ·obtain ⟨more,q⟩:=I.base.tbls b ps e;exact ⟨more,by rw [aE (ai q hn)];exact q⟩
 ·rw [aE (Ne.symm hL)];exact I.free
 ·rw [aE (hcl x c e)];exact I.freeC x c e
 ·obtain ⟨a,b,c⟩:=I.pin p hpp
  exact ⟨a,by rw [aE (hp p hpp)];exact b,c⟩
 ·by_cases hb:b=D
  ·subst hb;rw [ah] at e;cases e;exact new
  ·rw [aE hb] at e
   exact (I.hok b u e).stay (fun c v _ q=>q) (fun c q=>by rw [aE (ai q hn)];exact q) fun c xs q=>by rw [aE (ai q hn)];exact q
theorem fj {env:Env}{yc:Str}:∀{names:List (Str×NameKind)} {x:Str},(∀z∈names,z.2=NameKind.cell->z.1=yc)->
  ((names.map fun (n,k)=>if (k == NameKind.free && env.scope.kind == .function && env.kindOf n == some .cell) then (n,NameKind.cell) else (n,k)).lookup x=some .cell\/
  (names.map fun (n,k)=>if (k == NameKind.free && env.scope.kind == .function && env.kindOf n == some .cell) then (n,NameKind.cell) else (n,k)).lookup x=some .free)->x=yc\/names.lookup x=some .free
 | [],_,_,h=>by simp at h
 | (n,k)::r,x,hn,h=>by
  have ih:=@fj env yc r x fun y hy=>hn y (List.mem_cons_of_mem _ hy)
  have h':List.lookup x ((if (k == NameKind.free && env.scope.kind == .function && env.kindOf n == some .cell)=true then (n,NameKind.cell) else (n,k))::(r.map fun (n,k)=>if (k == NameKind.free && env.scope.kind == .function && env.kindOf n == some .cell) then (n,NameKind.cell) else (n,k)))=some .cell\/List.lookup x ((if (k == NameKind.free && env.scope.kind == .function && env.kindOf n == some .cell)=true then (n,NameKind.cell) else (n,k))::(r.map fun (n,k)=>if (k == NameKind.free && env.scope.kind == .function && env.kindOf n == some .cell) then (n,NameKind.cell) else (n,k)))=some .free:=h
  cases hx:x == n with
  | true=>
   simp only [List.lookup_cons,hx]
   by_cases hc:(k == NameKind.free && env.scope.kind == .function && env.kindOf n == some .cell)=true
   ·have hk:k=NameKind.free:=by
     rw [Bool.and_eq_true,Bool.and_eq_true] at hc
     simpa using hc.1.1
    rw [hk];exact .inr rfl
   ·rw [if_neg hc] at h'
    simp only [List.lookup_cons,hx] at h'
    rcases h' with h' | h'
    ·have e:=hn (n,k) List.mem_cons_self (Option.some.inj h')
     have:x=n:=by simpa using hx
     exact .inl (this.trans e)
    ·exact .inr h'
  | false=>
   simp only [List.lookup_cons,hx]
   by_cases hc:(k == NameKind.free && env.scope.kind == .function && env.kindOf n == some .cell)=true
   ·rw [if_pos hc] at h';simp only [List.lookup_cons,hx] at h';exact ih h'
   ·rw [if_neg hc] at h';simp only [List.lookup_cons,hx] at h';exact ih h'
noncomputable def fB (yo:Option Str)(C:Addr)(cl:List (Str×Addr)):List (Str×Addr):=match yo with | some yc=>(yc,C+1)::cl | none=>cl
noncomputable def fnG (yo:Option Str):Str->Bool:=match yo with | some yc=>fun x=>x == yc | none=>fun _=>false
noncomputable def Af (X:Cx)(Nc:List Str)(scope:Scope)(yo:Option Str)(C:Addr)(s₀:Shared)(H₀:Hp)(ex:List Addr):Cx:=
 {X with N:=Nc,s₀:=s₀,H₀:=H₀,env:=compEnvC scope (fB yo C (gQ X.env.cells scope.names [])) C X.env,outer:=X.stack,ex:=ex,fn:=fnG yo,pn:=[],xe:=fun _ _=>False}
theorem oC {yo:Option Str}{C:Addr}{cl:List (Str×Addr)}{x:Str}(h:yo≠some x):(fB yo C cl).lookup x=cl.lookup x:=by
 cases yo with
 | none=>rfl
 | some yc=>show List.lookup x ((yc,C+1)::cl)=_;rw [List.lookup_cons,show (x == yc)=false by simpa using fun z=>h (by rw [z])]
theorem y1 {yo:Option Str}{C c:Addr}{cl:List (Str×Addr)}{x:Str}(e:(fB yo C cl).lookup x=some c):(yo=some x/\c=C+1)\/(yo≠some x/\cl.lookup x=some c):=by
 by_cases h:yo=some x
 ·rw [h] at e
  have e':List.lookup x ((x,C+1)::cl)=some c:=e
  rw [List.lookup_cons] at e'
  simp at e'
  exact .inl ⟨h,e'.symm⟩
 ·rw [oC h] at e
  exact .inr ⟨h,e⟩
theorem Eh {yo:Option Str}{x:Str}(e:fnG yo x=true):yo=some x:=by
 cases yo with
 | none=>cases e
 | some yc=>rw [show x=yc from eq_of_beq e]
theorem jX {env:Env}{yo:Option Str}{names:List (Str×NameKind)}{x:Str}(hn:∀z∈names,z.2=NameKind.cell->yo=some z.1)
  (h:(names.map fun (n,k)=>if (k == NameKind.free && env.scope.kind == .function && env.kindOf n == some .cell) then (n,NameKind.cell) else (n,k)).lookup x=some .cell\/
  (names.map fun (n,k)=>if (k == NameKind.free && env.scope.kind == .function && env.kindOf n == some .cell) then (n,NameKind.cell) else (n,k)).lookup x=some .free):yo=some x\/names.lookup x=some .free:=by
 cases yo with
 | none=>exact .inr (fR (fun y hy e=>by cases hn y hy e) h)
 | some yc=>exact (fj (fun z hz e=>(Option.some.inj (hn z hz e)).symm) h).imp (fun e=>by rw [e]) id
section
variable {X:Cx}
theorem tD {tg iter elt:Expr}{ifs:List Expr}{scope:Scope}{pos:Pos}{Nc:List Str}{cm:List (Option Nat)}{g:TG}{tc:TT}{te:TE}{yo:Option Str}{pins:List (Addr×Obj)}{σ:St}{it:Addr}{fp:List Addr}{tn:Nat->Heap->Prop}{J:It}{H2:Hp}{s2:Shared}{W:Nat->Nat->List V->Hp->Prop}{m0:Nat}{h₁:Heap}{QV:VK}{use:Option (Value->Sem Unit)}{R:Value->Shared->Prop}
  (hc:X.calm=true) (hkind:scope.kind=.function) (hcell:∀z∈scope.names,z.2=.cell->yo=some z.1) (hyc:∀yc,yo=some yc->scope.names.lookup yc=some .cell)
  (hfr:∀y∈scope.names,y.2=.free->∃c,X.env.cells.lookup y.1=some c) (hlen:cm.length=Nc.length)
  (hcm:∀(j:Nat) (x:Str) (i:Nat),Nc[j]?=some x->cm[j]?=some (some i)->X.N[i]?=some x/\scope.names.lookup x=some .free/\(X.env.kindOf x=some .cell\/X.env.kindOf x=some .free))
  (hg:∀C s₀ H₀ ex,PG (Af X Nc scope yo C s₀ H₀ ex) tg g) (ht:∀C s₀ H₀ ex,PIf (Af X Nc scope yo C s₀ H₀ ex) ifs tc) (he:∀C s₀ H₀ ex,PE (Af X Nc scope yo C s₀ H₀ ex) elt te)
  (I2:Inv X pins σ H2 s2) (T:yM X.prog X.w X.K tg J fp it tn) (st2:tn 0 s2.heap) (f2:∀b∈fp,oz X pins H2 b) (w0:W 0 m0 [] H2)
  (turn:∀i m acc H,W i m acc H->(J.stop i H/\∀p,H p=none->QV (.ref p) (upd H p (.lst acc)))\/(J.go i H/\acc.length < sizeLine/\∀x H',J.yld i H x H'->g x (bV cm σ) H' fun σ2 H2=>Wk (bV cm σ) σ2/\tc σ2 H2 fun b H3=>if b=true then te σ2 H3 fun v H4=>∃m',m' < m/\W (i+1) m' (acc++[v]) H4 else ∃m',m' < m/\W (i+1) m' acc H3))
  (hns₁:h₁.Ns (s2.heap.push {cls:=.type "list",dict:=none,data:=.seq ([]:List Value).toArray}).objs.size fun _=>none) (keep1:∀b u,(s2.heap.push {cls:=.type "list",dict:=none,data:=.seq ([]:List Value).toArray}).get? b=some u->h₁.get? b=some u)
  (hcl₁:∀yc,yo=some yc->h₁.IsCell ((s2.heap.push {cls:=.type "list",dict:=none,data:=.seq ([]:List Value).toArray}).objs.size+1) none)
  (fin:∀(s6:Shared) (H5:Hp) (acc:List V) (m:Str->Option Value),s6.heap.Ns (s2.heap.push {cls:=.type "list",dict:=none,data:=.seq ([]:List Value).toArray}).objs.size m->oz X pins (upd H5 s2.heap.objs.size (.lst acc)) (s2.heap.push {cls:=.type "list",dict:=none,data:=.seq ([]:List Value).toArray}).objs.size->
   (∀h',Heap.SameBut (s2.heap.push {cls:=.type "list",dict:=none,data:=.seq ([]:List Value).toArray}).objs.size s6.heap h'->Inv X pins σ (upd H5 s2.heap.objs.size (.lst acc)) {s6 with heap:=h'})->QV (.ref s2.heap.objs.size) (upd H5 s2.heap.objs.size (.lst acc))->
   ∀fl,compPost (model X.prog X.w) X.A X.xe use R (.ref s2.heap.objs.size) (s2.heap.push {cls:=.type "list",dict:=none,data:=.seq ([]:List Value).toArray}).objs.size (.ok fl) s6) :
  codeAny (model X.prog X.w) X.A (.compStart (.ListComp elt [⟨tg,iter,ifs,0⟩] scope pos) 0 (.ref it) (.ref s2.heap.objs.size) (compEnvC scope (fB yo (s2.heap.push {cls:=.type "list",dict:=none,data:=.seq ([]:List Value).toArray}).objs.size (gQ X.env.cells scope.names [])) (s2.heap.push {cls:=.type "list",dict:=none,data:=.seq ([]:List Value).toArray}).objs.size X.env))
   (compPost (model X.prog X.w) X.A X.xe use R (.ref s2.heap.objs.size) (s2.heap.push {cls:=.type "list",dict:=none,data:=.seq ([]:List Value).toArray}).objs.size) {s2 with heap:=h₁,toks:=s2.toks+([]:List (Str×Value)).length}:=by
 have hk3:∀b u,s2.heap.get? b=some u->(s2.heap.push {cls:=.type "list",dict:=none,data:=.seq ([]:List Value).toArray}).get? b=some u:=fun b u q=>Heap.get?_push_of_some _ q
 have I3:Inv X pins σ H2 {s2 with heap:=s2.heap.push {cls:=.type "list",dict:=none,data:=.seq ([]:List Value).toArray},toks:=s2.toks}:=I2.kept hk3
 have hD3:(s2.heap.push {cls:=.type "list",dict:=none,data:=.seq ([]:List Value).toArray}).get? s2.heap.objs.size=some {cls:=.type "list",data:=.seq ([]:List Value).toArray}:=Heap.get?_push_size _ rfl
 have hCs:(s2.heap.push {cls:=.type "list",dict:=none,data:=.seq ([]:List Value).toArray}).objs.size=s2.heap.objs.size+1:=Heap.size_push _ _
 have hDn:H2 s2.heap.objs.size=none:=I2.hok.fresh (Nat.le_refl _)
 have st3:tn 0 (s2.heap.push {cls:=.type "list",dict:=none,data:=.seq ([]:List Value).toArray}):=T.keep _ _ _ st2 fun b _ o q=>hk3 b o q
 have fpD:∀b∈fp,b < s2.heap.objs.size:=fun b hb=>by
  obtain ⟨o,e,_⟩:=T.obj _ _ st2 b hb
  exact Heap.lt_size e
 have DX:oz X pins H2 s2.heap.objs.size:=I2.fpOk (Nat.le_refl _) hDn
 generalize hs3:s2.heap.push {cls:=.type "list",dict:=none,data:=.seq ([]:List Value).toArray}=h3 at *
 generalize hDg:s2.heap.objs.size=D at *
 have exX:∀b∈D::fp,oz X pins H2 b:=fun b hb=>by
  rcases List.mem_cons.mp hb with z | z
  ·rw [z];exact DX
  ·exact f2 b z
 have exC:∀b∈D::fp,b < h3.objs.size:=fun b hb=>by
  rcases List.mem_cons.mp hb with z | z
  ·rw [z,hCs];exact Nat.lt_succ_self _
  ·rw [hCs];exact Nat.lt_succ_of_lt (fpD b z)
 have exS:∀b∈D::fp,b∉frs X.stack:=fun b hb z=>by
  obtain ⟨_,n1,n2,_⟩:=exX b hb
  rcases List.mem_cons.mp (I2.stkSub b z) with y | y
  ·exact n1 y
  ·exact n2 y
 have clo:∀x c,(gQ X.env.cells scope.names []).lookup x=some c->X.env.cells.lookup x=some c:=fun x c e=>pV (acc:=[]) (fun _ _ z=>by simp at z) e
 have ltX:∀x c,X.env.cells.lookup x=some c->c < h3.objs.size:=fun x c e=>by
  obtain ⟨v,z⟩:=I3.cell x c e
  exact z.lt
 have cloC:∀x c,(fB yo h3.objs.size (gQ X.env.cells scope.names [])).lookup x=some c->(yo=some x/\c=h3.objs.size+1)\/(yo≠some x/\X.env.cells.lookup x=some c):=fun x c e=>(y1 e).imp id fun h=>⟨h.1,clo x c h.2⟩
 have cellne:∀b,b < h3.objs.size->(∀x c,X.env.cells.lookup x=some c->c≠b)->∀x c,(fB yo h3.objs.size (gQ X.env.cells scope.names [])).lookup x=some c->c≠b:=fun b hb hn x c e=>by
  rcases cloC x c e with ⟨_,z⟩ | ⟨_,z⟩
  ·rw [z];exact Nat.ne_of_gt (Nat.lt_succ_of_lt hb)
  ·exact hn x c z
 let s3:Shared:={s2 with heap:=h3}
 let X':Cx:=Af X Nc scope yo h3.objs.size s3 H2 (D::fp)
 have hX':X'=Af X Nc scope yo h3.objs.size s3 H2 (D::fp):=rfl
 have okX:X'.Ok:=by
  refine ⟨I3.ok.mod,hkind,I3.ok.glob,I3.ok.blt,Nat.le_refl _,fun x y c e1 e2=>(by
   rcases cloC x c e1 with ⟨a1,a2⟩ | ⟨_,a2⟩
   ·rcases cloC y c e2 with ⟨b1,b2⟩ | ⟨_,b2⟩
    ·exact Option.some.inj (a1.symm.trans b1)
    ·exact absurd (ltX y c b2) (by rw [a2];exact Nat.not_lt.mpr (Nat.le_succ _))
   ·rcases cloC y c e2 with ⟨b1,b2⟩ | ⟨_,b2⟩
    ·exact absurd (ltX x c a2) (by rw [b2];exact Nat.not_lt.mpr (Nat.le_succ _))
    ·exact I3.ok.inj x y c a2 b2),fun x hx=>?_,fun x c e z=>(cloC x c z).elim (fun h=>by rw [h.2];exact Nat.le_succ _) (fun h=>absurd (Eh e) h.1),I3.ok.hd,I3.ok.frames,.inl rfl,fun b hb=>⟨Nat.ne_of_lt (exC b hb),cellne b (exC b hb) (exX b hb).2.2.2.2.1⟩,
   I3.bs,?_,fun b o e hb=>?_,exS,I3.stack,I3.stkFree⟩
  ·rcases jX (env:=X.env) hcell hx with hx' | hx'
   ·exact ⟨h3.objs.size+1,by show List.lookup x (fB yo h3.objs.size _)=_;rw [hx'];show List.lookup x ((x,h3.objs.size+1)::_)=_;rw [List.lookup_cons];simp⟩
   have hmem:(x,NameKind.free)∈scope.names:=by
    have:∀(l:List (Str×NameKind)),l.lookup x=some .free->(x,NameKind.free)∈l:=by
     intro l
     induction l with
     | nil=>intro z;simp at z
     | cons a r ih=>
      obtain ⟨n,k⟩:=a
      intro z
      rw [List.lookup_cons] at z
      split at z
      ·rename_i y
       have yn:x=n:=by simpa using y
       cases z
       rw [yn];exact List.mem_cons_self
      ·exact List.mem_cons_of_mem _ (ih z)
    exact this _ hx'
   have nx:yo≠some x:=fun z=>by rw [hyc x z] at hx';cases hx'
   obtain ⟨c,hc⟩:=jW (acc:=[]) hx' (hfr (x,.free) hmem rfl)
   exact ⟨c,by show List.lookup x (fB yo _ _)=_;rw [oC nx];exact hc⟩
  ·exact Nat.le_trans I3.ok.bsz I3.sz
  ·rcases (exX b hb).2.2.2.1 with z | z
   ·exact I3.ok.noex b o e z
   ·exact absurd (Nat.lt_of_lt_of_le (Heap.lt_size (I3.ok.bs b o e).1) z) (Nat.lt_irrefl _)
 have hσl:(bV cm σ).length=Nc.length:=by
  unfold bV
  rw [JB];exact hlen
 have I4:Inv X' [] (bV cm σ) H2 {s2 with heap:=h₁,toks:=s2.toks+([]:List (Str×Value)).length}:=by
  refine ⟨okX,rfl,I3.bare,Un.kept keep1,⟨_,hns₁,fun j x v e1 e2 e3=>?_⟩,fun x c e=>?_,?_,fun x c e=>(cloC x c e).elim (fun h=>by rw [h.2];exact I3.hok.fresh (Nat.le_succ _)) (fun h=>I3.freeC x c h.2),(fun p hp=>absurd (show p∈([]:List (Addr×Obj)) from hp) (by simp)),I3.hok.kept keep1,hσl⟩
  ·have e2':∃i,cm[j]?=some (some i)/\σ[i]?=some (some v):=by
    unfold bV at e2
    rw [List.getElem?_map] at e2
    cases q:cm[j]? with
    | none=>rw [q] at e2;simp at e2
    | some o=>
     rw [q] at e2
     cases o with
     | none=>simp at e2
     | some i=>
      refine ⟨i,rfl,?_⟩
      simp only [Option.map_some,Option.some.injEq] at e2
      cases q2:σ[i]? with
      | none=>rw [q2] at e2;simp at e2
      | some o2=>rw [q2] at e2;simp at e2;rw [e2]
   obtain ⟨i,ej,ei⟩:=e2'
   obtain ⟨n1,n2,n3⟩:=hcm j x i e1 ej
   obtain ⟨m,hn,hl⟩:=I3.loc
   have n3':Vis X.env.scope x:=by
    rcases n3 with z | z
    ·exact .inr (.inl z)
    ·exact .inr (.inr z)
   obtain ⟨u,r,l⟩:=hl i x v n1 ei n3'
   refine ⟨u,r,?_⟩
   rcases l with ⟨l,_⟩ | ⟨_,c,ec,ic⟩
   ·rcases n3 with z | z
    ·rw [l] at z;cases z
    ·rw [l] at z;cases z
   ·obtain ⟨c',ec'⟩:=jW (cells:=X.env.cells) (acc:=[]) n2 ⟨c,ec⟩
    have hcc:=clo x c' ec'
    rw [ec] at hcc;cases hcc
    obtain ⟨oc,hoc,hdc⟩:=ic
    have nx:yo≠some x:=fun z=>by rw [hyc x z] at n2;cases n2
    refine .inr ⟨?_,c,(by show List.lookup x (fB yo _ _)=_;rw [oC nx];exact ec'),oc,keep1 _ _ hoc,hdc⟩
    exact fQ (env:=X.env) n2
  ·rcases cloC x c e with ⟨z0,z⟩ | ⟨_,z⟩
   ·rw [z];exact ⟨none,hcl₁ _ z0⟩
   ·obtain ⟨v,oc,hoc,hdc⟩:=I3.cell x c z
    exact ⟨v,oc,keep1 _ _ hoc,hdc⟩
  ·exact I3.hok.fresh (Nat.le_refl _)
 have stat:∀{H':Hp} {pl:List (Addr×Obj)},(∀b∈fp,H' b=none)->(∀p∈pl,p.1=D)->∀b∈fp,oz X' pl H' b:=fun {H' pl} hn hpl b hb=>
  ⟨hn b hb,Nat.ne_of_lt (exC b (List.mem_cons_of_mem _ hb)),exS b (List.mem_cons_of_mem _ hb),.inl (List.mem_cons_of_mem _ hb),cellne b (exC b (List.mem_cons_of_mem _ hb)) (f2 b hb).2.2.2.2.1,fun p hp z=>by
   have:p∈pl:=(List.mem_append.mp hp).elim (fun z=>absurd (show p∈([]:List (Addr×Obj)) from z) (by simp)) fun z=>z
   have e:=hpl p this
   rw [e] at z
   exact absurd (fpD b hb) (by rw [←z];exact Nat.lt_irrefl _)⟩
 have hDC:D≠h3.objs.size:=by rw [hCs];exact Nat.ne_of_lt (Nat.lt_succ_self _)
 have hDs:D∉frs X.stack:=exS D List.mem_cons_self
 have loop:∀s5:Shared,s5={s2 with heap:=h₁,toks:=s2.toks+([]:List (Str×Value)).length}->
   codeAny (model X.prog X.w) X.A (.compLoop (.ListComp elt [⟨tg,iter,ifs,0⟩] scope pos) 0 (.ref it) (.ref D) (compEnvC scope (fB yo h3.objs.size (gQ X.env.cells scope.names [])) h3.objs.size X.env))
    (compPost (model X.prog X.w) X.A X.xe use R (.ref D) h3.objs.size) s5:=by
  rintro s5 rfl
  refine codeAny_loop rfl (fun n s'=>∃i acc its k H',Inv X' [] (bV cm σ) H' s'/\tn i s'.heap/\(∀b∈fp,H' b=none)/\s'.heap.get? D=some {cls:=.type "list",data:=.seq (List.toArray its) k}/\H' D=none/\a8 acc its/\acc.length<=sizeLine/\W i n acc H') (fun n s' hI=>?_) m0
   ⟨0,[],[],0,H2,I4,T.keep _ _ _ st3 fun b _ o q=>keep1 b o q,fun b hb=>(f2 b hb).1,keep1 _ _ hD3,hDn,.nil,Nat.zero_le _,w0⟩
  obtain ⟨i,acc,its,k,H5,J5,t5,fr5,d5,dn5,va5,ac5,w5⟩:=hI
  show wpAny _ X.A ((compTurn (.ListComp elt [⟨tg,iter,ifs,0⟩] scope pos) 0 (.ref it) (.ref D) (compEnvC scope (fB yo h3.objs.size (gQ X.env.cells scope.names [])) h3.objs.size X.env)).onRaise (fun x=>do noteFrame x (compEnvC scope (fB yo h3.objs.size (gQ X.env.cells scope.names [])) h3.objs.size X.env);theTreesLotGoes x)) _ _ s'
  refine wpAny_noted ?_
  rw [compTurn_list]
  have nocell:∀v,({cls:=.type "list",data:=.seq (List.toArray its) k}:Obj).data≠.cell v:=fun v z=>nomatch z
  have P5:Inv X' [(D,{cls:=.type "list",data:=.seq (List.toArray its) k})] (bV cm σ) H5 s':=J5.pins_of fun p hp=>by
   have e:p=(D,{cls:=.type "list",data:=.seq (List.toArray its) k}):=by simpa using hp
   subst e
   exact ⟨d5,dn5,hDC,hDs,nocell⟩
  have pl1:∀p∈[((D,{cls:=.type "list",data:=.seq (List.toArray its) k}):Addr×Obj)],p.1=D:=fun p hp=>by
   have e:p=(D,{cls:=.type "list",data:=.seq (List.toArray its) k}):=by simpa using hp
   rw [e]
  rcases turn i n acc H5 w5 with ⟨stop,qn⟩ | ⟨go,hsz,step⟩
  ·refine wpAny_bind (wpAny_standAt (wpAny_bind (wpAny_mono (T.done X' rfl rfl rfl hc i _ s' _ H5 (fun _ _=>False) P5 (stat fr5 pl1) t5 stop) (fun r s6 ⟨hr,J6⟩=>?_) fun _ _ f=>f.elim)))
   subst hr
   refine wpAny_pure ?_
   obtain ⟨mC,hnC,_⟩:=J6.loc
   have hCn:H5 h3.objs.size=none:=J6.free
   obtain ⟨dg,dg2,_⟩:=J6.pin (D,{cls:=.type "list",data:=.seq (List.toArray its) k}) (by simp)
   refine fin s6 H5 acc mC hnC (I3.fpOk (b:=h3.objs.size) (H':=upd H5 D (.lst acc)) (Nat.le_refl _) (by rw [aE (Ne.symm hDC)];exact hCn)) (fun h' hsb=>?_) (qn D dg2) _
   have toh:∀b u,b≠h3.objs.size->s6.heap.get? b=some u->h'.get? b=some u:=fun b u hb q=>(hsb.2 b hb).trans q
   have hok':HOk X.prog X.w H5 h':=fun a o e=>(J6.hok a o e).stay (fun b u hb q=>toh b u (by
    rintro rfl
    rcases hb with z | z
    ·rw [←z,hCn] at e;cases e
    ·rw [hCn] at z;cases z) q) (fun _ q=>q) fun _ _ q=>q
   have ltC:∀{b:Addr} {u:Obj},h3.get? b=some u->b≠h3.objs.size:=fun q=>Nat.ne_of_lt (Heap.lt_size q)
   have un':Un (frs X.stack) (D::fp) H2 H5 h3 h':=by
    have u:=J6.base
    refine ⟨fun b o e n hb hx=>toh b o (ltC e) (u.keep b o e n hb hx),fun b o e n hb hx=>?_,u.free,fun b o e hx=>?_,u.tups,u.frzs,u.tbls⟩
    ·obtain ⟨sl,q⟩:=u.slot b o e n hb hx
     exact ⟨sl,toh b _ (ltC e) q⟩
    ·obtain ⟨o',q⟩:=u.there b o e hx
     exact ⟨o',toh b _ (ltC e) q⟩
   have J7:Inv X pins σ H5 {s6 with heap:=h'}:=Inv.call' (s':={s6 with heap:=h'}) (ch:=D::fp) I3 J6.os un' hok' J6.bare fun b hb=>by
    obtain ⟨_,n1,n2,n3,n4,n5⟩:=exX b hb
    exact ⟨n3,n1,n4,n5⟩
   obtain ⟨_,n1,n2,n3,n4,n5⟩:=exX D List.mem_cons_self
   have n3':X.s₀.heap.objs.size<=D:=by
    have:=I2.sz
    rw [hDg] at this
    exact this
   exact J7.track (o:=.lst acc) dg2 n3' n1 n4 n5 ⟨ac5,its,k,va5,toh _ _ hDC dg⟩
  ·refine wpAny_bind (wpAny_standAt (wpAny_bind (wpAny_mono (T.item X' rfl rfl rfl hc i _ s' _ H5 (fun _ _=>False) P5 (stat fr5 pl1) t5 go) (fun r s6 ⟨u,hr,h6⟩=>?_) fun _ _ f=>f.elim)))
   subst hr
   refine wpAny_bind (wpAny_mono h6 (fun _ s7 ⟨x,H7,J7,r7,y7,t7,fr7⟩=>?_) fun _ _ f=>f.elim)
   have P7:=J7.pinned (stat fr7 pl1) (T.obj _ _ t7)
   refine wpAny_bind (wpAny_mono (hg _ _ _ _ _ s7 _ H7 x u _ P7 r7 (step x H7 y7)) (fun _ s8 ⟨σ8,H8,J8,wk8,q8⟩=>?_) fun _ _ f=>f.elim)
   refine wpAny_bind (wpAny_mono (ht _ _ _ _ _ s8 σ8 H8 _ J8 q8) (fun b s9 ⟨H9,J9,q9⟩=>?_) fun _ _ f=>f.elim)
   have back:∀{Ha:Hp} {sa:Shared},Inv X' ([(D,{cls:=.type "list",data:=.seq (List.toArray its) k})]++qi fp s7.heap) σ8 Ha sa->
     Inv X' [] (bV cm σ) Ha sa/\tn (i+1) sa.heap/\(∀b∈fp,Ha b=none)/\sa.heap.get? D=some {cls:=.type "list",data:=.seq (List.toArray its) k}/\Ha D=none:=fun {Ha sa} Ja=>by
    refine ⟨(Ja.weak wk8.1 wk8.2).pins_of fun p hp=>absurd hp (by simp),T.keep _ _ _ t7 fun b hb o e=>(Ja.pin (b,o) (List.mem_append_right _ (List.mem_append_right _ (i8 hb e)))).1,fun b hb=>?_,?_⟩
    ·obtain ⟨o,e,d⟩:=T.obj _ _ t7 b hb
     exact (Ja.pin (b,o) (List.mem_append_right _ (List.mem_append_right _ (i8 hb e)))).2.1
    ·obtain ⟨z1,z2,_⟩:=Ja.pin (D,{cls:=.type "list",data:=.seq (List.toArray its) k}) (by simp)
     exact ⟨z1,z2⟩
   cases b with
   | false=>
    simp only [Bool.false_eq_true,if_false] at q9 ⊢
    obtain ⟨m',hm,w'⟩:=q9
    obtain ⟨z0,z1,z2,z3,z4⟩:=back J9
    exact wpAny_pure ⟨rfl,m',hm,i+1,acc,its,k,H9,z0,z1,z2,z3,z4,va5,ac5,w'⟩
   | true=>
    simp only [if_true] at q9 ⊢
    refine wpAny_bind (wpAny_bind (wpAny_mono (he _ _ _ _ _ s9 σ8 H9 _ J9 q9) (fun y s10 ⟨v,H10,J10,rv,q10⟩=>wpAny_bind ?_) fun _ _ f=>f.elim))
    obtain ⟨m',hm,w'⟩:=q10
    obtain ⟨z0,z1,z2,z3,z4⟩:=back J10
    have hli:=va5.length
    refine call_meets F.slot_list_append ⟨_,z3,rfl⟩ F.entry_list_append (F.args_list_append_2 _ _) (PySem.list_append D its.toArray k y (by rw [List.size_toArray];omega)) ⟨z3,?_⟩
    obtain ⟨k',q⟩:∃k',(s10.heap.update D (Obj.mapSeq (·.push y))).get? D=some {cls:=.type "list",data:=.seq (List.toArray (its++[y])) k'}:=by
     have q:=PySem.IsL.update z3 (·.push y)
     have e:its.toArray.push y=(its++[y]).toArray:=by simp
     rw [e] at q
     exact ⟨_,q⟩
    refine wpAny_pure (wpAny_pure ⟨rfl,m',hm,i+1,acc++[v],its++[y],k',H10,z0.turned (it:=D) (fun b o hb hu=>(Heap.get?_update_other s10.heap (Obj.mapSeq (·.push y)) (Ne.symm hb)).trans hu) z4 hDC (.inl List.mem_cons_self) (cellne D (exC D List.mem_cons_self) (exX D List.mem_cons_self).2.2.2.2.1) (fun p hp=>absurd (show p∈([]:List (Addr×Obj)) from hp) (by simp)),
     T.keep _ _ _ z1 fun b hb o e=>(Heap.get?_update_other s10.heap (Obj.mapSeq (·.push y)) (Nat.ne_of_gt (fpD b hb))).trans e,z2,q,z4,va5.append (.cons rv .nil),by rw [List.length_append,List.length_singleton];omega,w'⟩)
 exact codeAny_compStart_list (loop _ rfl) (T.self X.A 0 _ _ _ (T.keep _ _ _ st3 fun b _ o q=>keep1 b o q) (loop _ rfl))
theorem BR {tg iter elt:Expr}{ifs:List Expr}{scope:Scope}{pos:Pos}{Nc:List Str}{cm:List (Option Nat)}{wi:TI}{g:TG}{tc:TT}{te:TE}
  (hc:X.calm=true) (hi:PI X tg iter wi) (hkind:scope.kind=.function) (hcell:∀y∈scope.names,y.2≠.cell) (hnames:∀y∈scope.names,y.2=.local->scope.names.lookup y.1=some .local)
  (hfree:∀y∈scope.names,y.2=.free->X.env.kindOf y.1=some .cell\/X.env.kindOf y.1=some .free) (hlen:cm.length=Nc.length)
  (hcm:∀(j:Nat) (x:Str) (i:Nat),Nc[j]?=some x->cm[j]?=some (some i)->X.N[i]?=some x/\scope.names.lookup x=some .free/\(X.env.kindOf x=some .cell\/X.env.kindOf x=some .free))
  (hg:∀C s₀ H₀ ex,PG (blk X Nc scope C s₀ H₀ ex) tg g) (ht:∀C s₀ H₀ ex,PIf (blk X Nc scope C s₀ H₀ ex) ifs tc) (he:∀C s₀ H₀ ex,PE (blk X Nc scope C s₀ H₀ ex) elt te)
  (hs:∀x,foldedSetIterable iter X.env x=pure x:=by intro _;rfl):PE X (.ListComp elt [⟨tg,iter,ifs,0⟩] scope pos) (vo wi g tc te cm):=by
 intro pins s σ H Q I h
 rw [eval_ListComp]
 have hfr:∀y∈scope.names,y.2=.free->∃c,X.env.cells.lookup y.1=some c:=fun y hy e=>I.ok.has y.1 (hfree y hy e)
 refine wpAny_comprehension_free (use:=none) rfl hs (jV hfr) hkind hnames (thn (hi pins s σ H _ I h) fun v s1 h1=>thn h1 fun itv s2 h2=>?_)
 obtain ⟨it,fp,tn,J,H2,e,I2,T,st2,f2,W,⟨m0,w0⟩,turn⟩:=h2
 subst e
 refine wpAny_newObj_type (wpAny_newFunctionEnv hcell (by intro y hy;simp at hy) (fun h₁ hns₁ hsb₁=>?_) hkind)
 dsimp only at hns₁ hsb₁ ⊢
 have keepA:∀b u,(s2.heap.push {cls:=.type "list",dict:=none,data:=.seq ([]:List Value).toArray}).get? b=some u->h₁.get? b=some u:=fun b u q=>(hsb₁.2 b (Nat.ne_of_lt (Heap.lt_size q))).trans (Heap.get?_push_of_some _ q)
 exact tD (yo:=none) hc hkind (fun z hz e=>absurd e (hcell z hz)) (fun _ e=>by cases e) hfr hlen hcm hg ht he I2 T st2 f2 w0 turn hns₁ keepA (fun _ e=>by cases e) fun s6 H5 acc m hm _ J qn _=>⟨m,hm,fun h' hsb=>⟨.ref s2.heap.objs.size,_,J h' hsb,rfl,qn⟩⟩
end
theorem Ei {lo:Int}{n:Nat}{g:TG}{tc:TT}{te:TE}{cm:List (Option Nat)}{σ:St}{H:Hp}{Q:VK}(Pv:Nat->List V->Hp->Prop)(h0:Pv 0 [] H)
  (hs:∀i acc H,i < n->Pv i acc H->acc.length < sizeLine/\g (.int (lo+i)) (bV cm σ) H fun σ2 H2=>Wk (bV cm σ) σ2/\tc σ2 H2 fun b H3=>if b=true then te σ2 H3 fun v H4=>Pv (i+1) (acc++[v]) H4 else Pv (i+1) acc H3)
  (mono:∀x σ H N N',(∀σ2 H2,N σ2 H2->N' σ2 H2)->g x σ H N->g x σ H N':=by exact fun _ _ _ _ _ h q=>h _ _ q)
  (monoc:∀σ H N N',(∀b H2,N b H2->N' b H2)->tc σ H N->tc σ H N') (monoe:∀σ H N N',(∀v H2,N v H2->N' v H2)->te σ H N->te σ H N')
  (hd:∀acc H,Pv n acc H->∀p,H p=none->Q (.ref p) (upd H p (.lst acc))) :
  ∃W:Nat->Nat->List V->Hp->Prop,(∃m,W 0 m [] H)/\∀i m acc H,W i m acc H->
   ((Itr lo n).stop i H/\∀p,H p=none->Q (.ref p) (upd H p (.lst acc)))\/
   ((Itr lo n).go i H/\acc.length < sizeLine/\∀x H',(Itr lo n).yld i H x H'->g x (bV cm σ) H' fun σ2 H2=>Wk (bV cm σ) σ2/\tc σ2 H2 fun b H3=>if b=true then te σ2 H3 fun v H4=>∃m',m' < m/\W (i+1) m' (acc++[v]) H4 else ∃m',m' < m/\W (i+1) m' acc H3):=by
 refine ⟨fun i m acc H=>m=n - i/\i<=n/\Pv i acc H,⟨n,by simp,Nat.zero_le _,h0⟩,?_⟩
 rintro i m acc H ⟨rfl,hi,p⟩
 by_cases hlt:i < n
 ·obtain ⟨hz,q⟩:=hs i acc H hlt p
  refine .inr ⟨hlt,hz,fun x H' y=>?_⟩
  obtain ⟨e,y⟩:=y
  subst e y
  refine mono _ _ _ _ _ (fun σ2 H2 ⟨wk,q⟩=>⟨wk,monoc _ _ _ _ (fun b H3 q=>?_) q⟩) q
  cases b with
  | true=>exact monoe _ _ _ _ (fun v H4 q=>⟨n - (i+1),by omega,rfl,hlt,q⟩) q
  | false=>exact ⟨n - (i+1),by omega,rfl,hlt,q⟩
 ·have e:i=n:=by omega
  subst e
  exact .inl ⟨Nat.le_refl _,hd acc H p⟩
theorem qm {lo:Int}{n:Nat}{te:TE}{cm:List (Option Nat)}{σ:St}{H:Hp}{Q:VK}(f:Nat->V)(hn:n<=sizeLine){j:Nat}(hj:(bV cm σ)[j]?=some none)
  (hs:∀i,i < n->∀N:VK,N (f i) H->te ((bV cm σ).set j (some (.int (lo+i)))) H N)
  (hd:∀p,H p=none->Q (.ref p) (upd H p (.lst ((List.range n).map f)))) :
  ∃W:Nat->Nat->List V->Hp->Prop,(∃m,W 0 m [] H)/\∀i m acc H,W i m acc H->
   ((Itr lo n).stop i H/\∀p,H p=none->Q (.ref p) (upd H p (.lst acc)))\/
   ((Itr lo n).go i H/\acc.length < sizeLine/\∀x H',(Itr lo n).yld i H x H'->eg j x (bV cm σ) H' fun σ2 H2=>Wk (bV cm σ) σ2/\vp σ2 H2 fun b H3=>if b=true then te σ2 H3 fun v H4=>∃m',m' < m/\W (i+1) m' (acc++[v]) H4 else ∃m',m' < m/\W (i+1) m' acc H3):=by
 refine ⟨fun i m acc H'=>m=n - i/\i<=n/\H'=H/\acc=(List.range i).map f,⟨n,by simp,Nat.zero_le _,rfl,rfl⟩,?_⟩
 rintro i m acc H' ⟨rfl,hi,rfl,rfl⟩
 by_cases hlt:i < n
 ·refine .inr ⟨hlt,by rw [JB,List.length_range];omega,fun x H' y=>?_⟩
  obtain ⟨e,y⟩:=y
  subst e y
  refine ⟨⟨by simp,fun k v e=>?_⟩,?_⟩
  ·by_cases hk:j=k
   ·subst hk;rw [hj] at e;cases e
   ·rw [List.getElem?_set_ne hk];exact e
  ·unfold vp;dsimp only
   split
   ·refine hs i hlt _ ⟨n - (i+1),by omega,rfl,hlt,rfl,?_⟩
    rw [List.range_succ,List.map_append];rfl
   ·rename_i z;exact absurd rfl z
 ·have e:i=n:=by omega
  subst e
  exact .inl ⟨Nat.le_refl _,hd⟩
theorem rZ {K:JA}{a:Addr}{xs:List V}{tc:TT}{te:TE}{cm:List (Option Nat)}{σ:St}{H:Hp}{Q:VK}(p:V->Bool)(f:V->V)(hl:SqL K H a xs)(hn:xs.length<=sizeLine){j:Nat}(hj:(bV cm σ)[j]?=some none)
  (hc:∀x,x∈xs->∀N:Bool->Hp->Prop,N (p x) H->tc ((bV cm σ).set j (some x)) H N)
  (hs:∀x,x∈xs->p x=true->∀N:VK,N (f x) H->te ((bV cm σ).set j (some x)) H N)
  (hd:∀b,H b=none->Q (.ref b) (upd H b (.lst ((xs.filter p).map f)))) :
  ∃W:Nat->Nat->List V->Hp->Prop,(∃m,W 0 m [] H)/\∀i m acc H,W i m acc H->
   ((Itl K a).stop i H/\∀p,H p=none->Q (.ref p) (upd H p (.lst acc)))\/
   ((Itl K a).go i H/\acc.length < sizeLine/\∀x H',(Itl K a).yld i H x H'->eg j x (bV cm σ) H' fun σ2 H2=>Wk (bV cm σ) σ2/\tc σ2 H2 fun b H3=>if b=true then te σ2 H3 fun v H4=>∃m',m' < m/\W (i+1) m' (acc++[v]) H4 else ∃m',m' < m/\W (i+1) m' acc H3):=by
 refine ⟨fun i m acc H'=>m=xs.length - i/\i<=xs.length/\H'=H/\acc=((xs.take i).filter p).map f,⟨xs.length,by simp,Nat.zero_le _,rfl,by simp⟩,?_⟩
 rintro i m acc H' ⟨rfl,hi,rfl,rfl⟩
 by_cases hlt:i < xs.length
 ·have hx:xs[i]?=some xs[i]:=by simp [hlt]
  have hle:(((xs.take i).filter p).map f).length < sizeLine:=by
   rw [JB]
   have:=List.length_filter_le p (xs.take i)
   rw [List.length_take] at this
   omega
  refine .inr ⟨⟨xs,xs[i],hl,hx⟩,hle,fun x H' y=>?_⟩
  obtain ⟨e,y⟩:=y
  subst e
  have hy:=y xs hl
  rw [hx] at hy;cases hy
  have hmem:xs[i]∈xs:=List.getElem_mem hlt
  refine ⟨⟨by simp,fun k v e=>?_⟩,hc _ hmem _ ?_⟩
  ·by_cases hk:j=k
   ·subst hk;rw [hj] at e;cases e
   ·rw [List.getElem?_set_ne hk];exact e
  ·have hstep:((xs.take (i+1)).filter p).map f=((xs.take i).filter p).map f++(if p xs[i] then [f xs[i]] else []):=by
    rw [take_succ_filter p xs i _ hx,List.map_append]
    cases p xs[i]<;>rfl
   cases hp:p xs[i] with
   | true=>
    refine FI (hs _ hmem hp _ ⟨xs.length - (i+1),by omega,rfl,hlt,rfl,?_⟩)
    rw [hstep,hp];rfl
   | false=>
    refine FH ⟨xs.length - (i+1),by omega,rfl,hlt,rfl,?_⟩
    rw [hstep,hp];simp
 ·have e:i=xs.length:=by omega
  subst e
  refine .inl ⟨⟨xs,hl,Nat.le_refl _⟩,?_⟩
  rw [List.take_length]
  exact hd
theorem nh {lo:Int}{n:Nat}{tc:TT}{te:TE}{cm:List (Option Nat)}{σ:St}{H:Hp}{Q:VK}(p:Nat->Bool)(f:Nat->V)(hn:n<=sizeLine){j:Nat}(hj:(bV cm σ)[j]?=some none)
  (hc:∀i,i < n->∀N:Bool->Hp->Prop,N (p i) H->tc ((bV cm σ).set j (some (.int (lo+i)))) H N)
  (hs:∀i,i < n->p i=true->∀N:VK,N (f i) H->te ((bV cm σ).set j (some (.int (lo+i)))) H N)
  (hd:∀b,H b=none->Q (.ref b) (upd H b (.lst (((List.range n).filter p).map f)))) :
  ∃W:Nat->Nat->List V->Hp->Prop,(∃m,W 0 m [] H)/\∀i m acc H,W i m acc H->
   ((Itr lo n).stop i H/\∀p,H p=none->Q (.ref p) (upd H p (.lst acc)))\/
   ((Itr lo n).go i H/\acc.length < sizeLine/\∀x H',(Itr lo n).yld i H x H'->eg j x (bV cm σ) H' fun σ2 H2=>Wk (bV cm σ) σ2/\tc σ2 H2 fun b H3=>if b=true then te σ2 H3 fun v H4=>∃m',m' < m/\W (i+1) m' (acc++[v]) H4 else ∃m',m' < m/\W (i+1) m' acc H3):=by
 refine ⟨fun i m acc H'=>m=n - i/\i<=n/\H'=H/\acc=((List.range i).filter p).map f,⟨n,by simp,Nat.zero_le _,rfl,by simp⟩,?_⟩
 rintro i m acc H' ⟨rfl,hi,rfl,rfl⟩
 by_cases hlt:i < n
 ·have hle:(((List.range i).filter p).map f).length < sizeLine:=by
   rw [JB]
   have:=List.length_filter_le p (List.range i)
   rw [List.length_range] at this
   omega
  refine .inr ⟨hlt,hle,fun x H' y=>?_⟩
  obtain ⟨e,y⟩:=y
  subst e y
  refine ⟨⟨by simp,fun k v e=>?_⟩,hc _ hlt _ ?_⟩
  ·by_cases hk:j=k
   ·subst hk;rw [hj] at e;cases e
   ·rw [List.getElem?_set_ne hk];exact e
  ·have hstep:((List.range (i+1)).filter p).map f=((List.range i).filter p).map f++(if p i then [f i] else []):=by
    rw [List.range_succ,List.filter_append,List.map_append]
    cases hp:p i<;>simp [hp]
   cases hp:p i with
   | true=>
    refine FI (hs _ hlt hp _ ⟨n - (i+1),by omega,rfl,hlt,rfl,?_⟩)
    rw [hstep,hp];rfl
   | false=>
    refine FH ⟨n - (i+1),by omega,rfl,hlt,rfl,?_⟩
    rw [hstep,hp];simp
 ·have e:i=n:=by omega
  subst e
  exact .inl ⟨Nat.le_refl _,hd⟩
section
variable {X:Cx}
def Dr (i j:Int):Prop:=0 < j/\j < 2 ^ 200
theorem Ag:OpR X (binaryOp .FloorDiv) (rI Dr fun i j=>.int (i / j)):=opI fun i j _ _ _ _ _ hc q=>by
 have hj:j.natAbs.log2 < 9000:=by
  have h1:j.natAbs < 2 ^ 200:=by have:=hc.2;have:=hc.1;omega
  have h0:j.natAbs≠0:=by have:=hc.1;omega
  exact Nat.lt_of_lt_of_le ((Nat.log2_lt h0).mpr h1) (by decide)
 have e:i.fdiv j=i / j:=Int.fdiv_eq_ediv_of_nonneg _ (Int.le_of_lt hc.1)
 exact floordiv_int (by have:=hc.1;omega) (by rw [e];exact q) (.inl (PyProof.noPylong_of_log2 hj))
end
theorem bw:bootBuiltins "len"=some (.builtin "len"):=by decide +kernel
theorem aR:bootBuiltins "isinstance"=some (.builtin "isinstance"):=by decide +kernel
theorem w9:bootBuiltins "min"=some (.builtin "min"):=by decide +kernel
theorem Ej:bootBuiltins "abs"=some (.builtin "abs"):=by decide +kernel
theorem gh:bootBuiltins "int"=some (.type "int"):=by decide +kernel
theorem yd:bootBuiltins "bool"=some (.type "bool"):=by decide +kernel
theorem Ah:bootBuiltins "str"=some (.type "str"):=by decide +kernel
theorem ez:bootBuiltins "list"=some (.type "list"):=by decide +kernel
theorem qo:bootBuiltins "tuple"=some (.type "tuple"):=by decide +kernel
theorem Ai:bootBuiltins "range"=some (.type "range"):=by decide +kernel
theorem Ek:bootBuiltins "zip"=some (.type "zip"):=by decide +kernel
noncomputable def Aj (X:Cx)(scope:Scope):Bool:=scope.names.all fun y=>y.2 != .free || (X.env.kindOf y.1 == some .cell || X.env.kindOf y.1 == some .free)
noncomputable def FJ (X:Cx)(scope:Scope)(Nc:List Str)(cm:List (Option Nat)):Bool:=(Nc.zip cm).all fun p=>match p.2 with
 | none=>true
 | some i=>X.N[i]? == some p.1 && (scope.names.lookup p.1 == some .free && (X.env.kindOf p.1 == some .cell || X.env.kindOf p.1 == some .free))
theorem o7 {X:Cx}{tg iter elt:Expr}{ifs:List Expr}{scope:Scope}{pos:Pos}(Nc:List Str)(cm:List (Option Nat)){wi:TI}{g:TG}{tc:TT}{te:TE}
  (hi:PI X tg iter wi) (hg:∀C s₀ H₀ ex,PG (blk X Nc scope C s₀ H₀ ex) tg g) (ht:∀C s₀ H₀ ex,PIf (blk X Nc scope C s₀ H₀ ex) ifs tc) (he:∀C s₀ H₀ ex,PE (blk X Nc scope C s₀ H₀ ex) elt te)
  (hc:X.calm=true:=by rfl) (hkind:scope.kind=.function:=by rfl) (hcell:∀y∈scope.names,y.2≠.cell:=by decide +kernel) (hnames:∀y∈scope.names,y.2=.local->scope.names.lookup y.1=some .local:=by decide +kernel)
  (hfree:Aj X scope=true:=by rfl) (hlen:cm.length=Nc.length:=by rfl) (hcm:FJ X scope Nc cm=true:=by rfl)
  (hs:∀x,foldedSetIterable iter X.env x=pure x:=by intro _;rfl):PE X (.ListComp elt [⟨tg,iter,ifs,0⟩] scope pos) (vo wi g tc te cm):=by
 refine BR hc hi hkind hcell hnames (fun y hy e=>?_) hlen (fun j x i e1 e2=>?_) hg ht he hs
 ·have h:=List.all_eq_true.mp hfree y hy
  rw [e] at h
  simpa using h
 ·have hj:(Nc.zip cm)[j]?=some (x,some i):=by
   rw [List.getElem?_zip_eq_some];exact ⟨e1,e2⟩
  have h:=List.all_eq_true.mp hcm _ (List.mem_of_getElem? hj)
  simpa using h
theorem El {CX:CXT}{P:Program}{w:World}{K:JA}{mg:Str->Option Value}{base:Heap}{N:List Str}{qual:Str}{scope:Scope}{f:Addr}{cd:Value}{A:Around}{outer:List Env}{s:Shared}{H:Hp}{E:XK} :
  (rW CX P w K mg base N qual scope f cd A outer s H E).K=K:=rfl
theorem cM {ns:List Int}{k:Int}(h0:0<=k)(h1:k < ns.length):atI (ns.map V.int) k=some (.int (ns.getD k.toNat 0)):=by
 have hl:k.toNat < ns.length:=by omega
 have q:(ns.map V.int)[k.toNat]?=some (.int (ns.getD k.toNat 0)):=by
  rw [List.getElem?_map,List.getD_eq_getElem?_getD,List.getElem?_eq_getElem hl]
  rfl
 have q2:=xX q
 rw [show ((k.toNat:Nat):Int)=k by omega] at q2
 exact q2
theorem vq {ns:List Int}{k:Nat}(h1:k < ns.length):atI (ns.map V.int) (k:Int)=some (.int (ns.getD k 0)):=by
 have:=cM (ns:=ns) (k:=(k:Int)) (by omega) (by omega)
 simpa using this
theorem Ak {ns:List Int}{k:Nat}(h:ns.length<=k):ns.getD k 0=0:=by
 rw [List.getD_eq_getElem?_getD,List.getElem?_eq_none_iff.mpr h];rfl
structure cq (ds:List Int):Prop where
 l2:2<=ds.length
 l6:ds.length<=6
 lo:∀d∈ds,0<=d
 hi:∀d∈ds,d<=500
 up:ds.Pairwise (· < ·)
theorem cq.get {ds:List Int}(h:cq ds){i:Nat}(hi:i < ds.length):0<=ds.getD i 0/\ds.getD i 0<=500:=by
 rw [List.getD_eq_getElem?_getD,List.getElem?_eq_getElem hi,Option.getD_some]
 exact ⟨h.lo _ (List.getElem_mem hi),h.hi _ (List.getElem_mem hi)⟩
theorem cq.lt {ds:List Int}(h:cq ds){i j:Nat}(hij:i < j)(hj:j < ds.length):ds.getD i 0 < ds.getD j 0:=by
 have hi:i < ds.length:=Nat.lt_trans hij hj
 rw [List.getD_eq_getElem?_getD,List.getElem?_eq_getElem hi,List.getD_eq_getElem?_getD,List.getElem?_eq_getElem hj,Option.getD_some,Option.getD_some]
 exact List.pairwise_iff_getElem.mp h.up i j hi hj hij
noncomputable def bX (ds:List Int):Int:=ds.getD (ds.length - 1) 0
theorem cq.even {n:Nat}{g:Int}(h2:2<=n)(h6:n<=6)(g1:1<=g)(g2:g<=100):cq ((List.range n).map fun (i:Nat)=>g * (i:Int)):=by
 refine ⟨by simpa using h2,by simpa using h6,fun d hd=>?_,fun d hd=>?_,?_⟩
 ·obtain ⟨i,hi,rfl⟩:=List.mem_map.mp hd
  exact Int.mul_nonneg (by omega) (by omega)
 ·obtain ⟨i,hi,rfl⟩:=List.mem_map.mp hd
  have hi':=List.mem_range.mp hi
  have a:g * (i:Int)<=g * 5:=Int.mul_le_mul_of_nonneg_left (by omega) (by omega)
  omega
 ·rw [List.pairwise_map]
  refine List.Pairwise.imp_of_mem (fun {a b} ha hb hab=>?_) List.pairwise_lt_range
  exact Int.mul_lt_mul_of_pos_left (by omega) (by omega)
structure jc (ds:List Int)(l:Int):Prop where
 lo:∀d∈ds,0<=d
 hi:∀d∈ds,d<=l
 up:ds.Pairwise (· < ·)
 l0:-1<=l
theorem jc.nil:jc [] (-1):=⟨by simp,by simp,List.Pairwise.nil,by omega⟩
theorem jc.snoc {ds:List Int}{l r:Int}(h:jc ds l)(h0:0<=r):jc (ds++[l+1+r]) (l+1+r):=by
 have l0:=h.l0
 refine ⟨fun d hd=>?_,fun d hd=>?_,?_,by omega⟩
 ·rcases List.mem_append.mp hd with z | z
  ·exact h.lo d z
  ·have:d=l+1+r:=by simpa using z
   omega
 ·rcases List.mem_append.mp hd with z | z
  ·have:=h.hi d z;omega
  ·have:d=l+1+r:=by simpa using z
   omega
 ·rw [List.pairwise_append]
  refine ⟨h.up,by simp,fun a ha b hb=>?_⟩
  have hb':b=l+1+r:=by simpa using hb
  have:=h.hi a ha;omega
theorem jc.shaft {ds:List Int}{l:Int}(h:jc ds l)(hl:l<=500)(h2:2<=ds.length)(h6:ds.length<=6):cq ds:=
 ⟨h2,h6,h.lo,fun d hd=>Int.le_trans (h.hi d hd) hl,h.up⟩
theorem cq.ends {ds:List Int}(h:cq ds):cq ([0]++(ds.drop 1).take (ds.length - 1 - 1)++[500]):=by
 have l2:=h.l2
 have l6:=h.l6
 have hlen:((ds.drop 1).take (ds.length - 1 - 1)).length=ds.length - 2:=by
  rw [List.length_take,List.length_drop];omega
 have hmem:∀d,d∈(ds.drop 1).take (ds.length - 1 - 1)->0 < d/\d < 500:=fun d hd=>by
  obtain ⟨i,hi,rfl⟩:=List.getElem_of_mem hd
  rw [hlen] at hi
  have e:((ds.drop 1).take (ds.length - 1 - 1))[i]'(by rw [hlen];exact hi)=ds.getD (1+i) 0:=by
   rw [List.getElem_take,List.getElem_drop,List.getD_eq_getElem?_getD,List.getElem?_eq_getElem (by omega)]
   rfl
  rw [e]
  have a:=h.lt (i:=0) (j:=1+i) (by omega) (by omega)
  have b:=h.lt (i:=1+i) (j:=ds.length - 1) (by omega) (by omega)
  have c:=(h.get (i:=0) (by omega)).1
  have d:=(h.get (i:=ds.length - 1) (by omega)).2
  omega
 refine ⟨by simp [hlen]<;>omega,by simp [hlen]<;>omega,fun d hd=>?_,fun d hd=>?_,?_⟩
 ·rcases List.mem_append.mp hd with z | z
  ·rcases List.mem_append.mp z with z | z
   ·have:d=0:=by simpa using z
    omega
   ·have:=hmem d z;omega
  ·have:d=500:=by simpa using z
   omega
 ·rcases List.mem_append.mp hd with z | z
  ·rcases List.mem_append.mp z with z | z
   ·have:d=0:=by simpa using z
    omega
   ·have:=hmem d z;omega
  ·have:d=500:=by simpa using z
   omega
 ·rw [List.pairwise_append,List.pairwise_append]
  refine ⟨⟨by simp,(h.up.drop).take,fun a ha b hb=>?_⟩,by simp,fun a ha b hb=>?_⟩
  ·have ha':a=0:=by simpa using ha
   have:=hmem b hb;omega
  ·have hb':b=500:=by simpa using hb
   rcases List.mem_append.mp ha with z | z
   ·have:a=0:=by simpa using z
    omega
   ·have:=hmem a z;omega
def vt (J:It)(g:TG)(tb:TS)(D:lj)(σ:St)(H1:Hp):Prop:=∃W:Nat->Nat->St->Hp->Prop,(∃m,W 0 m σ H1)/\∀i m σ H,W i m σ H->
 (J.stop i H/\D.nx σ H)\/(J.go i H/\∃N:St->Hp->Prop,(∀σ' H',N σ' H'->∃m',m' < m/\W (i+1) m' σ' H')/\∀x H',J.yld i H x H'->g x σ H' fun σ2 H2=>tb {D with nx:=N,ct:=N,bk:=D.nx} σ2 H2)
theorem BS (wi:TI)(g:TG)(tb:TS)(D:lj)(σ:St)(H:Hp):Fq wi g tb D σ H=wi σ H fun J H1=>vt J g tb D σ H1:=rfl
def o8 (J:It)(g:TG)(tc:TT)(te:TE)(cm:List (Option Nat))(σ:St)(Q:VK)(H1:Hp):Prop:=∃W:Nat->Nat->List V->Hp->Prop,(∃m,W 0 m [] H1)/\∀i m acc H,W i m acc H->
 (J.stop i H/\∀p,H p=none->Q (.ref p) (upd H p (.lst acc)))\/
 (J.go i H/\acc.length < sizeLine/\∀x H',J.yld i H x H'->g x (bV cm σ) H' fun σ2 H2=>Wk (bV cm σ) σ2/\tc σ2 H2 fun b H3=>if b=true then te σ2 H3 fun v H4=>∃m',m' < m/\W (i+1) m' (acc++[v]) H4 else ∃m',m' < m/\W (i+1) m' acc H3)
theorem Al (wi:TI)(g:TG)(tc:TT)(te:TE)(cm:List (Option Nat))(σ:St)(H:Hp)(Q:VK):vo wi g tc te cm σ H Q=wi σ H fun J H1=>o8 J g tc te cm σ Q H1:=rfl
theorem cN {lo:Int}{n:Nat}{g:TG}{tb:TS}{D:lj}{σ:St}{H:Hp}(Pv:Nat->St->Hp->Prop)(h0:Pv 0 σ H)
  (hs:∀i σ H,i < n->Pv i σ H->g (.int (lo+i)) σ H fun σ2 H2=>tb {D with nx:=Pv (i+1),ct:=Pv (i+1),bk:=D.nx} σ2 H2) (hd:∀σ H,Pv n σ H->D.nx σ H):vt (Itr lo n) g tb D σ H:=yR Pv h0 hs hd
theorem kP {K:JA}{a:Addr}(xs:List V){g:TG}{tb:TS}{D:lj}{σ:St}{H:Hp}(Pv:Nat->St->Hp->Prop)(h0:Pv 0 σ H)(hl:∀i σ H,i<=xs.length->Pv i σ H->SqL K H a xs)
  (hs:∀i x σ H,xs[i]?=some x->Pv i σ H->g x σ H fun σ2 H2=>tb {D with nx:=Pv (i+1),ct:=Pv (i+1),bk:=D.nx} σ2 H2) (hd:∀σ H,Pv xs.length σ H->D.nx σ H):vt (Itl K a) g tb D σ H:=zS Pv h0 hl hs hd
theorem uo {lo:Int}{n:Nat}{te:TE}{cm:List (Option Nat)}{σ:St}{H:Hp}{Q:VK}(f:Nat->V)(hn:n<=sizeLine){j:Nat}(hj:(bV cm σ)[j]?=some none)
  (hs:∀i,i < n->∀N:VK,N (f i) H->te ((bV cm σ).set j (some (.int (lo+i)))) H N)
  (hd:∀p,H p=none->Q (.ref p) (upd H p (.lst ((List.range n).map f)))):o8 (Itr lo n) (eg j) vp te cm σ Q H:=qm f hn hj hs hd
theorem fC {lo:Int}{n:Nat}{tc:TT}{te:TE}{cm:List (Option Nat)}{σ:St}{H:Hp}{Q:VK}(p:Nat->Bool)(f:Nat->V)(hn:n<=sizeLine){j:Nat}(hj:(bV cm σ)[j]?=some none)
  (hc:∀i,i < n->∀N:Bool->Hp->Prop,N (p i) H->tc ((bV cm σ).set j (some (.int (lo+i)))) H N)
  (hs:∀i,i < n->p i=true->∀N:VK,N (f i) H->te ((bV cm σ).set j (some (.int (lo+i)))) H N)
  (hd:∀b,H b=none->Q (.ref b) (upd H b (.lst (((List.range n).filter p).map f)))):o8 (Itr lo n) (eg j) tc te cm σ Q H:=nh p f hn hj hc hs hd
theorem o9 {K:JA}{a:Addr}{xs:List V}{tc:TT}{te:TE}{cm:List (Option Nat)}{σ:St}{H:Hp}{Q:VK}(p:V->Bool)(f:V->V)(hl:SqL K H a xs)(hn:xs.length<=sizeLine){j:Nat}(hj:(bV cm σ)[j]?=some none)
  (hc:∀x,x∈xs->∀N:Bool->Hp->Prop,N (p x) H->tc ((bV cm σ).set j (some x)) H N)
  (hs:∀x,x∈xs->p x=true->∀N:VK,N (f x) H->te ((bV cm σ).set j (some x)) H N)
  (hd:∀b,H b=none->Q (.ref b) (upd H b (.lst ((xs.filter p).map f)))):o8 (Itl K a) (eg j) tc te cm σ Q H:=rZ p f hl hn hj hc hs hd
theorem upo {H:Hp}{a b:Addr}{o u:HO}(h:H b=some u)(hn:H a=none):upd H a o b=some u:=by rw [aE (ai h hn)];exact h
theorem upn {H:Hp}{a b:Addr}{o:HO}(h:upd H a o b=none):H b=none:=by
 by_cases e:b=a
 ·subst e;rw [ah] at h;cases h
 ·rw [aE e] at h;exact h
theorem aC.lay {H H':Hp}{a:Addr}{o:HO}(s:aC H H')(hn:H' a=none):aC H (upd H' a o):=fun b u e=>upo (s b u e) hn
theorem aC.rewr {H H':Hp}{a:Addr}{o:HO}(s:aC H H')(hn:H a=none):aC H (upd H' a o):=fun b u e=>by rw [aE (ai e hn)];exact s b u e
theorem BU {n d:Nat}(h:1<=n):HT.sIx n d (some 1)=1:=by
 have:=HT.xU n d 1
 rw [show ((1:Nat):Int)=1 from rfl] at this
 omega
theorem Em {n d:Nat}(h:1<=n):HT.sIx n d (some (-1))=n - 1:=by
 have:=HT.BL (-1) n d
 rw [if_pos (by decide)] at this
 omega
theorem Am (ds:List Int)(h:2<=ds.length):rX (ds.map V.int) (some 1) (some (-1))=((ds.drop 1).take (ds.length - 1 - 1)).map V.int:=by
 unfold rX
 rw [JB,BU (by omega),Em (by omega),List.map_take,List.map_drop]
theorem jY {ds:List Int}(h:0 < ds.length):atI (ds.map V.int) (-1)=some (.int (bX ds)):=by
 unfold atI ixN
 rw [if_neg (by decide),JB,if_pos (by omega),Option.bind_some,List.getElem?_map,show (-1+(ds.length:Int)).toNat=ds.length - 1 by omega,List.getElem?_eq_getElem (by omega)]
 unfold bX
 rw [List.getD_eq_getElem?_getD,List.getElem?_eq_getElem (by omega)]
 rfl
theorem tE (ds:List Int):(ds.map V.int).all a7=true:=by
 rw [List.all_eq_true]
 intro x hx
 obtain ⟨d,_,rfl⟩:=List.mem_map.mp hx
 rfl
theorem uq (a b:Int):eqV (.int a) (.int b)=decide (a=b):=by
 simp [eqV,Bool.beq_eq_decide_eq]
theorem ni (d:Int)(ds:List Int):inV (.int d) (ds.map V.int)=decide (d∈ds):=by
 unfold inV
 rw [List.any_map]
 by_cases h:d∈ds
 ·rw [decide_eq_true h,List.any_eq_true]
  exact ⟨d,h,by simp [uq]⟩
 ·rw [decide_eq_false h,List.any_eq_false]
  intro x hx
  simp [uq]
  rintro rfl
  exact h hx
theorem nj {xs:List Int}{i:Nat}{x:V}(h:(xs.map V.int)[i]?=some x):∃z,x=V.int z/\xs[i]?=some z/\z∈xs:=by
 rw [List.getElem?_map] at h
 cases e:xs[i]? with
 | none=>rw [e] at h;cases h
 | some z=>rw [e] at h;exact ⟨z,(Option.some.inj h).symm,rfl,List.mem_of_getElem? e⟩
theorem ye (d x y:Int):inV (.int d) [.int x,.int y]=decide (d=x\/d=y):=by
 have:=ni d [x,y]
 simpa [eq_comm] using this
end L2
namespace L2
theorem BV {x y i:Int}(h:i=0\/i=1):∃m,(m=x\/m=y)/\atI [V.int x,V.int y] i=some (.int m):=by
 rcases h with rfl | rfl
 ·exact ⟨x,.inl rfl,rfl⟩
 ·exact ⟨y,.inr rfl,rfl⟩
end L2
namespace L2
open PySem PySem.Spec PyProof.Rows
noncomputable def CXf (P:Program)(w:World):CXT:=fun outer H s E e s'=>
 ∃(x:Addr) (cls a0:Value) (H':Hp) (B:Heap),e=.ref x/\s'.os=s.os/\AllBare s'.gens/\Un (frs outer) [] H H' s.heap s'.heap/\HOk P w H' s'.heap/\Heap.FlyingW B outer x cls a0 s'.heap/\
  (∀b o,s'.heap.get? b=some o->(H' b≠none\/∃o0,s.heap.get? b=some o0)->b∉frs outer->B.get? b=some o)/\(∀o,s.heap.get? x≠some o)/\H' x=none/\E cls none H'
theorem fh.there {P:Program}{w:World}{H:Hp}{h:Heap}{a:Addr}{o:HO}(l:fh P w H h a o):∃ob,h.get? a=some ob:=by
 cases o with
 | lst xs=>obtain ⟨_,its,n,_,e⟩:=l;exact ⟨_,e⟩
 | tup xs=>obtain ⟨_,its,_,ob,e,_⟩:=l;exact ⟨_,e⟩
 | dK kvs=>obtain ⟨_,_,_,_,ob,_,_,e,_⟩:=l;exact ⟨_,e⟩
 | dT kvs=>obtain ⟨_,_,_,_,ob,_,_,e,_⟩:=l;exact ⟨_,e⟩
 | set S n=>obtain ⟨ob,_,_,_,e,_⟩:=l;exact ⟨_,e⟩
 | ins C dx fs=>obtain ⟨_,_,_,e,_⟩:=l;exact ⟨_,e⟩
 | own y=>exact l
 | xd fs=>obtain ⟨mA,⟨od,_,_,e,_⟩,_⟩:=l;exact ⟨_,e⟩
 | rng lo hi=>obtain ⟨_,_,_,e⟩:=l;exact ⟨_,e⟩
 | frz ob u=>obtain ⟨e,_⟩:=l;exact ⟨_,e⟩
 | tbl ps=>exact ⟨_,l⟩
 | met f y=>exact ⟨_,l⟩
 | ext φ=>obtain ⟨_,h,_⟩:=l;exact h
section
variable {P:Program}{w:World}{K:JA}{mg:Str->Option Value}{base:Heap}{N:List Str}{qual:Str}{scope:Scope}{f:Addr}{cd:Value}{A:Around}{outer:List Env}{s:Shared}{H:Hp}{E:XK}
noncomputable abbrev cxF (P:Program)(w:World)(K:JA)(mg:Str->Option Value)(base:Heap)(N:List Str)(qual:Str)(scope:Scope)(f:Addr)(cd:Value)(A:Around)(outer:List Env)(s:Shared)(H:Hp)(E:XK):Cx:=
 rW (CXf P w) P w K mg base N qual scope f cd A outer s H E
theorem yf {pins:List (Addr×Obj)}{σ:St}{H1:Hp}{s1:Shared}{h2:Heap}{x:Addr}{cls a0:Value}{B:Heap}(I:Inv (cxF P w K mg base N qual scope f cd A outer s H E) pins σ H1 s1)
  (hB:∀b o,s1.heap.get? b=some o->(H1 b≠none\/∃o0,s.heap.get? b=some o0)->b∉frs (cxF P w K mg base N qual scope f cd A outer s H E).stack->B.get? b=some o)
  (hfl:Heap.FlyingW B outer x cls a0 h2) (hsl:∀b o,s1.heap.get? b=some o->(∀vs,o.data≠.fields vs)->∃sl,h2.get? b=some {o with slots:=sl}) (hx:∀o,s.heap.get? x≠some o) (hx1:H1 x=none) (q:E cls none H1) :
  CXf P w outer H s E (.ref x) {s1 with heap:=h2}:=by
 have neL:∀b o,s.heap.get? b=some o->b≠s.heap.objs.size:=fun b o e=>Nat.ne_of_lt (Heap.lt_size e)
 have stk:∀b,b∈frs (cxF P w K mg base N qual scope f cd A outer s H E).stack->b=s.heap.objs.size\/b∈frs outer:=fun b hb=>by
  rcases List.mem_cons.mp (I.stkSub b hb) with z | z
  ·exact .inl z
  ·exact .inr z
 have hfree:H1 s.heap.objs.size=none:=I.free
 have st:B.StaysIn h2:=hfl.1
 have frD:∀b∈frs outer,∃o,s.heap.get? b=some o/\∀vs,o.data≠.fields vs:=fun b hb=>(I.ok.funs.mem hb).2
 have u:=I.base
 have nf:∀b o,s.heap.get? b=some o->b∉frs outer->b∉frs (cxF P w K mg base N qual scope f cd A outer s H E).stack:=fun b o e hb z=>(stk b z).elim (neL b o e) hb
 have up:∀b∈frs outer,∀o,s.heap.get? b=some o->∃sl,h2.get? b=some {o with slots:=sl}:=fun b hb o e=>by
  obtain ⟨o',e',d⟩:=frD b hb
  rw [e] at e';cases e'
  obtain ⟨sl,q1⟩:=u.any (b:=b) e (I.ok.frf b hb) (by intro z;exact nomatch z)
  obtain ⟨sl',q2⟩:=hsl b _ q1 d
  exact ⟨sl',q2⟩
 refine ⟨x,cls,a0,H1,B,rfl,I.os,I.bare,⟨fun b o e n hb _=>?_,fun b o e n hb _=>up b hb o e,u.free,fun b o e _=>?_,u.tups,u.frzs,u.tbls⟩,fun b o e=>?_,hfl,fun b o e hh hb=>?_,hx,hx1,q⟩
 ·exact st b o (hB b o (u.keep b o e n hb (by intro z;exact nomatch z)) (.inr ⟨o,e⟩) (nf b o e hb))
 ·by_cases hb:b∈frs outer
  ·obtain ⟨sl,q⟩:=up b hb o e
   exact ⟨_,q⟩
  ·obtain ⟨o',e'⟩:=u.there b o e (by intro z;exact nomatch z)
   exact ⟨o',st b o' (hB b o' e' (.inr ⟨o,e⟩) (nf b o e hb))⟩
 ·have ne:b≠s.heap.objs.size:=fun z=>by rw [z,hfree] at e;cases e
  have inB:∀c v,H1 c≠none->s1.heap.get? c=some v->h2.get? c=some v:=fun c v hc q=>st c v (hB c v q (.inl hc) fun z=>by
   rcases stk c z with y | y
   ·rw [y] at hc;exact hc hfree
   ·obtain ⟨o',e',_⟩:=frD c y
    exact hc (u.free c o' e' (I.ok.frf c y) (by intro z;exact nomatch z)))
  refine (I.hok b o e).stay (fun c v hc q=>inB c v ?_ q) (fun _ q=>q) fun _ _ q=>q
  rcases hc with z | z
  ·rw [z,e];simp
  ·rw [z];simp
 ·
  have there1:∃o1,s1.heap.get? b=some o1:=by
   rcases hh with z | ⟨o0,z⟩
   ·cases q:H1 b with
    | none=>exact absurd q z
    | some v=>exact (I.hok b v q).there
   ·exact u.there b o0 z (by intro z;exact nomatch z)
  obtain ⟨o1,e1⟩:=there1
  have nfb:b∉frs (cxF P w K mg base N qual scope f cd A outer s H E).stack:=fun z=>by
   rcases stk b z with y | y
   ·rcases hh with t | ⟨o0,t⟩
    ·rw [y] at t;exact t hfree
    ·exact neL b o0 t y
   ·exact hb y
  have e2:=hB b o1 e1 hh nfb
  have e3:=st b o1 e2
  have e':h2.get? b=some o:=e
  rw [e3] at e';cases e'
  exact e2
theorem y3 {pins:List (Addr×Obj)}{σ:St}{H1:Hp}{s1:Shared}{h':Heap}{x:Addr}{cls:Value}{args:List Value}(I:Inv (cxF P w K mg base N qual scope f cd A outer s H E) pins σ H1 s1)
  (hx:Heap.MadeExcOf s1.heap h' x cls args) (q:E cls none H1):(cxF P w K mg base N qual scope f cd A outer s H E).xe (.ref x) {s1 with heap:=h'}:=by
 have hn:=hx.new
 have hin:∀env∈(cxF P w K mg base N qual scope f cd A outer s H E).stack,∀b,env.frame=some b->b∈frs (cxF P w K mg base N qual scope f cd A outer s H E).stack:=fun env he b hb=>List.mem_filterMap.mpr ⟨env,he,hb⟩
 have hx1:H1 x=none:=by
  cases q:H1 x with
  | none=>rfl
  | some v=>
   obtain ⟨ob,e⟩:=(I.hok x v q).there
   rw [hn] at e;cases e
 refine wpAny_leaves_madeW (base:=W.hideAll s1.heap (frs (cxF P w K mg base N qual scope f cd A outer s H E).stack)) (h:=s1.heap) (s:={s1 with heap:=h'}) I.ok.frames rfl (fun b o q=>W.of_hideAll _ q) (W.funFrames_hide I.stack hin) hx fun h2 t f1 f2 f3 f4=>?_
 refine yf (s1:=s1) I (fun b o e _ hb=>W.hideAll_get _ e hb) f1 (fun b o e d=>f4 b o (hx.keeps b o e) d) (fun o e=>?_) hx1 q
 obtain ⟨o',e'⟩:=I.base.there x o e (by intro z;exact nomatch z)
 rw [hn] at e';cases e'
theorem cV:eh (CXf P w) (cxF P w K mg base N qual scope f cd A outer s H E) E:=by
 rintro pins σ H1 s1 e s2 I ⟨x,cls,a0,H2,B,rfl,os,bare,un,hok,hfl,hB,hx,hx2,q⟩
 have I2:Inv (cxF P w K mg base N qual scope f cd A outer s H E) pins σ H2 s2:=I.call' os un hok bare fun b hb=>absurd hb (by simp)
 refine wpAny_leaves_onW (s:=s2) I.ok.frames rfl hfl fun h2 f1 f2=>?_
 refine yf I2 (fun b o e hh hb=>hB b o e ?_ hb) f1 (fun b o e d=>f2 b o e d) (fun o e=>?_) hx2 q
 ·rcases hh with z | ⟨o0,z⟩
  ·exact .inl z
  ·obtain ⟨o1,e1⟩:=I.base.there b o0 z (by intro z;exact nomatch z)
   exact .inr ⟨o1,e1⟩
 ·obtain ⟨o1,e1⟩:=I.base.there x o e (by intro z;exact nomatch z)
  exact hx o1 e1
theorem y4:PassesOwn (model P w) (cxF P w K mg base N qual scope f cd A outer s H E).A (cxF P w K mg base N qual scope f cd A outer s H E).env (cxF P w K mg base N qual scope f cd A outer s H E).xe:=PassesOwn.leaving
structure ExC (K:JA)(C:Addr):Prop where
 ex:∃(nm q:Str) (N:Addr) (bs bm:List Value) (hdct:Bool) (sn:List Str) (sub:List Value) (ab:Bool) (col:Option Bool) (dd:Option Addr) (k0 k1 k2 k3 k5:Option Value) (mN:Str->Option Value),
  ∀h,K.In h->h.get? C=some (excClassObj nm q C N bs bm hdct sn sub ab col dd k0 k1 k2 k3 k5 "ValueError.__new__")/\h.Ns N mN/\(∀n∈quietNames,mN n=none)/\OwnTailQ h [.type "ValueError",.type "Exception",.type "BaseException",.type "object"] bm
noncomputable def kQ (es:Array DictEntry):Bool:=es.toList.all fun e=>match e.key with | .str _ _=>true | _=>false
theorem Ds {K:JA}{h:Heap}{N:Addr}{c:Value}{d:Option Addr}{es:Array DictEntry}{ep:Nat}{sl:Array (Option Value)}(X:K.In h)(l:K.lookup N=some ⟨c,d,.dict es ep,sl⟩)(k:kQ es=true):h.Ns N (nsFind es):=by
 refine ⟨_,es,ep,X _ _ l,rfl,fun e he=>?_,fun _=>rfl⟩
 have z:=List.all_eq_true.mp k e (by simpa using he)
 split at z
 ·rename_i n t q;exact ⟨n,t,q⟩
 ·cases z
theorem En {K:JA}{C N C0 N0:Addr}{nm q:Str}{bs:List Value}{hdct:Bool}{sn:List Str}{sub:List Value}{ab:Bool}{col:Option Bool}{dd:Option Addr}{k0 k1 k2 k3 k5:Option Value}
  {c1 c2 c0:Value} {d1 d2 dd0:Option Addr} {es es0:Array DictEntry} {ep ep0:Nat} {sl1 sl2 sl0:Array (Option Value)} {cd0:ClassData}
  (lC:K.lookup C=some (excClassObj nm q C N bs [.ref C0,.type "ValueError",.type "Exception",.type "BaseException",.type "object"] hdct sn sub ab col dd k0 k1 k2 k3 k5 "ValueError.__new__"))
  (lN:K.lookup N=some ⟨c1,d1,.dict es ep,sl1⟩) (kN:kQ es=true) (iN:(quietNames.all fun n=>(nsFind es n).isNone)=true)
  (l0:K.lookup C0=some ⟨c0,dd0,.cls cd0,sl0⟩) (e0:cd0.ns=N0) (lN0:K.lookup N0=some ⟨c2,d2,.dict es0 ep0,sl2⟩) (kN0:kQ es0=true) (iN0:(quietNames.all fun n=>(nsFind es0 n).isNone)=true):ExC K C:=
 ⟨nm,q,N,bs,_,hdct,sn,sub,ab,col,dd,k0,k1,k2,k3,k5,nsFind es,fun h X=>⟨X _ _ lC,Ds X lN kN,fun n hn=>Option.isNone_iff_eq_none.mp (List.all_eq_true.mp iN n hn),.own (X _ _ l0) (e0▸Ds X lN0 kN0) (fun n hn=>Option.isNone_iff_eq_none.mp (List.all_eq_true.mp iN0 n hn)) .base⟩⟩
noncomputable def An (E:XK)(C:Addr)(t:TA):TS:=fun _ σ H=>t σ H fun vs H1=>vs.length<=sizeLine/\E (.ref C) none H1
theorem bC {x:Str}{C:Addr}{e:Expr}{es:List Expr}{t:TA}{np cpos pos:Pos}(O:ExC K C)(hg:Gl (cxF P w K mg base N qual scope f cd A outer s H E) x)(hm:mg x=some (.ref C))
  (ha:PA (cxF P w K mg base N qual scope f cd A outer s H E) (e::es) t) (hdb:(x == ("__debug__":Str))=false:=by decide)
  (he:starEach (e::es) (cxF P w K mg base N qual scope f cd A outer s H E).env=(false,eval e (cxF P w K mg base N qual scope f cd A outer s H E).env)::starEach es (cxF P w K mg base N qual scope f cd A outer s H E).env:=by rfl)
  (hpl:(backTo cpos (starEach es (cxF P w K mg base N qual scope f cd A outer s H E).env)).any (·.1)=false:=by rfl) :
  PS (cxF P w K mg base N qual scope f cd A outer s H E) (.Raise (some (.Call (.Name x np) (e::es) [] cpos)) none pos) (An E C t):=by
 intro pins s1 σ H1 D I h
 obtain ⟨nm,q,N,bs,bm,hdct,sn,sub,ab,col,dd,k0,k1,k2,k3,k5,mN,O⟩:=O.ex
 obtain ⟨_,_,hni,T0⟩:=O _ I.kIn
 refine wpAny_Raise_call_subU (C:=C) (nm:=nm) (q:=q) (N:=N) (bs:=bs) (bm:=bm) (hdct:=hdct) (sn:=sn) (sub:=sub) (ab:=ab) (col:=col) (dd:=dd) (k0:=k0) (k1:=k1) (k2:=k2) (k3:=k3) (k5:=k5)
  PySem.F.excBase_ValueError (by decide +kernel) PySem.F.excBase_ValueError (mN:=mN) (T0.tail.hasType PySem.F.excBase_ValueError.hasBase) (I.ok.hd rfl) (by rw [he];show (false || (backTo cpos (starEach es _)).any (·.1))=false;rw [hpl];rfl) (hni _ (.head _)) (mV I hg hm ⟨rfl,?_⟩ hdb)
 have ha':=ha cpos pins s1 σ H1 _ I h
 rw [he] at ha' ⊢
 refine Calls.evalArgs_plain (wpAny_mono ha' (fun us s2 h2=>?_) fun _ _ y=>y)
 obtain ⟨vs,H2,I2,rv,hlen,qE⟩:=h2
 obtain ⟨a1,a2,_,a4⟩:=O _ I2.kIn
 exact ⟨rfl,by rw [←rv.length];exact hlen,a1,a2,a4.tail,fun h' e hx=>y3 I2 hx qE⟩
theorem Fun.okF {x qual:Str}{st:Stmt}{f:Addr}{fd:FuncData}{N ps:List Str}{k:Nat}{sp:Sp}(F:Fun K x qual st f fd)(S:az N ps (aj st))(len:∀vs H Q E,sp vs H Q E->vs.length=ps.length)
  (hbody:∀(cdv:Value) (A:Around) (outer:List Env) (s:Shared) (H:Hp) (vs:List V) (Q:VK) (E:XK),cH k (A.deeper (envOfC qual (aj st) s.heap.objs.size f cdv))->sp vs H Q E->
   ∃t,PSs (cxF P w K mg base N qual (aj st) f cdv A outer s H E) (bQ st) t/\t {nx:=fun _ H'=>Q .non H',rt:=Q} (jJ N vs) H):fi P w K mg base (CXf P w) (k+1) f fd ps sp:=by
 obtain ⟨oc,od,kV,doc,pm,an,cdv,ct,osl,rfl,lk,hcd⟩:=F.ex
 refine Dn lk hcd S len fun A outer s H vs Q E hr hsp=>?_
 exact hbody cdv A outer s H vs Q E hr hsp
end
noncomputable abbrev XT:=Value->St->Hp->Prop
noncomputable def Xt (X:Cx)(pins:List (Addr×Obj))(E':XT):Cx:=
 {X with pn:=X.pn++pins,xe:=fun e s'=>∃σ H s,Inv X pins σ H s/\CXf X.prog X.w X.stack H s (fun cls _ H'=>E' cls σ H') e s'}
noncomputable def Xh (X:Cx)(e:Value):Cx:={X with A:=X.A.mark (some e),calm:=false,xe:=fun _ _=>False}
section
variable {X:Cx}{pins pins':List (Addr×Obj)}{σ:St}{H:Hp}{s:Shared}{E':XT}{e:Value}
theorem Cx.Ok.toT (ok:X.Ok):(Xt X pins E').Ok:=⟨ok.mod,ok.kind,ok.glob,ok.blt,ok.above,ok.inj,ok.has,ok.cab,ok.hd,ok.frames,ok.stk,ok.exf,ok.bs,ok.bsz,ok.noex,ok.exfs,ok.funs,ok.frf⟩
theorem Cx.Ok.ofT (ok:(Xt X pins E').Ok):X.Ok:=⟨ok.mod,ok.kind,ok.glob,ok.blt,ok.above,ok.inj,ok.has,ok.cab,ok.hd,ok.frames,ok.stk,ok.exf,ok.bs,ok.bsz,ok.noex,ok.exfs,ok.funs,ok.frf⟩
theorem Inv.toT (I:Inv X pins σ H s):Inv (Xt X pins E') [] σ H s:=⟨I.ok.toT,I.os,I.bare,I.base,I.loc,I.cell,I.free,I.freeC,fun p hp=>I.pin p (by simpa [Xt] using hp),I.hok,I.len⟩
theorem Inv.ofT (I:Inv (Xt X pins E') pins' σ H s):Inv X pins σ H s:=⟨I.ok.ofT,I.os,I.bare,I.base,I.loc,I.cell,I.free,I.freeC,fun p hp=>I.pin p (List.mem_append_left _ hp),I.hok,I.len⟩
theorem Inv.toH (I:Inv X pins σ H s):Inv (Xh X e) pins σ H s:=
 ⟨⟨I.ok.mod,I.ok.kind,I.ok.glob,I.ok.blt,I.ok.above,I.ok.inj,I.ok.has,I.ok.cab,fun z=>(Bool.false_ne_true z).elim,I.ok.frames,I.ok.stk,I.ok.exf,I.ok.bs,I.ok.bsz,I.ok.noex,I.ok.exfs,I.ok.funs,I.ok.frf⟩,I.os,I.bare,I.base,I.loc,I.cell,I.free,I.freeC,I.pin,I.hok,I.len⟩
theorem Inv.ofH (ok:X.Ok)(I:Inv (Xh X e) pins σ H s):Inv X pins σ H s:=⟨ok,I.os,I.bare,I.base,I.loc,I.cell,I.free,I.freeC,I.pin,I.hok,I.len⟩
theorem Inv.flown {H1:Hp}{s1:Shared}{h2:Heap}{B:Heap}(I:Inv X pins σ H s)(os:s1.os=s.os)(bare:AllBare s1.gens)(un:Un (frs X.stack) [] H H1 s.heap s1.heap)(hok:HOk X.prog X.w H1 s1.heap)
  (hB:∀b o,s1.heap.get? b=some o->(H1 b≠none\/∃o0,s.heap.get? b=some o0)->b∉frs X.stack->B.get? b=some o) (st:B.StaysIn h2) (hsl:s1.heap.UpToSlots h2):Inv X pins σ H1 {s1 with heap:=h2}:=by
 have frD:∀b∈frs X.stack,∃o,s.heap.get? b=some o/\∀vs,o.data≠.fields vs:=fun b hb=>(I.stack.mem hb).2
 have up:∀b∈frs X.stack,∀o,s.heap.get? b=some o->∃sl,h2.get? b=some {o with slots:=sl}:=fun b hb o e=>by
  obtain ⟨o',e',d⟩:=frD b hb
  rw [e] at e';cases e'
  obtain ⟨sl,q1⟩:=un.any (b:=b) e (I.stkFree b hb) (by intro z;exact nomatch z)
  obtain ⟨sl',q2⟩:=hsl b _ q1 d
  exact ⟨sl',q2⟩
 refine I.call' (s':={s1 with heap:=h2}) (ch:=[]) os ⟨fun b o e n hb _=>?_,fun b o e n hb _=>up b hb o e,un.free,fun b o e _=>?_,un.tups,un.frzs,un.tbls⟩ (fun b o e=>?_) bare fun b hb=>absurd hb (by simp)
 ·exact st b o (hB b o (un.keep b o e n hb (by intro z;exact nomatch z)) (.inr ⟨o,e⟩) hb)
 ·by_cases hb:b∈frs X.stack
  ·obtain ⟨sl,q⟩:=up b hb o e
   exact ⟨_,q⟩
  ·obtain ⟨o',e'⟩:=un.there b o e (by intro z;exact nomatch z)
   exact ⟨o',st b o' (hB b o' e' (.inr ⟨o,e⟩) hb)⟩
 ·have inB:∀c v,H1 c≠none->s1.heap.get? c=some v->h2.get? c=some v:=fun c v hc q=>st c v (hB c v q (.inl hc) fun z=>by
   obtain ⟨o',e',_⟩:=frD c z
   exact hc (un.free c o' e' (I.stkFree c z) (by intro z;exact nomatch z)))
  refine (hok b o e).stay (fun c v hc q=>inB c v ?_ q) (fun _ q=>q) fun _ _ q=>q
  rcases hc with z | z
  ·rw [z,e];simp
  ·rw [z];simp
noncomputable def Ao (y:Addr)(cls:Value):HO:=.ext fun h=>∃o vs,h.get? y=some o/\o.cls=cls/\o.data=.fields vs
theorem y6 {H1:Hp}{s1:Shared}{x:Addr}{cls:Value}{oe:Obj}{vs:Array Value}(I0:Inv X pins σ H s)(I:Inv X pins σ H1 s1)(hx:∀o,s.heap.get? x≠some o)(hx1:H1 x=none)(he:s1.heap.get? x=some oe)(hc:oe.cls=cls)(hd:oe.data=.fields vs)
  (hxl:x≠X.env.locals) (hxc:∀y c,X.env.cells.lookup y=some c->c≠x):Inv X pins σ (upd H1 x (Ao x cls)) s1:=by
 have hb:∀b u,X.s₀.heap.get? b=some u->b∉X.ex->b≠x:=fun b u e hbx z=>by
  obtain ⟨o',e'⟩:=I0.base.there b u e hbx
  rw [z] at e'
  exact hx o' e'
 refine ⟨I.ok,I.os,I.bare,⟨I.base.keep,I.base.slot,fun b u e n hbx=>?_,I.base.there,fun b xs e=>?_,fun b u xs e=>?_,fun b ps e=>?_⟩,I.loc,I.cell,?_,fun y c e=>?_,fun p hpp=>?_,fun b u e=>?_,I.len⟩
 ·rw [aE (hb b u e hbx)];exact I.base.free b u e n hbx
 ·have q:=I.base.tups b xs e;rw [aE (ai q hx1)];exact q
 ·have q:=I.base.frzs b u xs e;rw [aE (ai q hx1)];exact q
 ·obtain ⟨more,q⟩:=I.base.tbls b ps e;exact ⟨more,by rw [aE (ai q hx1)];exact q⟩
 ·rw [aE (Ne.symm hxl)];exact I.free
 ·rw [aE (hxc y c e)];exact I.freeC y c e
 ·obtain ⟨a,b,c⟩:=I.pin p hpp
  refine ⟨a,?_,c⟩
  rw [aE (fun z=>?_)];exact b
  have:=(I0.pin p hpp).1
  rw [z] at this
  exact hx _ this
 ·by_cases hbb:b=x
  ·subst hbb;rw [ah] at e;cases e
   exact ⟨⟨oe,vs,he,hc,hd⟩,⟨oe,he⟩,fun h1 h2 ⟨o,v,a,b,c⟩ k=>⟨o,v,k _ a,b,c⟩⟩
  ·rw [aE hbb] at e
   exact (I.hok b u e).stay (fun c v _ q=>q) (fun c q=>by rw [aE (ai q hx1)];exact q) fun c xs q=>by rw [aE (ai q hx1)];exact q
theorem kR {i:Nat}{n:Str}{pos:Pos}{A:Around}{M:Model}{Er:Value->Shared->Prop}{Q:Unit->Shared->Prop}(I:Inv X pins σ H s)(hN:X.N.Nodup)(hi:X.N[i]?=some n)(hk:X.env.scope.names.lookup n=some .local)
  (h:∀s',Inv X pins (σ.set i none) H s'->Q () s'):wpAny M A (do bindName X.env n .none;unbindBehindTheSuite X.env n pos) Q Er s:=by
 refine wpAny_bind (wpAny_bindName (mU (v:=V.non) I hN hi (.inl hk) rfl (fun s1 I1=>?_) (.inr hk)))
 unfold unbindBehindTheSuite
 refine wpAny_onRaise ?_
 obtain ⟨m,hn,hl⟩:=id I1.loc
 have hiσ:i < σ.length:=by rw [I.len];exact (List.getElem?_eq_some_iff.mp hi).1
 obtain ⟨u,ru,lk⟩:=hl i n .non hi (List.getElem?_set_self hiσ) (.inl hk)
 have hv:m n=some u:=by
  rcases lk with ⟨_,z⟩ | ⟨z,_⟩
  ·exact z
  ·have hk':X.env.kindOf n=some .local:=hk
   rcases z with z | z
   ·rw [hk'] at z;cases z
   ·rw [hk'] at z;cases z
 have hcls:(X.env.scope.kind == .class || (X.env.scope.kind == .module && X.env.locals != X.env.globals))=false:=by rw [I.ok.kind];rfl
 refine wpAny_unbindName_local hk hn hv hcls fun h' u' hn' hs=>?_
 have ne:∀b o,X.s₀.heap.get? b=some o->b≠X.env.locals:=fun b o e=>Nat.ne_of_lt (Nat.lt_of_lt_of_le (Heap.lt_size e) I.ok.above)
 refine h _ ⟨I1.ok,I1.os,I1.bare,⟨fun b o e n hb hx=>(hs.2 b (ne b o e)).trans (I1.base.keep b o e n hb hx),fun b o e n hb hx=>?_,I1.base.free,fun b o e hx=>?_,I1.base.tups,I1.base.frzs,I1.base.tbls⟩,⟨_,hn',fun j y v' e1 e2 e3=>?_⟩,fun y c e=>?_,I1.free,I1.freeC,fun p hp=>?_,fun b ob e=>?_,?_⟩
 ·obtain ⟨sl,e1⟩:=I1.base.slot b o e n hb hx
  exact ⟨sl,(hs.2 b (ne b o e)).trans e1⟩
 ·obtain ⟨o',e1⟩:=I1.base.there b o e hx
  exact ⟨o',(hs.2 b (ne b o e)).trans e1⟩
 ·by_cases hj:j=i
  ·subst hj
   rw [List.getElem?_set_self hiσ] at e2
   cases e2
  ·rw [List.getElem?_set_ne (Ne.symm hj)] at e2
   obtain ⟨u2,r2,q⟩:=hl j y v' e1 (by rw [List.getElem?_set_ne (Ne.symm hj)];exact e2) e3
   refine ⟨u2,r2,?_⟩
   rcases q with ⟨k,e⟩ | ⟨k,c,e,z⟩
   ·refine .inl ⟨k,?_⟩
    have:y≠n:=fun e=>hj (qh hN e1 (e▸hi))
    simp [this,e]
   ·exact .inr ⟨k,c,e,z.sameBut hs (I1.cne y c e)⟩
 ·obtain ⟨w',z⟩:=I1.cell y c e
  exact ⟨w',z.sameBut hs (I1.cne y c e)⟩
 ·obtain ⟨e,n,ne',nf,d⟩:=I1.pin p hp
  exact ⟨(hs.2 p.1 ne').trans e,n,ne',nf,d⟩
 ·refine (I1.hok b ob e).stay (fun c w' hc q=>(hs.2 c ?_).trans q) (fun _ q=>q) fun _ _ q=>q
  rintro rfl
  rcases hc with z | z
  ·rw [←z,I1.free] at e;cases e
  ·rw [I1.free] at z;cases z
 ·rw [List.length_set];exact I.len
end
section
variable {X:Cx}
noncomputable def FK (K:JA)(C:Addr)(i:Nat)(tb:XT->TS)(th:TS):TS:=fun D σ H=>
 tb (fun cls σ' H'=>W.exmOne K cls (.ref C)=some true/\∀y,H' y=none->
  th {nx:=fun σ H=>D.nx (σ.set i none) H,rt:=D.rt,bk:=fun σ H=>D.bk (σ.set i none) H,ct:=fun σ H=>D.ct (σ.set i none) H} (σ'.set i (some (.ref y))) (upd H' y (Ao y cls))) D σ H
theorem Eo {body suite:List Stmt}{b₀:Stmt}{x n:Str}{C:Addr}{i:Nat}{tb:XT->TS}{th:TS}{np hpos pos:Pos}(hst:X.stack=X.env::X.outer)(hfr:X.env.frame=some X.env.locals)
  (hb:∀pins E',PSs (Xt X pins E') body (tb E')) (hh:∀e,PSs (Xh X e) (b₀::suite) th) (hN:X.N.Nodup) (hi:X.N[i]?=some n) (hk:X.env.scope.names.lookup n=some .local) (hg:Gl X x) (hm:X.mg x=some (.ref C))
  (hdb:(x == ("__debug__":Str))=false:=by decide):PS X (.Try body [.ExceptHandler (some (.Name x np)) (some n) (b₀::suite) hpos] [] [] pos) (FK X.K C i tb th):=by
 intro pins s σ H D I h
 refine wpAny_Try_except (wpAny_mono (hb pins _ [] s σ H D I.toT h) (fun f s1 h1=>?_) fun e s1 h1=>?_)
 ·cases f with
  | next=>obtain ⟨σ',H',J,q⟩:=h1;exact wpAny_execs_nil ⟨σ',H',J.ofT,q⟩
  | brk=>obtain ⟨σ',H',J,q⟩:=h1;exact ⟨σ',H',J.ofT,q⟩
  | cont=>obtain ⟨σ',H',J,q⟩:=h1;exact ⟨σ',H',J.ofT,q⟩
  | ret u=>obtain ⟨v,σ',H',J,r,q⟩:=h1;exact ⟨v,σ',H',J.ofT,r,q⟩
 ·obtain ⟨σ0,H0,s0,I0,y,cls,a0,H1,B,rfl,os,bare,un,hok,hfl,hB,hx,hx1,em,q⟩:=h1
  have frames:X.A.frames=some (X.env::X.outer):=by rw [←hst];exact I0.ok.frames
  rw [hst] at hfl
  refine wpAny_looks_onW frames hfr hfl fun h4 held4 sm4=>wpAny_landsW held4 fun h5 fl5 sm5=>?_
  have I5:Inv X pins σ0 H1 {s1 with heap:=h5}:=I0.flown os bare un hok hB fl5.1 (sm4.trans sm5)
  refine wpAny_handleBy_cons (codeAny_handlers_test (mV (X:=Xh X (.ref y)) (I5.toH) hg hm ?_ hdb)) (by intro q;cases q)
  obtain ⟨ob,hob,hobc⟩:=fl5.there
  have LT:W.Looks (model X.prog X.w) h5 (typeOf (.ref y)) cls:=hobc▸(W.Looks.ld hob).andThen .now
  refine (W.exm_one (M:=model X.prog X.w) I5.kIn LT em) _ _ _ _ (fun _ _ e=>e) ?_
  refine codeAny_handlers_suite_as ?_
  refine lands_againW fl5 fun h6 fl6 sm6=>?_
  have I6:Inv X pins σ0 H1 {s1 with heap:=h6}:=I0.flown os bare un hok hB fl6.1 ((sm4.trans sm5).trans sm6)
  obtain ⟨_,_,_,oe,vs,T,oT,ts,he,hc,hd,_⟩:=id fl6
  have hyl:y≠X.env.locals:=fun z=>by
   obtain ⟨m,⟨o,es,ep,ho,hod,_⟩,_⟩:=I0.loc
   rw [←z] at ho
   exact hx o ho
  have hyc:∀z c,X.env.cells.lookup z=some c->c≠y:=fun z c e t=>by
   obtain ⟨v,o,ho,_⟩:=I0.cell z c e
   rw [t] at ho
   exact hx o ho
  have I6t:=y6 (s1:={s1 with heap:=h6}) I0 I6 hx hx1 he hc.1 hd hyl hyc
  refine mU (X:=Xh X (.ref y)) (v:=V.ref y) (I6t.toH) hN hi (.inl hk) rfl (fun s7 I7=>?_) (.inr hk)
  refine wpAny_mono (hh (.ref y) pins s7 _ _ _ I7 (q y hx1)) (fun f s8 h8=>?_) fun _ _ z=>z.elim
  cases f with
  | next=>obtain ⟨σ8,H8,J,q8⟩:=h8;exact kR (J.ofH I.ok) hN hi hk fun s9 J9=>⟨_,_,J9,q8⟩
  | brk=>obtain ⟨σ8,H8,J,q8⟩:=h8;exact kR (J.ofH I.ok) hN hi hk fun s9 J9=>⟨_,_,J9,q8⟩
  | cont=>obtain ⟨σ8,H8,J,q8⟩:=h8;exact kR (J.ofH I.ok) hN hi hk fun s9 J9=>⟨_,_,J9,q8⟩
  | ret u=>obtain ⟨v,σ8,H8,J,r,q8⟩:=h8;exact kR (J.ofH I.ok) hN hi hk fun s9 J9=>⟨v,_,_,J9,r,q8⟩
end
end L2
namespace L2
open PySem PySem.W PySem.Spec PyProof.Rows
structure ExI (K:Frag)(C:Addr):Prop where
 ex:ExC K C
 ca:findIn K (.ref C) "__class__"=some (some (.builtin "object.__class__"))
 mo:mroIn K C (.type "object")=some true
section
variable {prog:Program}{w:World}{A:Around}{E:Value->Shared->Prop}{h:Heap}{g:Array GenState}{d:Drawn}{t:Nat}{os:OsState}{a:Addr}{o:Obj}{vs:Array Value}{K:Frag}{C:Addr}
theorem BW {R:Result->Shared->Prop}{tp:Value}(X:K.In h)(O:ExI K C)(hx:h.get? a=some o)(hc:o.cls=.ref C)(hq:R (.ok (.ret (.ref C))) ⟨h,g,d,t,os⟩) :
  codeAny (model prog w) A (.call (.builtin "getset_descriptor.__get__") ⟨[.builtin "object.__class__",.ref a,tp],[]⟩) R ⟨h,g,d,t,os⟩:=by
 have L0:Looks (model prog w) h (typeOf (.ref a)) (.ref C):=hc▸(Looks.ld hx).andThen .now
 have L1:=looks_mroIn (M:=model prog w) X O.mo
 refine codeAny_call_builtin KF.slot_gs.plain KF.entry_gs (KF.slot_gs.check _ _ _ _ _ _ _ _ KF.type_class (KF.args_gs _ _ _) ?_)
 unfold Builtin.«getset_descriptor.__get__» Builtin.Getset_descriptor.descrGet
 rw [dga_obj]
 refine wpAny_bind (wpAny_pure ?_)
 unfold Builtin.Getset_descriptor.descrGetter Builtin.Getset_descriptor.descrCheckInstance Builtin.Getset_descriptor.descrNameAndClass isInstance
 simp only [KF.owner_class]
 repeat lk
 refine ⟨Code.quiet_builtin _ (by decide +kernel),codeAny_builtin KF.entry_class ?_⟩
 unfold Builtin.«object.__class__» shownTypeOf
 repeat lk
 exact hq
theorem y8 {tk:Tok}{Q:PySem.Fin->Shared->Prop}(X:K.In h)(O:ExI K C)(hx:h.get? a=some o)(hc:o.cls=.ref C)(hq:Q (.done (.ret (.ref C))) ⟨h,g,d,t,os⟩) :
  wpAny (model prog w) A (Builtin.«object.__getattribute__» ⟨[.ref a,.str "__class__" tk],[]⟩) Q E ⟨h,g,d,t,os⟩:=by
 have L2:=looks_findIn (M:=model prog w) X O.ca
 have f5:=KF.type_class
 have f6:=KF.slot_gs.lookup
 have f7:=PySem.F.slot_gs_set.lookup
 repeat (any_goals (first | assumption | (with_reducible refine wpAny_loadPart_at hx ?_;rw [hc]) | with_reducible refine L2.at ?_ | wp_step))
 refine BW X O hx hc ?_
 repeat (any_goals (first | assumption | wp_step))
theorem Ap {tk:Tok}{R:Result->Shared->Prop}(X:K.In h)(O:ExI K C)(hx:h.get? a=some o)(hc:o.cls=.ref C)(hq:R (.ok (.ret (.ref C))) ⟨h,g,d,t,os⟩) :
  codeAny (model prog w) A (.call (.builtin "BaseException.__getattribute__") ⟨[.ref a,.str "__class__" tk],[]⟩) R ⟨h,g,d,t,os⟩:=by
 obtain ⟨nm,q,N,bs,bm,hdct,sn,sub,ab,col,dd,k0,k1,k2,k3,k5,mN,Oe⟩:=O.ex.ex
 obtain ⟨hC,hN,hmN,T⟩:=Oe h X
 exact codeAny_call_builtin PySem.F.attrBase_ValueError.ga.plain PySem.F.entry_bexc_ga (wpAny_check_ga_own PySem.F.attrBase_ValueError hC T hx hc (y8 X O hx hc hq))
theorem Ep {tk:Tok}{fill expr:Bool}{Q:Value->Shared->Prop}(X:K.In h)(O:ExI K C)(hx:h.get? a=some o)(hc:o.cls=.ref C)(hq:Q (.ref C) ⟨h,g,d,t,os⟩) :
  wpAny (model prog w) A (getAttrBy (.ref a) (.str "__class__" tk) fill expr) Q E ⟨h,g,d,t,os⟩:=by
 obtain ⟨nm,q,N,bs,bm,hdct,sn,sub,ab,col,dd,k0,k1,k2,k3,k5,mN,Oe⟩:=O.ex.ex
 obtain ⟨hC,hN,hmN,T⟩:=Oe h X
 have FB:=PySem.F.attrBase_ValueError
 have f3:=FB.ga.bind (.ref a)
 have hx0:(expr && onTheHeap (Value.builtin "BaseException.__getattribute__"))=false:=by cases expr<;>rfl
 have hx2:(Value.builtin "BaseException.__getattribute__" == Value.builtin "object.__getattribute__")=false:=by decide +kernel
 have hx1:(onTheHeap (Value.ref C) && Value.builtin "BaseException.__getattribute__" == Value.builtin "object.__getattribute__")=false:=by rw [hx2];rfl
 have hm1:("__getattribute__":Str)∈quietNames:=.tail _ (.head _)
 have hm2:("__getattr__":Str)∈quietNames:=.tail _ (.tail _ (.head _))
 repeat (any_goals (first | assumption | (with_reducible refine wpAny_loadPart_at hx ?_;rw [hc]) | with_reducible refine wpAny_typeLookup_tailQ hm1 hC hN hmN T FB.mro FB.ga.lookup ?_ | with_reducible refine wpAny_typeLookup_tailQ hm2 hC hN hmN T FB.mro FB.noGetattr ?_ | wp_step))
 refine Ap X O hx hc ?_
 repeat (any_goals (first | assumption | wp_step))
theorem Aq {Q:Option Value->Shared->Prop}(X:K.In h)(O:ExI K C)(hx:h.get? a=some o)(hc:o.cls=.ref C)(hq:Q (some (.ref C)) ⟨h,g,d,t+1,os⟩) :
  wpAny (model prog w) A (getAttr? (.ref a) "__class__") Q E ⟨h,g,d,t,os⟩:=by
 unfold getAttr? getAttrBy?
 repeat (any_goals (first | assumption | with_reducible apply Ep X O hx hc | wp_step))
theorem Ar (O:ExI K C):KitX K (.ref a) (.ref C) (fun h=>∃o vs,h.get? a=some o/\o.cls=.ref C/\o.data=.fields vs) where
 ty:=fun _ _ _ ⟨o,vs,h1,h2,_⟩=>h2▸(Looks.ld h1).andThen .now
 it:=fun M h X _=>by
  obtain ⟨nm,q,N,bs,bm,hdct,sn,sub,ab,col,dd,k0,k1,k2,k3,k5,mN,Oe⟩:=O.ex.ex
  obtain ⟨hC,_⟩:=Oe h X
  intro A' Q' E' s' k q
  unfold isType loadHead
  exact wpAny_bind (wpAny_loadPart (k _ _ hC) (wpAny_pure q))
 ne:=fun h tp dd its n sl X htp=>by
  obtain ⟨nm,q,N,bs,bm,hdct,sn,sub,ab,col,dd',k0,k1,k2,k3,k5,mN,Oe⟩:=O.ex.ex
  obtain ⟨hC,_⟩:=Oe h X
  refine Bool.eq_false_iff.mpr fun q=>?_
  have e:C=tp:=Value.ref.inj (beq_iff_eq.mp q)
  subst e
  have z:=congrArg Obj.data (Option.some.inj (hC.symm.trans htp))
  exact nomatch z
 ca:=fun {_ _ _ _ _ s} X ⟨o,vs,h1,h2,_⟩ k=>by
  obtain ⟨h,g,d,t,os⟩:=s
  exact Aq X O h1 h2 k
end
noncomputable def y9:V->Value
 | .ref a=>.ref a
 | .ty n=>.type n
 | _=>.none
noncomputable def lp (K:Frag):List V->Hp->VK->Prop:=fun xs H Q=>∃y c C b,xs=[.ref y,c]/\y9 c≠.none/\H y=some (Ao y (.ref C))/\ExI K C/\kitOne K (.ref C) (y9 c)=some b/\Q (.bl b) H
theorem gi {X:Cx}:cZ X (.builtin "isinstance") (lp X.K):=by
 intro pins s σ H xs us Q I r h
 obtain ⟨y,c,C,b,rfl,hc,hy,O,e,q⟩:=h
 obtain ⟨u,v,rfl,ru,rv⟩:=xS r
 cases ru
 have hv:v=y9 c:=by
  cases c with
  | ref a=>exact rv
  | ty n=>exact rv
  | _=>exact absurd rfl hc
 rw [hv]
 obtain ⟨φ,_,_⟩:=I.hok y _ hy
 exact kia_one (Ar O) I.kIn φ e (fun z=>nomatch z) fun tk=>⟨.bl b,H,I.tok tk,rfl,q⟩
end L2
namespace L2
open PySem PySem.Spec PyProof.Rows
theorem dA {X:Cx}{x:Str}{v:V}{pos:Pos}(hg:Gl X x)(h:∃u,X.mg x=some u/\bu v u)(hd:(x == ("__debug__":Str))=false:=by decide):PE X (.Name x pos) (tC v):=
 let ⟨_,hm,r⟩:=h
 gS hg hm r hd
theorem xa {K:JA}{H:Hp}{Q:VK}{y C:Addr}{c:V}{b:Bool}(hy:H y=some (Ao y (.ref C)))(O:ExI K C)(e:W.kitOne K (.ref C) (y9 c)=some b)(hc:y9 c≠.none)(q:Q (.bl b) H):lp K [.ref y,c] H Q:=
 ⟨y,c,C,b,rfl,hc,hy,O,e,q⟩
theorem gj {a:Addr}:y9 (.ref a)≠.none:=by intro h;cases h
noncomputable def eqL:List V->List V->Bool
 | [],[]=>true
 | x::xs,y::ys=>eqV x y && eqL xs ys
 | _,_=>false
theorem pX:∀{xs ys:List V},eqL xs ys=true->xs.length=ys.length
 | [],[],_=>rfl
 | _::_,_::_,h=>by
  unfold eqL at h
  rw [Bool.and_eq_true] at h
  simp [pX h.2]
 | [],_::_,h=>by cases h
 | _::_,[],h=>by cases h
noncomputable def Es (K:JA):R2:=fun x y H Q=>∃a b xs ys,x=.ref a/\y=.ref b/\SqL K H a xs/\SqL K H b ys/\xs.all a7=true/\ys.all a7=true/\Q (.bl (eqL xs ys)) H
theorem pY:∀{xs ys:List V},xs.length=ys.length->(List.range xs.length).all (fun j=>eqV (xs.getD j .non) (ys.getD j .non))=eqL xs ys
 | [],[],_=>rfl
 | x::xs,y::ys,h=>by
  have ih:=pY (xs:=xs) (ys:=ys) (by simpa using h)
  rw [List.length_cons,List.range_succ_eq_map,List.all_cons,List.all_map]
  show (eqV x y && (List.range xs.length).all (fun j=>eqV (xs.getD j .non) (ys.getD j .non)))=(eqV x y && eqL xs ys)
  rw [ih]
 | [],_::_,h=>by simp at h
 | _::_,[],h=>by simp at h
theorem Et {X:Cx}(hu:X.A.units < cLine):OpR X (compareOp .Eq) (Es X.K):=by
 intro pins s σ H x y u v Q I rx ry h
 obtain ⟨a,b,xs,ys,rfl,rfl,ha,hb,fa,fb,q⟩:=h
 cases rx;cases ry
 obtain ⟨ia,ra,pa,za⟩:=I.list ha
 obtain ⟨ib,rb,pb,zb⟩:=I.list hb
 have la:=ra.length
 have lb:=rb.length
 by_cases hl:xs.length=ys.length
 ·refine PySem.SeqAt.eq_listAt (e:=fun j=>eqV (xs.getD j .non) (ys.getD j .non)) pa.isList pb.isList (by simp only [List.size_toArray];omega) hu (fun j h1 h2=>?_) ?_
  ·simp only [List.size_toArray] at h1 h2
   have hx:xs[j]?=some (xs.getD j .non):=by
    rw [List.getD_eq_getElem?_getD,List.getElem?_eq_getElem (by omega)];rfl
   have hy:ys[j]?=some (ys.getD j .non):=by
    rw [List.getD_eq_getElem?_getD,List.getElem?_eq_getElem (by omega)];rfl
   obtain ⟨u,eu,ru⟩:=ra.get hx
   obtain ⟨v,ev,rv⟩:=rb.get hy
   have e1:ia.toArray[j]=u:=by
    have:=List.getElem?_eq_some_iff.mp eu
    simpa using this.2
   have e2:ib.toArray[j]=v:=by
    have:=List.getElem?_eq_some_iff.mp ev
    simpa using this.2
   rw [e1,e2]
   exact jU ru rv (List.all_eq_true.mp fa _ (List.mem_of_getElem? hx)) (List.all_eq_true.mp fb _ (List.mem_of_getElem? hy))
  ·have e:(List.range ia.toArray.size).all (fun j=>eqV (xs.getD j .non) (ys.getD j .non))=eqL xs ys:=by
    rw [List.size_toArray,←la]
    exact pY hl
   rw [e]
   exact ⟨.bl (eqL xs ys),H,I,rfl,q⟩
 ·refine PySem.SeqAt.eq_list_lengthsAt pa.isList pb.isList (by simp only [List.size_toArray,bne_iff_ne,ne_eq];omega) hu ?_
  have e:eqL xs ys=false:=by
   cases z:eqL xs ys with
   | false=>rfl
   | true=>exact absurd (pX z) hl
  rw [e] at q
  exact ⟨.bl false,H,I,rfl,q⟩
end L2
namespace L2
theorem cq.of {ds:List Int}(l2:2<=ds.length)(l6:ds.length<=6)(b:∀i,i < ds.length->0<=ds.getD i 0/\ds.getD i 0<=500)(u:∀i,i+1 < ds.length->ds.getD i 0 < ds.getD (i+1) 0):cq ds:=by
 have get:∀i (h:i < ds.length),ds[i]=ds.getD i 0:=fun i h=>by rw [List.getD_eq_getElem?_getD,List.getElem?_eq_getElem h];rfl
 have up:∀k i,i+k+1 < ds.length->ds.getD i 0 < ds.getD (i+k+1) 0:=by
  intro k
  induction k with
  | zero=>intro i h;exact u i h
  | succ k ih=>
   intro i h
   have h1:=ih i (by omega)
   have h2:=u (i+k+1) (by omega)
   rw [show i+(k+1)+1=i+k+1+1 by omega]
   omega
 refine ⟨l2,l6,fun d hd=>?_,fun d hd=>?_,List.pairwise_iff_getElem.mpr fun i j hi hj hij=>?_⟩
 ·obtain ⟨i,hi,rfl⟩:=List.getElem_of_mem hd
  rw [get i hi];exact (b i hi).1
 ·obtain ⟨i,hi,rfl⟩:=List.getElem_of_mem hd
  rw [get i hi];exact (b i hi).2
 ·rw [get i hi,get j hj]
  have:=up (j - i - 1) i (by omega)
  rw [show i+(j - i - 1)+1=j by omega] at this
  exact this
end L2
namespace L2
end L2
namespace L2
open PySem PySem.W PySem.Spec PyProof.Rows
noncomputable def qp:V->Option String
 | .non=>some "NoneType"
 | .bl _=>some "bool"
 | .int _=>some "int"
 | .str _=>some "str"
 | _=>none
def TyX (K:Frag)(H:Hp)(x:V)(T:String):Prop:=qp x=some T\/(∃a xs,x=.ref a/\SqL K H a xs/\T="list")\/∃a xs,x=.ref a/\SqT K H a xs/\T="tuple"
noncomputable def gT:List String:=["NoneType","bool","int","str","list","tuple"]
noncomputable def vv (T n:String):Bool:=T == n || (T == "bool" && n == "int")
theorem yg {K:Frag}{T n:String}(hT:T∈gT)(hn:n∈gT):kitOne K (.type T) (.type n)=some (vv T n):=by
 simp only [gT,List.mem_cons,List.not_mem_nil,or_false] at hT hn
 rcases hT with rfl | rfl | rfl | rfl | rfl | rfl<;>rcases hn with rfl | rfl | rfl | rfl | rfl | rfl<;>with_unfolding_all rfl
theorem yh {K:Frag}{T:String}(hT:T∈gT):∀{ns:List String},(∀n∈ns,n∈gT)->kitAny K (.type T) (ns.map Value.type)=some (ns.any (vv T))
 | [],_=>rfl
 | n::r,h=>by
  have ih:=yh (K:=K) hT (ns:=r) fun m hm=>h m (List.mem_cons_of_mem _ hm)
  rw [List.map_cons,List.any_cons]
  unfold kitAny
  rw [yg hT (h n List.mem_cons_self)]
  cases e:vv T n with
  | true=>rfl
  | false=>rw [Bool.false_or];exact ih
section
variable {X:Cx}{pins:List (Addr×Obj)}{σ:St}{H:Hp}{s:Shared}
theorem tF {K:Frag}{x:V}{T:String}(h:TyX K H x T):T∈gT:=by
 rcases h with h | ⟨_,_,_,_,rfl⟩ | ⟨_,_,_,_,rfl⟩
 ·cases x<;>simp only [qp,Option.some.injEq,reduceCtorEq] at h<;>subst h<;>decide
 ·decide
 ·decide
theorem vw (I:Inv X pins σ H s){x:V}{u:Value}{T:String}(rx:bu x u)(ty:TyX X.K H x T):∃φ:Heap->Prop,KitX X.K u (.type T) φ/\φ s.heap/\u≠.builtin "__main__.__loader__#opaque":=by
 rcases ty with h | ⟨a,xs,rfl,h,rfl⟩ | ⟨a,xs,rfl,h,rfl⟩
 ·cases x with
  | non=>cases rx;cases h;exact ⟨_,kitx_none,trivial,fun z=>nomatch z⟩
  | bl b=>cases rx;cases h;exact ⟨_,kitx_bool,trivial,fun z=>nomatch z⟩
  | int i=>obtain ⟨t,rfl⟩:=rx;cases h;exact ⟨_,kitx_int,trivial,fun z=>nomatch z⟩
  | str i=>obtain ⟨t,rfl⟩:=rx;cases h;exact ⟨_,kitx_str,trivial,fun z=>nomatch z⟩
  | _=>cases h
 ·cases rx
  obtain ⟨its,r,pl,hz⟩:=I.list h
  obtain ⟨o,ho,hc,_⟩:=pl.isList
  exact ⟨_,kitx_list,⟨o,ho,hc⟩,fun z=>nomatch z⟩
 ·cases rx
  obtain ⟨its,r,⟨o,ho,hc,_⟩,hz⟩:=I.tuple h
  exact ⟨_,kitx_tuple,⟨o,ho,hc⟩,fun z=>nomatch z⟩
noncomputable def FL (K:Frag):List V->Hp->VK->Prop:=fun xs H Q=>∃x n T,xs=[x,.ty n]/\TyX K H x T/\n∈gT/\Q (.bl (vv T n)) H
theorem gg:cZ X (.builtin "isinstance") (FL X.K):=by
 intro pins s σ H xs us Q I r h
 obtain ⟨x,n,T,rfl,ty,hn,q⟩:=h
 obtain ⟨u,v,rfl,ru,rv⟩:=xS r
 cases rv
 obtain ⟨φ,Z,p,ne⟩:=vw I ru ty
 exact kia_one Z I.kIn p (yg (tF ty) hn) ne fun tk=>⟨.bl _,H,I.tok tk,rfl,q⟩
noncomputable def FN (K:Frag):List V->Hp->VK->Prop:=fun xs H Q=>∃(x:V) (tp:Addr) (ns:List String) (T:String),xs=[x,.ref tp]/\SqT K H tp (ns.map V.ty)/\TyX K H x T/\(∀n∈ns,n∈gT)/\Q (.bl (ns.any (vv T))) H
theorem yi:∀{ns:List String} {its:List Value},a8 (ns.map V.ty) its->its=ns.map Value.type
 | [],_,h=>by cases h;rfl
 | n::r,_,h=>by
  cases h with
  | cons a b=>rw [yi b];cases a;rfl
theorem oE:cZ X (.builtin "isinstance") (FN X.K):=by
 intro pins s σ H xs us Q I r h
 obtain ⟨x,tp,ns,T,rfl,ht,ty,hn,q⟩:=h
 obtain ⟨u,v,rfl,ru,rv⟩:=xS r
 cases rv
 obtain ⟨φ,Z,p,ne⟩:=vw I ru ty
 obtain ⟨its,rt,⟨o,ho,hc,n,hd⟩,hz⟩:=I.tuple ht
 obtain rfl:=yi rt
 obtain ⟨c,d,dt,sl⟩:=o
 dsimp only at hc hd
 subst hc hd
 exact kia_tup Z I.kIn p ho (yh (tF ty) hn) ne fun tk=>⟨.bl _,H,I.tok tk,rfl,q⟩
end
inductive Dt where
 | flat (v:V)
 | lst (ds:List Dt)
 | tup (ds:List Dt)
inductive Rep (K:Frag)(H:Hp):Nat->V->Dt->Prop
 | flat {n:Nat} {v:V} (h:a7 v=true):Rep K H n v (.flat v)
 | lst {n:Nat} {a:Addr} {xs:List V} {ds:List Dt} (hs:SqL K H a xs) (hb:xs.length<=100000) (hl:xs.length=ds.length) (hr:∀(i:Nat) x d,xs[i]?=some x->ds[i]?=some d->Rep K H n x d):Rep K H (n+1) (.ref a) (.lst ds)
 | tup {n:Nat} {a:Addr} {xs:List V} {ds:List Dt} (hs:SqT K H a xs) (hb:xs.length<=100000) (hl:xs.length=ds.length) (hr:∀(i:Nat) x d,xs[i]?=some x->ds[i]?=some d->Rep K H n x d):Rep K H (n+1) (.ref a) (.tup ds)
theorem aC.tup {K:Frag}{H H':Hp}{a:Addr}{xs:List V}(e:aC H H')(h:SqT K H a xs):SqT K H' a xs:=by
 rcases h with (h | ⟨o,h⟩) | h
 ·exact .inl (.inl (e _ _ h))
 ·exact .inl (.inr ⟨o,e _ _ h⟩)
 ·exact .inr h
theorem Rep.same {K:Frag}{H H':Hp}(s:aC H H'){n:Nat}{x:V}{d:Dt}(h:Rep K H n x d):Rep K H' n x d:=by
 induction h with
 | flat h=>exact .flat h
 | lst hs hb hl _ ih=>exact .lst (s.seq hs) hb hl ih
 | tup hs hb hl _ ih=>exact .tup (s.tup hs) hb hl ih
theorem As {P:Program}{w:World}{K:Frag}{mg:Str->Option Value}{base:Heap}{CX:CXT}{k:Nat}{f:Addr}{fd:FuncData}{ps:List Str}:fi P w K mg base CX k f fd ps (fun _ _ _ _=>False):=
 ⟨fun _ _ _ _ h=>h.elim,fun _ _ _ _ _ _ _ _ _ _ _ _ _ h=>h.elim⟩
theorem ay {α:Type}{xs:List α}{k:Nat}{v:α}(h:xs[k]?=some v):atI xs (k:Int)=some v:=xX h
end L2
namespace L2
open PySem PySem.Spec PyProof.Rows
noncomputable abbrev Ld:=Str×Int×Int
noncomputable def ldV (x:Ld):List V:=[.str x.1,.int x.2.1,.int x.2.2]
def vx (K:JA)(H:Hp)(as:List Addr)(ls:List Ld):Prop:=as.length=ls.length/\∀(i:Nat) a x,as[i]?=some a->ls[i]?=some x->SqT K H a (ldV x)
def eA (K:JA)(H:Hp)(l:Addr)(ls:List Ld):Prop:=∃as:List Addr,SqL K H l (as.map V.ref)/\vx K H as ls
def oF (m:Int)(x:Ld):Prop:=(0<=x.2.1/\x.2.1 < m)/\(0<=x.2.2/\x.2.2 < m)
theorem vx.same {K:JA}{H H':Hp}{as:List Addr}{ls:List Ld}(s:aC H H')(h:vx K H as ls):vx K H' as ls:=⟨h.1,fun i a x e1 e2=>s.tup (h.2 i a x e1 e2)⟩
theorem eA.same {K:JA}{H H':Hp}{l:Addr}{ls:List Ld}(s:aC H H')(h:eA K H l ls):eA K H' l ls:=by
 obtain ⟨as,a,b⟩:=h
 exact ⟨as,s.seq a,b.same s⟩
theorem vx.nil {K:JA}{H:Hp}:vx K H [] []:=⟨rfl,fun i a x e _=>by simp at e⟩
theorem Eu {α:Type}(as:List α)(f:α->V)(k:Nat)(h:k<=as.length):rX (as.map f) (some (k:Int)) none=(as.drop k).map f:=by
 unfold rX
 rw [HT.z7,HT.xU,JB,show min k as.length=k by omega,←List.map_drop,List.take_of_length_le (by rw [JB,List.length_drop];omega)]
theorem SqT.rew {K:JA}{H:Hp}{a l:Addr}{xs ys:List V}{o:HO}(h:SqT K H a xs)(hl:H l=some (.lst ys)):SqT K (upd H l o) a xs:=by
 rcases h with (h | ⟨o',h⟩) | h
 ·refine .inl (.inl ?_)
  rw [aE (fun e=>by rw [e,hl] at h;cases h)];exact h
 ·refine .inl (.inr ⟨o',?_⟩)
  rw [aE (fun e=>by rw [e,hl] at h;cases h)];exact h
 ·exact .inr h
theorem Au {J:It}{g:TG}{tc:TT}{te:TE}{cm:List (Option Nat)}{σ:St}{Q:VK}{H:Hp}(n:Nat)(Pv:Nat->List V->Hp->Prop)(h0:Pv 0 [] H)
  (hgo:∀i acc H,i < n->Pv i acc H->J.go i H) (hst:∀acc H,Pv n acc H->J.stop n H)
  (hs:∀i acc H,i < n->Pv i acc H->acc.length < sizeLine/\∀x H',J.yld i H x H'->∀M:List V->Hp->Prop,(∀acc' H',Pv (i+1) acc' H'->M acc' H')->g x (bV cm σ) H' fun σ2 H2=>Wk (bV cm σ) σ2/\tc σ2 H2 fun b H3=>if b=true then te σ2 H3 fun v H4=>M (acc++[v]) H4 else M acc H3)
  (hd:∀acc H,Pv n acc H->∀p,H p=none->Q (.ref p) (upd H p (.lst acc))):o8 J g tc te cm σ Q H:=by
 refine ⟨fun i m acc H=>m=n - i/\i<=n/\Pv i acc H,⟨n,by simp,Nat.zero_le _,h0⟩,?_⟩
 rintro i m acc H ⟨rfl,hi,p⟩
 by_cases hlt:i < n
 ·obtain ⟨hz,q⟩:=hs i acc H hlt p
  refine .inr ⟨hgo i acc H hlt p,hz,fun x H' y=>q x H' y (fun acc' H4=>∃m',m' < n - i/\m'=n - (i+1)/\i+1<=n/\Pv (i+1) acc' H4) fun acc' H4 q=>⟨n - (i+1),by omega,rfl,hlt,q⟩⟩
 ·have e:i=n:=by omega
  subst e
  exact .inl ⟨hst acc H p,hd acc H p⟩
theorem Ew {σ:St}{j:Nat}{x:V}(hj:σ[j]?=some none):Wk σ (σ.set j (some x)):=by
 refine ⟨by simp,fun k v e=>?_⟩
 by_cases hk:j=k
 ·subst hk;rw [hj] at e;cases e
 ·rw [List.getElem?_set_ne hk];exact e
theorem zc {K:JA}{H:Hp}{a:Addr}{xs:List V}{n:Nat}(h:SqT K H a xs)(hb:xs.length<=100000)(hf:∀x∈xs,a7 x=true):Rep K H (n+1) (.ref a) (.tup (xs.map Dt.flat)):=by
 refine .tup h hb (by rw [JB]) fun i y d e1 e2=>?_
 rw [List.getElem?_map,e1] at e2
 cases e2
 exact .flat (hf y (List.mem_of_getElem? e1))
section
variable {X:Cx}
theorem Inv.turnedL {pins:List (Addr×Obj)}{σ:St}{H:Hp}{s:Shared}{h':Heap}{t':Nat}{fp:List Addr}(I:Inv X pins σ H s)(k:∀b o,b∉fp->s.heap.get? b=some o->h'.get? b=some o)(hf:∀b∈fp,oz X pins H b) :
  Inv X pins σ H {s with heap:=h',toks:=t'}:=by
 have nit:∀b u,H b=some u->b∉fp:=fun b u e z=>by rw [(hf b z).1] at e;cases e
 refine I.step (g':=s.gens) (d':=s.drawn) (ch:=fp) (fun b hb=>⟨(hf b hb).2.2.2.1,(hf b hb).2.1,(hf b hb).2.2.2.2.1,(hf b hb).2.2.2.2.2⟩) (fun b o _ _ hc e _=>k b o hc e) (fun b o _ _ hc e _=>⟨o.slots,k b o hc e⟩) (fun _ _ _ _ n=>n)
  (fun b o hc e=>⟨o,k b o hc e⟩) (fun _ _ e=>e) (fun _ _ _ e=>e) (fun b ps e=>⟨#[],by rw [e];simp⟩) (fun m hm=>?_) (fun b u e=>?_) I.bare
 ·obtain ⟨o,es,ep,ho,r⟩:=hm
  exact ⟨o,es,ep,k _ o (fun z=>(hf _ z).2.1 rfl) ho,r⟩
 ·refine (I.hok b u e).stay (fun c v hc q=>k c v ?_ q) (fun _ q=>q) fun _ _ q=>q
  rcases hc with z | z
  ·exact z▸nit b u e
  ·exact nit c _ z
theorem Inv.handed {pins:List (Addr×Obj)}{σ:St}{H:Hp}{s:Shared}{h':Heap}{t':Nat}{fp:List Addr}{xs:List V}{us:List Value}{T:Addr}{n:Nat}(I:Inv X pins σ H s)(k:∀b o,b∉fp->s.heap.get? b=some o->h'.get? b=some o)(hf:∀b∈fp,oz X pins H b)
  (hT:s.heap.objs.size<=T) (hz:xs.length<=sizeLine) (r:a8 xs us) (e:h'.get? T=some {cls:=.type "tuple",data:=.seq us.toArray n}):Inv X pins σ (upd H T (.tup xs)) {s with heap:=h',toks:=t'}:=by
 have I1:Inv X pins σ H {s with heap:=h',toks:=t'}:=I.turnedL k hf
 have hn:H T=none:=I.hok.fresh hT
 obtain ⟨f0,f1,f2,f3,f4,f5⟩:=I.fpOk hT hn
 have h0:X.s₀.heap.objs.size<=T:=Nat.le_trans I.sz hT
 exact I1.track hn h0 f1 f4 f5 ⟨hz,us,r,⟨_,e,⟨rfl,_,rfl⟩,rfl⟩⟩
noncomputable def Itz (K:JA)(a b:Addr):It:=
 ⟨fun i H=>∃xs ys x y,SqL K H a xs/\SqL K H b ys/\xs[i]?=some x/\ys[i]?=some y,fun i H v H'=>∃t x y,v=.ref t/\H t=none/\H'=upd H t (.tup [x,y])/\(∀xs,SqL K H a xs->xs[i]?=some x)/\∀ys,SqL K H b ys->ys[i]?=some y,
  fun i H=>∃xs ys,SqL K H a xs/\SqL K H b ys/\(xs.length<=i\/ys.length<=i)⟩
theorem Av {P:Program}{w:World}{K:JA}{elts:List Expr}{x1:Nat}{tpos:Pos}(l1 l2 z TI TO i1 i2:Addr)(D:ZipApart z TI TO i1 i2 l1 l2) :
  yM P w K (.Tuple elts x1 tpos) (Itz K l1 l2) [z,TI,TO,i1,i2] z (fun i h=>IsZip h z TI TO .none/\IsPair h TI (.ref i1) (.ref i2)/\(∃u v,IsPair h TO u v)/\h.IsListIter i1 l1 i/\h.IsListIter i2 l2 i) where
 mem:=by simp
 obj:=fun i h st b hb=>by
  obtain ⟨h1,h2,⟨u,v,h3⟩,⟨o4,h4,_,d4⟩,⟨o5,h5,_,d5⟩⟩:=st
  simp only [List.mem_cons,List.not_mem_nil,or_false] at hb
  rcases hb with rfl | rfl | rfl | rfl | rfl
  ·exact ⟨_,h1,fun v z=>by
    have z':Data.fields _=Data.cell v:=z
    cases z'⟩
  ·exact ⟨_,h2,fun v z=>by
    have z':Data.seq _ _=Data.cell v:=z
    cases z'⟩
  ·exact ⟨_,h3,fun v z=>by
    have z':Data.seq _ _=Data.cell v:=z
    cases z'⟩
  ·exact ⟨o4,h4,fun v z=>by rw [d4] at z;cases z⟩
  ·exact ⟨o5,h5,fun v z=>by rw [d5] at z;cases z⟩
 keep:=fun i h h' st k=>by
  obtain ⟨h1,h2,⟨u,v,h3⟩,h4,h5⟩:=st
  exact ⟨k z (by simp) _ h1,k TI (by simp) _ h2,⟨u,v,k TO (by simp) _ h3⟩,h4.at fun o q=>k i1 (by simp) o q,h5.at fun o q=>k i2 (by simp) o q⟩
 item:=by
  intro X hP hw hK hc i pins s σ H E I hf st hg
  subst hP hw hK
  obtain ⟨xs,ys,x,y,hq1,hq2,hx,hy⟩:=hg
  obtain ⟨its1,rv1,p1,hz1⟩:=I.list hq1
  obtain ⟨its2,rv2,p2,hz2⟩:=I.list hq2
  obtain ⟨u,hu,ru⟩:=rv1.get hx
  obtain ⟨v,hv,rv⟩:=rv2.get hy
  obtain ⟨h1,h2,⟨c1,c2,h3⟩,h4,h5⟩:=st
  have lt:∀b∈[z,TI,TO,i1,i2],b < s.heap.objs.size:=fun b hb=>by
   simp only [List.mem_cons,List.not_mem_nil,or_false] at hb
   rcases hb with rfl | rfl | rfl | rfl | rfl
   ·exact Heap.lt_size h1
   ·exact Heap.lt_size h2
   ·exact Heap.lt_size h3
   ·obtain ⟨o,q,_⟩:=h4;exact Heap.lt_size q
   ·obtain ⟨o,q,_⟩:=h5;exact Heap.lt_size q
  refine wpAny_pyNext_zip_item D h1 h2 h3 h4 h5 p1.isList p2.isList (x:=u) (y:=v) (by simpa using hu) (by simpa using hv) fun h' g1 g2 g3 g4 g5 g6 g7=>?_
  have kf:∀b o,b∉[z,TI,TO,i1,i2]->s.heap.get? b=some o->h'.get? b=some o:=fun b o hb q=>g7 b o (fun e=>hb (by simp [e])) (fun e=>hb (by simp [e])) (fun e=>hb (by simp [e])) (fun e=>hb (by simp [e])) q
  have I1:Inv X pins σ (upd H s.heap.objs.size (.tup [x,y])) {s with heap:=h',toks:=s.toks}:=I.handed (us:=[u,v]) kf hf (Nat.le_refl _) (by show 2<=sizeLine;decide) (.cons ru (.cons rv .nil)) g5
  have hn:H s.heap.objs.size=none:=I.hok.fresh (Nat.le_refl _)
  have hf1:∀b∈[z,TI,TO,i1,i2],upd H s.heap.objs.size (.tup [x,y]) b=none:=fun b hb=>by
   rw [aE (Nat.ne_of_lt (lt b hb))]
   exact (hf b hb).1
  refine ⟨_,rfl,wpAny_letOwnedTupleGo_zip (s:={s with heap:=h'}) g1 fun h2' q1 q2=>?_⟩
  have I2:Inv X pins σ (upd H s.heap.objs.size (.tup [x,y])) {s with heap:=h2',toks:=s.toks}:=I1.turnedL (s:={s with heap:=h',toks:=s.toks}) (t':=s.toks) (fp:=[z,TI,TO,i1,i2]) (fun b o hb q=>(q2.2 b (fun e=>hb (by simp [e]))).trans q) fun b hb=>⟨hf1 b hb,(hf b hb).2⟩
  have k2:∀b o,b≠z->h'.get? b=some o->h2'.get? b=some o:=fun b o hb q=>(q2.2 b hb).trans q
  have gTI:IsPair h' TI (.ref i1) (.ref i2):=g7 TI _ D.TIz D.TITO D.TIi1 D.TIi2 h2
  refine ⟨.ref s.heap.objs.size,_,I2,rfl,⟨_,x,y,rfl,hn,rfl,fun zs hz=>by rw [I.list_inj hz hq1];exact hx,fun zs hz=>by rw [I.list_inj hz hq2];exact hy⟩,⟨q1,k2 _ _ D.TIz gTI,⟨u,v,k2 _ _ D.TOz g2⟩,g3.at fun o q=>k2 _ _ D.i1z q,g4.at fun o q=>k2 _ _ D.i2z q⟩,hf1⟩
 done:=by
  intro X hP hw hK hc i pins s σ H E I hf st hg
  subst hP hw hK
  obtain ⟨xs,ys,hq1,hq2,hend⟩:=hg
  obtain ⟨its1,rv1,p1,hz1⟩:=I.list hq1
  obtain ⟨its2,rv2,p2,hz2⟩:=I.list hq2
  have hl1:=rv1.length
  have hl2:=rv2.length
  obtain ⟨h1,h2,⟨c1,c2,h3⟩,h4,h5⟩:=st
  refine wpAny_pyNext_zip_end (I.ok.hd hc) D h1 h2 h3 h4 h5 p1.isList p2.isList ?_ fun h' eb=>⟨rfl,I.turnedL (t':=s.toks) (fun b o hb q=>eb b o (fun e=>hb (by simp [e])) (fun e=>hb (by simp [e])) (fun e=>hb (by simp [e])) (fun e=>hb (by simp [e])) q) hf⟩
  rcases hend with e | e
  ·left;simp;omega
  ·right;simp;omega
 self:=fun _ _ _ _ _ st h=>wpAny_pyIter_zip st.1 h
noncomputable def FO (K:JA)(ta tb:TE):TI:=fun σ H R=>ta σ H fun x H1=>tb σ H1 fun y H2=>∃a b,x=.ref a/\y=.ref b/\(∃xs,SqL K H2 a xs)/\(∃ys,SqL K H2 b ys)/\R (Itz K a b) H2
theorem Ex {a b:Expr}{ta tb:TE}{p pos tpos:Pos}{elts:List Expr}{x1:Nat}(hg:Gl X "zip")(hm:X.mg "zip"=none)(hb:bootBuiltins "zip"=some (.type "zip"))(ha:PE X a ta)(hb2:PE X b tb)(hs:starEach [a,b] X.env=[(false,eval a X.env),(false,eval b X.env)]:=by rfl)(hs2:starEach [b] X.env=[(false,eval b X.env)]:=by rfl) :
  PI X (.Tuple elts x1 tpos) (.Call (.Name "zip" p) [a,b] [] pos) (FO X.K ta tb):=by
 intro pins s σ H R I h
 refine Call_ (mi I hg hm hb (PyProof.Rows.callWith_type1 ?_ (by rw [hs,hs2]) (by rw [hs2];rfl)))
 rw [hs]
 refine Calls.spliced_cons (thn (ha pins s σ H _ I h) fun u s1 ⟨x,H1,I1,r1,q1⟩=>?_)
 refine Calls.spliced_cons (thn (hb2 pins s1 σ H1 _ I1 q1) fun v s2 ⟨y,H2,I2,r2,l1,l2,ex,ey,⟨xs,hq1⟩,⟨ys,hq2⟩,q⟩=>?_)
 subst ex ey
 cases r1
 cases r2
 refine Calls.spliced_nil ?_
 obtain ⟨its1,rv1,p1,hz1⟩:=I2.list hq1
 obtain ⟨its2,rv2,p2,hz2⟩:=I2.list hq2
 have a1:l1 < s2.heap.objs.size:=by obtain ⟨o,q,_⟩:=p1.isList;exact Heap.lt_size q
 have a2:l2 < s2.heap.objs.size:=by obtain ⟨o,q,_⟩:=p2.isList;exact Heap.lt_size q
 refine call_zip_2 p1.isList p2.isList fun h' h1 h2 h3 h4 h5 h6 h7=>?_
 refine wpAny_pyIter_zip h1 ?_
 have n0:∀l:Nat,l < s2.heap.objs.size->∀k:Nat,l≠s2.heap.objs.size+k:=fun l hl k=>by omega
 have n1:∀j k:Nat,j≠k->s2.heap.objs.size+j≠s2.heap.objs.size+k:=fun j k hjk=>by omega
 refine ⟨s2.heap.objs.size+4,[s2.heap.objs.size+4,s2.heap.objs.size+2,s2.heap.objs.size+3,s2.heap.objs.size+0,s2.heap.objs.size+1],_,_,H2,rfl,I2.kept (t':=s2.toks) h7,
  Av l1 l2 _ _ _ _ _ ⟨n1 2 4 (by decide),n1 3 4 (by decide),n1 0 4 (by decide),n1 1 4 (by decide),n1 2 3 (by decide),n1 2 0 (by decide),n1 2 1 (by decide),n1 3 0 (by decide),n1 3 1 (by decide),n1 0 1 (by decide),n0 _ a1 4,n0 _ a1 3,n0 _ a1 0,n0 _ a1 1,n0 _ a2 4,n0 _ a2 3,n0 _ a2 0,n0 _ a2 1⟩,⟨h1,h2,⟨_,_,h3⟩,h4,h5⟩,fun b hb=>?_,q⟩
 have hle:s2.heap.objs.size<=b:=by
  simp only [List.mem_cons,List.not_mem_nil,or_false] at hb
  rcases hb with rfl | rfl | rfl | rfl | rfl<;>exact Nat.le_add_right _ _
 exact I2.fpOk hle (I2.hok.fresh hle)
end
theorem vy {J:It}{g:TG}{tb:TS}{D:lj}{σ:St}{H:Hp}(n:Nat)(Pv:Nat->St->Hp->Prop)(h0:Pv 0 σ H)(hgo:∀i σ H,i < n->Pv i σ H->J.go i H)(hst:∀σ H,Pv n σ H->J.stop n H)
  (hs:∀i σ H,i < n->Pv i σ H->∀x H',J.yld i H x H'->g x σ H' fun σ2 H2=>tb {D with nx:=Pv (i+1),ct:=Pv (i+1),bk:=D.nx} σ2 H2) (hd:∀σ H,Pv n σ H->D.nx σ H):vt J g tb D σ H:=by
 refine ⟨fun i m σ H=>m=n - i/\i<=n/\Pv i σ H,⟨n,by simp,Nat.zero_le _,h0⟩,?_⟩
 rintro i m σ H ⟨rfl,hi,p⟩
 by_cases hlt:i < n
 ·exact .inr ⟨hgo i σ H hlt p,Pv (i+1),fun σ' H' q=>⟨n - (i+1),by omega,rfl,hlt,q⟩,fun x H' y=>hs i σ H hlt p x H' y⟩
 ·have e:i=n:=by omega
  subst e
  exact .inl ⟨hst σ H p,hd σ H p⟩
section
variable {X:Cx}
noncomputable def Aw (K:JA):V->List V->Hp->VK->Prop:=fun x vs H Q=>∃(l:Addr) (ns:List Int) (k:Int),x=.ref l/\vs=[.int k]/\SqL K H l (ns.map V.int)/\k∈ns/\Q (.int (ns.idxOf k:Nat)) H
theorem vz:MtR X "list.index" (Aw X.K):=by
 intro pins s σ H x vs v us Q I rx rv h
 obtain ⟨l,ns,k,rfl,rfl,hq,hk,q⟩:=h
 cases rx
 obtain ⟨u,rfl,t,rfl⟩:=rv.one
 obtain ⟨its,r,pl,hz⟩:=I.list hq
 have hi:IntsAre its ns:=wX r
 obtain ⟨⟨cls,dd,data,sl⟩,ho,hc,n,hd⟩:=id pl.isList
 simp only at hc hd
 subst hc hd
 have hlen:=hi.length
 have hj:ns.idxOf k < ns.length:=List.idxOf_lt_length_iff.mpr hk
 rw [JB,sizeLine_eq] at hz
 refine call_meets PySem.F.slot_list_index ⟨_,ho,rfl⟩ PySem.F.entry_list_index (PySem.F.args_list_index_2 _ _)
  (PySem.SeqAt.list_indexAt l its.toArray n dd sl (.int k t) (isInt k) (ns.idxOf k) (by simpa [hlen] using hj) (by omega) ?_ ?_) ⟨ho,fun y hy=>(eq_isInt k t hi y (by simpa using hy)).at _ _,?_⟩
 ·show isInt k its[ns.idxOf k]=true
  rw [isInt_at k hi _ (by omega) hj]
  simpa using List.getElem_idxOf hj
 ·intro j hjs hlt
  show isInt k its[j]=false
  rw [isInt_at k hi j (by simpa using hjs) (by omega)]
  exact ne_of_lt_idxOf hlt _
 ·exact ⟨.int (ns.idxOf k:Nat),H,I.tok _,⟨_,rfl⟩,q⟩
end
def aw (p:Addr)(H H':Hp):Prop:=∀b o,b≠p->H b=some o->H' b=some o
theorem aw.of {p:Addr}{H H':Hp}(s:aC H H'):aw p H H':=fun b o _ e=>s b o e
theorem aw.trans {p:Addr}{H H1 H2:Hp}(a:aw p H H1)(b:aw p H1 H2):aw p H H2:=fun c o n e=>b c o n (a c o n e)
theorem aw.put {p:Addr}{H H':Hp}{o:HO}(s:aw p H H'):aw p H (upd H' p o):=fun b u n e=>by rw [aE n];exact s b u n e
theorem Rd.keep {p a:Addr}{H H':Hp}{u:HO}(s:aw p H H')(n:a≠p)(h:Rd H a u):Rd H' a u:=by
 rcases h with h | ⟨o,h⟩
 ·exact .inl (s _ _ n h)
 ·exact .inr ⟨o,s _ _ n h⟩
theorem SqT.keep {K:JA}{p a:Addr}{H H':Hp}{xs ys:List V}(s:aw p H H')(hp:H p=some (.lst ys))(h:SqT K H a xs):SqT K H' a xs:=by
 rcases h with h | h
 ·refine .inl (h.keep s fun z=>?_)
  subst z
  rcases h with h | ⟨o,h⟩
  ·rw [hp] at h;cases h
  ·rw [hp] at h;cases h
 ·exact .inr h
theorem Rd.keepI {p a C dx:Addr}{H H':Hp}{fs:List (Str×V)}{u:HO}(s:aw p H H')(hp:H p=some (.ins C dx fs))(hu:∀C dx fs,u≠.ins C dx fs)(h:Rd H a u):Rd H' a u:=by
 refine h.keep s fun z=>?_
 subst z
 rcases h with h | ⟨o,h⟩
 ·rw [hp] at h;cases h;exact hu _ _ _ rfl
 ·rw [hp] at h;cases h
theorem SqL.keepI {K:JA}{p a C dx:Addr}{H H':Hp}{xs:List V}{fs:List (Str×V)}(s:aw p H H')(hp:H p=some (.ins C dx fs))(h:SqL K H a xs):SqL K H' a xs:=by
 rcases h with h | h
 ·exact .inl (h.keepI s hp fun _ _ _ z=>HO.noConfusion z)
 ·exact .inr h
theorem SqT.keepI {K:JA}{p a C dx:Addr}{H H':Hp}{xs:List V}{fs:List (Str×V)}(s:aw p H H')(hp:H p=some (.ins C dx fs))(h:SqT K H a xs):SqT K H' a xs:=by
 rcases h with h | h
 ·exact .inl (h.keepI s hp fun _ _ _ z=>HO.noConfusion z)
 ·exact .inr h
theorem eA.keepI {K:JA}{p l C dx:Addr}{H H':Hp}{ls:List Ld}{fs:List (Str×V)}(s:aw p H H')(hp:H p=some (.ins C dx fs))(h:eA K H l ls):eA K H' l ls:=by
 obtain ⟨as,a,b⟩:=h
 exact ⟨as,a.keepI s hp,b.1,fun i a x e1 e2=>(b.2 i a x e1 e2).keepI s hp⟩
structure eD (C:Addr)(H:Hp)(y kn wh:Addr)(ks:List Str)(ws:List Int)(m:Int):Prop where
 ob:∃dx,H y=some (.ins C dx [("kinds",.ref kn),("where",.ref wh),("many",.int m)])
 okn:H kn=some (.lst (ks.map V.str))
 owh:H wh=some (.lst (ws.map V.int))
theorem eD.same {C:Addr}{H H':Hp}{y kn wh:Addr}{ks:List Str}{ws:List Int}{m:Int}(h:eD C H y kn wh ks ws m)(s:aC H H'):eD C H' y kn wh ks ws m:=by
 obtain ⟨⟨dx,a⟩,b,c⟩:=h
 exact ⟨⟨dx,s _ _ a⟩,s _ _ b,s _ _ c⟩
theorem eD.off {C:Addr}{H H':Hp}{p y kn wh:Addr}{ks:List Str}{ws:List Int}{m:Int}{ys:List V}(h:eD C H y kn wh ks ws m)(s:aw p H H')(hp:H p=some (.lst ys))(n1:kn≠p)(n2:wh≠p):eD C H' y kn wh ks ws m:=by
 obtain ⟨⟨dx,a⟩,b,c⟩:=h
 exact ⟨⟨dx,s _ _ (fun z=>by rw [z,hp] at a;cases a) a⟩,s _ _ n1 b,s _ _ n2 c⟩
theorem Ax {K:JA}{l:Addr}{ls:List Ld}{te:TE}{cm:List (Option Nat)}{σ:St}{H:Hp}{Q:VK}(f:Ld->V)(hL:eA K H l ls)(hn:ls.length<=sizeLine)(hcm:bV cm σ=[none,none,none])
  (he:∀x∈ls,∀N:VK,N (f x) H->te [some (.str x.1),some (.int x.2.1),some (.int x.2.2)] H N)
  (hd:∀p,H p=none->Q (.ref p) (upd H p (.lst (ls.map f)))):o8 (Itl K l) (DQ K 3 (vg (eg 0) (vg (eg 1) (vg (eg 2) DP)))) vp te cm σ Q H:=by
 obtain ⟨as,hS,hlen,hT⟩:=hL
 refine Au ls.length (fun i acc H'=>H'=H/\acc=(ls.take i).map f) ⟨rfl,by simp⟩ ?_ ?_ ?_ ?_
 ·rintro i acc H' hi ⟨rfl,_⟩
  have ha:as[i]?=some as[i]:=List.getElem?_eq_getElem (by omega)
  exact ⟨_,.ref as[i],hS,by rw [List.getElem?_map,ha];rfl⟩
 ·rintro acc H' ⟨rfl,_⟩
  exact ⟨_,hS,by rw [JB];omega⟩
 ·rintro i acc H' hi ⟨rfl,rfl⟩
  have ha:as[i]?=some as[i]:=List.getElem?_eq_getElem (by omega)
  have hx:ls[i]?=some ls[i]:=List.getElem?_eq_getElem hi
  refine ⟨by rw [JB,List.length_take];omega,fun x H2 y M hM=>?_⟩
  obtain ⟨e,y⟩:=y
  subst e
  have hy:=y _ hS
  rw [List.getElem?_map,ha] at hy
  cases hy
  rw [hcm]
  refine ⟨_,_,rfl,hT i _ _ ha hx,rfl,_,_,rfl,_,_,rfl,_,_,rfl,rfl,⟨rfl,fun k v e=>?_⟩,?_⟩
  ·match k,e with
   | 0,e=>cases e
   | 1,e=>cases e
   | 2,e=>cases e
  ·unfold vp;dsimp only
   split
   ·refine he ls[i] (List.getElem_mem _) _ (hM _ _ ⟨rfl,?_⟩)
    rw [List.take_succ_eq_append_getElem hi,List.map_append];rfl
   ·rename_i z;exact absurd rfl z
 ·rintro acc H' ⟨rfl,rfl⟩ p hp
  rw [List.take_length]
  exact hd p hp
theorem Ay {n:Nat}{i:Int}(h0:0<=i)(h1:i < n):ixN n i=some i.toNat:=by
 unfold ixN
 rw [if_pos h0,if_pos h1]
theorem kS {ds:List Int}{i:Nat}(h:i < ds.length):ds.getD i 0∈ds:=by
 rw [List.getD_eq_getElem?_getD,List.getElem?_eq_getElem h]
 exact List.getElem_mem h
theorem Az {ds:List Int}{i:Nat}(h:i < ds.length):ds[i]?=some (ds.getD i 0):=by
 rw [List.getD_eq_getElem?_getD,List.getElem?_eq_getElem h];rfl
section
variable {X:Cx}
theorem xb {tg iter elt:Expr}{ifs:List Expr}{scope:Scope}{pos spos py:Pos}{Nc:List Str}{cm:List (Option Nat)}{wi:TI}{g:TG}{tc:TT}{te:TE}{iy:Nat}{y:Str}(hN:X.N.Nodup)(hiy:X.N[iy]?=some y)(hly:X.env.scope.names.lookup y=some .local)
  (hsw:swapsWith (.ListComp elt [⟨tg,iter,ifs,0⟩] scope pos) (some (.Name y py)) spos.line X.env=pure true)
  (hc:X.calm=true) (hi:PI X tg iter wi) (hkind:scope.kind=.function) (hcell:∀y∈scope.names,y.2≠.cell) (hnames:∀y∈scope.names,y.2=.local->scope.names.lookup y.1=some .local)
  (hfree:∀y∈scope.names,y.2=.free->X.env.kindOf y.1=some .cell\/X.env.kindOf y.1=some .free) (hlen:cm.length=Nc.length)
  (hcm:∀(j:Nat) (x:Str) (i:Nat),Nc[j]?=some x->cm[j]?=some (some i)->X.N[i]?=some x/\scope.names.lookup x=some .free/\(X.env.kindOf x=some .cell\/X.env.kindOf x=some .free))
  (hg:∀C s₀ H₀ ex,PG (blk X Nc scope C s₀ H₀ ex) tg g) (ht:∀C s₀ H₀ ex,PIf (blk X Nc scope C s₀ H₀ ex) ifs tc) (he:∀C s₀ H₀ ex,PE (blk X Nc scope C s₀ H₀ ex) elt te)
  (hs:∀x,foldedSetIterable iter X.env x=pure x:=by intro _;rfl):PS X (.Assign [.Name y py] (.ListComp elt [⟨tg,iter,ifs,0⟩] scope pos) spos) (zQ (vo wi g tc te cm) (eg iy)):=by
 intro pins s σ H D0 I h
 rw [exec_Assign_Name_used _ _ _ _ hsw]
 refine wpAny_bind (wpAny_standAt (wpAny_bind ?_))
 show wpAny _ X.A (do let _ ←comprehension (.ListComp elt [⟨tg,iter,ifs,0⟩] scope pos) scope X.env _ (newList []) false (eval iter X.env) (some (assign (.Name y py) X.env))) _ _ s
 refine wpAny_bind (wpAny_mono (Q:=fun _ s'=>SP X pins D0 .next s') ?_ (fun _ s' hq=>wpAny_pure (wpAny_pure hq)) fun _ _ e=>e)
 have hfr:∀y∈scope.names,y.2=.free->∃c,X.env.cells.lookup y.1=some c:=fun y hy e=>I.ok.has y.1 (hfree y hy e)
 refine wpAny_comprehension_free (use:=some (assign (.Name y py) X.env)) (Q:=fun _ s'=>SP X pins D0 .next s') rfl hs (jV hfr) hkind hnames (thn (hi pins s σ H _ I h) fun v s1 h1=>thn h1 fun itv s2 h2=>?_)
 obtain ⟨it,fp,tn,J,H2,e,I2,T,st2,f2,W,⟨m0,w0⟩,turn⟩:=h2
 subst e
 refine wpAny_newObj_type (wpAny_newFunctionEnv hcell (by intro y hy;simp at hy) (fun h₁ hns₁ hsb₁=>?_) hkind)
 dsimp only at hns₁ hsb₁ ⊢
 have keepA:∀b u,(s2.heap.push {cls:=.type "list",dict:=none,data:=.seq ([]:List Value).toArray}).get? b=some u->h₁.get? b=some u:=fun b u q=>(hsb₁.2 b (Nat.ne_of_lt (Heap.lt_size q))).trans (Heap.get?_push_of_some _ q)
 refine tD (yo:=none) (QV:=fun x H1=>eg iy x σ H1 D0.nx) hc hkind (fun z hz e=>absurd e (hcell z hz)) (fun _ e=>by cases e) hfr hlen hcm hg ht he I2 T st2 f2 w0 turn hns₁ keepA (fun _ e=>by cases e) (fun s6 H5 acc m hm fc J qn _=>?_)
 obtain ⟨fc0,fc1,fc2,fc3,fc4,fc5⟩:=fc
 refine wpAny_assign_Name (td (s:=s6) (v:=.ref s2.heap.objs.size) (J s6.heap ⟨rfl,fun _ _=>rfl⟩) hN hiy (.inl hly) rfl (fun s7 J9 hsa=>?_) (.inr hly))
 obtain ⟨aa,hsa,hwh⟩:=hsa
 exact ⟨m,hm.sameBut hsa (by rcases hwh with z | z;rw [z];exact fc1;exact (fc4 _ _ z).symm),fun h7 hs7=>⟨_,_,J9.turned (it:=(s2.heap.push {cls:=.type "list",dict:=none,data:=.seq ([]:List Value).toArray}).objs.size) (t':=s7.toks) (fun b o hb hu=>(hs7.2 b hb).trans hu) fc0 fc1 fc3 fc4 fc5,qn⟩⟩
end
theorem AA {X:Cx}{tg iter elt:Expr}{ifs:List Expr}{scope:Scope}{pos spos py:Pos}(Nc:List Str)(cm:List (Option Nat)){wi:TI}{g:TG}{tc:TT}{te:TE}{iy:Nat}{y:Str}(hN:X.N.Nodup)(hiy:X.N[iy]?=some y)(hly:X.env.scope.names.lookup y=some .local)
  (hi:PI X tg iter wi) (hg:∀C s₀ H₀ ex,PG (blk X Nc scope C s₀ H₀ ex) tg g) (ht:∀C s₀ H₀ ex,PIf (blk X Nc scope C s₀ H₀ ex) ifs tc) (he:∀C s₀ H₀ ex,PE (blk X Nc scope C s₀ H₀ ex) elt te)
  (hsw:swapsWith (.ListComp elt [⟨tg,iter,ifs,0⟩] scope pos) (some (.Name y py)) spos.line X.env=pure true:=by rfl)
  (hc:X.calm=true:=by rfl) (hkind:scope.kind=.function:=by rfl) (hcell:∀y∈scope.names,y.2≠.cell:=by decide +kernel) (hnames:∀y∈scope.names,y.2=.local->scope.names.lookup y.1=some .local:=by decide +kernel)
  (hfree:Aj X scope=true:=by rfl) (hlen:cm.length=Nc.length:=by rfl) (hcm:FJ X scope Nc cm=true:=by rfl)
  (hs:∀x,foldedSetIterable iter X.env x=pure x:=by intro _;rfl):PS X (.Assign [.Name y py] (.ListComp elt [⟨tg,iter,ifs,0⟩] scope pos) spos) (zQ (vo wi g tc te cm) (eg iy)):=by
 refine xb hN hiy hly hsw hc hi hkind hcell hnames (fun y hy e=>?_) hlen (fun j x i e1 e2=>?_) hg ht he hs
 ·have h:=List.all_eq_true.mp hfree y hy
  rw [e] at h
  simpa using h
 ·have hj:(Nc.zip cm)[j]?=some (x,some i):=by
   rw [List.getElem?_zip_eq_some];exact ⟨e1,e2⟩
  have h:=List.all_eq_true.mp hcm _ (List.mem_of_getElem? hj)
  simpa using h
theorem fi.calm {P:Program}{w:World}{K:JA}{mg:Str->Option Value}{base:Heap}{k:Nat}{f:Addr}{fd:FuncData}{ps:List Str}{sp:Sp}(F:fi P w K mg base (CXf P w) k f fd ps sp)
  (h:∀vs H Q E,sp vs H Q E->sp vs H Q E0):fi P w K mg base CX0 k f fd ps sp:=by
 refine ⟨F.len,fun A outer s H args us vs Q E hr he hb hv hs=>?_⟩
 refine codeAny_mono (F.run A outer s H args us vs Q E0 hr he hb hv (h _ _ _ _ hs)) fun r s' q=>?_
 cases r with
 | ok fl=>cases fl<;>exact q
 | error e=>
  obtain ⟨x,cls,a0,H',B,_,_,_,_,_,_,_,_,_,z⟩:=q
  exact z.elim
def bP {α:Type}(f:α->List V)(K:JA)(H:Hp)(as:List Addr)(ls:List α):Prop:=as.length=ls.length/\∀(i:Nat) a x,as[i]?=some a->ls[i]?=some x->SqT K H a (f x)
def hX {α:Type}(f:α->List V)(K:JA)(H:Hp)(l:Addr)(ls:List α):Prop:=∃as:List Addr,SqL K H l (as.map V.ref)/\bP f K H as ls
section
variable {α:Type}{f:α->List V}{K:JA}{H H':Hp}{as bs:List Addr}{ls ks:List α}{l p:Addr}
theorem bP.same (s:aC H H')(h:bP f K H as ls):bP f K H' as ls:=⟨h.1,fun i a x e1 e2=>s.tup (h.2 i a x e1 e2)⟩
theorem hX.same (s:aC H H')(h:hX f K H l ls):hX f K H' l ls:=by
 obtain ⟨as,a,b⟩:=h
 exact ⟨as,s.seq a,b.same s⟩
theorem bP.nil:bP f K H [] []:=⟨rfl,fun i a x e _=>by simp at e⟩
theorem bP.app (h:bP f K H as ls)(g:bP f K H bs ks):bP f K H (as++bs) (ls++ks):=by
 refine ⟨by rw [List.length_append,List.length_append,h.1,g.1],fun i a x e1 e2=>?_⟩
 by_cases hi:i < as.length
 ·rw [List.getElem?_append_left hi] at e1
  rw [List.getElem?_append_left (by rw [←h.1];exact hi)] at e2
  exact h.2 i a x e1 e2
 ·rw [List.getElem?_append_right (by omega)] at e1
  rw [List.getElem?_append_right (by rw [←h.1];omega),←h.1] at e2
  exact g.2 _ a x e1 e2
theorem bP.one {a:Addr}{x:α}(h:SqT K H a (f x)):bP f K H [a] [x]:=by
 refine ⟨rfl,fun i b y e1 e2=>?_⟩
 cases i with
 | zero=>cases e1;cases e2;exact h
 | succ i=>simp at e1
theorem bP.rew {ys:List V}{o:HO}(h:bP f K H as ls)(hl:H l=some (.lst ys)):bP f K (upd H l o) as ls:=⟨h.1,fun i a x e1 e2=>(h.2 i a x e1 e2).rew hl⟩
theorem bP.keep {ys:List V}(s:aw p H H')(hp:H p=some (.lst ys))(h:bP f K H as ls):bP f K H' as ls:=⟨h.1,fun i a x e1 e2=>(h.2 i a x e1 e2).keep s hp⟩
theorem bP.keepI {C dx:Addr}{fs:List (Str×V)}(s:aw p H H')(hp:H p=some (.ins C dx fs))(h:bP f K H as ls):bP f K H' as ls:=⟨h.1,fun i a x e1 e2=>(h.2 i a x e1 e2).keepI s hp⟩
theorem hX.keepI {C dx:Addr}{fs:List (Str×V)}(s:aw p H H')(hp:H p=some (.ins C dx fs))(h:hX f K H l ls):hX f K H' l ls:=by
 obtain ⟨as,a,b⟩:=h
 exact ⟨as,a.keepI s hp,b.keepI s hp⟩
theorem bx {a:Addr}{xs:List V}{n:Nat}(h:SqT K H a xs)(hb:xs.length<=1000)(hf:∀x∈xs,a7 x=true):Rep K H (n+1) (.ref a) (.tup (xs.map Dt.flat)):=zc h (by omega) hf
end
noncomputable abbrev Cd:=Int×Int
noncomputable def cdV (x:Cd):List V:=[.int x.1,.int x.2]
def eO (x:Cd):Prop:=(1<=x.1/\x.1<=9)/\(1<=x.2/\x.2<=9)/\x.1≠x.2
end L2
namespace L2
open PySem PySem.Spec PyProof.Rows PySem.SeqAt
theorem pH {M:Model}{A:Around}{E:Value->Shared->Prop}{s:Shared}{β:Type}{c:β}{f:Nat->β->Sem (ForInStep β)}{Q:β->Shared->Prop}{n:Nat}(hn:n=2)
  (h:wpAny M A (f 0 c) (fun r s1=>match r with | .done b=>Q b s1 | .yield b=>wpAny M A (f 1 b) (fun r s2=>match r with | .done b=>Q b s2 | .yield b=>Q b s2) E s1) E s) :
  wpAny M A (forIn ([:n]:Std.Legacy.Range) c f) Q E s:=by
 subst hn
 rw [Std.Legacy.Range.forIn_eq_forIn_range']
 show wpAny M A (forIn [0,1] c f) Q E s
 rw [List.forIn_cons]
 refine wpAny_bind (wpAny_mono h ?_ (fun _ _ z=>z))
 intro r s1 h1
 cases r with
 | done b=>exact wpAny_pure h1
 | yield b=>
  show wpAny M A (forIn [1] b f) Q E s1
  rw [List.forIn_cons]
  refine wpAny_bind (wpAny_mono h1 ?_ (fun _ _ z=>z))
  intro r s2 h2
  cases r with
  | done b=>exact wpAny_pure h2
  | yield b=>
   show wpAny M A (forIn [] b f) Q E s2
   rw [List.forIn_nil]
   exact wpAny_pure h2
theorem ur (l:Addr)(items:Array Value)(a b:Value)(n:Nat)(dd:Option Addr)(sl:Array (Option Value))(x:Value)(e0 e1:Bool)(he:(e0 || e1)=true)(hsz:items.size=2)(i0:items[0]?=some a)(i1:items[1]?=some b) :
  Meets (Builtin.«tuple.index» ⟨[.ref l,x],[]⟩)
   (fun A R s=>s.heap.get? l=some {cls:=.type "tuple",dict:=dd,data:=.seq items n,slots:=sl}/\EqAt A.in1 s a x e0/\EqAt A.in1 s b x e1/\R (.ok (.ret (.int (if e0=true then 0 else 1) s.toks))) {s with toks:=s.toks+1}):=
 .of_wp fun prog w A R s h=>by
  obtain ⟨hp,g,d,tk,os⟩:=s;obtain ⟨hl,h0,h1,h⟩:=h
  wp_walk using wpAny_loadPart' hl,pH (show min items.size items.size=2 by omega)
  rw [i0]
  refine wpAny_bind (h0 prog w _ _ ?_)
  cases e0 with
  | true=>
   wp_walk
   exact ⟨_,rfl,h⟩
  | false=>
   wp_walk
   rw [i1]
   refine wpAny_bind (h1 prog w _ _ ?_)
   have e1t:e1=true:=by simpa using he
   subst e1t
   wp_walk
   exact ⟨_,rfl,h⟩
section
variable {X:Cx}
noncomputable def yj (K:JA):V->List V->Hp->VK->Prop:=fun x vs H Q=>∃(l:Addr) (a b k:V),x=.ref l/\vs=[k]/\SqT K H l [a,b]/\a7 a=true/\a7 b=true/\a7 k=true/\(eqV a k || eqV b k)=true/\Q (.int (if eqV a k=true then 0 else 1)) H
theorem zd:MtR X "tuple.index" (yj X.K):=by
 intro pins s σ H x vs v us Q I rx rv h
 obtain ⟨l,a,b,k,rfl,rfl,hq,fa,fb,fk,hk,q⟩:=h
 cases rx
 obtain ⟨u,rfl,ru⟩:=rv.one
 obtain ⟨its,r,pl,hz⟩:=I.tuple hq
 obtain ⟨u1,u2,rfl,r1,r2⟩:=r.two
 obtain ⟨⟨cls,dd,data,sl⟩,ho,hc,n,hd⟩:=id pl
 simp only at hc hd
 subst hc hd
 refine call_meets PySem.F.slot_tuple_index ⟨_,ho,rfl⟩ PySem.F.entry_tuple_index (PySem.F.args_tuple_index_2 _ _)
  (ur l _ u1 u2 n dd sl u (eqV a k) (eqV b k) hk rfl rfl rfl) ⟨ho,jU r1 ru fa fk,jU r2 ru fb fk,?_⟩
 exact ⟨.int _,H,I.tok _,⟨_,rfl⟩,q⟩
noncomputable def FP (K:JA):R2:=fun x y H Q=>∃a b xs ys,x=.ref a/\y=.ref b/\SqT K H a xs/\SqT K H b ys/\xs.all a7=true/\ys.all a7=true/\Q (.bl (!eqL xs ys)) H
theorem uu {xs ys:List V}:((List.range (min xs.length ys.length)).all (fun j=>eqV (xs.getD j .non) (ys.getD j .non)) && xs.length == ys.length)=eqL xs ys:=by
 by_cases hl:xs.length=ys.length
 ·rw [show min xs.length ys.length=xs.length by omega,pY hl,hl]
  simp
 ·have e:eqL xs ys=false:=by
   cases z:eqL xs ys with
   | false=>rfl
   | true=>exact absurd (pX z) hl
  rw [e]
  simp [hl]
theorem Ey (hu:X.A.units < cLine):OpR X (compareOp .NotEq) (FP X.K):=by
 intro pins s σ H x y u v Q I rx ry h
 obtain ⟨a,b,xs,ys,rfl,rfl,ha,hb,fa,fb,q⟩:=h
 cases rx;cases ry
 obtain ⟨ia,ra,pa,za⟩:=I.tuple ha
 obtain ⟨ib,rb,pb,zb⟩:=I.tuple hb
 have la:=ra.length
 have lb:=rb.length
 refine RcNeAt.tuples (e:=fun j=>eqV (xs.getD j .non) (ys.getD j .non)) pa pb hu (fun j h1 h2=>?_) X.prog X.w _ _ ?_
 ·simp only [List.size_toArray] at h1 h2
  have hx:xs[j]?=some (xs.getD j .non):=by
   rw [List.getD_eq_getElem?_getD,List.getElem?_eq_getElem (by omega)];rfl
  have hy:ys[j]?=some (ys.getD j .non):=by
   rw [List.getD_eq_getElem?_getD,List.getElem?_eq_getElem (by omega)];rfl
  obtain ⟨u,eu,ru⟩:=ra.get hx
  obtain ⟨v,ev,rv⟩:=rb.get hy
  have e1:ia.toArray[j]=u:=by
   have:=List.getElem?_eq_some_iff.mp eu
   simpa using this.2
  have e2:ib.toArray[j]=v:=by
   have:=List.getElem?_eq_some_iff.mp ev
   simpa using this.2
  rw [e1,e2]
  exact jU ru rv (List.all_eq_true.mp fa _ (List.mem_of_getElem? hx)) (List.all_eq_true.mp fb _ (List.mem_of_getElem? hy))
 ·have e:=uu (xs:=xs) (ys:=ys)
  simp only [List.size_toArray]
  rw [←la,←lb,e]
  exact ⟨.bl (!eqL xs ys),H,I,rfl,q⟩
end
end L2
namespace L2
open PySem PySem.Spec PyProof.Rows
inductive Eng where
 | no | wait (l r:Int) | armed (l r:Int) | other (l r s:Int) | used (l r:Int)
 deriving DecidableEq
noncomputable def pI:Eng->List V
 | .no=>[.str "not rung",.non,.non,.non]
 | .wait l r=>[.str "not repeated",.int l,.int r,.non]
 | .armed l r=>[.str "armed",.int l,.int r,.int r]
 | .other l r s=>[.str "repeated otherwise",.int l,.int r,.int s]
 | .used l r=>[.str "used up",.int l,.int r,.int r]
theorem dj (e:Eng):∀x∈pI e,a7 x=true:=by cases e<;>simp [pI,a7]
theorem fm (e:Eng):(pI e).length=4:=by cases e<;>rfl
theorem aw.free {p x:Addr}{H H':Hp}(k:aw p H H')(n:x≠p)(h:H' x=none):H x=none:=by
 cases e:H x with
 | none=>rfl
 | some o=>have:=k x o n e;rw [h] at this;cases this
structure bb (C:Addr)(K:JA)(H:Hp)(b cs fl st:Addr)(ls:List Cd)(fs:List Bool)(e:Eng):Prop where
 ob:∃dx,H b=some (.ins C dx [("codes",.ref cs),("failed",.ref fl),("state",.ref st)])
 oc:∃as:List Addr,H cs=some (.lst (as.map V.ref))/\bP cdV K H as ls
 of:H fl=some (.lst (fs.map V.bl))
 os:SqT K H st (pI e)
 nn:cs≠fl
 ln:fs.length=ls.length
theorem bb.rows {C:Addr}{K:JA}{H:Hp}{b cs fl st:Addr}{ls:List Cd}{fs:List Bool}{e:Eng}(h:bb C K H b cs fl st ls fs e):hX cdV K H cs ls:=by
 obtain ⟨as,a,t⟩:=h.oc
 exact ⟨as,SqL.of a,t⟩
theorem bb.same {C:Addr}{K:JA}{H H':Hp}{b cs fl st:Addr}{ls:List Cd}{fs:List Bool}{e:Eng}(h:bb C K H b cs fl st ls fs e)(s:aC H H'):bb C K H' b cs fl st ls fs e:=by
 obtain ⟨⟨dx,a⟩,⟨as,c,t⟩,f,g,n,l⟩:=h
 exact ⟨⟨dx,s _ _ a⟩,⟨as,s _ _ c,t.same s⟩,s _ _ f,s.tup g,n,l⟩
theorem bb.state {C:Addr}{K:JA}{H H':Hp}{b cs fl st st' dx:Addr}{ls:List Cd}{fs:List Bool}{e e':Eng}(h:bb C K H b cs fl st ls fs e)(k:aw b H H')
  (a:H' b=some (.ins C dx [("codes",.ref cs),("failed",.ref fl),("state",.ref st')])) (g:SqT K H' st' (pI e')):bb C K H' b cs fl st' ls fs e':=by
 obtain ⟨⟨dx0,a0⟩,⟨as,c,t⟩,f,_,n,l⟩:=h
 exact ⟨⟨dx,a⟩,⟨as,k _ _ (fun z=>by rw [z,a0] at c;cases c) c,t.keepI k a0⟩,k _ _ (fun z=>by rw [z,a0] at f;cases f) f,g,n,l⟩
theorem bb.fail {C:Addr}{K:JA}{H H':Hp}{b cs fl st:Addr}{ls:List Cd}{fs fs':List Bool}{e:Eng}(h:bb C K H b cs fl st ls fs e)(k:aw fl H H')(g:H' fl=some (.lst (fs'.map V.bl)))(hl:fs'.length=fs.length):bb C K H' b cs fl st ls fs' e:=by
 obtain ⟨⟨dx0,a0⟩,⟨as,c,t⟩,f,o,n,l⟩:=h
 exact ⟨⟨dx0,k _ _ (fun z=>by rw [z,f] at a0;cases a0) a0⟩,⟨as,k _ _ n c,t.keep k f⟩,g,o.keep k f,n,hl.trans l⟩
noncomputable def dk (ls:List Cd)(l:Int):Cd:=ls.getD l.toNat (0,0)
noncomputable def bW (ls:List Cd)(l:Int)(k:Str):Int:=if k="men" then (dk ls l).1 else (dk ls l).2
theorem nq {K:JA}{H:Hp}{as:List Addr}{ls:List Cd}{l:Int}(t:bP cdV K H as ls)(h0:0<=l)(h1:l < ls.length):∃a,atI (as.map V.ref) l=some (.ref a)/\SqT K H a (cdV (dk ls l)):=by
 obtain ⟨n,rfl⟩:=Int.eq_ofNat_of_zero_le h0
 have hn:n < ls.length:=by omega
 have ha:as[n]?=some (as[n]'(by rw [t.1];exact hn)):=List.getElem?_eq_getElem _
 refine ⟨as[n]'(by rw [t.1];exact hn),ay (by rw [List.getElem?_map,ha];rfl),t.2 n _ _ ha ?_⟩
 rw [dk,Int.toNat_natCast,List.getD_eq_getElem?_getD,List.getElem?_eq_getElem hn];rfl
theorem qq {fs:List Bool}{l:Int}(h0:0<=l)(h1:l < fs.length):atI (fs.map V.bl) l=some (.bl (fs.getD l.toNat false)):=by
 obtain ⟨n,rfl⟩:=Int.eq_ofNat_of_zero_le h0
 have hn:n < fs.length:=by omega
 refine ay ?_
 rw [List.getElem?_map,List.getElem?_eq_getElem hn,Int.toNat_natCast,List.getD_eq_getElem?_getD,List.getElem?_eq_getElem hn];rfl
section
variable {X:Cx}
theorem uv:cZ X (.type "range") (fun xs H Q=>∃i j:Int,xs=[.int i,.int j]/\∀p,H p=none->Q (.ref p) (upd H p (.rng i j))):=by
 intro pins s σ H xs us Q I r h
 obtain ⟨i,j,rfl,q⟩:=h
 obtain ⟨u,v,rfl,⟨t,rfl⟩,⟨t',rfl⟩⟩:=a8.two r
 refine call_range_2 ?_
 exact ⟨.ref s.heap.objs.size,_,I.laid (o:=.rng i j) (fun b o e=>Heap.get?_push_of_some _ e) (Nat.le_refl _) ⟨_,_,_,Heap.get?_push_size _ rfl⟩,rfl,q _ I.fresh⟩
end
noncomputable def lvl (ds:List Int)(d:Int):Option Int:=if d∈ds then some (ds.idxOf d:Nat) else none
theorem qr {ds:List Int}(h:cq ds){i:Nat}{d:Int}(hi:i < ds.length)(e:ds.getD i 0=d):lvl ds d=some (i:Int):=by
 have hm:d∈ds:=e▸kS hi
 rw [lvl,if_pos hm]
 have hlt:=List.idxOf_lt_length_iff.mpr hm
 have e2:ds.getD (ds.idxOf d) 0=d:=by
  rw [List.getD_eq_getElem?_getD,List.getElem?_eq_getElem hlt]
  exact List.getElem_idxOf hlt
 have:ds.idxOf d=i:=by
  rcases Nat.lt_trichotomy (ds.idxOf d) i with z | z | z
  ·have:=h.lt z hi;omega
  ·exact z
  ·have:=h.lt z hlt;omega
 rw [this]
noncomputable def iO (ds:List Int)(p c:Int):Option Int:=if c=0 then lvl ds p else lvl ds (bX ds - p)
inductive Stp where
 | wind (c l:Int) | load (k c:Int) | unload (k c:Int)
noncomputable def FQ (lv:Option Int)(x:List Int):Stp->Option (List Int)
 | .wind _ _=>none
 | .load k c=>match lv with | none=>none | some l=>if x.getD (k.toNat+1) 0=l/\¬10+c∈x.tail then some (x.set (k.toNat+1) (10+c)) else none
 | .unload k c=>match lv with | none=>none | some l=>if x.getD (k.toNat+1) 0=10+c then some (x.set (k.toNat+1) l) else none
noncomputable def Ez:Stp->Int
 | .wind c _=>c
 | .load _ c=>c
 | .unload _ c=>c
noncomputable def stK:Stp->Int
 | .wind _ _=>0
 | .load k _=>k
 | .unload k _=>k
noncomputable def after (ds dead:List Int)(x:List Int):Stp->Option (List Int)
 | .wind c l=>if l < 0\/(ds.length:Int)<=l\/l∈dead then none else some ((if c=0 then ds.getD l.toNat 0 else bX ds - ds.getD l.toNat 0)::x.tail)
 | s=>if stK s < 0\/(x.length:Int)<=stK s+1 then none else FQ (iO ds (x.getD 0 0) (Ez s)) x s
theorem ze (a b i:Int):(Builtin.Range.rangePlace? a b 1 i).isSome=decide (a<=i/\i < b):=by
 unfold Builtin.Range.rangePlace?
 rw [Bool.eq_iff_iff]
 simp
theorem zg (r:Addr)(a b x:Int)(t u v tx:Tok) :
  Meets (Builtin.«range.__contains__» ⟨[.ref r,.int x tx],[]⟩)
   (fun A R s=>s.heap.get? r=some {cls:=.type "range",data:=.fields #[.int a t,.int b u,.int 1 v]}/\R (.ok (.ret (.bool (decide (a<=x/\x < b))))) s):=
 .of_wp fun prog w A R s h=>by
  obtain ⟨hp,g,d,tk,os⟩:=s;obtain ⟨hl,h⟩:=h
  wp_walk using wpAny_loadPart' hl
  rw [ze]
  exact ⟨_,rfl,h⟩
section
variable {X:Cx}
noncomputable def FR (neg:Bool):R2:=fun x y H Q=>∃(r:Addr) (lo hi i:Int),x=.int i/\y=.ref r/\H r=some (.rng lo hi)/\Q (.bl (if neg=true then !decide (lo<=i/\i < hi) else decide (lo<=i/\i < hi))) H
theorem zh:OpR X (compareOp .In) (FR false):=by
 intro pins s σ H x y v u Q I rx ry h
 obtain ⟨r,lo,hi,i,rfl,rfl,hr,q⟩:=h
 obtain ⟨tx,rfl⟩:=rx
 cases ry
 obtain ⟨t,u,v,e⟩:=I.hok r _ hr
 exact PySem.SeqRoads2.in_meets ⟨_,e,rfl⟩ PySem.F.slot_range_contains PySem.F.entry_range_contains (PySem.F.args_range_contains_2 _ _) (zg r lo hi i t u v tx) ⟨e,_,rfl,⟨.bl _,H,I,rfl,q⟩⟩
end
structure Cl where
 (B Y S K W:Addr)
structure aY where
 place:Int
 gates:List Bool
 fs:List Bool
 e:Eng
 ws:List Int
structure Cfg where
 ds:List Int
 ls:List Cd
 slow:Int
 fast:Int
 goals:List Int
 ks:List Str
 N:Addr->Prop:=fun _=>False
structure SA where
 (dx ol b cs fl st y kn wh:Addr)
structure FT (rl:Addr)(A:SA):Prop where
 r1:A.ol≠rl
 r2:A.cs≠rl
 r3:A.fl≠rl
 r4:A.kn≠rl
 r5:A.wh≠rl
 o1:A.cs≠A.ol
 o2:A.fl≠A.ol
 o3:A.kn≠A.ol
 o4:A.wh≠A.ol
 f1:A.ol≠A.fl
 f2:A.kn≠A.fl
 f3:A.wh≠A.fl
 w1:A.ol≠A.wh
 w2:A.cs≠A.wh
 w3:A.fl≠A.wh
 w4:A.kn≠A.wh
structure Off (H:Hp)(rl:Addr)(N:Addr->Prop)(A:SA):Prop where
 al:∀p,N p->∃ys,H p=some (.lst ys)
 nr:∀p,N p->rl≠p
 no:∀p,N p->A.ol≠p
 nc:∀p,N p->A.cs≠p
 nf:∀p,N p->A.fl≠p
 nk:∀p,N p->A.kn≠p
 nw:∀p,N p->A.wh≠p
theorem Off.keep {H H':Hp}{rl q:Addr}{N:Addr->Prop}{A:SA}(h:Off H rl N A)(k:aw q H H')(hq:∀p,N p->q≠p):Off H' rl N A:=⟨fun p hp=>by
 obtain ⟨ys,e⟩:=h.al p hp
 exact ⟨ys,k _ _ (hq p hp).symm e⟩,h.nr,h.no,h.nc,h.nf,h.nk,h.nw⟩
theorem Off.same {H H':Hp}{rl:Addr}{N:Addr->Prop}{A:SA}(h:Off H rl N A)(k:aC H H'):Off H' rl N A:=⟨fun p hp=>by
 obtain ⟨ys,e⟩:=h.al p hp
 exact ⟨ys,k _ _ e⟩,h.nr,h.no,h.nc,h.nf,h.nk,h.nw⟩
theorem Off.keepI {H H':Hp}{rl q C dx:Addr}{fs:List (Str×V)}{N:Addr->Prop}{A:SA}(h:Off H rl N A)(k:aw q H H')(hq:H q=some (.ins C dx fs)):Off H' rl N A:=h.keep k fun p hp z=>by
 obtain ⟨ys,e⟩:=h.al p hp
 rw [←z,hq] at e
 cases e
structure aU (C:Cl)(K:JA)(H:Hp)(rl:Addr)(g:Cfg)(s:Addr)(A:SA)(n:aY):Prop where
 ob:H s=some (.ins C.S A.dx [("place",.int n.place),("opened",.ref A.ol),("bells",.ref A.b),("yard",.ref A.y)])
 go:H A.ol=some (.lst (n.gates.map V.bl))
 be:bb C.B K H A.b A.cs A.fl A.st g.ls n.fs n.e
 ya:eD C.Y H A.y A.kn A.wh g.ks n.ws g.ds.length
 ap:FT rl A
 nn:Off H rl g.N A
def cW (C:Cl)(K:JA)(H:Hp)(rl:Addr)(g:Cfg)(s:Addr)(n:aY):Prop:=∃A,aU C K H rl g s A n
theorem bb.off {C:Addr}{K:JA}{H H':Hp}{p b cs fl st:Addr}{ls:List Cd}{fs:List Bool}{e:Eng}{ys:List V}(h:bb C K H b cs fl st ls fs e)(s:aw p H H')(hp:H p=some (.lst ys))(n1:cs≠p)(n2:fl≠p):bb C K H' b cs fl st ls fs e:=by
 obtain ⟨⟨dx,a⟩,⟨as,c,t⟩,f,g,n,l⟩:=h
 exact ⟨⟨dx,s _ _ (fun z=>by rw [z,hp] at a;cases a) a⟩,⟨as,s _ _ n1 c,t.keep s hp⟩,s _ _ n2 f,g.keep s hp,n,l⟩
theorem bb.offI {C D dp:Addr}{K:JA}{H H':Hp}{p b cs fl st:Addr}{ls:List Cd}{fs:List Bool}{e:Eng}{us:List (Str×V)}(h:bb C K H b cs fl st ls fs e)(s:aw p H H')(hp:H p=some (.ins D dp us))(n1:b≠p):bb C K H' b cs fl st ls fs e:=by
 obtain ⟨⟨dx,a⟩,⟨as,c,t⟩,f,g,n,l⟩:=h
 exact ⟨⟨dx,s _ _ n1 a⟩,⟨as,s _ _ (fun z=>by rw [z,hp] at c;cases c) c,t.keepI s hp⟩,s _ _ (fun z=>by rw [z,hp] at f;cases f) f,g.keepI s hp,n,l⟩
theorem eD.offI {C D dp:Addr}{H H':Hp}{p y kn wh:Addr}{ks:List Str}{ws:List Int}{m:Int}{us:List (Str×V)}(h:eD C H y kn wh ks ws m)(s:aw p H H')(hp:H p=some (.ins D dp us))(n1:y≠p):eD C H' y kn wh ks ws m:=by
 obtain ⟨⟨dx,a⟩,b,c⟩:=h
 exact ⟨⟨dx,s _ _ n1 a⟩,s _ _ (fun z=>by rw [z,hp] at b;cases b) b,s _ _ (fun z=>by rw [z,hp] at c;cases c) c⟩
section
variable {C:Cl}{K:JA}{H H':Hp}{rl s a w bk:Addr}{g:Cfg}{A:SA}{n n0:aY}
theorem aU.same (h:aU C K H rl g s A n)(e:aC H H'):aU C K H' rl g s A n:=⟨e _ _ h.ob,e _ _ h.go,h.be.same e,h.ya.same e,h.ap,h.nn.same e⟩
theorem aU.keep {ys:List V}(h:aU C K H rl g s A n)(e:aw rl H H')(hr:H rl=some (.lst ys)):aU C K H' rl g s A n:=
 ⟨e _ _ (fun z=>by have:=h.ob;rw [z,hr] at this;cases this) h.ob,e _ _ h.ap.r1 h.go,h.be.off e hr h.ap.r2 h.ap.r3,h.ya.off e hr h.ap.r4 h.ap.r5,h.ap,h.nn.keep e h.nn.nr⟩
theorem aU.at (h:aU C K H rl g s A n):cW C K H rl g s n:=⟨A,h⟩
theorem cW.same (h:cW C K H rl g s n)(e:aC H H'):cW C K H' rl g s n:=by
 obtain ⟨A,h⟩:=h
 exact ⟨A,h.same e⟩
theorem cW.keep {ys:List V}(h:cW C K H rl g s n)(e:aw rl H H')(hr:H rl=some (.lst ys)):cW C K H' rl g s n:=by
 obtain ⟨A,h⟩:=h
 exact ⟨A,h.keep e hr⟩
theorem aU.gates (h:aU C K H rl g s A n)(e:aw A.ol H H'){gs:List Bool}(hg:H' A.ol=some (.lst (gs.map V.bl))):aU C K H' rl g s A {n with gates:=gs}:=
 ⟨e _ _ (fun z=>by have:=h.ob;rw [z,h.go] at this;cases this) h.ob,hg,h.be.off e h.go h.ap.o1 h.ap.o2,h.ya.off e h.go h.ap.o3 h.ap.o4,h.ap,h.nn.keep e h.nn.no⟩
structure Row where
 began:Int
 ended:Int
 deed:List V
 speed:Int
 sn:aY
def nu (C:Cl)(K:JA)(H:Hp)(rl:Addr)(g:Cfg)(a:Addr)(r:Row):Prop:=∃dd s,SqT K H a [.int r.began,.int r.ended,.ref dd,.int r.speed,.ref s]/\SqT K H dd r.deed/\cW C K H rl g s r.sn
theorem nu.same {r:Row}(h:nu C K H rl g a r)(e:aC H H'):nu C K H' rl g a r:=by
 obtain ⟨dd,s,h1,h2,h3⟩:=h
 exact ⟨dd,s,e.tup h1,e.tup h2,h3.same e⟩
theorem nu.keep {r:Row}{ys:List V}(h:nu C K H rl g a r)(e:aw rl H H')(hr:H rl=some (.lst ys)):nu C K H' rl g a r:=by
 obtain ⟨dd,s,h1,h2,h3⟩:=h
 exact ⟨dd,s,h1.keep e hr,h2.keep e hr,h3.keep e hr⟩
def oG (C:Cl)(K:JA)(H:Hp)(rl:Addr)(g:Cfg)(as:List Addr)(rs:List Row):Prop:=as.length=rs.length/\∀(i:Nat) a r,as[i]?=some a->rs[i]?=some r->nu C K H rl g a r
theorem oG.same {as:List Addr}{rs:List Row}(h:oG C K H rl g as rs)(e:aC H H'):oG C K H' rl g as rs:=⟨h.1,fun i a r e1 e2=>(h.2 i a r e1 e2).same e⟩
theorem oG.keep {as:List Addr}{rs:List Row}{ys:List V}(h:oG C K H rl g as rs)(e:aw rl H H')(hr:H rl=some (.lst ys)):oG C K H' rl g as rs:=⟨h.1,fun i a r e1 e2=>(h.2 i a r e1 e2).keep e hr⟩
theorem oG.push {as:List Addr}{rs:List Row}{r:Row}(h:oG C K H rl g as rs)(hr:nu C K H rl g a r):oG C K H rl g (as++[a]) (rs++[r]):=by
 refine ⟨by rw [List.length_append,List.length_append,h.1];rfl,fun i b x e1 e2=>?_⟩
 by_cases hi:i < as.length
 ·rw [List.getElem?_append_left hi] at e1
  rw [List.getElem?_append_left (by rw [←h.1];exact hi)] at e2
  exact h.2 i b x e1 e2
 ·rw [List.getElem?_append_right (by omega)] at e1
  rw [List.getElem?_append_right (by rw [←h.1];omega),←h.1] at e2
  have hz:i - as.length=0:=by
   have:=(List.getElem?_eq_some_iff.mp e1).1
   simp at this
   omega
  rw [hz] at e1 e2
  cases e1
  cases e2
  exact hr
noncomputable def aH (n0:aY)(rs:List Row):aY:=match rs.getLast? with | none=>n0 | some r=>r.sn
noncomputable def jO (rs:List Row):Int:=match rs.getLast? with | none=>0 | some r=>r.ended
structure BAt (C:Cl)(K:JA)(H:Hp)(bk rl:Addr)(g:Cfg)(n0:aY)(rs:List Row):Prop where
 ob:∃dx f,H bk=some (.ins C.K dx [("first",.ref f),("most",.int 300),("rows",.ref rl)])/\cW C K H rl g f n0
 ro:∃as,H rl=some (.lst (as.map V.ref))/\oG C K H rl g as rs
theorem BAt.same {rs:List Row}(h:BAt C K H bk rl g n0 rs)(e:aC H H'):BAt C K H' bk rl g n0 rs:=by
 obtain ⟨⟨dx,f,h1,h2⟩,as,h3,h4⟩:=h
 exact ⟨⟨dx,f,e _ _ h1,h2.same e⟩,as,e _ _ h3,h4.same e⟩
structure WAt (C:Cl)(K:JA)(H:Hp)(w bk rl:Addr)(g:Cfg)(n0:aY)(rs:List Row):Prop where
 ob:∃dx dl gl,H w=some (.ins C.W dx [("depths",.ref dl),("slow",.int g.slow),("fast",.int g.fast),("goals",.ref gl),("log",.ref bk)])/\H dl=some (.lst (g.ds.map V.int))/\H gl=some (.lst (g.goals.map V.int))/\dl≠rl/\gl≠rl/\(∀p,g.N p->dl≠p)/\∀p,g.N p->gl≠p
 bo:BAt C K H bk rl g n0 rs
theorem WAt.same {rs:List Row}(h:WAt C K H w bk rl g n0 rs)(e:aC H H'):WAt C K H' w bk rl g n0 rs:=by
 obtain ⟨⟨dx,dl,gl,h1,h2,h3,h4⟩,h5⟩:=h
 exact ⟨⟨dx,dl,gl,e _ _ h1,e _ _ h2,e _ _ h3,h4⟩,h5.same e⟩
theorem WAt.keep {rs rs':List Row}{ys:List V}(h:WAt C K H w bk rl g n0 rs)(e:aw rl H H')(hr:H rl=some (.lst ys))(hb:BAt C K H' bk rl g n0 rs'):WAt C K H' w bk rl g n0 rs':=by
 obtain ⟨⟨dx,dl,gl,h1,h2,h3,h4,h6⟩,h5⟩:=h
 exact ⟨⟨dx,dl,gl,e _ _ (fun z=>by rw [z,hr] at h1;cases h1) h1,e _ _ h4 h2,e _ _ h6.1 h3,h4,h6⟩,hb⟩
end
theorem dY {α:Type}(l:List α):l=[]\/∃l' a,l=l'++[a]:=by
 rcases List.eq_nil_or_concat l with h | ⟨l',a,h⟩
 ·exact .inl h
 ·exact .inr ⟨l',a,by rw [h,List.concat_eq_append]⟩
theorem oG.last {C:Cl}{K:JA}{H:Hp}{rl:Addr}{g:Cfg}{as:List Addr}{rs:List Row}{r:Row}(h:oG C K H rl g as (rs++[r])):∃as' a,as=as'++[a]/\oG C K H rl g as' rs/\nu C K H rl g a r:=by
 have hl:=h.1
 rw [List.length_append,List.length_singleton] at hl
 rcases dY as with rfl | ⟨as',a,rfl⟩
 ·cases hl
 ·have hl':as'.length=rs.length:=by rw [List.length_append,List.length_singleton] at hl;omega
  refine ⟨as',a,rfl,⟨hl',fun i b x e1 e2=>?_⟩,?_⟩
  ·have hi:=(List.getElem?_eq_some_iff.mp e1).1
   exact h.2 i b x (by rw [List.getElem?_append_left hi];exact e1) (by rw [List.getElem?_append_left (by omega)];exact e2)
  ·refine h.2 as'.length a r ?_ ?_
   ·rw [List.getElem?_append_right (Nat.le_refl _)];simp
   ·rw [List.getElem?_append_right (by omega),hl'];simp
theorem tG {as:List Addr}{a:Addr}:atI ((as++[a]).map V.ref) (((as++[a]).map V.ref).length - 1:Int)=some (.ref a):=by
 rw [show ((((as++[a]).map V.ref).length:Int) - 1)=((as.length:Nat):Int) by rw [JB,List.length_append];simp]
 exact ay (by rw [List.map_append,List.getElem?_append_right (by rw [JB];exact Nat.le_refl _),JB];simp)
theorem tH (rs:List Row)(r:Row):jO (rs++[r])=r.ended:=by simp [jO]
theorem pd (n0:aY)(rs:List Row)(r:Row):aH n0 (rs++[r])=r.sn:=by simp [aH]
theorem fo {H H':Hp}{x dx:Addr}{o1 o2:HO}(hx:H x=none)(hdx:H dx=none)(kp:aw x (upd (upd H dx o1) x o2) H'):aC H H':=fun b o e=>kp b o (ai e hx) (by rw [aE (ai e hx),aE (ai e hdx)];exact e)
theorem eE {H:Hp}{x dx z:Addr}{o1 o2:HO}(h:upd (upd H dx o1) x o2 z=none):H z=none:=upn (upn h)
noncomputable def zi (ks:List Str)(ws:List Int):Bool:=(ks.zip ws).any fun p=>decide (p.1="men") && decide (p.2=10\/p.2=11)
theorem zj {ks:List Str}{ws:List Int}{i:Nat}(h:∀j k x,j < i->ks[j]?=some k->ws[j]?=some x->(decide (k="men") && decide (x=10\/x=11))=false)(hi:ks.length<=i\/ws.length<=i):zi ks ws=false:=by
 unfold zi
 rw [List.any_eq_false]
 intro p hp
 obtain ⟨j,hj⟩:=List.getElem?_of_mem hp
 rw [List.getElem?_zip_eq_some] at hj
 have h1:=(List.getElem?_eq_some_iff.mp hj.1).1
 have h2:=(List.getElem?_eq_some_iff.mp hj.2).1
 rw [h j p.1 p.2 (by omega) hj.1 hj.2]
 exact Bool.false_ne_true
theorem AB {ks:List Str}{ws:List Int}{i:Nat}{k:Str}{x:Int}(h1:ks[i]?=some k)(h2:ws[i]?=some x)(hk:k="men")(hx:x=10\/x=11):zi ks ws=true:=by
 unfold zi
 rw [List.any_eq_true]
 refine ⟨(k,x),List.mem_of_getElem? (i:=i) (by rw [List.getElem?_zip_eq_some];exact ⟨h1,h2⟩),?_⟩
 simp [hk,hx]
theorem zk (x:Int):inV (.int x) [.int 10,.int 11]=decide (x=10\/x=11):=by
 have:=ni x [10,11]
 rw [show ([10,11]:List Int).map V.int=[V.int 10,V.int 11] from rfl] at this
 rw [this]
 simp
noncomputable def gU (ds:List Int)(pl:Int):List Int:=((List.range ds.length).filter fun i=>decide (ds.getD i 0=pl\/ds.getD i 0=bX ds - pl)).map fun (i:Nat)=>(i:Int)
structure gV (g:Cfg):Prop where
 sh:cq g.ds
 lc:g.ls.length=g.ds.length
 gc:∀x∈g.ls,eO x
 s1:1<=g.slow
 sf:g.slow<=g.fast
 f5:g.fast<=500
 gk:g.goals.length=g.ks.length
 k30:g.ks.length<=30
noncomputable def eP (g:Cfg)(n:aY):Int:=if zi g.ks n.ws=true then g.slow else g.fast
theorem gV.speed {g:Cfg}(h:gV g)(n:aY):1<=eP g n/\eP g n<=500:=by
 have:=h.s1;have:=h.sf;have:=h.f5
 unfold eP;split<;>omega
inductive Dd where
 | ring (l s:Int) | rept (s:Int) | opn (l:Int) | sht (l:Int) | load (k c:Int) | unload (c:Int) | wind (c l:Int) (k:Str) | fail (l:Int)
noncomputable def ddV:Dd->List V
 | .ring l s=>[.str "ring",.int l,.int s]
 | .rept s=>[.str "repeat",.int s]
 | .opn l=>[.str "open",.int l]
 | .sht l=>[.str "shut",.int l]
 | .load k c=>[.str "load",.int k,.int c]
 | .unload c=>[.str "unload",.int c]
 | .wind c l k=>[.str "wind",.int c,.int l,.str k]
 | .fail l=>[.str "fail",.int l]
theorem qs (d:Dd):∀x∈ddV d,a7 x=true:=by
 cases d<;>intro x hx<;>simp only [ddV,List.mem_cons,List.not_mem_nil,or_false] at hx<;>rcases hx with h | h | h | h<;>(try subst h)<;>(try rfl)<;>simp_all [a7]
theorem yk (d:Dd):(ddV d).length<=4:=by cases d<;>simp [ddV]
noncomputable def zl:Dd->Prop
 | .load _ c=>0<=c/\c < 2
 | .unload c=>0<=c/\c < 2
 | .wind c _ k=>(0<=c/\c < 2)/\(k="men"\/k="coal")
 | _=>True
inductive Rw where
 | lv | db | nc | nr | ch | na | ul | nt | ct | gs | ce | go
 deriving DecidableEq
def unk (l:Int)(m:Nat):Prop:=¬(0<=l/\l < m)
instance (l:Int) (m:Nat):Decidable (unk l m):=inferInstanceAs (Decidable (¬_))
noncomputable def eQ (g:Cfg)(n:aY):Bool:=(gU g.ds n.place).any fun x=>n.gates.getD x.toNat false
noncomputable def dq (g:Cfg)(n:aY):Dd->Option Rw
 | .ring l s=>if unk l g.ds.length then some .lv else if n.fs.getD l.toNat false=true then some .db else if s=(dk g.ls l).1\/s=(dk g.ls l).2 then none else some .nc
 | .rept s=>match n.e with | .wait _ _=>if 1<=s/\s<=9 then none else some .nc | _=>some .nr
 | .opn l=>if unk l g.ds.length then some .lv else if n.gates.getD l.toNat false=true then some .ch else none
 | .sht l=>if unk l g.ds.length then some .lv else if n.gates.getD l.toNat false=false then some .ch else none
 | .load k c=>if unk k n.ws.length then some .ul else match iO g.ds n.place c with
  | none=>some .nt
  | some l=>if n.ws.getD k.toNat 0≠l then some .nt else if 10+c∈n.ws then some .ct else if n.gates.getD l.toNat false=true then none else some .gs
 | .unload c=>if ¬10+c∈n.ws then some .ce else match iO g.ds n.place c with
  | none=>some .nt
  | some l=>if n.gates.getD l.toNat false=true then none else some .gs
 | .wind _ l k=>if unk l g.ds.length then some .lv else if eQ g n=true then some .go else if n.e=.armed l (bW g.ls l k) then none else some .na
 | .fail l=>if unk l g.ds.length then some .lv else if n.fs.getD l.toNat false=true then some .ch else none
noncomputable def gm (ds:List Int)(c l:Int):Int:=if c=0 then ds.getD l.toNat 0 else bX ds - ds.getD l.toNat 0
noncomputable def uw (g:Cfg)(n:aY):Dd->Eng
 | .ring l s=>.wait l s
 | .rept s=>match n.e with | .wait l r=>if s=r then .armed l r else .other l r s | e=>e
 | .wind _ l k=>.used l (bW g.ls l k)
 | _=>n.e
noncomputable def cu (g:Cfg)(n:aY)(d:Dd):aY:=
 {place:=match d with | .wind c l _=>gm g.ds c l | _=>n.place
  gates:=match d with | .opn l=>n.gates.set l.toNat true | .sht l=>n.gates.set l.toNat false | _=>n.gates
  fs:=match d with | .fail l=>n.fs.set l.toNat true | _=>n.fs
  e:=uw g n d
  ws:=match d with | .load k c=>n.ws.set k.toNat (10+c) | .unload c=>n.ws.set (n.ws.idxOf (10+c)) ((iO g.ds n.place c).getD (-1)) | _=>n.ws}
noncomputable def Gy (x:Int):Int:=if x < 0 then -x else x
noncomputable def EA (way sp:Int):Int:=(way+sp - 1) / sp
noncomputable def xc (g:Cfg)(n:aY):Dd->Int
 | .wind c l _=>EA (Gy (gm g.ds c l - n.place)) (eP g n)
 | _=>1
noncomputable def pf (g:Cfg)(n0:aY)(rs:List Row)(d:Dd):Row:=⟨jO rs,jO rs+xc g (aH n0 rs) d,ddV d,eP g (cu g (aH n0 rs) d),cu g (aH n0 rs) d⟩
structure c5 (g:Cfg)(n:aY):Prop where
 gl:n.gates.length=g.ds.length
 fl:n.fs.length=g.ds.length
 wl:n.ws.length=g.ks.length
 wr:∀x∈n.ws,(0<=x/\x < g.ds.length)\/x=10\/x=11
 un:∀i j,i < n.ws.length->j < n.ws.length->10<=n.ws.getD i 0->n.ws.getD i 0=n.ws.getD j 0->i=j
 st:∃c,(c=0\/c=1)/\∃l,iO g.ds n.place c=some l
 ew:∀l r,n.e=.wait l r\/n.e=.armed l r->0<=l/\l < g.ds.length/\(r=(dk g.ls l).1\/r=(dk g.ls l).2)
theorem kT (ws:List Int)(n i:Nat)(v:Int)(hi:i < ws.length):(ws.set n v).getD i 0=if n=i then v else ws.getD i 0:=by
 rw [List.getD_eq_getElem?_getD,List.getD_eq_getElem?_getD,List.getElem?_set]
 split
 ·rename_i e
  subst e
  rw [if_pos hi];rfl
 ·rfl
theorem vA {ds:List Int}{d l:Int}(h:lvl ds d=some l):0<=l/\l < ds.length/\ds.getD l.toNat 0=d:=by
 unfold lvl at h
 split at h
 ·rename_i hm
  cases h
  have hlt:=List.idxOf_lt_length_iff.mpr hm
  refine ⟨Int.natCast_nonneg _,by omega,?_⟩
  rw [Int.toNat_natCast,List.getD_eq_getElem?_getD,List.getElem?_eq_getElem hlt]
  exact List.getElem_idxOf hlt
 ·cases h
theorem xf {ds:List Int}{p c l:Int}(h:iO ds p c=some l):0<=l/\l < ds.length/\ds.getD l.toNat 0=(if c=0 then p else bX ds - p):=by
 unfold iO at h
 split at h
 ·rename_i e;rw [if_pos e];exact vA h
 ·rename_i e;rw [if_neg e];exact vA h
theorem vB {ws:List Int}{n:Nat}{v x:Int}(h:x∈ws.set n v):x∈ws\/x=v:=List.mem_or_eq_of_mem_set h
theorem xg {ds:List Int}(hs:cq ds){c l:Int}(hc:0<=c/\c < 2)(hl:0<=l/\l < ds.length):iO ds (gm ds c l) c=some l:=by
 obtain ⟨k,rfl⟩:=Int.eq_ofNat_of_zero_le hl.1
 unfold iO gm
 split
 ·exact qr hs (by omega) (by rw [Int.toNat_natCast])
 ·exact qr hs (by omega) (by rw [Int.toNat_natCast];omega)
theorem ifn {c:Prop}[Decidable c]{a:Rw}{x:Option Rw}(h:(if c then some a else x)=none):¬c/\x=none:=by
 split at h
 ·cases h
 ·rename_i n;exact ⟨n,h⟩
theorem ify {c:Prop}[Decidable c]{a:Rw}(h:(if c then none else some a)=none):c:=by
 split at h
 ·assumption
 ·cases h
theorem kU {l:Int}{m:Nat}(h:¬unk l m):0<=l/\l < m:=Decidable.not_not.mp h
theorem AD {g:Cfg}{n:aY}{l s:Int}(h:dq g n (.ring l s)=none):(0<=l/\l < g.ds.length)/\n.fs.getD l.toNat false=false/\(s=(dk g.ls l).1\/s=(dk g.ls l).2):=by
 obtain ⟨h1,h⟩:=ifn h
 obtain ⟨h2,h⟩:=ifn h
 exact ⟨kU h1,by simpa using h2,ify h⟩
theorem vC {g:Cfg}{n:aY}{s:Int}(h:dq g n (.rept s)=none):∃l r,n.e=.wait l r/\1<=s/\s<=9:=by
 simp only [dq] at h
 split at h
 ·rename_i l r e;exact ⟨l,r,e,ify h⟩
 ·cases h
theorem BX {g:Cfg}{n:aY}{l:Int}(h:dq g n (.opn l)=none):(0<=l/\l < g.ds.length)/\n.gates.getD l.toNat false=false:=by
 obtain ⟨h1,h⟩:=ifn h
 obtain ⟨h2,h⟩:=ifn h
 exact ⟨kU h1,by simpa using h2⟩
theorem BY {g:Cfg}{n:aY}{l:Int}(h:dq g n (.sht l)=none):(0<=l/\l < g.ds.length)/\n.gates.getD l.toNat false=true:=by
 obtain ⟨h1,h⟩:=ifn h
 obtain ⟨h2,h⟩:=ifn h
 exact ⟨kU h1,by simpa using h2⟩
theorem AE {g:Cfg}{n:aY}{l:Int}(h:dq g n (.fail l)=none):(0<=l/\l < g.ds.length)/\n.fs.getD l.toNat false=false:=by
 obtain ⟨h1,h⟩:=ifn h
 obtain ⟨h2,h⟩:=ifn h
 exact ⟨kU h1,by simpa using h2⟩
theorem AF {g:Cfg}{n:aY}{k c:Int}(h:dq g n (.load k c)=none):(0<=k/\k < n.ws.length)/\∃l,iO g.ds n.place c=some l/\n.ws.getD k.toNat 0=l/\¬10+c∈n.ws/\n.gates.getD l.toNat false=true:=by
 obtain ⟨h1,h⟩:=ifn h
 refine ⟨kU h1,?_⟩
 cases e:iO g.ds n.place c with
 | none=>rw [e] at h;cases h
 | some l=>
  rw [e] at h
  obtain ⟨h2,h⟩:=ifn h
  obtain ⟨h3,h⟩:=ifn h
  exact ⟨l,rfl,Decidable.not_not.mp h2,h3,ify h⟩
theorem xh {g:Cfg}{n:aY}{c:Int}(h:dq g n (.unload c)=none):10+c∈n.ws/\∃l,iO g.ds n.place c=some l/\n.gates.getD l.toNat false=true:=by
 obtain ⟨h1,h⟩:=ifn h
 refine ⟨Decidable.not_not.mp h1,?_⟩
 cases e:iO g.ds n.place c with
 | none=>rw [e] at h;cases h
 | some l=>rw [e] at h;exact ⟨l,rfl,ify h⟩
theorem qt {g:Cfg}{n:aY}{c l:Int}{k:Str}(h:dq g n (.wind c l k)=none):(0<=l/\l < g.ds.length)/\eQ g n=false/\n.e=.armed l (bW g.ls l k):=by
 obtain ⟨h1,h⟩:=ifn h
 obtain ⟨h2,h⟩:=ifn h
 exact ⟨kU h1,by simpa using h2,ify h⟩
theorem c5.next {g:Cfg}{n:aY}{d:Dd}(hg:gV g)(h:c5 g n)(ok:zl d)(hr:dq g n d=none):c5 g (cu g n d):=by
 have hds:=hg.sh.l6
 cases d with
 | ring l s=>
  obtain ⟨h1,_,h3⟩:=AD hr
  exact ⟨h.gl,h.fl,h.wl,h.wr,h.un,h.st,fun l' r e=>by
   simp only [cu,uw] at e
   rcases e with e | e
   ·cases e;exact ⟨h1.1,h1.2,h3⟩
   ·cases e⟩
 | rept s=>
  refine ⟨h.gl,h.fl,h.wl,h.wr,h.un,h.st,fun l' r e=>?_⟩
  simp only [cu,uw] at e
  obtain ⟨l0,r0,e0,_⟩:=vC hr
  rw [e0] at e
  simp only at e
  have:=h.ew l0 r0 (.inl e0)
  split at e
  ·rcases e with e | e
   ·cases e
   ·cases e;exact this
  ·rcases e with e | e<;>cases e
 | opn l=>exact ⟨by simp only [cu];rw [List.length_set];exact h.gl,h.fl,h.wl,h.wr,h.un,h.st,h.ew⟩
 | sht l=>exact ⟨by simp only [cu];rw [List.length_set];exact h.gl,h.fl,h.wl,h.wr,h.un,h.st,h.ew⟩
 | fail l=>exact ⟨h.gl,by simp only [cu];rw [List.length_set];exact h.fl,h.wl,h.wr,h.un,h.st,h.ew⟩
 | load k c=>
  obtain ⟨h1,l,hl,h3,h4,_⟩:=AF hr
  have hc:0<=c/\c < 2:=ok
  refine ⟨h.gl,h.fl,by simp only [cu];rw [List.length_set];exact h.wl,fun x hx=>?_,fun i j hi hj h10 e=>?_,h.st,h.ew⟩
  ·rcases vB hx with hx | rfl
   ·exact h.wr x hx
   ·omega
  ·simp only [cu,List.length_set] at hi hj h10 e
   rw [kT _ _ _ _ hi] at h10 e
   rw [kT _ _ _ _ hj] at e
   split at e<;>split at e
   ·omega
   ·exact absurd (e▸kS hj) h4
   ·exact absurd (e▸kS hi) h4
   ·rename_i n1 n2;rw [if_neg n1] at h10;exact h.un i j hi hj h10 e
 | unload c=>
  obtain ⟨h1,l,hl,_⟩:=xh hr
  obtain ⟨l0,l1,l2⟩:=xf hl
  refine ⟨h.gl,h.fl,by simp only [cu];rw [List.length_set];exact h.wl,fun x hx=>?_,fun i j hi hj h10 e=>?_,h.st,h.ew⟩
  ·simp only [cu,hl,Option.getD_some] at hx
   rcases vB hx with hx | rfl
   ·exact h.wr x hx
   ·exact .inl ⟨l0,l1⟩
  ·simp only [cu,List.length_set,hl,Option.getD_some] at hi hj h10 e
   rw [kT _ _ _ _ hi] at h10 e
   rw [kT _ _ _ _ hj] at e
   split at e
   ·rename_i n1;rw [if_pos n1] at h10;omega
   ·rename_i n1
    rw [if_neg n1] at h10
    split at e
    ·omega
    ·exact h.un i j hi hj h10 e
 | wind c l k=>
  obtain ⟨h1,_⟩:=qt hr
  refine ⟨h.gl,h.fl,h.wl,h.wr,h.un,⟨c,by have:=ok.1;omega,l,xg hg.sh ok.1 h1⟩,fun l' r e=>?_⟩
  simp only [cu,uw] at e
  rcases e with e | e<;>cases e
theorem aC.keeps {H H1 H2:Hp}{p:Addr}(s:aC H H1)(k:aw p H1 H2)(hp:H p=none):aC H H2:=fun b o e=>k b o (ai e hp) (s b o e)
section
variable {C:Cl}{K:JA}{H H':Hp}{rl s:Addr}{g:Cfg}{A:SA}{n:aY}
theorem aU.ne_b (h:aU C K H rl g s A n):s≠A.b:=fun z=>by
 obtain ⟨dx,hb⟩:=h.be.ob
 have:=h.ob
 rw [z,hb] at this
 injection this with this
 injection this with _ _ this
 injection this with this _
 injection this with this _
 exact absurd this (by decide)
theorem aU.ne_y (h:aU C K H rl g s A n):s≠A.y:=fun z=>by
 obtain ⟨dx,hb⟩:=h.ya.ob
 have:=h.ob
 rw [z,hb] at this
 injection this with this
 injection this with _ _ this
 injection this with this _
 injection this with this _
 exact absurd this (by decide)
theorem aU.ne_by (h:aU C K H rl g s A n):A.y≠A.b:=fun z=>by
 obtain ⟨dx,hb⟩:=h.ya.ob
 obtain ⟨dx2,hb2⟩:=h.be.ob
 rw [z,hb2] at hb
 injection hb with this
 injection this with _ _ this
 injection this with this _
 injection this with this _
 exact absurd this (by decide)
theorem aU.bells {st':Addr}{e':Eng}(h:aU C K H rl g s A n)(k:aw A.b H H')(hb:bb C.B K H' A.b A.cs A.fl st' g.ls n.fs e'):aU C K H' rl g s {A with st:=st'} {n with e:=e'}:=by
 obtain ⟨dx,hb0⟩:=h.be.ob
 refine ⟨k _ _ h.ne_b h.ob,k _ _ (fun z=>?_) h.go,hb,h.ya.offI k hb0 h.ne_by,⟨h.ap.r1,h.ap.r2,h.ap.r3,h.ap.r4,h.ap.r5,h.ap.o1,h.ap.o2,h.ap.o3,h.ap.o4,h.ap.f1,h.ap.f2,h.ap.f3,h.ap.w1,h.ap.w2,h.ap.w3,h.ap.w4⟩,⟨(h.nn.keepI k hb0).al,h.nn.nr,h.nn.no,h.nn.nc,h.nn.nf,h.nn.nk,h.nn.nw⟩⟩
 have:=h.go
 rw [z,hb0] at this
 cases this
theorem aU.fail {fs':List Bool}(h:aU C K H rl g s A n)(k:aw A.fl H H')(hf:H' A.fl=some (.lst (fs'.map V.bl)))(hl:fs'.length=n.fs.length):aU C K H' rl g s A {n with fs:=fs'}:=by
 refine ⟨k _ _ (fun z=>?_) h.ob,k _ _ h.ap.f1 h.go,h.be.fail k hf hl,h.ya.off k h.be.of h.ap.f2 h.ap.f3,h.ap,h.nn.keep k h.nn.nf⟩
 have:=h.be.of
 rw [←z,h.ob] at this
 cases this
theorem aU.placed {pl:Int}(h:aU C K H rl g s A n)(k:aw s H H')(hp:H' s=some (.ins C.S A.dx [("place",.int pl),("opened",.ref A.ol),("bells",.ref A.b),("yard",.ref A.y)])):aU C K H' rl g s A {n with place:=pl}:=by
 refine ⟨hp,k _ _ (fun z=>?_) h.go,h.be.offI k h.ob h.ne_b.symm,h.ya.offI k h.ob h.ne_y.symm,h.ap,h.nn.keepI k h.ob⟩
 have:=h.go
 rw [z,h.ob] at this
 cases this
theorem aU.own {p:Addr}{ys:List V}(h:aU C K H rl g s A n)(hp:g.N p)(k:aw p H H')(e:H' p=some (.lst ys)):aU C K H' rl g s A n:=by
 obtain ⟨zs,hz⟩:=h.nn.al p hp
 refine ⟨k _ _ (fun z=>by have:=h.ob;rw [z,hz] at this;cases this) h.ob,k _ _ (h.nn.no p hp) h.go,h.be.off k hz (h.nn.nc p hp) (h.nn.nf p hp),h.ya.off k hz (h.nn.nk p hp) (h.nn.nw p hp),h.ap,⟨fun q hq=>?_,h.nn.nr,h.nn.no,h.nn.nc,h.nn.nf,h.nn.nk,h.nn.nw⟩⟩
 by_cases e1:q=p
 ·subst e1;exact ⟨ys,e⟩
 ·obtain ⟨us,hu⟩:=h.nn.al q hq
  exact ⟨us,k _ _ e1 hu⟩
noncomputable def Cfg.plus (g:Cfg)(p:Addr):Cfg:={g with N:=fun q=>g.N q\/q=p}
theorem aU.grow {p:Addr}{ys:List V}(h:aU C K H rl g s A n)(hr:rl≠p)(hn:H p=none)(k:aC H H')(e:H' p=some (.lst ys)):aU C K H' rl (g.plus p) s A n:=by
 have h':=h.same k
 obtain ⟨_,⟨as,oc,_⟩,of,_⟩:=id h.be
 obtain ⟨_,okn,owh⟩:=id h.ya
 refine ⟨h'.ob,h'.go,h'.be,h'.ya,h'.ap,⟨fun q hq=>?_,fun q hq=>?_,fun q hq=>?_,fun q hq=>?_,fun q hq=>?_,fun q hq=>?_,fun q hq=>?_⟩⟩
 ·rcases hq with hq | rfl
  ·exact h'.nn.al q hq
  ·exact ⟨ys,e⟩
 ·rcases hq with hq | rfl
  ·exact h.nn.nr q hq
  ·exact hr
 ·rcases hq with hq | rfl
  ·exact h.nn.no q hq
  ·exact ai h.go hn
 ·rcases hq with hq | rfl
  ·exact h.nn.nc q hq
  ·exact ai oc hn
 ·rcases hq with hq | rfl
  ·exact h.nn.nf q hq
  ·exact ai of hn
 ·rcases hq with hq | rfl
  ·exact h.nn.nk q hq
  ·exact ai okn hn
 ·rcases hq with hq | rfl
  ·exact h.nn.nw q hq
  ·exact ai owh hn
end
section
variable {C:Cl}{K:JA}{H H':Hp}{rl s w bk:Addr}{g:Cfg}{n n0:aY}{rs:List Row}
theorem WAt.rows (h:WAt C K H w bk rl g n0 rs):∃as:List Addr,H rl=some (.lst (as.map V.ref)):=by
 obtain ⟨as,hr,_⟩:=h.bo.ro
 exact ⟨as,hr⟩
theorem WAt.own {p:Addr}{ys:List V}(h:WAt C K H w bk rl g n0 rs)(hp:g.N p)(k:aw p H H')(e:H' p=some (.lst ys)):WAt C K H' w bk rl g n0 rs:=by
 obtain ⟨⟨dx,dl,gl,h1,h2,h3,h4,h5,h6,h7⟩,⟨dy,f,h8,A,h9⟩,as,h10,h11⟩:=h
 obtain ⟨zs,hz⟩:=h9.nn.al p hp
 refine ⟨⟨dx,dl,gl,k _ _ (fun z=>by rw [z,hz] at h1;cases h1) h1,k _ _ (h6 p hp) h2,k _ _ (h7 p hp) h3,h4,h5,h6,h7⟩,⟨dy,f,k _ _ (fun z=>by rw [z,hz] at h8;cases h8) h8,A,h9.own hp k e⟩,as,k _ _ (h9.nn.nr p hp) h10,h11.1,fun i a r e1 e2=>?_⟩
 obtain ⟨dd,s,u1,u2,A',u3⟩:=h11.2 i a r e1 e2
 exact ⟨dd,s,u1.keep k hz,u2.keep k hz,A',u3.own hp k e⟩
theorem WAt.grow {p:Addr}{ys:List V}(h:WAt C K H w bk rl g n0 rs)(hn:H p=none)(k:aC H H')(e:H' p=some (.lst ys)):WAt C K H' w bk rl (g.plus p) n0 rs:=by
 obtain ⟨⟨dx,dl,gl,h1,h2,h3,h4,h5,h6,h7⟩,⟨dy,f,h8,A,h9⟩,as,h10,h11⟩:=h
 have hr:rl≠p:=ai h10 hn
 refine ⟨⟨dx,dl,gl,k _ _ h1,k _ _ h2,k _ _ h3,h4,h5,fun q hq=>?_,fun q hq=>?_⟩,⟨dy,f,k _ _ h8,A,h9.grow hr hn k e⟩,as,k _ _ h10,h11.1,fun i a r e1 e2=>?_⟩
 ·rcases hq with hq | rfl
  ·exact h6 q hq
  ·exact ai h2 hn
 ·rcases hq with hq | rfl
  ·exact h7 q hq
  ·exact ai h3 hn
 ·obtain ⟨dd,s,u1,u2,A',u3⟩:=h11.2 i a r e1 e2
  exact ⟨dd,s,k.tup u1,k.tup u2,A',u3.grow hr hn k e⟩
end
noncomputable def nv (ds:List Int)(ls:List Cd)(slow fast:Int)(lds:List Ld)(N:Addr->Prop):Cfg:=⟨ds,ls,slow,fast,lds.map (·.2.2),lds.map (·.1),N⟩
noncomputable def jK (ds:List Int)(ls:List Cd)(lds:List Ld):aY:=⟨ds.getD 0 0,ds.map fun _=>false,ls.map fun _=>false,.no,lds.map (·.2.1)⟩
theorem aU.keepI {C:Cl}{K:JA}{H H':Hp}{rl s x D dp:Addr}{g:Cfg}{A:SA}{n:aY}{us:List (Str×V)}(h:aU C K H rl g s A n)(k:aw x H H')(hx:H x=some (.ins D dp us))(n1:s≠x)(n2:A.b≠x)(n3:A.y≠x):aU C K H' rl g s A n:=by
 refine ⟨k _ _ n1 h.ob,k _ _ (fun z=>?_) h.go,h.be.offI k hx n2,h.ya.offI k hx n3,h.ap,h.nn.keepI k hx⟩
 have:=h.go
 rw [z,hx] at this
 cases this
theorem EB {ds:List Int}{ls:List Cd}{slow fast:Int}{lds:List Ld}{N:Addr->Prop}(h1:cq ds)(h2:ls.length=ds.length)(h3:∀x∈ls,eO x)(h4:1<=slow/\slow<=fast/\fast<=500)(h5:lds.length<=30):gV (nv ds ls slow fast lds N):=
 ⟨h1,h2,h3,h4.1,h4.2.1,h4.2.2,by simp [nv],by simpa [nv] using h5⟩
theorem BZ {ds:List Int}{ls:List Cd}{slow fast:Int}{lds:List Ld}{N:Addr->Prop}(h1:cq ds)(h2:ls.length=ds.length)(h6:∀x∈lds,oF ds.length x):c5 (nv ds ls slow fast lds N) (jK ds ls lds):=by
 have l2:=h1.l2
 have l6:=h1.l6
 refine ⟨by simp [nv,jK],by simp [nv,jK,h2],by simp [nv,jK],fun x hx=>?_,fun i j hi hj h10 e=>?_,⟨0,.inl rfl,0,?_⟩,fun l r e=>?_⟩
 ·simp only [jK,List.mem_map] at hx
  obtain ⟨y,hy,rfl⟩:=hx
  exact .inl (h6 y hy).1
 ·exfalso
  have hm:(jK ds ls lds).ws.getD i 0∈(jK ds ls lds).ws:=kS hi
  simp only [jK,List.mem_map] at hm
  obtain ⟨y,hy,e1⟩:=hm
  have:=(h6 y hy).1
  simp only [jK] at h10
  omega
 ·exact qr h1 (i:=0) (by omega) rfl
 ·rcases e with e | e<;>cases e
theorem gV.plus {g:Cfg}(h:gV g)(p:Addr):gV (g.plus p):=⟨h.sh,h.lc,h.gc,h.s1,h.sf,h.f5,h.gk,h.k30⟩
theorem c5.plus {g:Cfg}{n:aY}(h:c5 g n)(p:Addr):c5 (g.plus p) n:=⟨h.gl,h.fl,h.wl,h.wr,h.un,h.st,h.ew⟩
end L2
namespace PySem
open PySem.Spec PyProof.Rows
section
variable {prog:Program}{w:World}{A:Around}{E:Value->Shared->Prop}{s:Shared}
theorem tI {it t:Addr}{items:Array Value}(hne:t≠it):∀(n i:Nat) (s:Shared) (Q:List Value->Shared->Prop),s.heap.IsListIter it t i->s.heap.IsList t items->i+n<=items.size->
  (∀h',Heap.IsListIter h' it t (i+n)->Heap.SameBut it s.heap h'->Q ((items.toList.drop i).take n) {s with heap:=h'})->wpAny (model prog w) A (draw (.ref it) n) Q E s
 | 0,i,s,Q,hit,_,_,hQ=>by
  show wpAny _ _ (pure []) Q E s
  exact wpAny_pure (by simpa using hQ s.heap hit (Heap.SameBut.refl ..))
 | n+1,i,s,Q,hit,ht,hle,hQ=>by
  have hlt:i < items.size:=by omega
  show wpAny _ _ (pyNext (.ref it) >>= _) Q E s
  refine wpAny_bind (wpAny_pyNext_list_item hit ht (x:=items[i]) (by simp [hlt]) fun h₁ hit₁ hs₁=>?_)
  refine wpAny_bind (wpAny_holding (tI hne n (i+1) _ _ hit₁ (ht.extBut hs₁.extBut hne) (by omega) fun h₂ hit₂ hs₂=>wpAny_pure ?_))
  have hd:items.toList.drop i=items[i]::items.toList.drop (i+1):=by simp [List.drop_eq_getElem_cons,hlt]
  have:=hQ h₂ (by rw [show i+(n+1)=i+1+n by omega];exact hit₂) (hs₁.trans hs₂)
  rw [hd,List.take_succ_cons] at this
  exact this
theorem oH {t:Addr}{items:Array Value}{Q:List Value->Shared->Prop}(hh:A.handled=none)(ht:s.heap.IsList t items)
  (hQ:∀h',Heap.ExtBut s.heap.objs.size s.heap h'->Q items.toList {s with heap:=h'}):wpAny (model prog w) A (unpackItems (.ref t) items.size none) Q E s:=by
 have hlt:t≠s.heap.objs.size:=by obtain ⟨o,ho,_⟩:=ht;exact Nat.ne_of_lt (Heap.lt_size ho)
 unfold unpackItems
 refine wpAny_bind ?_
 ·unfold notIterableAtAll
  refine wpAny_bind (wpAny_specialOf ht.typeIs slot_list_iter.lookup ?_)
  refine wpAny_pure ?_
  simp only [Bool.false_eq_true,if_false]
  refine wpAny_bind (wpAny_holding (wpAny_pyIter_list ht ?_))
  refine wpAny_bind (wpAny_holding (tI hlt items.size 0 _ _ ⟨_,Heap.get?_push_size _ rfl,rfl,rfl⟩ (ht.push _) (by omega) fun h₁ hit₁ hs₁=>?_))
  have hall:List.take items.size (List.drop 0 items.toList)=items.toList:=by
   rw [List.drop_zero];exact List.take_of_length_le (by simp)
  rw [hall]
  rw [if_neg (by simp)]
  have ht₁:Heap.IsList h₁ t items:=(ht.push _).extBut hs₁.extBut hlt
  refine wpAny_bind (wpAny_holding (wpAny_pyNext_list_end hh hit₁ ht₁ (by simp) fun h₂ he₂=>?_))
  simp only [Option.isSome_none,Bool.false_eq_true,if_false]
  refine wpAny_pure (hQ h₂ fun b o hb e=>he₂ b o hb (hs₁.extBut b o hb (Heap.get?_push_of_some _ e)))
theorem vD {t:Addr}{items:Array Value}{targets:List (Bool×(Value->Sem Unit))}{Q:Unit->Shared->Prop}(hh:A.handled=none)(ht:s.heap.IsList t items)
  (hn:targets.length=items.size) (hstar:targets.findIdx? (·.1)=none)
  (h:∀h',Heap.ExtBut s.heap.objs.size s.heap h'->wpAny (model prog w) A (assignInOrder (targets.map (·.2)) items.toList) Q E {s with heap:=h'}) :
  wpAny (model prog w) A (unpack (.ref t) targets) Q E s:=by
 unfold unpack
 rw [hn,hstar]
 exact wpAny_bind (wpAny_holding (oH hh ht h))
theorem ny {env:Env}{elts:List Expr}{x1}{pos:Pos}{t:Addr}{items:Array Value}{Q:Unit->Shared->Prop}(hh:A.handled=none)(ht:s.heap.IsList t items)
  (hn:(assignEach elts env).length=items.size) (hstar:(assignEach elts env).findIdx? (·.1)=none)
  (h:∀h',Heap.ExtBut s.heap.objs.size s.heap h'->wpAny (model prog w) A (assignInOrder ((assignEach elts env).map (·.2)) items.toList) Q E {s with heap:=h'}) :
  wpAny (model prog w) A (assign (.Tuple elts x1 pos) env (.ref t)) Q E s:=by
 rw [assign_Tuple]
 exact wpAny_bind (wpAny_standAt (vD hh ht hn hstar h))
end
end PySem
namespace L2
open PySem PySem.Spec PyProof.Rows PySem.SeqAt
section
variable {X:Cx}{pos:Pos}
noncomputable def Du (K:JA)(n:Nat)(t:TGs):TG:=fun v σ H Q=>∃a xs,v=.ref a/\SqL K H a xs/\xs.length=n/\t xs σ H Q
theorem EC {es:List Expr}{k:Nat}{t:TGs}{n:Nat}(hc:X.calm=true)(h:PGs X es t)
  (hn:(assignEach es X.env).length=n:=by rfl) (hst:(assignEach es X.env).findIdx? (·.1)=none:=by rfl):PG X (.Tuple es k pos) (Du X.K n t):=by
 intro pins s σ H v u Q I r hw
 obtain ⟨a,xs,e1,hq,hl,hw⟩:=hw
 subst e1
 cases r
 obtain ⟨its,rv,ht,hz⟩:=I.list hq
 refine ny (I.ok.hd hc) ht.isList (by simp [hn,←hl,rv.length]) hst fun h' hx=>?_
 have I1:Inv X pins σ H {s with heap:=h'}:=I.kept (t':=s.toks) fun b o e=>hx b o (Nat.ne_of_lt (Heap.lt_size e)) e
 exact h pins _ σ H xs _ Q I1 (by simpa using rv) hw
noncomputable def ED (K:JA):R2:=fun x y H Q=>∃a b xs ys,x=.ref a/\y=.ref b/\SqL K H a xs/\SqL K H b ys/\xs.all a7=true/\ys.all a7=true/\Q (.bl (!eqL xs ys)) H
theorem AG (hu:X.A.units < cLine):OpR X (compareOp .NotEq) (ED X.K):=by
 intro pins s σ H x y u v Q I rx ry h
 obtain ⟨a,b,xs,ys,rfl,rfl,ha,hb,fa,fb,q⟩:=h
 cases rx;cases ry
 obtain ⟨ia,ra,pa,za⟩:=I.list ha
 obtain ⟨ib,rb,pb,zb⟩:=I.list hb
 have la:=ra.length
 have lb:=rb.length
 by_cases hl:xs.length=ys.length
 ·refine RcNeAt.lists (e:=fun j=>eqV (xs.getD j .non) (ys.getD j .non)) pa.isList pb.isList (by simp only [List.size_toArray];omega) hu (fun j h1 h2=>?_) X.prog X.w _ _ ?_
  ·simp only [List.size_toArray] at h1 h2
   have hx:xs[j]?=some (xs.getD j .non):=by
    rw [List.getD_eq_getElem?_getD,List.getElem?_eq_getElem (by omega)];rfl
   have hy:ys[j]?=some (ys.getD j .non):=by
    rw [List.getD_eq_getElem?_getD,List.getElem?_eq_getElem (by omega)];rfl
   obtain ⟨u,eu,ru⟩:=ra.get hx
   obtain ⟨v,ev,rv⟩:=rb.get hy
   have e1:ia.toArray[j]=u:=by
    have:=List.getElem?_eq_some_iff.mp eu
    simpa using this.2
   have e2:ib.toArray[j]=v:=by
    have:=List.getElem?_eq_some_iff.mp ev
    simpa using this.2
   rw [e1,e2]
   exact jU ru rv (List.all_eq_true.mp fa _ (List.mem_of_getElem? hx)) (List.all_eq_true.mp fb _ (List.mem_of_getElem? hy))
  ·have e:(List.range ia.toArray.size).all (fun j=>eqV (xs.getD j .non) (ys.getD j .non))=eqL xs ys:=by
    rw [List.size_toArray,←la]
    exact pY hl
   rw [e]
   exact ⟨.bl (!eqL xs ys),H,I,rfl,q⟩
 ·refine RcNeAt.lists_lengths pa.isList pb.isList (by simp only [List.size_toArray,bne_iff_ne,ne_eq];omega) hu X.prog X.w _ _ ?_
  have e:eqL xs ys=false:=by
   cases he:eqL xs ys with
   | false=>rfl
   | true=>exact absurd (pX he) hl
  rw [e] at q
  exact ⟨.bl true,H,I,rfl,q⟩
end
end L2
namespace L2
open PySem PySem.Spec PyProof.Rows
theorem AH {α:Type}{xs ys:List α}{a b:α}(h:xs++[a]=ys++[b]):xs=ys/\a=b:=by
 have:=List.append_inj' h rfl
 exact ⟨this.1,by simpa using this.2⟩
theorem WAt.off {C:Cl}{K:JA}{H:Hp}{w bk rl:Addr}{g:Cfg}{n0:aY}{rs:List Row}(h:WAt C K H w bk rl g n0 rs)(p:Addr)(hp:g.N p):rl≠p:=by
 obtain ⟨dx,f,_,A,hA⟩:=h.bo.ob
 exact hA.nn.nr p hp
section
variable {X:Cx}
noncomputable def xi (C:Addr)(m:Str)(sp:Sp)(dvs:List V)(E':XT)(ta:TE)(t:TA):TE:=fun σ H Q=>tf C m sp dvs (fun cls _ H'=>E' cls σ H') ta t σ H Q
theorem B0 {pins pins':List (Addr×Obj)}{E':XT}{k:Nat}{f:Addr}{fd:FuncData}{ps:List Str}{sp:Sp}{dvs vs:List V}{ds us:List Value}{σ:St}{H1:Hp}{s1:Shared}{Q:VK}
  (F:fi X.prog X.w X.K X.mg X.base (CXf X.prog X.w) k f fd ps sp) (hr:cH k X.A) (hb:cS X.K fd ps ds) (hd:a8 dvs ds) (I1:Inv (Xt X pins E') pins' σ H1 s1) (r:a8 vs us)
  (q:sp (vs++dvs) H1 Q fun cls _ H'=>E' cls σ H'):wpAny (model X.prog X.w) X.A (call (.ref f) us) (fun v s'=>∃x H',Inv (Xt X pins E') pins' σ H' s'/\bu x v/\Q x H') (Xt X pins E').xe s1:=by
 have r2:a8 (vs++dvs) (us++ds):=r.append hd
 have hl:(us++ds).length=ps.length:=by rw [←r2.length];exact F.len _ _ _ _ q
 refine wpAny_call (codeAny_mono (F.run X.A X.stack s1 H1 ⟨us,[]⟩ (us++ds) (vs++dvs) Q _ hr I1.env0 (hb s1 us I1.kIn hl) r2 q) fun r s' hq=>?_)
 cases r with
 | error e=>exact ⟨σ,H1,s1,I1.ofT,hq⟩
 | ok fl=>
  cases fl with
  | ret u=>exact I1.after hq
  | next=>exact False.elim hq
  | brk=>exact False.elim hq
  | cont=>exact False.elim hq
theorem AI {pins:List (Addr×Obj)}{E':XT}{k:Nat}{f C:Addr}{fd:FuncData}{ps:List Str}{sp:Sp}{dvs:List V}{ds:List Value}{m:Str}{pos apos:Pos}{e o:Expr}{es:List Expr}{ta:TE}{t:TA}{pl:Sem Bool}
  (he:PE (Xt X pins E') o ta) (c:Cls X.K C) (hm:vj X.K C m f) (F:fi X.prog X.w X.K X.mg X.base (CXf X.prog X.w) k f fd ps sp) (hr:cH k X.A) (hb:cS X.K fd ps ds) (hd:a8 dvs ds) (ha:PA (Xt X pins E') (e::es) t)
  (hst:starEach (e::es) X.env=(false,eval e X.env)::starEach es X.env:=by rfl) (hpl:(backTo pos (starEach es X.env)).any (·.1)=false:=by rfl)
  (ht:eval (.Call (.Attribute o m apos) (e::es) [] pos) X.env=(do
   let ov ←eval o X.env
   standAt apos.atName
   let (f,first) ←holding [ov] (getMethod ov m pl)
   callWith pos f first (backTo pos (starEach (e::es) X.env)) (backToKw pos (keywordEach [] X.env))):=by rfl) :
  PE (Xt X pins E') (.Call (.Attribute o m apos) (e::es) [] pos) (xi C m sp dvs E' ta t):=by
 intro pins' s σ H Q I h
 refine W.methodCall_KW (pl:=pl) (thn (he pins' s σ H _ I h) fun u s1 ⟨x,H1,I1,rx,a,dx,fs,ex,ea,l,q⟩=>?_) ht
 subst ex
 obtain rfl:u=Value.ref a:=rx
 refine ja I1 ea c hm l ?_
 refine W.callWith_K (first:=[.ref a]) (h₀:=X.base) I.ok.mod.kin hm.kp (thn (ha pos pins' s1 σ H1 _ I1 q) fun us s2 ⟨vs,H2,I2,r,q2⟩=>⟨I2.kIn,?_⟩) hst hpl
 exact B0 (us:=.ref a::us) (vs:=.ref a::vs) F hr hb hd I2 (.cons rfl r) q2
end
end L2
namespace PySem
open Sem (wp)
open Builtin PySem.Spec PyProof.Rows PySem.SeqAt
end PySem
namespace L2
open PySem PySem.Spec PyProof.Rows PySem.SeqAt
end L2
namespace L2
open PySem PySem.Spec PyProof.Rows
def jZ {α:Type}(P:Addr->α->Prop)(as:List Addr)(xs:List α):Prop:=as.length=xs.length/\∀(i:Nat) a x,as[i]?=some a->xs[i]?=some x->P a x
section
variable {α:Type}{P Q:Addr->α->Prop}{as:List Addr}{xs:List α}{a:Addr}{x:α}
theorem jZ.imp (h:jZ P as xs)(f:∀a x,P a x->Q a x):jZ Q as xs:=⟨h.1,fun i a x e1 e2=>f _ _ (h.2 i a x e1 e2)⟩
theorem jZ.nil:jZ P [] []:=⟨rfl,fun i a r e _=>by simp at e⟩
theorem jZ.push (h:jZ P as xs)(hr:P a x):jZ P (as++[a]) (xs++[x]):=by
 refine ⟨by rw [List.length_append,List.length_append,h.1];rfl,fun i b y e1 e2=>?_⟩
 by_cases hi:i < as.length
 ·rw [List.getElem?_append_left hi] at e1
  rw [List.getElem?_append_left (by rw [←h.1];exact hi)] at e2
  exact h.2 i b y e1 e2
 ·rw [List.getElem?_append_right (by omega)] at e1
  rw [List.getElem?_append_right (by rw [←h.1];omega),←h.1] at e2
  have hz:i - as.length=0:=by
   have:=(List.getElem?_eq_some_iff.mp e1).1
   simp at this
   omega
  rw [hz] at e1 e2
  cases e1
  cases e2
  exact hr
end
end L2
namespace L2
open PySem PySem.Spec PyProof.Rows PySem.SeqAt
theorem oI (fs:List Bool)(n i:Nat)(v:Bool):(fs.set n v).getD i false=if n=i/\i < fs.length then v else fs.getD i false:=by
 rw [List.getD_eq_getElem?_getD,List.getD_eq_getElem?_getD,List.getElem?_set]
 by_cases e:n=i
 ·subst e
  by_cases h:n < fs.length
  ·rw [if_pos rfl,if_pos h,if_pos ⟨rfl,h⟩];rfl
  ·rw [if_pos rfl,if_neg h,if_neg (fun z=>h z.2),List.getElem?_eq_none (by omega)]
 ·rw [if_neg e,if_neg (fun z=>e z.1)]
end L2
namespace L2
open PySem PySem.Spec PyProof.Rows
def onI (x:V)(P:Int->Prop):Prop:=match x with | .int i=>P i | _=>False
def onB (x:V)(P:Bool->Prop):Prop:=match x with | .bl i=>P i | _=>False
def onR (x:V)(P:Addr->Prop):Prop:=match x with | .ref i=>P i | _=>False
def onO (x:Option (Option V))(P:V->Prop):Prop:=match x with | some (some v)=>P v | _=>False
def onC (xs:List V)(P:V->List V->Prop):Prop:=match xs with | v::r=>P v r | []=>False
def onN (xs:List V)(P:Prop):Prop:=match xs with | []=>P | _=>False
theorem B1 (i:Int)(P:Int->Prop):onI (.int i) P=P i:=rfl
theorem EE (i:Bool)(P:Bool->Prop):onB (.bl i) P=P i:=rfl
theorem B4 (i:Addr)(P:Addr->Prop):onR (.ref i) P=P i:=rfl
theorem AJ (v:V)(P:V->Prop):onO (some (some v)) P=P v:=rfl
theorem AK (v:V)(r:List V)(P:V->List V->Prop):onC (v::r) P=P v r:=rfl
theorem B5 (P:Prop):onN [] P=P:=rfl
theorem ux {x:V}{P:Int->Prop}:(∃i,x=.int i/\P i)↔onI x P:=by cases x<;>simp [onI]
theorem uy {x:V}{P:Bool->Prop}:(∃i,x=.bl i/\P i)↔onB x P:=by cases x<;>simp [onB]
theorem yl {x:V}{P:Addr->Prop}:(∃i,x=.ref i/\P i)↔onR x P:=by cases x<;>simp [onR]
theorem dJ {x:V}{P:Addr->Prop}(h:onR x P):∃i,x=.ref i/\P i:=yl.mpr h
theorem qu {x:V}{P:Int->Prop}(h:onI x P):∃i,x=.int i/\P i:=ux.mpr h
theorem B6 {x:Option (Option V)}{P:V->Prop}:(∃v,x=some (some v)/\P v)↔onO x P:=by
 rcases x with _ | _ | v<;>simp [onO]
theorem B7 {xs:List V}{P:V->List V->Prop}:(∃v r,xs=v::r/\P v r)↔onC xs P:=by
 cases xs with
 | nil=>exact ⟨fun ⟨_,_,e,_⟩=>(List.cons_ne_nil _ _ e.symm).elim,fun h=>False.elim h⟩
 | cons v r=>exact ⟨fun ⟨_,_,e,h⟩=>by cases e;exact h,fun h=>⟨v,r,rfl,h⟩⟩
theorem B8 {xs:List V}{P:Prop}:(xs=[]/\P)↔onN xs P:=by cases xs<;>simp [onN]
theorem Gz {α β:Type}(f:α->β)(a:α)(l:List α):List.map f (a::l)=f a::List.map f l:=rfl
theorem GA {α β:Type}(f:α->β):List.map f ([]:List α)=[]:=rfl
theorem GB {α:Type}(a:α)(l m:List α):(a::l)++m=a::(l++m):=rfl
theorem GC {α:Type}(m:List α):([]:List α)++m=m:=rfl
theorem FU {α:Type}(a:α)(l:List α):(a::l)[0]?=some a:=rfl
theorem FV {α:Type}(a:α)(l:List α)(n:Nat):(a::l)[n+1]?=l[n]?:=rfl
theorem FW {α:Type}(a b:α)(l:List α):(a::l).set 0 b=b::l:=rfl
theorem FX {α:Type}(a b:α)(l:List α)(n:Nat):(a::l).set (n+1) b=a::l.set n b:=rfl
theorem GD {α:Type}(a:α)(n:Nat):List.replicate (n+1) a=a::List.replicate n a:=rfl
theorem GF {α:Type}(a:α):List.replicate 0 a=[]:=rfl
theorem EF (N:List Str)(vs:List V):L2.jJ N vs=vs.map some++List.replicate (N.length - vs.length) none:=rfl
theorem σN (cm:List (Option Nat))(σ:St):bV (none::cm) σ=none::bV cm σ:=rfl
theorem σS (i:Nat)(cm:List (Option Nat))(σ:St):bV (some i::cm) σ=(σ[i]?).getD none::bV cm σ:=rfl
theorem σ0 (σ:St):bV [] σ=[]:=rfl
theorem FY {α:Type}(a b:α):(some a).getD b=a:=rfl
theorem GG {α:Type}(a:α)(l:List α):(a::l).length=l.length+1:=rfl
theorem GH {α:Type}:([]:List α).length=0:=rfl
theorem FZ {A B:Prop}:(if true=true then A else B)=A:=rfl
theorem Ga {A B:Prop}:(if false=true then A else B)=B:=rfl
theorem GI {p:Prop}[Decidable p]{A B:Prop}(h:if p then A else B):if decide p=true then A else B:=by
 by_cases e:p
 ·rw [if_pos e] at h;rw [if_pos (decide_eq_true e)];exact h
 ·rw [if_neg e] at h;rw [if_neg (by simp [e])];exact h
section
variable {α β:Type}
theorem ceq {f g:α->β->Prop}(h:∀x y,f x y↔g x y):f=g:=funext fun x=>funext fun y=>propext (h x y)
noncomputable def AL (i:Nat):TE:=fun σ H Q=>onO σ[i]? fun v=>Q v H
theorem B9 (i:Nat):DJ i=AL i:=funext fun σ=>funext fun H=>funext fun Q=>propext B6
noncomputable def tB' (t:TE):TT:=fun σ H Q=>t σ H fun x H1=>onB x fun c=>Q c H1
theorem Dv (t:TE):tB t=tB' t:=funext fun σ=>funext fun H=>funext fun Q=>congrArg (t σ H) (ceq fun _ _=>uy)
theorem AM (t:TE):mX t=tB' t:=Dv t
noncomputable def xj (g:Int->Int->V):R2:=fun x y H Q=>onI x fun i=>onI y fun j=>Q (g i j) H
theorem two_iff {x y:V}{P:Int->Int->Prop}:(∃i j,x=.int i/\y=.int j/\P i j)↔onI x fun i=>onI y fun j=>P i j:=⟨fun ⟨i,j,e,f,h⟩=>by subst e f;exact h,fun h=>let ⟨i,e,h⟩:=qu h;let ⟨j,f,h⟩:=qu h;⟨i,j,e,f,h⟩⟩
theorem qv (g:Int->Int->V):rI0 g=xj g:=funext fun x=>funext fun y=>ceq fun _ _=>two_iff
noncomputable def rI' (C:Int->Int->Prop)(g:Int->Int->V):R2:=fun x y H Q=>onI x fun i=>onI y fun j=>C i j/\Q (g i j) H
theorem AN (C:Int->Int->Prop)(g:Int->Int->V):rI C g=rI' C g:=funext fun x=>funext fun y=>ceq fun _ _=>two_iff
noncomputable def rU' (g:Int->V):V->Hp->VK->Prop:=fun x H Q=>onI x fun i=>Q (g i) H
theorem Gb (g:Int->V):rU g=rU' g:=funext fun x=>ceq fun _ _=>ux
def eqP (x y:V)(P:Bool->Prop):Prop:=match x,y with
 | .int i,.int j=>P (decide (i=j))
 | .str i,.str j=>P (decide (i=j))
 | .bl i,.bl j=>P (decide (i=j))
 | x,y=>rT x y=true/\P (decide (x=y))
theorem ym {x y:V}{P:Bool->Prop}:(rT x y=true/\P (decide (x=y)))↔eqP x y P:=by
 cases x<;>cases y<;>simp [eqP,rT]
theorem Ca (i j:Int)(P:Bool->Prop):eqP (.int i) (.int j) P=P (decide (i=j)):=rfl
theorem Cb (i j:Str)(P:Bool->Prop):eqP (.str i) (.str j) P=P (decide (i=j)):=rfl
theorem EG (i j:Bool)(P:Bool->Prop):eqP (.bl i) (.bl j) P=P (decide (i=j)):=rfl
noncomputable def EH:R2:=fun x y H Q=>eqP x y fun b=>Q (.bl b) H
theorem EI:rEq=EH:=funext fun x=>funext fun y=>ceq fun H Q=>ym (P:=fun b=>Q (.bl b) H)
noncomputable def lO (p:Int->Int->Prop)[d:∀i j,Decidable (p i j)](ta tb:TE):TT:=fun σ H Q=>ta σ H fun x H1=>tb σ H1 fun y H2=>onI x fun i=>onI y fun j=>if p i j then Q true H2 else Q false H2
theorem AO {p:Prop}[Decidable p]{Q:Bool->Prop}:Q (decide p)=if p then Q true else Q false:=by
 by_cases h:p
 ·rw [if_pos h,decide_eq_true h]
 ·rw [if_neg h,decide_eq_false h]
theorem pZ (p:Int->Int->Prop)[d:∀i j,Decidable (p i j)](ta tb:TE):mX (tOp (rI0 fun i j=>.bl (decide (p i j))) ta tb)=lO p ta tb:=by
 funext σ H Q
 refine congrArg (ta σ H) (funext fun x=>funext fun H1=>congrArg (tb σ H1) (ceq fun y H2=>?_))
 cases x<;>cases y<;>simp [rI0,onI,AO (Q:=fun b=>Q b H2)]
theorem EJ (ta tb:TE):mX (tOp (rI0 fun i j=>.bl (decide (i < j))) ta tb)=lO (fun i j=>i < j) ta tb:=pZ _ ta tb
theorem EK (ta tb:TE):mX (tOp (rI0 fun i j=>.bl (decide (i<=j))) ta tb)=lO (fun i j=>i<=j) ta tb:=pZ _ ta tb
theorem EL (ta tb:TE):mX (tOp (rI0 fun i j=>.bl (decide (j < i))) ta tb)=lO (fun i j=>j < i) ta tb:=pZ _ ta tb
theorem EM (ta tb:TE):mX (tOp (rI0 fun i j=>.bl (decide (j<=i))) ta tb)=lO (fun i j=>j<=i) ta tb:=pZ _ ta tb
def eqT (x y:V)(Y N:Prop):Prop:=match x,y with
 | .int i,.int j=>if i=j then Y else N
 | .str i,.str j=>if i=j then Y else N
 | .bl i,.bl j=>if i=j then Y else N
 | x,y=>rT x y=true/\if x=y then Y else N
theorem Cc (i j:Int)(Y N:Prop):eqT (.int i) (.int j) Y N=if i=j then Y else N:=rfl
theorem Ce (i j:Str)(Y N:Prop):eqT (.str i) (.str j) Y N=if i=j then Y else N:=rfl
theorem EN (i j:Bool)(Y N:Prop):eqT (.bl i) (.bl j) Y N=if i=j then Y else N:=rfl
theorem yp {x y:V}{Q:Bool->Prop}:(rT x y=true/\Q (decide (x=y)))↔eqT x y (Q true) (Q false):=by
 rw [AO (Q:=Q)]
 cases x<;>cases y<;>simp [eqT,rT]
def neT (x y:V)(Y N:Prop):Prop:=match x,y with
 | .int i,.int j=>if ¬i=j then Y else N
 | .str i,.str j=>if ¬i=j then Y else N
 | .bl i,.bl j=>if ¬i=j then Y else N
 | x,y=>rT x y=true/\if ¬x=y then Y else N
theorem Cf (i j:Int)(Y N:Prop):neT (.int i) (.int j) Y N=if ¬i=j then Y else N:=rfl
theorem Cg (i j:Str)(Y N:Prop):neT (.str i) (.str j) Y N=if ¬i=j then Y else N:=rfl
theorem EO (i j:Bool)(Y N:Prop):neT (.bl i) (.bl j) Y N=if ¬i=j then Y else N:=rfl
theorem Ci {x y:V}{Y N:Prop}:eqT x y N Y↔neT x y Y N:=by
 have h:∀(p:Prop) [Decidable p],(if p then N else Y)=if ¬p then Y else N:=fun p _=>by by_cases e:p<;>simp [e]
 cases x<;>cases y<;>first | exact iff_of_eq (h _) | exact and_congr Iff.rfl (iff_of_eq (h _))
noncomputable def ER (ta tb:TE):TT:=fun σ H Q=>ta σ H fun x H1=>tb σ H1 fun y H2=>eqT x y (Q true H2) (Q false H2)
noncomputable def ET (ta tb:TE):TT:=fun σ H Q=>ta σ H fun x H1=>tb σ H1 fun y H2=>neT x y (Q true H2) (Q false H2)
theorem Cj (ta tb:TE):mX (tOp rEq ta tb)=ER ta tb:=by
 funext σ H Q
 refine congrArg (ta σ H) (funext fun x=>funext fun H1=>congrArg (tb σ H1) (ceq fun y H2=>?_))
 refine Iff.trans ?_ (yp (Q:=fun b=>Q b H2))
 exact ⟨fun ⟨a,k,e,q⟩=>⟨a,by cases e;exact q⟩,fun ⟨a,q⟩=>⟨a,_,rfl,q⟩⟩
theorem Ck (ta tb:TE):mX (tOp rNe ta tb)=ET ta tb:=by
 funext σ H Q
 refine congrArg (ta σ H) (funext fun x=>funext fun H1=>congrArg (tb σ H1) (ceq fun y H2=>?_))
 refine Iff.trans (Iff.trans ?_ (yp (Q:=fun b=>Q (!b) H2))) Ci
 exact ⟨fun ⟨a,k,e,q⟩=>⟨a,by cases e;exact q⟩,fun ⟨a,q⟩=>⟨a,_,rfl,q⟩⟩
noncomputable def qw (K:JA)(n:Nat)(t:TGs):TG:=fun v σ H Q=>onR v fun a=>∃xs,SqT K H a xs/\xs.length=n/\t xs σ H Q
theorem qx {x:V}{γ:Type}{P:Addr->γ->Prop}:(∃a z,x=.ref a/\P a z)↔onR x fun a=>∃z,P a z:=by cases x<;>simp [onR]
theorem yq (K:JA)(n:Nat)(t:TGs):DQ K n t=qw K n t:=funext fun v=>funext fun σ=>ceq fun _ _=>qx
noncomputable def xk (K:JA)(n:Nat)(t:TGs):TG:=fun v σ H Q=>onR v fun a=>∃xs,SqL K H a xs/\xs.length=n/\t xs σ H Q
theorem AQ (K:JA)(n:Nat)(t:TGs):Du K n t=xk K n t:=funext fun v=>funext fun σ=>ceq fun _ _=>qx
noncomputable def oJ (t:TG)(u:TGs):TGs:=fun vs σ H Q=>onC vs fun v r=>t v σ H fun σ' H'=>u r σ' H' Q
theorem nA (t:TG)(u:TGs):vg t u=oJ t u:=funext fun v=>funext fun σ=>ceq fun _ _=>B7
noncomputable def yr:TGs:=fun vs σ H Q=>onN vs (Q σ H)
theorem yt:DP=yr:=funext fun v=>funext fun σ=>ceq fun _ _=>B8
noncomputable def qy (K:JA):R2:=fun x y H Q=>onR x fun p=>onI y fun i=>∃xs,SqL K H p xs/\∃v,atI xs i=some v/\Q v H
theorem Cm (K:JA):Ea K=qy K:=funext fun x=>funext fun y=>ceq fun H Q=>⟨fun ⟨p,xs,i,v,e,f,h1,h2,h3⟩=>by subst e f;exact ⟨xs,h1,v,h2,h3⟩,fun h=>let ⟨p,e,h⟩:=dJ h;let ⟨i,f,xs,h1,v,h2,h3⟩:=qu h;⟨p,xs,i,v,e,f,h1,h2,h3⟩⟩
noncomputable def dB (K:JA):R2:=fun x y H Q=>onR x fun p=>onI y fun i=>∃xs,SqT K H p xs/\∃v,atI xs i=some v/\Q v H
theorem Cn (K:JA):Eb K=dB K:=funext fun x=>funext fun y=>ceq fun H Q=>⟨fun ⟨p,xs,i,v,e,f,h1,h2,h3⟩=>by subst e f;exact ⟨xs,h1,v,h2,h3⟩,fun h=>let ⟨p,e,h⟩:=dJ h;let ⟨i,f,xs,h1,v,h2,h3⟩:=qu h;⟨p,xs,i,v,e,f,h1,h2,h3⟩⟩
noncomputable def xl (ta tb:TE):TE:=fun σ H Q=>ta σ H fun x H1=>onB x fun c=>if c=true then tb σ H1 Q else Q (.bl false) H1
theorem AR (ta tb:TE):CZ ta tb=xl ta tb:=funext fun σ=>funext fun H=>funext fun Q=>congrArg (ta σ H) (ceq fun _ _=>uy)
noncomputable def AS (ta tb:TE):TE:=fun σ H Q=>ta σ H fun x H1=>onB x fun c=>if c=true then Q (.bl true) H1 else tb σ H1 Q
theorem Co (ta tb:TE):Fk ta tb=AS ta tb:=funext fun σ=>funext fun H=>funext fun Q=>congrArg (ta σ H) (ceq fun _ _=>uy)
noncomputable def AU (K:JA)(ta:TE)(f:Str):TE:=fun σ H Q=>ta σ H fun x H1=>onR x fun a=>∃C dx fs,H1 a=some (.ins C dx fs)/\Cls K C/\aP K C f/\∃v,fs.lookup f=some v/\Q v H1
theorem Cp (K:JA)(ta:TE)(f:Str):Fw K ta f=AU K ta f:=funext fun σ=>funext fun H=>funext fun Q=>congrArg (ta σ H) (ceq fun x H1=>by cases x<;>simp [onR])
noncomputable def AV (K:JA)(ta tv:TE)(f:Str):TS:=fun D σ H=>tv σ H fun y H1=>ta σ H1 fun x H2=>onR x fun a=>∃C dx fs,H2 a=some (.ins C dx fs)/\Cls K C/\aP K C f/\fs.length < 1000/\D.nx σ (upd H2 a (.ins C dx (aX f y fs)))
theorem Cq (K:JA)(ta tv:TE)(f:Str):Fx K ta tv f=AV K ta tv f:=funext fun D=>funext fun σ=>funext fun H=>congrArg (tv σ H) (funext fun y=>funext fun H1=>congrArg (ta σ H1) (ceq fun x H2=>by cases x<;>simp [onR]))
noncomputable def uz (C:Addr)(m:Str)(sp:Sp)(dvs:List V)(E:XK)(ta:TE)(t:TA):TE:=fun σ H Q=>ta σ H fun x H1=>onR x fun a=>∃dx fs,H1 a=some (.ins C dx fs)/\fs.lookup m=none/\t σ H1 fun vs H2=>sp (.ref a::(vs++dvs)) H2 Q E
theorem fq (C:Addr)(m:Str)(sp:Sp)(dvs:List V)(E:XK)(ta:TE)(t:TA):tf C m sp dvs E ta t=uz C m sp dvs E ta t:=funext fun σ=>funext fun H=>funext fun Q=>congrArg (ta σ H) (ceq fun x H1=>by cases x<;>simp [onR])
noncomputable def nB:V->List V->Hp->VK->Prop:=fun x vs H Q=>onR x fun l=>onC vs fun y r=>onN r (∃xs,H l=some (.lst xs)/\xs.length < sizeLine/\Q .non (upd H l (.lst (xs++[y]))))
theorem xm:yb=nB:=funext fun x=>funext fun vs=>ceq fun H Q=>⟨fun ⟨l,xs,y,e,f,h⟩=>by subst e f;exact ⟨xs,h⟩,fun h=>by
 obtain ⟨l,rfl,z⟩:=dJ h
 match vs,z with
 | [v],⟨xs,z⟩=>exact ⟨l,xs,v,rfl,rfl,z⟩⟩
noncomputable def xn (t:TE):TO:=fun σ H Q=>t σ H fun x H1=>onI x fun i=>Q (some i) H1
theorem AW (t:TE):Dp t=xn t:=funext fun σ=>funext fun H=>funext fun Q=>congrArg (t σ H) (ceq fun _ _=>ux)
noncomputable def xo (K:JA)(tl:TE):TI:=fun σ H R=>tl σ H fun x H1=>onR x fun a=>(∃xs,SqL K H1 a xs)/\R (Itl K a) H1
theorem AX (K:JA)(tl:TE):Df K tl=xo K tl:=funext fun σ=>funext fun H=>funext fun R=>congrArg (tl σ H) (ceq fun _ _=>yl)
noncomputable def xp (ta:TA):TI:=fun σ H R=>ta σ H fun vs H1=>onC vs fun v r=>onN r (onI v fun j=>-(2 ^ 62)<=j/\j < 2 ^ 62/\R (Itr 0 j.toNat) H1)
theorem AY (ta:TA):Dg ta=xp ta:=funext fun σ=>funext fun H=>funext fun R=>congrArg (ta σ H) (ceq fun vs H1=>by
 rcases vs with _ | ⟨y,_ | ⟨z,vs⟩⟩<;>(try cases y)<;>simp [onI,onC,onN])
noncomputable def Cr (K:JA):List V->Hp->VK->Prop:=fun vs H Q=>onC vs fun v r=>onN r (onR v fun p=>∃ys,(SqL K H p ys\/SqT K H p ys)/\Q (.int ys.length) H)
theorem Cs (K:JA)(t:TA):tCB (fun xs H Q=>∃p ys,xs=[.ref p]/\(SqL K H p ys\/SqT K H p ys)/\Q (.int ys.length) H) t=tCB (Cr K) t:=by
 refine congrArg (fun r=>tCB r t) (funext fun vs=>ceq fun H Q=>?_)
 rcases vs with _ | ⟨y,_ | ⟨z,vs⟩⟩<;>(try cases y)<;>simp [Cr,onR,onC,onN]
noncomputable def p9 (K:JA):List V->Hp->VK->Prop:=fun vs H Q=>onC vs fun v r=>onN r (onR v fun p=>∃ys,(SqL K H p ys\/SqT K H p ys)/\∀l,H l=none->Q (.ref l) (upd H l (.lst ys)))
theorem xq (K:JA)(t:TA):tCB (fun xs H Q=>∃p ys,xs=[.ref p]/\(SqL K H p ys\/SqT K H p ys)/\∀l,H l=none->Q (.ref l) (upd H l (.lst ys))) t=tCB (p9 K) t:=by
 refine congrArg (fun r=>tCB r t) (funext fun vs=>ceq fun H Q=>?_)
 rcases vs with _ | ⟨y,_ | ⟨z,vs⟩⟩<;>(try cases y)<;>simp [p9,onR,onC,onN]
noncomputable def xr:V->V->V->Hp->(Hp->Prop)->Prop:=fun o i v H Q=>onR o fun p=>onI i fun k=>∃xs,H p=some (.lst xs)/\∃j,ixN xs.length k=some j/\Q (upd H p (.lst (xs.set j v)))
theorem AZ:Dq=xr:=funext fun o=>funext fun i=>funext fun v=>ceq fun H Q=>⟨fun ⟨p,xs,k,j,e,f,h1,h2,h3⟩=>by subst e f;exact ⟨xs,h1,j,h2,h3⟩,fun h=>let ⟨p,e,h⟩:=dJ h;let ⟨k,f,xs,h1,j,h2,h3⟩:=qu h;⟨p,xs,k,j,e,f,h1,h2,h3⟩⟩
theorem GJ {p:Prop}[Decidable p]{A B:Prop}(h:if ¬p then A else B):if (!decide p)=true then A else B:=by
 by_cases e:p
 ·rw [if_neg (fun z=>z e)] at h;rw [if_neg (by simp [e])];exact h
 ·rw [if_pos e] at h;rw [if_pos (by simp [e])];exact h
noncomputable def tU1 (f:Int->V)(ta:TE):TE:=fun σ H Q=>ta σ H fun x H1=>onI x fun i=>Q (f i) H1
theorem A1 {k:Int}(hk:0 < k)(ta:TE)(g:Int->Int->V):tOp (rI (fun _ j=>0 < j) g) ta (tC (.int k))=tU1 (fun i=>g i k) ta:=funext fun σ=>funext fun H=>funext fun Q=>congrArg (ta σ H) (ceq fun x H1=>by
 cases x<;>simp [rI,tC,onI,hk])
theorem A2 {k:Int}(h1:0 < k)(h2:k < 1073741824)(ta:TE)(g:Int->Int->V):tOp (rI zT g) ta (tC (.int k))=tU1 (fun i=>g i k) ta:=funext fun σ=>funext fun H=>funext fun Q=>congrArg (ta σ H) (ceq fun x H1=>by
 have hc:∀i,zT i k:=fun i=>by unfold zT;omega
 cases x<;>simp [rI,tC,onI,hc])
theorem A3 {k:Int}(h1:-4294967296 < k)(h2:k < 4294967296)(ta:TE)(g:Int->Int->V):tOp (rI qj g) ta (tC (.int k))=tU1 (fun i=>g i k) ta:=funext fun σ=>funext fun H=>funext fun Q=>congrArg (ta σ H) (ceq fun x H1=>by
 have hc:∀i,qj i k:=fun i=>by unfold qj;omega
 cases x<;>simp [rI,tC,onI,hc])
theorem zm {k:Int}(h1:-4294967296 < k)(h2:k < 4294967296)(tb:TE)(g:Int->Int->V):tOp (rI qj g) (tC (.int k)) tb=tU1 (fun i=>g k i) tb:=funext fun σ=>funext fun H=>funext fun Q=>congrArg (tb σ H) (ceq fun x H1=>by
 have hc:∀i,qj k i:=fun i=>by unfold qj;omega
 cases x<;>simp [rI,onI,hc])
noncomputable def A4 (K:JA):V->Option Int->Option Int->Hp->VK->Prop:=fun x lo hi H Q=>onR x fun a=>∃xs,SqL K H a xs/\∀p,H p=none->Q (.ref p) (upd H p (.lst (rX xs lo hi)))
theorem Ct (K:JA):FD K=A4 K:=funext fun x=>funext fun lo=>funext fun hi=>ceq fun _ _=>qx
noncomputable def A5:R2:=fun x y H Q=>onR x fun l=>onR y fun b=>∃xs,H l=some (.lst xs)/\∃zs,H b=some (.lst zs)/\xs.length+zs.length<=sizeLine/\∀p,H p=none->Q (.ref p) (upd H p (.lst (xs++zs)))
theorem Cu:FG=A5:=funext fun x=>funext fun y=>ceq fun H Q=>⟨fun ⟨l,b,xs,zs,e,f,h1,h2,h3⟩=>by subst e f;exact ⟨xs,h1,zs,h2,h3⟩,fun h=>let ⟨l,e,h⟩:=dJ h;let ⟨b,f,xs,h1,zs,h2,h3⟩:=dJ h;⟨l,b,xs,zs,e,f,h1,h2,h3⟩⟩
noncomputable def zp (K:JA)(neg:Bool):R2:=fun x y H Q=>onR y fun p=>∃xs,(SqL K H p xs\/SqT K H p xs)/\a7 x=true/\xs.all a7=true/\Q (.bl (if neg=true then !inV x xs else inV x xs)) H
theorem A6 (K:JA)(neg:Bool):rIn K neg=zp K neg:=funext fun x=>funext fun y=>ceq fun H Q=>by cases y<;>simp [rIn,zp,onR]
theorem Gc {b c:Bool}:(if true=true then b else c)=b:=rfl
theorem Gd {b c:Bool}:(if false=true then b else c)=c:=rfl
noncomputable def xt (ta:TA):TI:=fun σ H R=>ta σ H fun vs H1=>onC vs fun v r=>onC r fun u r2=>onN r2 (onI v fun i=>onI u fun j=>(-(2 ^ 62)<=i/\i < 2 ^ 62/\-(2 ^ 62)<=j/\j < 2 ^ 62)/\R (Itr i (j - i).toNat) H1)
theorem tJ {vs:List V}{P:Int->Int->Prop}:(∃i j,vs=[.int i,.int j]/\P i j)↔onC vs fun v r=>onC r fun u r2=>onN r2 (onI v fun i=>onI u fun j=>P i j):=by
 constructor
 ·rintro ⟨i,j,rfl,h⟩;exact h
 ·intro h
  rcases vs with _ | ⟨y,_ | ⟨z,_ | ⟨u,vs⟩⟩⟩
  ·exact h.elim
  ·exact h.elim
  ·cases y<;>cases z<;>first | exact ⟨_,_,rfl,h⟩ | exact h.elim
  ·exact h.elim
theorem A7 (ta:TA):Dh ta=xt ta:=funext fun σ=>funext fun H=>funext fun R=>congrArg (ta σ H) (ceq fun vs H1=>tJ)
noncomputable def A8 (K:JA)(ta tb:TE):TI:=fun σ H R=>ta σ H fun x H1=>tb σ H1 fun y H2=>onR x fun a=>onR y fun b=>(∃xs,SqL K H2 a xs)/\(∃ys,SqL K H2 b ys)/\R (Itz K a b) H2
theorem Cv (K:JA)(ta tb:TE):FO K ta tb=A8 K ta tb:=funext fun σ=>funext fun H=>funext fun R=>congrArg (ta σ H) (funext fun x=>funext fun H1=>congrArg (tb σ H1) (ceq fun y H2=>⟨fun ⟨a,b,e,f,h⟩=>by subst e f;exact h,fun h=>let ⟨a,e,h⟩:=dJ h;let ⟨b,f,h⟩:=dJ h;⟨a,b,e,f,h⟩⟩))
noncomputable def yu:V->List V->Hp->VK->Prop:=fun x vs H Q=>onR x fun l=>onN vs (∃xs,H l=some (.lst xs)/\∃y,xs[xs.length - 1]?=some y/\Q y (upd H l (.lst xs.dropLast)))
theorem Cw:Ed=yu:=funext fun x=>funext fun vs=>ceq fun H Q=>by cases vs<;>cases x<;>simp [Ed,yu,onR,onN]
noncomputable def Cy:List V->Hp->VK->Prop:=fun vs H Q=>onC vs fun v r=>onN r (onI v fun i=>Q (.int (if i < 0 then -i else i)) H)
theorem Cz (t:TA):tCB (fun xs H Q=>∃i,xs=[.int i]/\Q (.int (if i < 0 then -i else i)) H) t=tCB Cy t:=by
 refine congrArg (fun r=>tCB r t) (funext fun vs=>ceq fun H Q=>?_)
 rcases vs with _ | ⟨y,_ | ⟨z,vs⟩⟩<;>(try cases y)<;>simp [Cy,onI,onC,onN]
noncomputable def A9:List V->Hp->VK->Prop:=fun vs H Q=>onC vs fun v r=>onC r fun u r2=>onN r2 (onI v fun i=>onI u fun j=>Q (.int (if j < i then j else i)) H)
theorem Ba (t:TA):tCB (fun xs H Q=>∃i j,xs=[.int i,.int j]/\Q (.int (if j < i then j else i)) H) t=tCB A9 t:=by
 refine congrArg (fun r=>tCB r t) (funext fun vs=>ceq fun H Q=>?_)
 exact tJ
def CA (v:V)(P:Int->Prop):Prop:=match v with | .int i=>P i | .bl k=>P (if k=true then 1 else 0) | _=>False
theorem Bb (i:Int)(P:Int->Prop):CA (.int i) P=P i:=rfl
theorem CB (k:Bool)(P:Int->Prop):CA (.bl k) P=P (if k=true then 1 else 0):=rfl
noncomputable def yv:List V->Hp->VK->Prop:=fun vs H Q=>onC vs fun v r=>onN r (CA v fun i=>Q (.int i) H)
theorem Bc (t:TA):tCB (fun xs H Q=>(∃i,xs=[.int i]/\Q (.int i) H)\/∃k,xs=[.bl k]/\Q (.int (if k=true then 1 else 0)) H) t=tCB yv t:=by
 refine congrArg (fun r=>tCB r t) (funext fun vs=>ceq fun H Q=>?_)
 rcases vs with _ | ⟨y,_ | ⟨z,vs⟩⟩<;>(try cases y)<;>simp [yv,onC,onN,CA]
theorem oK {K:JA}{l:Addr}{ls:List Ld}{te:TE}{cm:List (Option Nat)}{σ:St}{H:Hp}{Q:VK}(f:Ld->V)(hL:eA K H l ls)(hn:ls.length<=sizeLine)(hcm:bV cm σ=[none,none,none])
  (he:∀x∈ls,∀N:VK,N (f x) H->te [some (.str x.1),some (.int x.2.1),some (.int x.2.2)] H N)
  (hd:∀p,H p=none->Q (.ref p) (upd H p (.lst (ls.map f)))):o8 (Itl K l) (qw K 3 (oJ (eg 0) (oJ (eg 1) (oJ (eg 2) yr)))) vp te cm σ Q H:=by
 rw [←yq,←yt,←nA,←nA,←nA]
 exact Ax f hL hn hcm he hd
end
noncomputable def yw (K:JA):R2:=fun x y H Q=>onR x fun a=>onR y fun b=>∃xs,SqL K H a xs/\∃ys,SqL K H b ys/\xs.all a7=true/\ys.all a7=true/\Q (.bl (!eqL xs ys)) H
theorem CC (K:JA):ED K=yw K:=funext fun x=>funext fun y=>ceq fun H Q=>by cases x<;>cases y<;>simp [ED,yw,onR]
noncomputable def yx (K:JA):R2:=fun x y H Q=>onR x fun a=>onR y fun b=>∃xs,SqL K H a xs/\∃ys,SqL K H b ys/\xs.all a7=true/\ys.all a7=true/\Q (.bl (eqL xs ys)) H
theorem CD (K:JA):Es K=yx K:=funext fun x=>funext fun y=>ceq fun H Q=>by cases x<;>cases y<;>simp [Es,yx,onR]
theorem CF {xs:List V}:eqL xs []=decide (xs=[]):=by cases xs<;>simp [eqL]
theorem Ge {b:Bool}{A B:Prop}(h:if b=false then A else B):if (!b)=true then A else B:=by cases b<;>exact h
def DI (K:JA)(x:Str)(st:Stmt):Prop:=∃f fd,W.nsIn K mainGlobals x=some (some (.ref f))/\Fun K x x st f fd
theorem DI.mk {K:JA}{x:Str}{st:Stmt}{f:Addr}{oc:Value}{od an:Option Addr}{osl:Array (Option Value)}{kV doc pm cdv ct:Value}(a:W.nsIn K mainGlobals x=some (some (.ref f)))(l:K.lookup f=some ⟨oc,od,.func (W.fnOf x x (cL st) (bQ st) (aj st) .none kV doc pm an cdv ct),osl⟩)
  (c:W.codeIn K cdv x=true) (k:W.keepIn K (.ref f)=true):DI K x st:=⟨f,_,a,w8 l c k⟩
def MI (K:JA)(C:Addr)(m q:Str)(st:Stmt):Prop:=∃f fd,vj K C m f/\Fun K m q st f fd
theorem MI.mk {K:JA}{C:Addr}{m q:Str}{st:Stmt}{f:Addr}{oc:Value}{od an:Option Addr}{osl:Array (Option Value)}{kV doc pm cdv ct:Value}(a:W.findIn K (.ref C) m=some (some (.ref f)))(fn:W.isFn K (.ref f)=true)(l:K.lookup f=some ⟨oc,od,.func (W.fnOf m q (cL st) (bQ st) (aj st) .none kV doc pm an cdv ct),osl⟩)
  (c:W.codeIn K cdv q=true) (k:W.keepIn K (.ref f)=true):MI K C m q st:=⟨f,_,⟨a,fn,k⟩,w8 l c k⟩
def II (K:JA)(C:Addr)(q:Str)(st:Stmt):Prop:=∃f fd,Mk K C f/\Fun K "__init__" q st f fd
theorem II.mk {K:JA}{C:Addr}{q:Str}{st:Stmt}{f:Addr}{oc:Value}{od an:Option Addr}{osl:Array (Option Value)}{kV doc pm cdv ct:Value}(a:W.findIn K (.ref C) "__init__"=some (some (.ref f)))(fn:W.isFn K (.ref f)=true)(mk:W.makesIn K C=true)(kc:W.keepIn K (.ref C)=true)(l:K.lookup f=some ⟨oc,od,.func (W.fnOf "__init__" q (cL st) (bQ st) (aj st) .none kV doc pm an cdv ct),osl⟩)
  (c:W.codeIn K cdv q=true) (k:W.keepIn K (.ref f)=true):II K C q st:=⟨f,_,⟨mk,a,fn,kc⟩,w8 l c k⟩
def C0I (K:JA)(C0:Addr):Prop:=∃(c0 c2:Value) (dd0 d2:Option Addr) (cd0:ClassData) (sl0 sl2:Array (Option Value)) (es0:Array DictEntry) (ep0:Nat),K.lookup C0=some ⟨c0,dd0,.cls cd0,sl0⟩/\K.lookup cd0.ns=some ⟨c2,d2,.dict es0 ep0,sl2⟩/\kQ es0=true/\(quietNames.all fun n=>(nsFind es0 n).isNone)=true
theorem C0I.mk {K:JA}{C0 N0:Addr}{c0 c2:Value}{dd0 d2:Option Addr}{cd0:ClassData}{sl0 sl2:Array (Option Value)}{es0:Array DictEntry}{ep0:Nat}(l0:K.lookup C0=some ⟨c0,dd0,.cls cd0,sl0⟩)(e0:cd0.ns=N0)(lN0:K.lookup N0=some ⟨c2,d2,.dict es0 ep0,sl2⟩)(kN0:kQ es0=true)(iN0:(quietNames.all fun n=>(nsFind es0 n).isNone)=true):C0I K C0:=
 ⟨c0,c2,dd0,d2,cd0,sl0,sl2,es0,ep0,l0,e0▸lN0,kN0,iN0⟩
def XI (K:JA)(C0 C:Addr):Prop:=C0I K C0->ExI K C
theorem XI.mk {K:JA}{C N C0:Addr}{nm q:Str}{bs:List Value}{hdct:Bool}{sn:List Str}{sub:List Value}{ab:Bool}{col:Option Bool}{dd:Option Addr}{k0 k1 k2 k3 k5:Option Value}{c1:Value}{d1:Option Addr}{es:Array DictEntry}{ep:Nat}{sl1:Array (Option Value)}
  (lC:K.lookup C=some (excClassObj nm q C N bs [.ref C0,.type "ValueError",.type "Exception",.type "BaseException",.type "object"] hdct sn sub ab col dd k0 k1 k2 k3 k5 "ValueError.__new__"))
  (lN:K.lookup N=some ⟨c1,d1,.dict es ep,sl1⟩) (kN:kQ es=true) (iN:(quietNames.all fun n=>(nsFind es n).isNone)=true) (ca:W.findIn K (.ref C) "__class__"=some (some (.builtin "object.__class__"))) (mo:W.mroIn K C (.type "object")=some true):XI K C0 C:=by
 rintro ⟨c0,c2,dd0,d2,cd0,sl0,sl2,es0,ep0,l0,lN0,kN0,iN0⟩
 exact ⟨En lC lN kN iN l0 rfl lN0 kN0 iN0,ca,mo⟩
def NI (K:JA)(x:Str)(a:Addr):Prop:=W.nsIn K mainGlobals x=some (some (.ref a))
def KI (K:JA)(x:Str)(v:Int):Prop:=∃tk,W.nsIn K mainGlobals x=some (some (.int v tk))
theorem KI.mk {K:JA}{x:Str}{v:Int}{tk:Tok}(h:W.nsIn K mainGlobals x=some (some (.int v tk))):KI K x v:=⟨tk,h⟩
theorem KI.txt {K:JA}{h:Heap}{mg:Str->Option Value}{x:Str}{v:Int}(X:K.In h)(G:h.Ns mainGlobals mg)(k:KI K x v):∃u,mg x=some u/\bu (.int v) u:=let ⟨_,k⟩:=k;⟨_,W.mg_of X G k,⟨_,rfl⟩⟩
theorem cv {H H1:Hp}{p:Addr}{o:HO}(e:upd H p o=H1)(h:H p=none):aC H H1:=e▸(aC.refl H).lay h
theorem bj {H H1:Hp}{p:Addr}{o:HO}(e:upd H p o=H1):H1 p=some o:=e▸ah
theorem seg {X:Cx}{b:List Stmt}{R:TS->Prop}(j:Nat){t:TS}(h:PSs X (b.drop j) t)(k:∀t',PSs X (b.drop j) t'->t'=t->∃u,PSs X b u/\R u):∃u,PSs X b u/\R u:=k t h rfl
theorem jd {t t':TS}(e:t=t'){D:lj}{σ:St}{H:Hp}(h:t' D σ H):t D σ H:=e▸h
theorem aS {N P:List Str}{sc:Scope}(kind:sc.kind=.function:=by rfl)(co:sc.isCoroutine=false:=by rfl)(gen:sc.isGenerator=false:=by rfl)(nd:N.Nodup:=by decide +kernel)(pre:N.take P.length=P:=by rfl)(par:∀x∈P,sc.names.lookup x=some .local\/sc.names.lookup x=some .cell:=by decide +kernel)(nofree:∀y∈sc.names,y.2≠.free:=by decide +kernel):az N P sc:=⟨kind,co,gen,nd,pre,par,nofree⟩
section
variable {K:JA}{x qual:Str}{st:Stmt}{f:Addr}{fd:FuncData}{ps:List Str}
theorem Fun.b0 (F:Fun K x qual st f fd)(hl:ps.length=0:=by rfl)(h:∀(kV doc pm:Value) (an:Option Addr) (cdv ct:Value),bindArgs (W.fnOf x qual (cL st) (bQ st) (aj st) .none kV doc pm an cdv ct) ⟨[],[]⟩=pure (ps.zip []):=by intros;rfl):cS K fd ps []:=F.binds fun kV doc pm an cdv ct us e=>match us,e.trans hl with | [],_=>h kV doc pm an cdv ct
theorem Fun.b1 (F:Fun K x qual st f fd)(hl:ps.length=1:=by rfl)(h:∀(kV doc pm:Value) (an:Option Addr) (cdv ct:Value) (a0:Value), bindArgs (W.fnOf x qual (cL st) (bQ st) (aj st) .none kV doc pm an cdv ct) ⟨[a0],[]⟩=pure (ps.zip [a0]):=by intros;rfl):cS K fd ps []:=F.binds fun kV doc pm an cdv ct us e=>match us,e.trans hl with | [a0],_=>h kV doc pm an cdv ct a0
theorem Fun.b2 (F:Fun K x qual st f fd)(hl:ps.length=2:=by rfl)(h:∀(kV doc pm:Value) (an:Option Addr) (cdv ct:Value) (a0 a1:Value), bindArgs (W.fnOf x qual (cL st) (bQ st) (aj st) .none kV doc pm an cdv ct) ⟨[a0,a1],[]⟩=pure (ps.zip [a0,a1]):=by intros;rfl):cS K fd ps []:=F.binds fun kV doc pm an cdv ct us e=>match us,e.trans hl with | [a0,a1],_=>h kV doc pm an cdv ct a0 a1
theorem Fun.b3 (F:Fun K x qual st f fd)(hl:ps.length=3:=by rfl)(h:∀(kV doc pm:Value) (an:Option Addr) (cdv ct:Value) (a0 a1 a2:Value), bindArgs (W.fnOf x qual (cL st) (bQ st) (aj st) .none kV doc pm an cdv ct) ⟨[a0,a1,a2],[]⟩=pure (ps.zip [a0,a1,a2]):=by intros;rfl):cS K fd ps []:=F.binds fun kV doc pm an cdv ct us e=>match us,e.trans hl with | [a0,a1,a2],_=>h kV doc pm an cdv ct a0 a1 a2
theorem Fun.b4 (F:Fun K x qual st f fd)(hl:ps.length=4:=by rfl)(h:∀(kV doc pm:Value) (an:Option Addr) (cdv ct:Value) (a0 a1 a2 a3:Value), bindArgs (W.fnOf x qual (cL st) (bQ st) (aj st) .none kV doc pm an cdv ct) ⟨[a0,a1,a2,a3],[]⟩=pure (ps.zip [a0,a1,a2,a3]):=by intros;rfl):cS K fd ps []:=F.binds fun kV doc pm an cdv ct us e=>match us,e.trans hl with | [a0,a1,a2,a3],_=>h kV doc pm an cdv ct a0 a1 a2 a3
theorem Fun.b5 (F:Fun K x qual st f fd)(hl:ps.length=5:=by rfl)(h:∀(kV doc pm:Value) (an:Option Addr) (cdv ct:Value) (a0 a1 a2 a3 a4:Value), bindArgs (W.fnOf x qual (cL st) (bQ st) (aj st) .none kV doc pm an cdv ct) ⟨[a0,a1,a2,a3,a4],[]⟩=pure (ps.zip [a0,a1,a2,a3,a4]):=by intros;rfl):cS K fd ps []:=F.binds fun kV doc pm an cdv ct us e=>match us,e.trans hl with | [a0,a1,a2,a3,a4],_=>h kV doc pm an cdv ct a0 a1 a2 a3 a4
theorem Fun.b6 (F:Fun K x qual st f fd)(hl:ps.length=6:=by rfl)(h:∀(kV doc pm:Value) (an:Option Addr) (cdv ct:Value) (a0 a1 a2 a3 a4 a5:Value), bindArgs (W.fnOf x qual (cL st) (bQ st) (aj st) .none kV doc pm an cdv ct) ⟨[a0,a1,a2,a3,a4,a5],[]⟩=pure (ps.zip [a0,a1,a2,a3,a4,a5]):=by intros;rfl):cS K fd ps []:=F.binds fun kV doc pm an cdv ct us e=>match us,e.trans hl with | [a0,a1,a2,a3,a4,a5],_=>h kV doc pm an cdv ct a0 a1 a2 a3 a4 a5
end
theorem cH.dn {j k:Nat}{A:Around}(r:cH k A)(h:j<=k:=by decide):cH j A:=r.mono h
theorem aq {X:Cx}{a b:Expr}{ta tb:TE}{pos:Pos}{r:R2}(hr:IxR X r)(ha:PE X a ta)(hb:PE X b tb)(hs:xY b:=by intro _ _;rfl):PE X (.Subscript a b pos) (tOp r ta tb):=FA hr ha hb hs
theorem orL {α:Type}{a b:α}{p:Prop}(h:a=b:=by rfl):a=b\/p:=.inl h
termination_by rs.length
decreasing_by all_goals (subst_vars;simp)
theorem GK {A B:Prop}(h:B):if true=false then A else B:=by rw [if_neg (by decide)];exact h
theorem GL {A B:Prop}(h:A):if false=false then A else B:=by rw [if_pos rfl];exact h
noncomputable def qz (g:Cfg)(n0:aY):List Row->List Dd->List Row
 | rs,[]=>rs
 | rs,d::ds=>qz g n0 (rs++[pf g n0 rs d]) ds
noncomputable def snD (g:Cfg):aY->List Dd->aY
 | n,[]=>n
 | n,d::ds=>snD g (cu g n d) ds
noncomputable def okS (g:Cfg):aY->List Dd->Prop
 | _,[]=>True
 | n,d::ds=>(zl d/\dq g n d=none)/\okS g (cu g n d) ds
theorem oM (g:Cfg)(n0:aY):∀(ds:List Dd) (rs:List Row),aH n0 (qz g n0 rs ds)=snD g (aH n0 rs) ds
 | [],rs=>rfl
 | d::ds,rs=>by
  show aH n0 (qz g n0 (rs++[pf g n0 rs d]) ds)=_
  rw [oM g n0 ds,pd]
  rfl
theorem vE (g:Cfg)(n0:aY):∀(ds:List Dd) (rs:List Row),(qz g n0 rs ds).length=rs.length+ds.length
 | [],rs=>rfl
 | d::ds,rs=>by
  show (qz g n0 (rs++[pf g n0 rs d]) ds).length=_
  rw [vE g n0 ds,List.length_append,List.length_singleton,List.length_cons]
  omega
theorem kW (g:Cfg)(n0:aY):∀(ds:List Dd) (d:Dd) (rs:List Row),qz g n0 rs (ds++[d])=qz g n0 rs ds++[pf g n0 (qz g n0 rs ds) d]
 | [],d,rs=>rfl
 | e::ds,d,rs=>kW g n0 ds d _
theorem yy (g:Cfg):∀(a b:List Dd) (n:aY),snD g n (a++b)=snD g (snD g n a) b
 | [],b,n=>rfl
 | d::a,b,n=>yy g a b _
theorem yz (g:Cfg):∀(a b:List Dd) (n:aY),okS g n a->okS g (snD g n a) b->okS g n (a++b)
 | [],b,n,_,h=>h
 | d::a,b,n,h1,h2=>⟨h1.1,yz g a b _ h1.2 h2⟩
theorem Be (g:Cfg):∀(ds:List Dd) (n:aY) (j:Nat) (d:Dd),okS g n ds->ds[j]?=some d->zl d/\dq g (snD g n (ds.take j)) d=none
 | [],n,j,d,_,e=>by simp at e
 | x::ds,n,0,d,h,e=>by cases e;exact h.1
 | x::ds,n,j+1,d,h,e=>Be g ds (cu g n x) j d h.2 e
noncomputable def Its (lo st:Int)(n:Nat):It:=⟨fun i _=>i < n,fun i H x H'=>H'=H/\x=.int (lo+i * st),fun i _=>n<=i⟩
theorem xu {P:Program}{w:World}{K:JA}{tg:Expr}(it:Addr)(lo c:Int)(n:Nat):yM P w K tg (Its lo c n) [it] it (fun i h=>IsRangeIter h it (lo+(i:Nat) * c) ((n:Int) - (i:Nat)) c) where
 mem:=by simp
 obj:=fun i h st b hb=>by
  have e:b=it:=by simpa using hb
  subst e
  exact ⟨_,st,fun v z=>by
   have z':Data.fields _=Data.cell v:=z
   cases z'⟩
 keep:=fun i h h' st k=>k it (by simp) _ st
 item:=by
  intro X hP hw hK hc i pins s σ H E I hf st hg
  subst hP hw hK
  obtain ⟨f0,f1,f2,f3,f4,f5⟩:=hf it (by simp)
  have W:=Walks.range (prog:=X.prog) (w:=X.w) (I.ok.hd hc) it lo c n
  refine W.item i s _ _ hg st fun v h' tk hv st' kk=>?_
  obtain ⟨t,rfl⟩:=hv
  have I1:Inv X pins σ H {s with heap:=h',toks:=tk}:=I.turned (fun b o hb e=>kk b o (by simpa using hb) e) f0 f1 f3 f4 f5
  refine ⟨_,rfl,zR (s:={s with heap:=h',toks:=tk}) (n:="range_iterator") st' rfl rfl (by decide) ⟨.int (lo+i * c),H,I1,⟨t,rfl⟩,⟨rfl,rfl⟩,st',fun b hb=>(hf b hb).1⟩⟩
 done:=by
  intro X hP hw hK hc i pins s σ H E I hf st hg
  subst hP hw hK
  obtain ⟨f0,f1,f2,f3,f4,f5⟩:=hf it (by simp)
  exact wpAny_pyNext_range_end (I.ok.hd hc) st (by have:n<=i:=hg;omega) fun h' eb=>⟨rfl,I.turned (t':=s.toks) (fun b o hb e=>eb b o hb e) f0 f1 f3 f4 f5⟩
 self:=fun _ _ _ _ _ st h=>wpAny_pyIter_rangeiter st h
structure tK (i j c:Int)(n:Nat):Prop where
 nz:c≠0
 sm:Builtin.Range.small i j c=true
 sz:Builtin.Range.rangeSize i j c=n
 np:Builtin.divisionGoesByPylong (j - i) c=false
theorem yA {i:Int}(h0:-200000<=i)(h1:i<=200000):Builtin.Range.rangeFitsLong i=true:=by
 unfold Builtin.Range.rangeFitsLong
 rw [Bool.and_eq_true]
 exact ⟨decide_eq_true (by omega),decide_eq_true (by omega)⟩
theorem tK.down {k:Nat}(h:k<=100000):tK ((k:Int) - 1) (-1) (-1) k:=by
 have sz:Builtin.Range.rangeSize ((k:Int) - 1) (-1) (-1)=k:=by
  unfold Builtin.Range.rangeSize
  rw [if_neg (by decide)]
  split
  ·rw [show (- (-1:Int))=1 from rfl,Int.ediv_one];omega
  ·omega
 refine ⟨by decide,?_,sz,PyProof.noPylong_small (by omega)⟩
 unfold Builtin.Range.small
 rw [sz,yA (by omega) (by omega),yA (by omega) (by omega),yA (by omega) (by omega),if_neg (by decide),yA (by omega) (by omega),Bool.or_true]
 rfl
section
variable {X:Cx}{tg:Expr}
theorem zq {pins:List (Addr×Obj)}{σ:St}{H:Hp}{s:Shared}{R:It->Hp->Prop}{E:Value->Shared->Prop}{lo hi c:Int}{n:Nat}{t u v:Tok}{tk:Nat}(I:Inv X pins σ H s)(r:tK lo hi c n)
  (q:R (Its lo c n) H):wpAny (model X.prog X.w) X.A (pyIter (.ref s.heap.objs.size)) (PIE X pins σ tg R) E {s with heap:=s.heap.push {cls:=.type "range",data:=.fields #[.int lo t,.int hi u,.int c v]},toks:=tk}:=by
 refine wpAny_pyIter_range (IsRange.new ..) r.sm ?_
 have I1:Inv X pins σ H {s with heap:=s.heap.push {cls:=.type "range",data:=.fields #[.int lo t,.int hi u,.int c v]},toks:=tk}:=I.kept fun b o e=>Heap.get?_push_of_some _ e
 refine ⟨(s.heap.push {cls:=.type "range",data:=.fields #[.int lo t,.int hi u,.int c v]}).objs.size,[(s.heap.push {cls:=.type "range",data:=.fields #[.int lo t,.int hi u,.int c v]}).objs.size],_,_,H,rfl,
  I1.kept (t':=tk) fun b o e=>Heap.get?_push_of_some _ e,xu _ lo c n,?_,fun b hb=>?_,q⟩
 ·have e1:lo+((0:Nat):Int) * c=lo:=by simp
  have e2:(n:Int) - ((0:Nat):Int)=Builtin.Range.rangeSize lo hi c:=by rw [r.sz];omega
  show IsRangeIter _ _ (lo+((0:Nat):Int) * c) ((n:Int) - ((0:Nat):Int)) c
  rw [e1,e2]
  exact Heap.get?_push_size _ rfl
 ·have e:b=(s.heap.push {cls:=.type "range",data:=.fields #[.int lo t,.int hi u,.int c v]}).objs.size:=by simpa using hb
  subst e
  exact I1.fpOk (Nat.le_refl _) (I1.hok.fresh (Nat.le_refl _))
noncomputable def Bf (ta:TA):TI:=fun σ H R=>ta σ H fun vs H1=>∃(i j c:Int) (n:Nat),vs=[.int i,.int j,.int c]/\tK i j c n/\R (Its i c n) H1
theorem tL {a b c:Expr}{ta:TA}{p pos:Pos}(hg:Gl X "range")(hm:X.mg "range"=none)(ha:PA X [a,b,c] ta)(hs:starEach [a,b,c] X.env=[(false,eval a X.env),(false,eval b X.env),(false,eval c X.env)]:=by rfl)(hs2:starEach [b,c] X.env=[(false,eval b X.env),(false,eval c X.env)]:=by rfl) :
  PI X tg (.Call (.Name "range" p) [a,b,c] [] pos) (Bf ta):=by
 intro pins s σ H R I h
 refine Call_ (mi I hg hm boot_range (PyProof.Rows.callWith_type1 (thn (ha pos pins s σ H _ I h) fun us s1 ⟨vs,H1,I1,r1,q1⟩=>?_) (by rw [hs,hs2]) (by rw [hs2];rfl)))
 obtain ⟨i,j,k,n,e,r,q⟩:=q1
 subst e
 cases r1 with
 | cons r1 rr=>
  cases rr with
  | cons r2 rr=>
   cases rr with
   | cons r3 rr=>
    cases rr
    obtain ⟨t,rfl⟩:=r1
    obtain ⟨t',rfl⟩:=r2
    obtain ⟨t2,rfl⟩:=r3
    exact call_range_3 r.nz (zq I1 r q) (.inl r.np)
end
theorem qA {lo c:Int}{n:Nat}{g:TG}{tb:TS}{D:lj}{σ:St}{H:Hp}(Pv:Nat->St->Hp->Prop)(h0:Pv 0 σ H)
  (hs:∀i σ H,i < n->Pv i σ H->g (.int (lo+i * c)) σ H fun σ2 H2=>tb {D with nx:=Pv (i+1),ct:=Pv (i+1),bk:=D.nx} σ2 H2) (hd:∀σ H,Pv n σ H->D.nx σ H):vt (Its lo c n) g tb D σ H:=by
 refine vy n Pv h0 (fun i _ _ hi _=>hi) (fun _ _ _=>Nat.le_refl _) (fun i σ H hi p x H' y=>?_) hd
 obtain ⟨e,y⟩:=y
 subst e y
 exact hs i σ H' hi p
def eF (K:JA)(H:Hp)(as:List Addr)(ds:List Dd):Prop:=jZ (fun a d=>SqT K H a (ddV d)) as ds
theorem eF.same {K:JA}{H H':Hp}{as:List Addr}{ds:List Dd}(h:eF K H as ds)(s:aC H H'):eF K H' as ds:=h.imp fun a x q=>s.tup q
section
variable (P:Program)(w:World)(K:JA)(mg:Str->Option Value)(base:Heap)(CX:CXT)(k:Nat)
def KD (x:Str)(sp:Sp):Prop:=∃f fd ps,mg x=some (.ref f)/\W.keepIn K (.ref f)=true/\cS K fd ps []/\fi P w K mg base CX k f fd ps sp
def KM (C:Addr)(m:Str)(sp:Sp):Prop:=∃f fd ps,Cls K C/\vj K C m f/\cS K fd ps []/\fi P w K mg base CX k f fd ps sp
def KN (C:Addr)(sp:Sp):Prop:=∃f fd ps,Mk K C f/\cS K fd ps []/\fi P w K mg base CX k f fd ps sp
def FF (x q:Str)(st:Stmt)(ps:List Str)(sp:Sp):Prop:=∀f fd,Fun K x q st f fd->fi P w K mg base CX k f fd ps sp
end
section
variable {P:Program}{w:World}{K:JA}{mg:Str->Option Value}{base:Heap}{CX:CXT}{k:Nat}{x q m:Str}{st:Stmt}{ps N:List Str}{sp:Sp}{f C:Addr}{fd:FuncData}
theorem KD.mk (b:mg x=some (.ref f))(F:Fun K x q st f fd)(c:cS K fd ps [])(t:FF P w K mg base CX k x q st ps sp):KD P w K mg base CX k x sp:=⟨f,fd,ps,b,F.kp,c,t f fd F⟩
theorem KM.mk (d:Cls K C)(b:vj K C m f)(F:Fun K m q st f fd)(c:cS K fd ps [])(t:FF P w K mg base CX k m q st ps sp):KM P w K mg base CX k C m sp:=⟨f,fd,ps,d,b,c,t f fd F⟩
theorem KN.mk (b:Mk K C f)(F:Fun K "__init__" q st f fd)(c:cS K fd ps [])(t:FF P w K mg base CX k "__init__" q st ps sp):KN P w K mg base CX k C sp:=⟨f,fd,ps,b,c,t f fd F⟩
theorem fk0 (S:az N ps (aj st))(h:∀vs H Q E,sp vs H Q E->vs.length=ps.length/\∀(cdv:Value) (A:Around) (outer:List Env) (s:Shared) (f:Addr),cH k (A.deeper (envOfC q (aj st) s.heap.objs.size f cdv))->
   ∃t,PSs (rW CX0 P w K mg base N q (aj st) f cdv A outer s H E).nox (bQ st) t/\t {nx:=fun _ H'=>Q .non H',rt:=Q} (jJ N vs) H):FF P w K mg base CX0 (k+1) x q st ps sp:=
 fun f _ F=>F.ok S (fun vs H Q E y=>(h vs H Q E y).1) fun cdv A outer s H vs Q E hr y=>(h vs H Q E y).2 cdv A outer s f hr
theorem fkF (S:az N ps (aj st))(h:∀vs H Q E,sp vs H Q E->vs.length=ps.length/\∀(cdv:Value) (A:Around) (outer:List Env) (s:Shared) (f:Addr),cH k (A.deeper (envOfC q (aj st) s.heap.objs.size f cdv))->
   ∃t,PSs (cxF P w K mg base N q (aj st) f cdv A outer s H E) (bQ st) t/\t {nx:=fun _ H'=>Q .non H',rt:=Q} (jJ N vs) H):FF P w K mg base (CXf P w) (k+1) x q st ps sp:=
 fun f _ F=>F.okF S (fun vs H Q E y=>(h vs H Q E y).1) fun cdv A outer s H vs Q E hr y=>(h vs H Q E y).2 cdv A outer s f hr
theorem FF.calm (F:FF P w K mg base (CXf P w) k x q st ps sp)(h:∀vs H Q E,sp vs H Q E->sp vs H Q E0):FF P w K mg base CX0 k x q st ps sp:=fun f fd y=>(F f fd y).calm h
end
section
variable {X:Cx}{CX:CXT}{k:Nat}{C:Addr}{sp:Sp}{E:XK}{x m:Str}{p pos apos:Pos}{e o:Expr}{es:List Expr}{ta:TE}{t:TA}
theorem dc (D:KD X.prog X.w X.K X.mg X.base CX k x sp)(hr:cH k X.A)(hx:eh CX X E)(ha:PA X (e::es) t)(hg:Gl X x:=by rfl)(hdb:(x == ("__debug__":Str))=false:=by decide)
  (he:starEach (e::es) X.env=(false,eval e X.env)::starEach es X.env:=by rfl) (hpl:(backTo pos (starEach es X.env)).any (·.1)=false:=by rfl):PE X (.Call (.Name x p) (e::es) [] pos) (xT sp [] E t):=
 let ⟨_,_,_,a,b,c,F⟩:=D;BI F hr hg a b c .nil hx ha hdb he hpl
theorem dc0 (D:KD X.prog X.w X.K X.mg X.base CX0 k x sp)(hr:cH k X.A)(ha:PA X (e::es) t)(hg:Gl X x:=by rfl)(hdb:(x == ("__debug__":Str))=false:=by decide)
  (he:starEach (e::es) X.env=(false,eval e X.env)::starEach es X.env:=by rfl) (hpl:(backTo pos (starEach es X.env)).any (·.1)=false:=by rfl):PE X (.Call (.Name x p) (e::es) [] pos) (xT sp [] E0 t):=dc D hr bY ha hg hdb he hpl
theorem dm {pl:Sem Bool}(he:PE X o ta)(D:KM X.prog X.w X.K X.mg X.base CX k C m sp)(hr:cH k X.A)(hx:eh CX X E)(ha:PA X (e::es) t)
  (hst:starEach (e::es) X.env=(false,eval e X.env)::starEach es X.env:=by rfl) (hpl:(backTo pos (starEach es X.env)).any (·.1)=false:=by rfl)
  (ht:eval (.Call (.Attribute o m apos) (e::es) [] pos) X.env=(do
   let ov ←eval o X.env
   standAt apos.atName
   let (f,first) ←holding [ov] (getMethod ov m pl)
   callWith pos f first (backTo pos (starEach (e::es) X.env)) (backToKw pos (keywordEach [] X.env))):=by rfl) :
  PE X (.Call (.Attribute o m apos) (e::es) [] pos) (tf C m sp [] E ta t):=let ⟨_,_,_,a,b,c,F⟩:=D;BJ he a b F hr c .nil hx ha hst hpl ht
theorem dm0 {pl:Sem Bool}(he:PE X o ta)(D:KM X.prog X.w X.K X.mg X.base CX k C m sp)(hr:cH k X.A)(hx:eh CX X E)
  (ht:eval (.Call (.Attribute o m apos) [] [] pos) X.env=(do
   let ov ←eval o X.env
   standAt apos.atName
   let (f,first) ←holding [ov] (getMethod ov m pl)
   callWith pos f first (backTo pos (starEach [] X.env)) (backToKw pos (keywordEach [] X.env))):=by rfl) :
  PE X (.Call (.Attribute o m apos) [] [] pos) (tf C m sp [] E ta rV):=let ⟨_,_,_,a,b,c,F⟩:=D;z5 he a b F hr c .nil hx ht
theorem dn (D:KN X.prog X.w X.K X.mg X.base CX k C sp)(hr:cH (k+1) X.A)(hm:X.mg x=some (.ref C))(hx:eh CX X E)(ha:PA X (e::es) t)(hg:Gl X x:=by rfl)(hdb:(x == ("__debug__":Str))=false:=by decide)
  (he:starEach (e::es) X.env=(false,eval e X.env)::starEach es X.env:=by rfl) (hpl:(backTo pos (starEach es X.env)).any (·.1)=false:=by rfl):PE X (.Call (.Name x p) (e::es) [] pos) (zZ C sp [] E t):=
 let ⟨_,_,_,a,c,F⟩:=D;BK a F hr hg hm c .nil hx ha hdb he hpl
variable {pins:List (Addr×Obj)}{E':XT}
theorem dmT {pl:Sem Bool}(he:PE (Xt X pins E') o ta)(D:KM X.prog X.w X.K X.mg X.base (CXf X.prog X.w) k C m sp)(hr:cH k X.A)(ha:PA (Xt X pins E') (e::es) t)
  (hst:starEach (e::es) X.env=(false,eval e X.env)::starEach es X.env:=by rfl) (hpl:(backTo pos (starEach es X.env)).any (·.1)=false:=by rfl)
  (ht:eval (.Call (.Attribute o m apos) (e::es) [] pos) X.env=(do
   let ov ←eval o X.env
   standAt apos.atName
   let (f,first) ←holding [ov] (getMethod ov m pl)
   callWith pos f first (backTo pos (starEach (e::es) X.env)) (backToKw pos (keywordEach [] X.env))):=by rfl) :
  PE (Xt X pins E') (.Call (.Attribute o m apos) (e::es) [] pos) (xi C m sp [] E' ta t):=let ⟨_,_,_,a,b,c,F⟩:=D;AI he a b F hr c .nil ha hst hpl ht
end
section
variable {X:Cx}{a b e o l value:Expr}{es fz:List Expr}{ta tb te tl tv:TE}{t:TA}{pos p:Pos}{tg:Expr}{f:Str}
theorem pv' (i:Nat){x:Str}{pos:Pos}(hN:X.N[i]?=some x:=by rfl)(hv:Vis X.env.scope x:=by first | exact Or.inl rfl | exact Or.inr (Or.inl rfl) | exact Or.inr (Or.inr rfl))(hd:(x == ("__debug__":Str))=false:=by decide)
  (hcd:(x == ("__classdict__":Str))=false:=by decide):PE X (.Name x pos) (AL i):=B9 i▸pv i hN hv hd hcd
theorem aB (he:PE X e ta)(hb:attributeBase e f X.env (eval e X.env)=eval e X.env:=by rfl):PE X (.Attribute e f pos) (AU X.K ta f):=Cp X.K ta f▸DY he hb
theorem bA {pos':Pos}(ha:PE X o ta)(hv:PE X value tv)(hs:swapsWith value (some (.Attribute o f pos')) pos.line X.env=pure false):PS X (.Assign [.Attribute o f pos'] value pos) (AV X.K ta tv f):=Cq X.K ta tv f▸DZ ha hv hs
theorem bK:OpR X (binaryOp .Add) (xj fun i j=>.int (i+j)):=qv _▸DT
theorem cC:OpR X (binaryOp .Sub) (xj fun i j=>.int (i - j)):=qv _▸DU
theorem uA:OpR X (binaryOp .Mult) (rI' qj fun i j=>.int (i * j)):=AN _ _▸wL
theorem zr:OpR X (binaryOp .FloorDiv) (rI' Dr fun i j=>.int (i / j)):=AN _ _▸Ag
theorem nC:OpR X (binaryOp .Mod) (rI' (fun _ j=>0 < j) fun i j=>.int (i % j)):=AN _ _▸zU
theorem fD:OpR X (compareOp .Eq) (EH):=EI▸Di
theorem EU:OpR X (compareOp .Lt) (xj fun i j=>.bl (decide (i < j))):=qv _▸Dj
theorem EV:OpR X (compareOp .LtE) (xj fun i j=>.bl (decide (i<=j))):=qv _▸Dk
theorem Bg:OpR X (compareOp .GtE) (xj fun i j=>.bl (decide (j<=i))):=qv _▸Dl
theorem eR:OpR X (compareOp .In) (zp X.K false):=A6 _ _▸yX
theorem r6:OpR X (compareOp .NotIn) (zp X.K true):=A6 _ _▸uj
theorem uB:OpR X (binaryOp .Add) (A5):=Cu▸Ef
theorem uC (hu:X.A.units < cLine):OpR X (compareOp .Eq) (yx X.K):=CD _▸Et hu
theorem CG (hu:X.A.units < cLine):OpR X (compareOp .NotEq) (yw X.K):=CC _▸AG hu
theorem dr:UnR X (unaryOp .USub) (rU' fun i=>.int (-i)):=Gb _▸DV
theorem au:IxR X (qy X.K):=Cm _▸xZ
theorem aG:IxR X (dB X.K):=Cn _▸z8
theorem vF:SlR X (A4 X.K):=Ct _▸BO
theorem tM:DO X xr:=AZ▸Aa
theorem gn:MtM X "list.append" nB:=xm▸yY
theorem yB:MtM X "list.pop" yu:=Cw▸Ee
theorem bS (h:PE X e te)(he:∀bX,isTrue e X.env bX=(do let v ←bX;standAt e.pos;holding [v] (truthy v)):=by intro _;rfl):PT X e (tB' te):=Dv te▸DL h he
theorem cw {op:CmpOp}{r:R2}(ho:OpR X (compareOp op) r)(ha:PE X a ta)(hb:PE X b tb)(hm:behindInMarks op b=false):PT X (.Compare a [op] [b] pos) (tB' (tOp r ta tb)):=AM (tOp r ta tb)▸i9 ho ha hb hm
theorem cb (ha:PE X a ta)(hb:PE X b tb)(hm:behindInMarks .Eq b=false:=by exact bE _):PT X (.Compare a [.Eq] [b] pos) (ER ta tb):=Cj ta tb▸i9 Di ha hb hm
theorem tN (ha:PE X a ta)(hb:PE X b tb)(hm:behindInMarks .NotEq b=false:=by exact bE _):PT X (.Compare a [.NotEq] [b] pos) (ET ta tb):=Ck ta tb▸i9 Ft ha hb hm
theorem jL (ha:PE X a ta)(hb:PE X b tb)(hm:behindInMarks .Lt b=false:=by exact bE _):PT X (.Compare a [.Lt] [b] pos) (lO (fun i j=>i < j) ta tb):=EJ ta tb▸i9 Dj ha hb hm
theorem Gf (ha:PE X a ta)(hb:PE X b tb)(hm:behindInMarks .LtE b=false:=by exact bE _):PT X (.Compare a [.LtE] [b] pos) (lO (fun i j=>i<=j) ta tb):=EK ta tb▸i9 Dk ha hb hm
theorem yC (ha:PE X a ta)(hb:PE X b tb)(hm:behindInMarks .Gt b=false:=by exact bE _):PT X (.Compare a [.Gt] [b] pos) (lO (fun i j=>j < i) ta tb):=EL ta tb▸i9 Fu ha hb hm
theorem Dw (ha:PE X a ta)(hb:PE X b tb)(hm:behindInMarks .GtE b=false:=by exact bE _):PT X (.Compare a [.GtE] [b] pos) (lO (fun i j=>j<=i) ta tb):=EM ta tb▸i9 Dl ha hb hm
theorem bf {k:Int}(ha:PE X a ta)(hb:PE X b (tC (.int k)))(hk:0 < k:=by decide):PE X (.BinOp a .Mod b pos) (tU1 (fun i=>.int (i % k)) ta):=A1 hk ta (fun i j=>.int (i % j))▸aV zU ha hb
theorem eY {k:Int}(ha:PE X a ta)(hb:PE X b (tC (.int k)))(h1:0 < k:=by decide)(h2:k < 1073741824:=by decide):PE X (.BinOp a .FloorDiv b pos) (tU1 (fun i=>.int (i / k)) ta):=A2 h1 h2 ta (fun i j=>.int (i / j))▸aV BE ha hb
theorem qa {k:Int}(ha:PE X a ta)(hb:PE X b (tC (.int k)))(h1:-4294967296 < k:=by decide)(h2:k < 4294967296:=by decide):PE X (.BinOp a .Mult b pos) (tU1 (fun i=>.int (i * k)) ta):=A3 h1 h2 ta (fun i j=>.int (i * j))▸aV wL ha hb
theorem vG {k:Int}(ha:PE X a (tC (.int k)))(hb:PE X b tb)(h1:-4294967296 < k:=by decide)(h2:k < 4294967296:=by decide):PE X (.BinOp a .Mult b pos) (tU1 (fun i=>.int (k * i)) tb):=zm h1 h2 tb (fun i j=>.int (i * j))▸aV wL ha hb
theorem kX {k:Nat}{t:TGs}{n:Nat}(hc:X.calm=true)(h:PGs X es t)(hn:(assignEach es X.env).length=n:=by rfl)(hst:(assignEach es X.env).findIdx? (·.1)=none:=by rfl):PG X (.Tuple es k pos) (qw X.K n t):=yq X.K n t▸DR hc h hn hst
theorem CH {k:Nat}{t:TGs}{n:Nat}(hc:X.calm=true)(h:PGs X es t)(hn:(assignEach es X.env).length=n:=by rfl)(hst:(assignEach es X.env).findIdx? (·.1)=none:=by rfl):PG X (.Tuple es k pos) (xk X.K n t):=AQ X.K n t▸EC hc h hn hst
theorem bg {t:TG}{u:TGs}(h1:PG X e t)(h2:PGs X es u)(hs:(assignEach (e::es) X.env).map (·.2)=assign e X.env::(assignEach es X.env).map (·.2):=by rfl):PGs X (e::es) (oJ t u):=nA t u▸zO h1 h2 hs
theorem gp:PGs X [] yr:=yt▸BB
theorem de (hl:PE X l tl):PI X tg l (xo X.K tl):=AX X.K tl▸BC hl
theorem cG (hg:Gl X "range")(hm:X.mg "range"=none)(ha:PA X [a] t)(hs:starEach [a] X.env=[(false,eval a X.env)]:=by rfl):PI X tg (.Call (.Name "range" p) [a] [] pos) (xp t):=AY t▸yO hg hm ha hs
theorem qB (hg:Gl X "range")(hm:X.mg "range"=none)(ha:PA X [a,b] t)(hs:starEach [a,b] X.env=[(false,eval a X.env),(false,eval b X.env)]:=by rfl)(hs2:starEach [b] X.env=[(false,eval b X.env)]:=by rfl):PI X tg (.Call (.Name "range" p) [a,b] [] pos) (xt t):=A7 t▸yP hg hm ha hs hs2
theorem CI {tpos:Pos}{elts:List Expr}{x1:Nat}(hg:Gl X "zip")(hm:X.mg "zip"=none)(hb:bootBuiltins "zip"=some (.type "zip"))(ha:PE X a ta)(hb2:PE X b tb)(hs:starEach [a,b] X.env=[(false,eval a X.env),(false,eval b X.env)]:=by rfl)(hs2:starEach [b] X.env=[(false,eval b X.env)]:=by rfl):PI X (.Tuple elts x1 tpos) (.Call (.Name "zip" p) [a,b] [] pos) (A8 X.K ta tb):=Cv X.K ta tb▸Ex hg hm hb ha hb2 hs hs2
theorem qb (ha:PE X a ta)(hb:PE X (.BoolOp .And (b::fz) pos) tb):PE X (.BoolOp .And (a::b::fz) pos) (xl ta tb):=AR ta tb▸DM ha hb
theorem EW (ha:PE X a ta)(hb:PE X (.BoolOp .Or (b::fz) pos) tb):PE X (.BoolOp .Or (a::b::fz) pos) (AS ta tb):=Co ta tb▸Fl ha hb
theorem qC (h:PE X e te):PO X (some e) (xn te):=AW te▸BN h
theorem qD {r r':List V->Hp->VK->Prop}(h:∀t,tCB r t=tCB r' t):r=r':=funext fun vs=>funext fun H=>funext fun Q=>congrFun (congrFun (congrFun (h fun σ H Q=>Q vs H) []) H) Q
theorem av:cZ X (.builtin "len") (Cr X.K):=qD (Cs X.K)▸uk
theorem cf:cZ X (.type "list") (p9 X.K):=qD (xq X.K)▸um
theorem zt:cZ X (.builtin "abs") Cy:=qD Cz▸zW
theorem mj (hc:X.calm=true):cZ X (.builtin "min") A9:=qD Ba▸yS hc
theorem cO:cZ X (.type "int") yv:=qD Bc▸yT
theorem dm' {CX:CXT}{k:Nat}{C:Addr}{sp:Sp}{E:XK}{m:Str}{apos:Pos}{pl:Sem Bool}(he:PE X o ta)(D:KM X.prog X.w X.K X.mg X.base CX k C m sp)(hr:cH k X.A)(hx:eh CX X E)(ha:PA X (e::es) t)
  (hst:starEach (e::es) X.env=(false,eval e X.env)::starEach es X.env:=by rfl) (hpl:(backTo pos (starEach es X.env)).any (·.1)=false:=by rfl)
  (ht:eval (.Call (.Attribute o m apos) (e::es) [] pos) X.env=(do
   let ov ←eval o X.env
   standAt apos.atName
   let (f,first) ←holding [ov] (getMethod ov m pl)
   callWith pos f first (backTo pos (starEach (e::es) X.env)) (backToKw pos (keywordEach [] X.env))):=by rfl) :
  PE X (.Call (.Attribute o m apos) (e::es) [] pos) (uz C m sp [] E ta t):=fq C m sp [] E ta t▸dm he D hr hx ha hst hpl ht
theorem fW {CX:CXT}{k:Nat}{C:Addr}{sp:Sp}{E:XK}{m:Str}{apos:Pos}{pl:Sem Bool}(he:PE X o ta)(D:KM X.prog X.w X.K X.mg X.base CX k C m sp)(hr:cH k X.A)(hx:eh CX X E)
  (ht:eval (.Call (.Attribute o m apos) [] [] pos) X.env=(do
   let ov ←eval o X.env
   standAt apos.atName
   let (f,first) ←holding [ov] (getMethod ov m pl)
   callWith pos f first (backTo pos (starEach [] X.env)) (backToKw pos (keywordEach [] X.env))):=by rfl) :
  PE X (.Call (.Attribute o m apos) [] [] pos) (uz C m sp [] E ta rV):=fq C m sp [] E ta rV▸dm0 he D hr hx ht
variable {e1 e2 e3 e4:Expr}{t1 t2 t3 t4:TE}
theorem pa1 (h1:PE X e1 t1)(s1:starEach [e1] X.env=(false,eval e1 X.env)::starEach [] X.env:=by rfl):PA X [e1] (jI t1 rV):=fV h1 fA s1
theorem pa2 (h1:PE X e1 t1)(h2:PE X e2 t2)(s1:starEach [e1,e2] X.env=(false,eval e1 X.env)::starEach [e2] X.env:=by rfl)(s2:starEach [e2] X.env=(false,eval e2 X.env)::starEach [] X.env:=by rfl):PA X [e1,e2] (jI t1 (jI t2 rV)):=fV h1 (pa1 h2 s2) s1
theorem pa3 (h1:PE X e1 t1)(h2:PE X e2 t2)(h3:PE X e3 t3)(s1:starEach [e1,e2,e3] X.env=(false,eval e1 X.env)::starEach [e2,e3] X.env:=by rfl)(s2:starEach [e2,e3] X.env=(false,eval e2 X.env)::starEach [e3] X.env:=by rfl)(s3:starEach [e3] X.env=(false,eval e3 X.env)::starEach [] X.env:=by rfl):PA X [e1,e2,e3] (jI t1 (jI t2 (jI t3 rV))):=fV h1 (pa2 h2 h3 s2 s3) s1
theorem pa4 (h1:PE X e1 t1)(h2:PE X e2 t2)(h3:PE X e3 t3)(h4:PE X e4 t4)(s1:starEach [e1,e2,e3,e4] X.env=(false,eval e1 X.env)::starEach [e2,e3,e4] X.env:=by rfl)(s2:starEach [e2,e3,e4] X.env=(false,eval e2 X.env)::starEach [e3,e4] X.env:=by rfl)(s3:starEach [e3,e4] X.env=(false,eval e3 X.env)::starEach [e4] X.env:=by rfl)(s4:starEach [e4] X.env=(false,eval e4 X.env)::starEach [] X.env:=by rfl):PA X [e1,e2,e3,e4] (jI t1 (jI t2 (jI t3 (jI t4 rV)))):=fV h1 (pa3 h2 h3 h4 s2 s3 s4) s1
end
abbrev Xm (K:JA)(a b:Addr)(v:Bool):Prop:=W.exmOne K (.ref a) (.ref b)=some v
abbrev Kt (K:JA)(a b:Addr)(v:Bool):Prop:=W.kitOne K (.ref a) (.ref b)=some v
theorem fgo {K:JA}{H:Hp}{a:Addr}{f:Str}{C:Addr}{dx:Addr}{fs:List (Str×V)}{v:V}{q:V->Prop}(h:H a=some (.ins C dx fs))(c:Cls K C)(n:aP K C f)(l:fs.lookup f=some v)(k:q v) :
  ∃C dx fs,H a=some (.ins C dx fs)/\Cls K C/\aP K C f/\∃v,fs.lookup f=some v/\q v:=⟨_,_,_,h,c,n,_,l,k⟩
theorem mgo {H:Hp}{a C:Addr}{m:Str}{dx:Addr}{fs:List (Str×V)}{q:Prop}(h:H a=some (.ins C dx fs))(l:fs.lookup m=none)(k:q) :
  ∃dx fs,H a=some (.ins C dx fs)/\fs.lookup m=none/\q:=⟨_,_,h,l,k⟩
section
variable {X:Cx}
noncomputable def Dx (K:JA):R2:=fun x y H Q=>onR x fun a=>onR y fun b=>∃xs,SqT K H a xs/\∃ys,SqT K H b ys/\xs.all a7=true/\ys.all a7=true/\Q (.bl (eqL xs ys)) H
theorem xv (hu:X.A.units < cLine):OpR X (compareOp .Eq) (Dx X.K):=by
 intro pins s σ H x y u v Q I rx ry h
 obtain ⟨a,rfl,k⟩:=dJ h
 obtain ⟨b,rfl,xs,ha,ys,hb,fa,fb,q⟩:=dJ k
 cases rx;cases ry
 obtain ⟨ia,ra,pa,za⟩:=I.tuple ha
 obtain ⟨ib,rb,pb,zb⟩:=I.tuple hb
 have la:=ra.length
 have lb:=rb.length
 refine PySem.SeqAt.eq_tupleAt (e:=fun j=>eqV (xs.getD j .non) (ys.getD j .non)) pa pb hu (fun j h1 h2=>?_) ?_
 ·simp only [List.size_toArray] at h1 h2
  have hx:xs[j]?=some (xs.getD j .non):=by
   rw [List.getD_eq_getElem?_getD,List.getElem?_eq_getElem (by omega)];rfl
  have hy:ys[j]?=some (ys.getD j .non):=by
   rw [List.getD_eq_getElem?_getD,List.getElem?_eq_getElem (by omega)];rfl
  obtain ⟨u,eu,ru⟩:=ra.get hx
  obtain ⟨v,ev,rv⟩:=rb.get hy
  have e1:ia.toArray[j]=u:=by
   have:=List.getElem?_eq_some_iff.mp eu
   simpa using this.2
  have e2:ib.toArray[j]=v:=by
   have:=List.getElem?_eq_some_iff.mp ev
   simpa using this.2
  rw [e1,e2]
  exact jU ru rv (List.all_eq_true.mp fa _ (List.mem_of_getElem? hx)) (List.all_eq_true.mp fb _ (List.mem_of_getElem? hy))
 ·have e:((List.range (min ia.toArray.size ib.toArray.size)).all (fun j=>eqV (xs.getD j .non) (ys.getD j .non)) && ia.toArray.size == ib.toArray.size)=eqL xs ys:=by
   rw [List.size_toArray,List.size_toArray,←la,←lb]
   exact uu
  rw [e]
  exact ⟨.bl (eqL xs ys),H,I,rfl,q⟩
end
theorem cH.units1 {k:Nat}{A:Around}(r:cH k A):A.in1.units < cLine:=by
 have:=r.un
 simp only [Around.in1_units]
 omega
section
variable {X:Cx}
noncomputable def Bh (f:Addr->Bool):Value->Bool
 | .ref q=>f q
 | _=>false
noncomputable def Gg (K:JA):R2:=fun x y H Q=>onR x fun a=>onR y fun p=>∃(as:List Addr) (ys:List V) (f:Addr->Bool),SqL K H p (as.map V.ref)/\SqT K H a ys/\ys.all a7=true/\(∀q∈as,(q=a->f q=true)/\∃t,SqT K H q t/\t.all a7=true/\eqL t ys=f q)/\Q (.bl (as.any f)) H
theorem Bi (hu:X.A.in1.units < cLine):OpR X (compareOp .In) (Gg X.K):=by
 intro pins s σ H x y v u Q I rx ry h
 obtain ⟨a,rfl,k⟩:=dJ h
 obtain ⟨p,rfl,as,ys,f,hp,ha,fy,hf,q⟩:=dJ k
 cases rx;cases ry
 obtain ⟨its,r,pl,hz⟩:=I.list hp
 have e:its=as.map Value.ref:=by
  refine List.ext_getElem? fun j=>?_
  rw [List.getElem?_map]
  cases ej:as[j]? with
  | none=>
   have:=r.length
   rw [JB] at this
   have:=List.getElem?_eq_none_iff.mp ej
   rw [List.getElem?_eq_none (by omega)];rfl
  | some w=>
   obtain ⟨u,eu,ru⟩:=r.get (show (as.map V.ref)[j]?=some (.ref w) by rw [List.getElem?_map,ej];rfl)
   cases ru
   rw [eu];rfl
 subst e
 refine PySem.SeqAt.in_listAt (Bh f) pl.isList (fun w hw=>?_) ⟨.bl _,H,I,rfl,?_⟩
 ·obtain ⟨b,hb,rfl⟩:∃b,b∈as/\Value.ref b=w:=by simpa using hw
  obtain ⟨h1,t,ht,ft,et⟩:=hf b hb
  show PySem.SeqAt.EqAt _ _ _ _ (f b)
  by_cases hba:b=a
  ·rw [h1 hba,hba]
   exact PySem.SeqAt.EqAt.same _
  ·obtain ⟨ia,ra,pa,za⟩:=I.tuple ht
   obtain ⟨ib,rb,pb,zb⟩:=I.tuple ha
   have la:=ra.length
   have lb:=rb.length
   have e:((List.range (min ia.toArray.size ib.toArray.size)).all (fun j=>eqV (t.getD j .non) (ys.getD j .non)) && ia.toArray.size == ib.toArray.size)=f b:=by
    rw [List.size_toArray,List.size_toArray,←la,←lb,←et]
    exact uu
   rw [←e]
   refine PySem.SeqAt.EqAt.of_refs hba (PySem.SeqAt.RcAt.tuples pa pb hu fun j h1 h2=>?_)
   simp only [List.size_toArray] at h1 h2
   have hx:t[j]?=some (t.getD j .non):=by
    rw [List.getD_eq_getElem?_getD,List.getElem?_eq_getElem (by omega)];rfl
   have hy:ys[j]?=some (ys.getD j .non):=by
    rw [List.getD_eq_getElem?_getD,List.getElem?_eq_getElem (by omega)];rfl
   obtain ⟨u,eu,ru⟩:=ra.get hx
   obtain ⟨v,ev,rv⟩:=rb.get hy
   have e1:ia.toArray[j]=u:=by
    have:=List.getElem?_eq_some_iff.mp eu
    simpa using this.2
   have e2:ib.toArray[j]=v:=by
    have:=List.getElem?_eq_some_iff.mp ev
    simpa using this.2
   rw [e1,e2]
   exact jU ru rv (List.all_eq_true.mp ft _ (List.mem_of_getElem? hx)) (List.all_eq_true.mp fy _ (List.mem_of_getElem? hy))
 ·have e:(as.map Value.ref).toArray.any (Bh f)=as.any f:=by
   rw [List.any_toArray,List.any_map];rfl
  rw [e]
  exact q
end
section
variable {X:Cx}
noncomputable def yD (K:JA):V->List V->Hp->VK->Prop:=fun x vs H Q=>onR x fun l=>onC vs fun y r=>onN r (∃(xs:List V) (j:Nat),SqL K H l xs/\a7 y=true/\xs.all a7=true/\j < xs.length/\eqV (xs.getD j .non) y=true/\(∀i,i < j->eqV (xs.getD i .non) y=false)/\Q (.int (j:Nat)) H)
theorem zu:MtR X "list.index" (yD X.K):=by
 intro pins s σ H x vs v us Q I rx rv h
 obtain ⟨l,rfl,h⟩:=dJ h
 match vs,h with
 | [y],h=>
  obtain ⟨xs,j,hq,fy,fx,hj,hy,hn,q⟩:=(show ∃(xs:List V) (j:Nat),_ from h)
  cases rx
  obtain ⟨u,rfl,ru⟩:=rv.one
  obtain ⟨its,r,pl,hz⟩:=I.list hq
  have hlen:=r.length
  obtain ⟨⟨cls,dd,data,sl⟩,ho,hc,n,hd⟩:=id pl.isList
  simp only at hc hd
  subst hc hd
  rw [sizeLine_eq] at hz
  have at_i:∀(i:Nat) (hi:i < its.length),eqU y its[i]=eqV (xs.getD i .non) y:=fun i hi=>by
   have hx:xs[i]?=some (xs.getD i .non):=by
    rw [List.getD_eq_getElem?_getD,List.getElem?_eq_getElem (by omega)];rfl
   obtain ⟨w,ew,rw'⟩:=r.get hx
   have e1:its[i]=w:=by
    have:=List.getElem?_eq_some_iff.mp ew
    simpa using this.2
   rw [e1]
   exact wZ rw' (List.all_eq_true.mp fx _ (List.mem_of_getElem? hx))
  refine call_meets PySem.F.slot_list_index ⟨_,ho,rfl⟩ PySem.F.entry_list_index (PySem.F.args_list_index_2 _ _)
   (PySem.SeqAt.list_indexAt l its.toArray n dd sl u (eqU y) j (by simpa [←hlen] using hj) (by omega) ?_ ?_) ⟨ho,fun w hw=>iM ru fy r fx w (by simpa using hw),?_⟩
  ·show eqU y its[j]=true
   rw [at_i j (by omega)];exact hy
  ·intro i his hlt
   show eqU y its[i]=false
   rw [at_i i (by simpa using his)];exact hn i hlt
  ·exact ⟨.int (j:Nat),H,I.tok _,⟨_,rfl⟩,q⟩
end
section
variable {X:Cx}
noncomputable def Dy (K:JA):R2:=fun x y H Q=>onR x fun a=>onR y fun b=>∃xs,SqL K H a xs/\SqL K H b []/\Q (.bl (!xs.isEmpty)) H
theorem EX (hu:X.A.units < cLine):OpR X (compareOp .NotEq) (Dy X.K):=by
 intro pins s σ H x y u v Q I rx ry h
 obtain ⟨a,rfl,k⟩:=dJ h
 obtain ⟨b,rfl,xs,ha,hb,q⟩:=dJ k
 cases xs with
 | nil=>exact AG hu pins s σ H _ _ u v Q I rx ry ⟨_,_,_,_,rfl,rfl,ha,hb,rfl,rfl,q⟩
 | cons x0 xs=>
  cases rx;cases ry
  obtain ⟨ia,ra,pa,za⟩:=I.list ha
  obtain ⟨ib,rb,pb,zb⟩:=I.list hb
  have la:=ra.length
  have lb:=rb.length
  refine PySem.SeqAt.RcNeAt.lists_lengths pa.isList pb.isList (by simp only [List.size_toArray,bne_iff_ne,ne_eq];rw [←la,←lb];simp) hu X.prog X.w _ _ ?_
  exact ⟨.bl true,H,I,rfl,q⟩
end
end L2
namespace K33
open PySem L2
noncomputable abbrev qF:List Str:=["number","many"]
noncomputable abbrev lP:List Str:=["level","many"]
noncomputable abbrev nD:List Str:=["number","many"]
noncomputable abbrev lQ:List Str:=["loads","many"]
noncomputable abbrev ph:List Str:=["self","loads","many"]
noncomputable abbrev gW:List Str:=["self"]
noncomputable abbrev pj:List Str:=["self"]
noncomputable abbrev lR:List Str:=["number"]
noncomputable abbrev lS:List Str:=["codes","many"]
noncomputable abbrev nE:List Str:=["self","codes"]
noncomputable abbrev nF:List Str:=["self","level","strokes"]
noncomputable abbrev j0:List Str:=["self","strokes"]
noncomputable abbrev j1:List Str:=["self"]
noncomputable abbrev nG:List Str:=["self","level"]
noncomputable abbrev pk:List Str:=["self","level","kind"]
noncomputable abbrev nH:List Str:=["self"]
noncomputable abbrev j3:List Str:=["depths"]
noncomputable abbrev nI:List Str:=["depths"]
noncomputable abbrev lT:List Str:=["depths","place"]
noncomputable abbrev qG:List Str:=["depths","depth"]
noncomputable abbrev lU:List Str:=["depths","cage","level"]
noncomputable abbrev qH:List Str:=["depths","place"]
noncomputable abbrev j4:List Str:=["slow","fast"]
noncomputable abbrev nJ:List Str:=["way","speed"]
noncomputable abbrev jM:List Str:=["self","place","opened","bells","yard"]
noncomputable abbrev jN:List Str:=["self"]
noncomputable abbrev pq:List Str:=["self","first","most"]
noncomputable abbrev nK:List Str:=["self","deed","ticks","speed","standing"]
noncomputable abbrev lV:List Str:=["self"]
noncomputable abbrev qI:List Str:=["self"]
noncomputable abbrev lW:List Str:=["self"]
noncomputable abbrev nL:List Str:=["self","depths","codes","slow","fast","loads"]
noncomputable abbrev nM:List Str:=["self","level","strokes"]
noncomputable abbrev j5:List Str:=["self","strokes"]
noncomputable abbrev nN:List Str:=["self","level"]
noncomputable abbrev gX:List Str:=["self","level"]
noncomputable abbrev gY:List Str:=["self","level"]
noncomputable abbrev gZ:List Str:=["self","word","level","wanted"]
noncomputable abbrev nO:List Str:=["self","cage","level","kind"]
noncomputable abbrev g0:List Str:=["self"]
noncomputable abbrev lX:List Str:=["self","deed","ticks","standing"]
noncomputable abbrev gq:List Str:=["self","standing"]
noncomputable abbrev pw:List Str:=["self"]
noncomputable abbrev j6:List Str:=["self"]
noncomputable abbrev lY:List Str:=["self"]
noncomputable abbrev fS:List Str:=["self","place"]
noncomputable abbrev Bj:List Str:=["_law_script","_law_k"]
noncomputable abbrev vH:List Str:=["_law_cell","_law_k","_law_span"]
noncomputable abbrev tO:List Str:=["_law_script","_law_k"]
noncomputable abbrev nP:List Str:=["_law_found","_law_due"]
noncomputable abbrev qJ:List Str:=["_law_cell"]
noncomputable abbrev tP:List Str:=["_law_cell","_law_many"]
noncomputable abbrev tQ:List Str:=["_law_script"]
noncomputable abbrev tR:List Str:=["_law_depths_here","_law_done"]
noncomputable abbrev vI:List Str:=["_law_done","_law_level"]
noncomputable abbrev qK:List Str:=["_law_done"]
noncomputable abbrev iP:List Str:=["_law_depths_here","_law_codes_here","_law_done","_law_deed_here"]
noncomputable abbrev px:List Str:=["_law_depths_here","_law_codes_here","_law_done","_law_deed_here"]
noncomputable abbrev Bk:List Str:=["_law_works","_law_deed_here"]
noncomputable abbrev vJ:List Str:=["_law_depths_here","_law_codes_here","_law_done","_law_cell"]
noncomputable abbrev Bl:List Str:=["_law_script"]
noncomputable def top (i:Nat):Stmt:=PySem.Challenge.pw_cagebells_k33_whole_wind_just_where.main.body.getD i (.Pass ⟨0,0,0,0⟩)
noncomputable abbrev ml:Stmt:=top 21
theorem vK:az ["number","many"] qF (aj ml):=aS
noncomputable abbrev hZ:Stmt:=top 22
theorem qL:az ["level","many"] lP (aj hZ):=aS
noncomputable abbrev je:Stmt:=top 23
theorem r8:az ["number","many"] nD (aj je):=aS
noncomputable abbrev ie:Stmt:=top 28
theorem eG:az ["loads","many","kind","level","goal"] lQ (aj ie):=aS
noncomputable abbrev j7:Stmt:=aZ (top 29) 0
theorem uD:az ["self","loads","many"] ph (aj j7):=aS
noncomputable abbrev eH:Stmt:=aZ (top 29) 6
theorem dM:az ["self","kind","spot"] gW (aj eH):=aS
noncomputable abbrev j8:Stmt:=aZ (top 29) 7
theorem nQ:az ["self","other"] pj (aj j8):=aS
noncomputable abbrev ig:Stmt:=top 33
theorem qM:az ["number"] lR (aj ig):=aS
noncomputable abbrev ij:Stmt:=top 34
theorem gu:az ["codes","many","men","coal"] lS (aj ij):=aS
noncomputable abbrev jf:Stmt:=aZ (top 35) 0
theorem r9:az ["self","codes"] nE (aj jf):=aS
noncomputable abbrev jg:Stmt:=aZ (top 35) 1
theorem sd:az ["self","level","strokes"] nF (aj jg):=aS
noncomputable abbrev gv:Stmt:=aZ (top 35) 2
theorem dF:az ["self","strokes","level","rung","alike"] j0 (aj gv):=aS
noncomputable abbrev gw:Stmt:=aZ (top 35) 3
theorem pJ:az ["self"] j1 (aj gw):=aS
noncomputable abbrev jh:Stmt:=aZ (top 35) 4
theorem se:az ["self","level"] nG (aj jh):=aS
noncomputable abbrev j9:Stmt:=aZ (top 35) 6
theorem nR:az ["self","level","kind","code"] pk (aj j9):=aS
noncomputable abbrev ji:Stmt:=aZ (top 35) 7
theorem lZ:az ["self","other"] nH (aj ji):=aS
noncomputable abbrev gx:Stmt:=top 40
theorem fE:az ["depths","depth","level"] j3 (aj gx):=aS
noncomputable abbrev jj:Stmt:=top 41
theorem sg:az ["depths"] nI (aj jj):=aS
noncomputable abbrev ik:Stmt:=top 42
theorem qN:az ["depths","place"] lT (aj ik):=aS
noncomputable abbrev mm:Stmt:=top 43
theorem pz:az ["depths","depth","level"] qG (aj mm):=aS
noncomputable abbrev il:Stmt:=top 44
theorem qO:az ["depths","cage","level"] lU (aj il):=aS
noncomputable abbrev mn:Stmt:=top 45
theorem pA:az ["depths","place","stands"] qH (aj mn):=aS
noncomputable abbrev gy:Stmt:=top 48
theorem pK:az ["slow","fast"] j4 (aj gy):=aS
noncomputable abbrev jk:Stmt:=top 49
theorem si:az ["way","speed"] nJ (aj jk):=aS
noncomputable abbrev fF:Stmt:=aZ (top 51) 0
theorem oN:az ["self","place","opened","bells","yard"] jM (aj fF):=aS
noncomputable abbrev fG:Stmt:=aZ (top 51) 1
theorem oO:az ["self"] jN (aj fG):=aS
noncomputable abbrev ka:Stmt:=aZ (top 52) 0
theorem uE:az ["self","first","most"] pq (aj ka):=aS
noncomputable abbrev jl:Stmt:=aZ (top 52) 1
theorem l3:az ["self","deed","ticks","speed","standing","began"] nK (aj jl):=aS
noncomputable abbrev ip:Stmt:=aZ (top 52) 2
theorem qP:az ["self"] lV (aj ip):=aS
noncomputable abbrev mq:Stmt:=aZ (top 52) 3
theorem vL:az ["self"] qI (aj mq):=aS
noncomputable abbrev iq:Stmt:=aZ (top 52) 4
theorem qQ:az ["self"] lW (aj iq):=aS
noncomputable abbrev jm:Stmt:=aZ (top 55) 0
theorem ir:az ["self","depths","codes","slow","fast","loads","shut","first"] nL (aj jm):=aS
noncomputable abbrev jn:Stmt:=aZ (top 55) 1
theorem l4:az ["self","level","strokes","standing"] nM (aj jn):=aS
noncomputable abbrev gz:Stmt:=aZ (top 55) 2
theorem fH:az ["self","strokes","standing","answer"] j5 (aj gz):=aS
noncomputable abbrev jo:Stmt:=aZ (top 55) 3
theorem l5:az ["self","level","standing"] nN (aj jo):=aS
noncomputable abbrev eI:Stmt:=aZ (top 55) 4
theorem mr:az ["self","level"] gX (aj eI):=aS
noncomputable abbrev eJ:Stmt:=aZ (top 55) 5
theorem mv:az ["self","level"] gY (aj eJ):=aS
noncomputable abbrev eK:Stmt:=aZ (top 55) 6
theorem gA:az ["self","word","level","wanted","standing"] gZ (aj eK):=aS
noncomputable abbrev jq:Stmt:=aZ (top 55) 9
theorem dC:az ["self","cage","level","kind","standing","gate","end","ticks"] nO (aj jq):=aS
noncomputable abbrev eL:Stmt:=aZ (top 55) 10
theorem mw:az ["self"] g0 (aj eL):=aS
noncomputable abbrev iu:Stmt:=aZ (top 55) 11
theorem qR:az ["self","deed","ticks","standing"] lX (aj iu):=aS
noncomputable abbrev dN:Stmt:=aZ (top 55) 12
theorem lq:az ["self","standing"] gq (aj dN):=aS
noncomputable abbrev kb:Stmt:=aZ (top 55) 15
theorem uF:az ["self"] pw (aj kb):=aS
noncomputable abbrev gB:Stmt:=aZ (top 55) 18
theorem pL:az ["self"] j6 (aj gB):=aS
noncomputable abbrev iw:Stmt:=aZ (top 55) 21
theorem qS:az ["self"] lY (aj iw):=aS
noncomputable abbrev du:Stmt:=aZ (top 55) 23
theorem ke:az ["self","place"] fS (aj du):=aS
noncomputable abbrev xw:Stmt:=top 57
theorem CJ:az ["_law_script","_law_k"] Bj (aj xw):=aS
noncomputable abbrev qT:Stmt:=top 58
theorem iQ:az ["_law_cell","_law_k","_law_span","_law_rest","_law_turn","_law_one"] vH (aj qT):=aS
noncomputable abbrev oP:Stmt:=top 59
theorem mx:az ["_law_script","_law_k","_law_cell","_law_one"] tO (aj oP):=aS
noncomputable abbrev kg:Stmt:=top 60
theorem oQ:az ["_law_found","_law_due","_law_alike","_law_k"] nP (aj kg):=aS
noncomputable abbrev my:Stmt:=top 61
theorem cj:az ["_law_cell","_law_many","_law_shape","_law_gap","_law_made","_law_last","_law_k","_law_span"] qJ (aj my):=aS
noncomputable abbrev oR:Stmt:=top 62
theorem jr:az ["_law_cell","_law_many","_law_made","_law_k","_law_men"] tP (aj oR):=aS
noncomputable abbrev iR:Stmt:=top 63
theorem dO:az ["_law_script","_law_depths_here","_law_codes_here","_law_cell","_law_slow","_law_fast"] tQ (aj iR):=aS
noncomputable abbrev oS:Stmt:=top 64
theorem qU:az ["_law_depths_here","_law_done","_law_k"] tR (aj oS):=aS
noncomputable abbrev qV:Stmt:=top 65
theorem tS:az ["_law_done","_law_level","_law_k"] vI (aj qV):=aS
noncomputable abbrev mz:Stmt:=top 66
theorem fu:az ["_law_done","_law_rings","_law_ring","_law_behind","_law_again"] qK (aj mz):=aS
noncomputable abbrev eS:Stmt:=top 67
theorem bT:az ["_law_depths_here","_law_codes_here","_law_done","_law_deed_here","_law_place_here","_law_level","_law_stands","_law_state","_law_code"] iP (aj eS):=aS
noncomputable abbrev kh:Stmt:=top 68
theorem uG:az ["_law_depths_here","_law_codes_here","_law_done","_law_deed_here"] px (aj kh):=aS
noncomputable abbrev xx:Stmt:=top 69
theorem kY:az ["_law_works","_law_deed_here","_law_hit","e","_law_names"] Bk (aj xx):=aS
noncomputable abbrev qW:Stmt:=top 70
theorem dZ:az ["_law_depths_here","_law_codes_here","_law_done","_law_cell","_law_rest","_law_near","_law_kind","_law_state","_law_place_here"] vJ (aj qW):=aS
noncomputable abbrev nS:Stmt:=top 71
theorem fI:az ["_law_script","_law_depths_here","_law_codes_here","_law_slow","_law_fast","_law_works","_law_done","_law_k","_law_cell","_law_deed_here","_law_word","_law_place_here"] Bl (aj nS):=aS
structure Adr where
 ao:Addr
 bO:Addr
 cI:Addr
 cJ:Addr
 aQ:Addr
 bz:Addr
 aI:Addr
 aL:Addr
 aN:Addr
 ck:Addr
 cn:Addr
 cx:Addr
 bF:Addr
 aT:Addr
 bG:Addr
 fX:Addr
 bh:Addr
 cT:Addr
 mB:Addr
 bp:Addr
 uH:Addr
 nT:Addr
structure Txt (P:Program)(w:World)(K:JA)(mg:Str->Option Value)(base:Heap)(Z:Adr):Prop where
 bZ:mg "len"=none
 Gh:mg "zip"=none
 gC:mg "list"=none
 cP:mg "range"=none
 Gi:mg "abs"=none
 aW:mg "isinstance"=none
 uI:mg "tuple"=none
 ki:mg "int"=none
 Dz:mg "str"=none
 Bm:mg "bool"=none
 Bn:mg "min"=none
 uJ:∃u,mg "MOST_LOADS"=some u/\bu (.int 30) u
 oU:∃u,mg "FEWEST_STROKES"=some u/\bu (.int 1) u
 qX:∃u,mg "MOST_STROKES"=some u/\bu (.int 9) u
 pM:∃u,mg "FEWEST_LEVELS"=some u/\bu (.int 2) u
 sj:∃u,mg "MOST_LEVELS"=some u/\bu (.int 6) u
 oV:∃u,mg "GREATEST_DEPTH"=some u/\bu (.int 500) u
 oW:∃u,mg "GREATEST_SPEED"=some u/\bu (.int 500) u
 uK:∃u,mg "MOST_DEEDS"=some u/\bu (.int 300) u
 CK:∃u,mg "KINDS"=some u/\bu (.ref Z.uH) u
 CL:∀H,SqT K H Z.uH [.str "men",.str "coal"]
 CM:∃o,K.lookup Z.uH=some o/\o.cls=.type "tuple"/\o.dict=none
 uL:∃u,mg "CAGE_SPOTS"=some u/\bu (.ref Z.nT) u
 uM:∀H,SqT K H Z.nT [.int 10,.int 11]
 kj:mg "UnknownLevel"=some (.ref Z.ao)
 so:mg "UnknownLoad"=some (.ref Z.bO)
 qY:mg "BadLoads"=some (.ref Z.cI)
 mD:mg "BadCodes"=some (.ref Z.cJ)
 qZ:mg "DeadBell"=some (.ref Z.aQ)
 q0:mg "NoCode"=some (.ref Z.bz)
 l7:mg "NothingRung"=some (.ref Z.aI)
 mE:mg "NoChange"=some (.ref Z.aL)
 rd:mg "NotArmed"=some (.ref Z.aN)
 kl:mg "BadDepths"=some (.ref Z.ck)
 vM:mg "BadSpeeds"=some (.ref Z.cn)
 xy:mg "BookFull"=some (.ref Z.cx)
 sq:mg "NothingDone"=some (.ref Z.bF)
 rf:mg "GateOpen"=some (.ref Z.aT)
 vN:mg "CageError"=some (.ref Z.bG)
 Bo:mg "Yard"=some (.ref Z.fX)
 yE:mg "Bells"=some (.ref Z.bh)
 rg:mg "Standing"=some (.ref Z.cT)
 EY:mg "Book"=some (.ref Z.mB)
 CN:mg "Works"=some (.ref Z.bp)
 eZ:Cls K Z.fX
 fe:aP K Z.fX "kinds"
 ff:aP K Z.fX "where"
 nU:aP K Z.fX "many"
 a9:Cls K Z.bh
 cy:aP K Z.bh "codes"
 cD:aP K Z.bh "failed"
 ba:aP K Z.bh "state"
 aO:Cls K Z.cT
 bU:aP K Z.cT "place"
 cz:aP K Z.cT "opened"
 bL:aP K Z.cT "bells"
 eT:aP K Z.cT "yard"
 cQ:Cls K Z.mB
 l8:aP K Z.mB "first"
 nV:aP K Z.mB "most"
 bM:aP K Z.mB "rows"
 bt:Cls K Z.bp
 cE:aP K Z.bp "depths"
 l9:aP K Z.bp "slow"
 ma:aP K Z.bp "fast"
 rh:aP K Z.bp "goals"
 bN:aP K Z.bp "log"
 rj:ExC K Z.ao
 rk:ExI K Z.ao
 ix:Xm K Z.ao Z.bG true
 fY:Kt K Z.ao Z.ao true
 iS:Kt K Z.ao Z.aT false
 iT:Kt K Z.ao Z.aN false
 iU:Kt K Z.ao Z.aL false
 gD:Kt K Z.ao Z.aI false
 jP:Kt K Z.ao Z.bz false
 iV:Kt K Z.ao Z.aQ false
 sr:ExC K Z.bO
 Bw:ExI K Z.bO
 tT:Xm K Z.bO Z.bG true
 rm:Kt K Z.bO Z.ao false
 uN:Kt K Z.bO Z.aT false
 uO:Kt K Z.bO Z.aN false
 uP:Kt K Z.bO Z.aL false
 rQ:Kt K Z.bO Z.aI false
 vO:Kt K Z.bO Z.bz false
 uQ:Kt K Z.bO Z.aQ false
 rn:ExC K Z.cI
 EZ:ExI K Z.cI
 vP:Xm K Z.cI Z.bG true
 tU:Kt K Z.cI Z.ao false
 wt:Kt K Z.cI Z.aT false
 wu:Kt K Z.cI Z.aN false
 wx:Kt K Z.cI Z.aL false
 uR:Kt K Z.cI Z.aI false
 yF:Kt K Z.cI Z.bz false
 wz:Kt K Z.cI Z.aQ false
 mF:ExC K Z.cJ
 E1:ExI K Z.cJ
 vQ:Xm K Z.cJ Z.bG true
 tV:Kt K Z.cJ Z.ao false
 wA:Kt K Z.cJ Z.aT false
 wB:Kt K Z.cJ Z.aN false
 wC:Kt K Z.cJ Z.aL false
 uS:Kt K Z.cJ Z.aI false
 yG:Kt K Z.cJ Z.bz false
 wD:Kt K Z.cJ Z.aQ false
 xA:ExC K Z.aQ
 xB:ExI K Z.aQ
 km:Xm K Z.aQ Z.bG true
 iW:Kt K Z.aQ Z.ao false
 lr:Kt K Z.aQ Z.aT false
 lu:Kt K Z.aQ Z.aN false
 lx:Kt K Z.aQ Z.aL false
 js:Kt K Z.aQ Z.aI false
 nW:Kt K Z.aQ Z.bz false
 ly:Kt K Z.aQ Z.aQ true
 vR:ExC K Z.bz
 Bp:ExI K Z.bz
 mG:Xm K Z.bz Z.bG true
 jQ:Kt K Z.bz Z.ao false
 nX:Kt K Z.bz Z.aT false
 nY:Kt K Z.bz Z.aN false
 nZ:Kt K Z.bz Z.aL false
 ko:Kt K Z.bz Z.aI false
 pN:Kt K Z.bz Z.bz true
 n6:Kt K Z.bz Z.aQ false
 sy:ExC K Z.aI
 sG:ExI K Z.aI
 iX:Xm K Z.aI Z.bG true
 gE:Kt K Z.aI Z.ao false
 jt:Kt K Z.aI Z.aT false
 ju:Kt K Z.aI Z.aN false
 jv:Kt K Z.aI Z.aL false
 gR:Kt K Z.aI Z.aI true
 kq:Kt K Z.aI Z.bz false
 jw:Kt K Z.aI Z.aQ false
 rp:ExC K Z.aL
 xC:ExI K Z.aL
 kr:Xm K Z.aL Z.bG true
 iY:Kt K Z.aL Z.ao false
 lz:Kt K Z.aL Z.aT false
 lA:Kt K Z.aL Z.aN false
 lB:Kt K Z.aL Z.aL true
 jx:Kt K Z.aL Z.aI false
 n8:Kt K Z.aL Z.bz false
 lD:Kt K Z.aL Z.aQ false
 xD:ExC K Z.aN
 xE:ExI K Z.aN
 ku:Xm K Z.aN Z.bG true
 iZ:Kt K Z.aN Z.ao false
 lE:Kt K Z.aN Z.aT false
 lF:Kt K Z.aN Z.aN true
 lG:Kt K Z.aN Z.aL false
 jy:Kt K Z.aN Z.aI false
 n9:Kt K Z.aN Z.bz false
 lH:Kt K Z.aN Z.aQ false
 kv:ExC K Z.ck
 DA:ExI K Z.ck
 vd:Xm K Z.ck Z.bG true
 sH:Kt K Z.ck Z.ao false
 vS:Kt K Z.ck Z.aT false
 vT:Kt K Z.ck Z.aN false
 vU:Kt K Z.ck Z.aL false
 tW:Kt K Z.ck Z.aI false
 xF:Kt K Z.ck Z.bz false
 vV:Kt K Z.ck Z.aQ false
 vW:ExC K Z.cn
 DB:ExI K Z.cn
 ve:Xm K Z.cn Z.bG true
 sI:Kt K Z.cn Z.ao false
 vX:Kt K Z.cn Z.aT false
 vY:Kt K Z.cn Z.aN false
 vZ:Kt K Z.cn Z.aL false
 tX:Kt K Z.cn Z.aI false
 xG:Kt K Z.cn Z.bz false
 v3:Kt K Z.cn Z.aQ false
 xH:ExC K Z.cx
 E2:ExI K Z.cx
 v5:Xm K Z.cx Z.bG true
 tY:Kt K Z.cx Z.ao false
 wF:Kt K Z.cx Z.aT false
 wG:Kt K Z.cx Z.aN false
 wH:Kt K Z.cx Z.aL false
 uT:Kt K Z.cx Z.aI false
 yH:Kt K Z.cx Z.bz false
 wI:Kt K Z.cx Z.aQ false
 sJ:ExC K Z.bF
 Bx:ExI K Z.bF
 tZ:Xm K Z.bF Z.bG true
 rq:Kt K Z.bF Z.ao false
 uU:Kt K Z.bF Z.aT false
 uV:Kt K Z.bF Z.aN false
 uW:Kt K Z.bF Z.aL false
 rR:Kt K Z.bF Z.aI false
 v7:Kt K Z.bF Z.bz false
 uX:Kt K Z.bF Z.aQ false
 xI:ExC K Z.aT
 xJ:ExI K Z.aT
 ky:Xm K Z.aT Z.bG true
 i3:Kt K Z.aT Z.ao false
 lI:Kt K Z.aT Z.aT true
 lJ:Kt K Z.aT Z.aN false
 lK:Kt K Z.aT Z.aL false
 jz:Kt K Z.aT Z.aI false
 oa:Kt K Z.aT Z.bz false
 lL:Kt K Z.aT Z.aQ false
structure DC (K:JA)(C0 C1 C2 C3 C4 C5 C6 C7 C8 C9 C10 C11 C12 C13 C14 C15 C16 C17 C18 C19:Addr)(ta_KINDS:Addr)(tk_KINDS_0 tk_KINDS_1:Tok)(tn_KINDS:Nat)(ts_KINDS:Array (Option Value))(ta_CAGE_SPOTS:Addr)(tk_CAGE_SPOTS_0 tk_CAGE_SPOTS_1:Tok)(to_CAGE_SPOTS:Option Addr)(tn_CAGE_SPOTS:Nat)(ts_CAGE_SPOTS:Array (Option Value)):Prop where
 z_len:W.nsIn K mainGlobals "len"=some none
 z_zip:W.nsIn K mainGlobals "zip"=some none
 z_list:W.nsIn K mainGlobals "list"=some none
 z_range:W.nsIn K mainGlobals "range"=some none
 z_abs:W.nsIn K mainGlobals "abs"=some none
 z_isinstance:W.nsIn K mainGlobals "isinstance"=some none
 z_tuple:W.nsIn K mainGlobals "tuple"=some none
 z_int:W.nsIn K mainGlobals "int"=some none
 z_str:W.nsIn K mainGlobals "str"=some none
 z_bool:W.nsIn K mainGlobals "bool"=some none
 z_min:W.nsIn K mainGlobals "min"=some none
 m0:NI K "UnknownLevel" C0
 m1:NI K "UnknownLoad" C1
 m2:NI K "BadLoads" C2
 m3:NI K "BadCodes" C3
 m4:NI K "DeadBell" C4
 m5:NI K "NoCode" C5
 m6:NI K "NothingRung" C6
 m7:NI K "NoChange" C7
 m8:NI K "NotArmed" C8
 m9:NI K "BadDepths" C9
 m10:NI K "BadSpeeds" C10
 m11:NI K "BookFull" C11
 m12:NI K "NothingDone" C12
 m13:NI K "GateOpen" C13
 m14:NI K "CageError" C14
 m15:NI K "Yard" C15
 m16:NI K "Bells" C16
 m17:NI K "Standing" C17
 m18:NI K "Book" C18
 m19:NI K "Works" C19
 n_MOST_LOADS:KI K "MOST_LOADS" 30
 n_FEWEST_STROKES:KI K "FEWEST_STROKES" 1
 n_MOST_STROKES:KI K "MOST_STROKES" 9
 n_FEWEST_LEVELS:KI K "FEWEST_LEVELS" 2
 n_MOST_LEVELS:KI K "MOST_LEVELS" 6
 n_GREATEST_DEPTH:KI K "GREATEST_DEPTH" 500
 n_GREATEST_SPEED:KI K "GREATEST_SPEED" 500
 n_MOST_DEEDS:KI K "MOST_DEEDS" 300
 n_KINDS:W.nsIn K mainGlobals "KINDS"=some (some (.ref ta_KINDS))
 lt_KINDS:K.lookup ta_KINDS=some ⟨.type "tuple",none,.seq #[.str "men" tk_KINDS_0,.str "coal" tk_KINDS_1] tn_KINDS,ts_KINDS⟩
 n_CAGE_SPOTS:W.nsIn K mainGlobals "CAGE_SPOTS"=some (some (.ref ta_CAGE_SPOTS))
 lt_CAGE_SPOTS:K.lookup ta_CAGE_SPOTS=some ⟨.type "tuple",to_CAGE_SPOTS,.seq #[.int 10 tk_CAGE_SPOTS_0,.int 11 tk_CAGE_SPOTS_1] tn_CAGE_SPOTS,ts_CAGE_SPOTS⟩
 cl15:Cls K C15
 na15_kinds:aP K C15 "kinds"
 na15_where:aP K C15 "where"
 na15_many:aP K C15 "many"
 cl16:Cls K C16
 na16_codes:aP K C16 "codes"
 na16_failed:aP K C16 "failed"
 na16_state:aP K C16 "state"
 cl17:Cls K C17
 na17_place:aP K C17 "place"
 na17_opened:aP K C17 "opened"
 na17_bells:aP K C17 "bells"
 na17_yard:aP K C17 "yard"
 cl18:Cls K C18
 na18_first:aP K C18 "first"
 na18_most:aP K C18 "most"
 na18_rows:aP K C18 "rows"
 cl19:Cls K C19
 na19_depths:aP K C19 "depths"
 na19_slow:aP K C19 "slow"
 na19_fast:aP K C19 "fast"
 na19_goals:aP K C19 "goals"
 na19_log:aP K C19 "log"
 l0:C0I K C14
 x0:XI K C14 C0
 x1:XI K C14 C1
 x2:XI K C14 C2
 x3:XI K C14 C3
 x4:XI K C14 C4
 x5:XI K C14 C5
 x6:XI K C14 C6
 x7:XI K C14 C7
 x8:XI K C14 C8
 x9:XI K C14 C9
 x10:XI K C14 C10
 x11:XI K C14 C11
 x12:XI K C14 C12
 x13:XI K C14 C13
 e0_CageError:Xm K C0 C14 true
 k0_UnknownLevel:Kt K C0 C0 true
 k0_GateOpen:Kt K C0 C13 false
 k0_NotArmed:Kt K C0 C8 false
 k0_NoChange:Kt K C0 C7 false
 k0_NothingRung:Kt K C0 C6 false
 k0_NoCode:Kt K C0 C5 false
 k0_DeadBell:Kt K C0 C4 false
 e1_CageError:Xm K C1 C14 true
 k1_UnknownLevel:Kt K C1 C0 false
 k1_GateOpen:Kt K C1 C13 false
 k1_NotArmed:Kt K C1 C8 false
 k1_NoChange:Kt K C1 C7 false
 k1_NothingRung:Kt K C1 C6 false
 k1_NoCode:Kt K C1 C5 false
 k1_DeadBell:Kt K C1 C4 false
 e2_CageError:Xm K C2 C14 true
 k2_UnknownLevel:Kt K C2 C0 false
 k2_GateOpen:Kt K C2 C13 false
 k2_NotArmed:Kt K C2 C8 false
 k2_NoChange:Kt K C2 C7 false
 k2_NothingRung:Kt K C2 C6 false
 k2_NoCode:Kt K C2 C5 false
 k2_DeadBell:Kt K C2 C4 false
 e3_CageError:Xm K C3 C14 true
 k3_UnknownLevel:Kt K C3 C0 false
 k3_GateOpen:Kt K C3 C13 false
 k3_NotArmed:Kt K C3 C8 false
 k3_NoChange:Kt K C3 C7 false
 k3_NothingRung:Kt K C3 C6 false
 k3_NoCode:Kt K C3 C5 false
 k3_DeadBell:Kt K C3 C4 false
 e4_CageError:Xm K C4 C14 true
 k4_UnknownLevel:Kt K C4 C0 false
 k4_GateOpen:Kt K C4 C13 false
 k4_NotArmed:Kt K C4 C8 false
 k4_NoChange:Kt K C4 C7 false
 k4_NothingRung:Kt K C4 C6 false
 k4_NoCode:Kt K C4 C5 false
 k4_DeadBell:Kt K C4 C4 true
 e5_CageError:Xm K C5 C14 true
 k5_UnknownLevel:Kt K C5 C0 false
 k5_GateOpen:Kt K C5 C13 false
 k5_NotArmed:Kt K C5 C8 false
 k5_NoChange:Kt K C5 C7 false
 k5_NothingRung:Kt K C5 C6 false
 k5_NoCode:Kt K C5 C5 true
 k5_DeadBell:Kt K C5 C4 false
 e6_CageError:Xm K C6 C14 true
 k6_UnknownLevel:Kt K C6 C0 false
 k6_GateOpen:Kt K C6 C13 false
 k6_NotArmed:Kt K C6 C8 false
 k6_NoChange:Kt K C6 C7 false
 k6_NothingRung:Kt K C6 C6 true
 k6_NoCode:Kt K C6 C5 false
 k6_DeadBell:Kt K C6 C4 false
 e7_CageError:Xm K C7 C14 true
 k7_UnknownLevel:Kt K C7 C0 false
 k7_GateOpen:Kt K C7 C13 false
 k7_NotArmed:Kt K C7 C8 false
 k7_NoChange:Kt K C7 C7 true
 k7_NothingRung:Kt K C7 C6 false
 k7_NoCode:Kt K C7 C5 false
 k7_DeadBell:Kt K C7 C4 false
 e8_CageError:Xm K C8 C14 true
 k8_UnknownLevel:Kt K C8 C0 false
 k8_GateOpen:Kt K C8 C13 false
 k8_NotArmed:Kt K C8 C8 true
 k8_NoChange:Kt K C8 C7 false
 k8_NothingRung:Kt K C8 C6 false
 k8_NoCode:Kt K C8 C5 false
 k8_DeadBell:Kt K C8 C4 false
 e9_CageError:Xm K C9 C14 true
 k9_UnknownLevel:Kt K C9 C0 false
 k9_GateOpen:Kt K C9 C13 false
 k9_NotArmed:Kt K C9 C8 false
 k9_NoChange:Kt K C9 C7 false
 k9_NothingRung:Kt K C9 C6 false
 k9_NoCode:Kt K C9 C5 false
 k9_DeadBell:Kt K C9 C4 false
 e10_CageError:Xm K C10 C14 true
 k10_UnknownLevel:Kt K C10 C0 false
 k10_GateOpen:Kt K C10 C13 false
 k10_NotArmed:Kt K C10 C8 false
 k10_NoChange:Kt K C10 C7 false
 k10_NothingRung:Kt K C10 C6 false
 k10_NoCode:Kt K C10 C5 false
 k10_DeadBell:Kt K C10 C4 false
 e11_CageError:Xm K C11 C14 true
 k11_UnknownLevel:Kt K C11 C0 false
 k11_GateOpen:Kt K C11 C13 false
 k11_NotArmed:Kt K C11 C8 false
 k11_NoChange:Kt K C11 C7 false
 k11_NothingRung:Kt K C11 C6 false
 k11_NoCode:Kt K C11 C5 false
 k11_DeadBell:Kt K C11 C4 false
 e12_CageError:Xm K C12 C14 true
 k12_UnknownLevel:Kt K C12 C0 false
 k12_GateOpen:Kt K C12 C13 false
 k12_NotArmed:Kt K C12 C8 false
 k12_NoChange:Kt K C12 C7 false
 k12_NothingRung:Kt K C12 C6 false
 k12_NoCode:Kt K C12 C5 false
 k12_DeadBell:Kt K C12 C4 false
 e13_CageError:Xm K C13 C14 true
 k13_UnknownLevel:Kt K C13 C0 false
 k13_GateOpen:Kt K C13 C13 true
 k13_NotArmed:Kt K C13 C8 false
 k13_NoChange:Kt K C13 C7 false
 k13_NothingRung:Kt K C13 C6 false
 k13_NoCode:Kt K C13 C5 false
 k13_DeadBell:Kt K C13 C4 false
 d0:DI K "is_known" ml
 d1:DI K "check_level" hZ
 d2:DI K "check_load" je
 d3:DI K "check_loads" ie
 d4:II K C15 "Yard.__init__" j7
 d5:MI K C15 "men_aboard" "Yard.men_aboard" eH
 d6:MI K C15 "twin" "Yard.twin" j8
 d7:DI K "are_strokes" ig
 d8:DI K "check_codes" ij
 d9:II K C16 "Bells.__init__" jf
 d10:MI K C16 "ring" "Bells.ring" jg
 d11:MI K C16 "repeat" "Bells.repeat" gv
 d12:MI K C16 "engine" "Bells.engine" gw
 d13:MI K C16 "fail" "Bells.fail" jh
 d14:MI K C16 "use" "Bells.use" j9
 d15:MI K C16 "twin" "Bells.twin" ji
 d16:DI K "check_depths" gx
 d17:DI K "drum_whole" jj
 d18:DI K "other_place" ik
 d19:DI K "level_at" mm
 d20:DI K "wound_place" il
 d21:DI K "gates_by" mn
 d22:DI K "check_speeds" gy
 d23:DI K "wind_ticks" jk
 d24:II K C17 "Standing.__init__" fF
 d25:MI K C17 "twin" "Standing.twin" fG
 d26:II K C18 "Book.__init__" ka
 d27:MI K C18 "write" "Book.write" jl
 d28:MI K C18 "strike" "Book.strike" ip
 d29:MI K C18 "now" "Book.now" mq
 d30:MI K C18 "latest" "Book.latest" iq
 d31:II K C19 "Works.__init__" jm
 d32:MI K C19 "ring" "Works.ring" jn
 d33:MI K C19 "repeat" "Works.repeat" gz
 d34:MI K C19 "fail" "Works.fail" jo
 d35:MI K C19 "open_gate" "Works.open_gate" eI
 d36:MI K C19 "shut_gate" "Works.shut_gate" eJ
 d37:MI K C19 "turn_gate" "Works.turn_gate" eK
 d38:MI K C19 "wind" "Works.wind" jq
 d39:MI K C19 "take_back" "Works.take_back" eL
 d40:MI K C19 "write" "Works.write" iu
 d41:MI K C19 "speed_with" "Works.speed_with" dN
 d42:MI K C19 "now" "Works.now" kb
 d43:MI K C19 "engine" "Works.engine" gB
 d44:MI K C19 "cages" "Works.cages" iw
 d45:MI K C19 "both_places" "Works.both_places" du
 d46:DI K "_law_at" xw
 d47:DI K "_law_draw" qT
 d48:DI K "_law_mixed" oP
 d49:DI K "_law_same" kg
 d50:DI K "_law_depths" my
 d51:DI K "_law_codes" oR
 d52:DI K "_law_shaft" iR
 d53:DI K "_law_place" oS
 d54:DI K "_law_wide" qV
 d55:DI K "_law_engine" mz
 d56:DI K "_law_wind_refusal" eS
 d57:DI K "_law_refusal" kh
 d58:DI K "_law_do" xx
 d59:DI K "_law_deed" qW
 d60:DI K "law" nS
set_option hygiene false in
local macro_rules | `(tactic| walk_at "r0") => `(tactic| ((try dsimp only [Fm, Fo, tB', tOp, tUn, AL, tCB, jI, rV, xT, xj, rI', rU', EH, Fn, tC, Dc, De, zQ, eg, qw, xk, oJ, yr, qy, dB, Fi, tOr, Fj, xl, AS, tIf, Fz, Fy, tBM, nB, tSl, xV, xn, A4, A5, xp, xt, xo, BS, Al, zp, vp, An, FK, yx, yw, Dx, Gg, yD, Dy, AU, AV, uz, xi, zZ, A8, yu, FR, Aw, yj, FP, FE, Fp, xr, lO, ER, ET, tU1, Cr, p9, Cy, A9, yv, B1, EE, B4, AJ, AK, B5, Ca, Cb, EG, Cc, Ce, EN, Cf, Cg, EO, Bb, CB, Gz, GA, GB, GC, FU, FV, FW, FX, GD, GF, EF, σN, σS, σ0, FY, GG, GH, FZ, Ga, Gc, Gd, El, zT, qj, Gx, Nat.reduceAdd, Nat.reduceSub, Int.reducePow, Int.reduceToNat, Nat.reducePow, Int.reduceNeg, Bool.not_true, Bool.not_false]); (try first | refine L2.GI ?_ | refine L2.GJ ?_ | refine L2.Ge ?_)))
set_option hygiene false in
local macro_rules | `(tactic| k_upd) => `(tactic| (repeat ((first | with_reducible refine L2.GK ?_ | with_reducible refine L2.GL ?_ | with_reducible refine L2.jd ze1 ?_ | with_reducible refine L2.jd ze2 ?_ | with_reducible refine L2.jd ze3 ?_ | with_reducible refine L2.jd ze4 ?_ | with_reducible refine L2.jd ze5 ?_ | with_reducible refine L2.jd ze6 ?_ | with_reducible refine L2.jd ze7 ?_ | with_reducible refine L2.jd ze8 ?_ | with_reducible refine L2.jd ze9 ?_ | with_reducible refine L2.jd ze10 ?_ | with_reducible refine L2.jd ze11 ?_ | with_reducible refine L2.jd ze12 ?_ | with_reducible refine L2.jd ze13 ?_ | with_reducible refine L2.jd ze14 ?_ | with_reducible refine L2.jd ze15 ?_ | with_reducible refine L2.jd ze16 ?_ | with_reducible refine L2.jd ze17 ?_ | with_reducible refine L2.jd ze18 ?_ | with_reducible refine L2.jd ze19 ?_); walk_at "r0")))
set_option hygiene false in
local macro_rules | `(tactic| k_mem) => `(tactic| (walk_at "r0"; k_upd))
set_option hygiene false in
local macro_rules | `(tactic| k_all) => `(tactic| refine ⟨rfl, fun zv zA zo zs zf hr => ?_⟩)
section
variable {P:Program}{w:World}{K:JA}{mg:Str->Option Value}{base:Heap}{Z:Adr}
variable (T:Txt P w K mg base Z)
inductive kz (K:JA)(Z:Adr)(vs:List V)(H:Hp)(Q:VK)(E:XK):Prop | mk (n m:Int):vs=[.int n,.int m]->(Q (.bl (decide (0<=n/\n < m))) H)->kz K Z vs H Q E
include T in
theorem v8:FF P w K mg base CX0 1 "is_known" "is_known" ml qF (kz K Z):=fk0 vK fun vs H Q E h=>by
 obtain ⟨n,m,rfl,q⟩:=h
 k_all
 refine ⟨_,ag (aA (qb (bR Bg (pv' 0) af (bE _)) (uf (bR EU (pv' 0) (pv' 1) (bE _))))),?_⟩
 k_mem
 split
 ·rename_i h0
  rw [show decide (0<=n/\n < m)=decide (n < m) by simp [h0]] at q
  k_upd
  exact q
 ·rename_i h0
  rw [show decide (0<=n/\n < m)=false by simp;omega] at q
  k_upd
  exact q
variable (dP:KD P w K mg base CX0 1 "is_known" (kz K Z))
inductive jA (K:JA)(Z:Adr)(vs:List V)(H:Hp)(Q:VK)(E:XK):Prop | mk (x dx l:Addr) (ls:List Ld) (m:Int):vs=[.ref x,.ref l,.int m]->H x=some (.ins Z.fX dx [])->eA K H l ls->ls.length<=1000->(∀(kn wh:Addr) (H':Hp),H kn=none->H wh=none->kn≠wh->aw x H H'->eD Z.fX H' x kn wh (ls.map (·.1)) (ls.map (·.2.1)) m->Q .non H')->jA K Z vs H Q E
include T in
theorem uY:FF P w K mg base CX0 1 "__init__" "Yard.__init__" j7 ph (jA K Z):=fk0 uD fun vs H Q E h=>by
 obtain ⟨x,dx,l,ls,m,rfl,hx,hL,hn,q⟩:=h
 k_all
 refine ⟨_,ae (bA (pv' 0) (o7 ["kind","level","goal"] [none,none,none] (de (pv' 1)) (fun _ _ _ _=>(show PG _ _ (qw K 3 _) from kX (n:=3) rfl (bg (aM (i:=0) (show (["kind","level","goal"]:List Str).Nodup by decide +kernel) rfl orL) (bg (aM (i:=1) (show (["kind","level","goal"]:List Str).Nodup by decide +kernel) rfl orL) (bg (aM (i:=2) (show (["kind","level","goal"]:List Str).Nodup by decide +kernel) rfl orL) gp))))) (fun _ _ _ _=>jb) (fun _ _ _ _=>(pv' 0))) rfl) (ae (bA (pv' 0) (o7 ["kind","level","goal"] [none,none,none] (de (pv' 1)) (fun _ _ _ _=>(show PG _ _ (qw K 3 _) from kX (n:=3) rfl (bg (aM (i:=0) (show (["kind","level","goal"]:List Str).Nodup by decide +kernel) rfl orL) (bg (aM (i:=1) (show (["kind","level","goal"]:List Str).Nodup by decide +kernel) rfl orL) (bg (aM (i:=2) (show (["kind","level","goal"]:List Str).Nodup by decide +kernel) rfl orL) gp))))) (fun _ _ _ _=>jb) (fun _ _ _ _=>(pv' 1))) rfl) (ag (bA (pv' 0) (pv' 2) rfl))),?_⟩
 k_mem
 obtain ⟨as,hS,hT⟩:=id hL
 refine ⟨⟨_,hS⟩,?_⟩
 refine oK (fun x=>V.str x.1) hL (by rw [sizeLine_eq];omega) rfl (fun x hx N hN=>by k_mem;exact hN) fun kn hkn=>?_
 k_mem
 have k1:L2.aw x H (upd (upd H kn (HO.lst (ls.map fun x=>V.str x.1))) x (HO.ins Z.fX dx (aX "kinds" (.ref kn) []))):=(aw.of ((aC.refl H).lay hkn)).put
 have hx1:upd (upd H kn (HO.lst (ls.map fun x=>V.str x.1))) x (HO.ins Z.fX dx (aX "kinds" (.ref kn) [])) x=some (HO.ins Z.fX dx [("kinds",.ref kn)]):=ah
 have nx:kn≠x:=fun z=>by rw [z,hx] at hkn;cases hkn
 have hk1:upd (upd H kn (HO.lst (ls.map fun x=>V.str x.1))) x (HO.ins Z.fX dx (aX "kinds" (.ref kn) [])) kn=some (HO.lst (ls.map fun x=>V.str x.1)):=by rw [aE nx,ah]
 refine ⟨_,_,_,upo hx hkn,T.eZ,T.fe,by decide,⟨_,hS.keepI k1 hx⟩,?_⟩
 generalize upd (upd H kn (HO.lst (ls.map fun x=>V.str x.1))) x (HO.ins Z.fX dx (aX "kinds" (.ref kn) []))=H1 at *
 refine oK (fun x=>V.int x.2.1) (hL.keepI k1 hx) (by rw [sizeLine_eq];omega) rfl (fun x hx N hN=>by k_mem;exact hN) fun wh hwh=>?_
 have nxw:wh≠x:=fun z=>by rw [z,hx1] at hwh;cases hwh
 have nkw:kn≠wh:=fun z=>by rw [z,hwh] at hk1;cases hk1
 refine ⟨_,_,_,upo hx1 hwh,T.eZ,T.ff,by show 1 < 1000;decide,_,_,_,ah,T.eZ,T.nU,Nat.lt_of_le_of_lt (jS _ _ _) (by show 2 < 1000;decide),?_⟩
 refine q kn wh _ hkn ?_ nkw (((k1.trans (aw.of ((aC.refl H1).lay hwh))).put).put) ⟨⟨dx,?_⟩,?_,?_⟩
 ·cases e:H wh with
  | none=>rfl
  | some o=>have:=k1 wh o nxw e;rw [hwh] at this;cases this
 ·rw [ah];rfl
 ·rw [aE nx,aE nx,aE nkw,hk1,List.map_map];rfl
 ·rw [aE nxw,aE nxw,ah,List.map_map];rfl
variable (g8:KN P w K mg base CX0 1 Z.fX (jA K Z))
def Bq (y:Addr)(ks:List Str)(ws:List Int)(H:Hp)(i:Nat)(σ:St)(H':Hp):Prop:=aC H H'/\(∃t u,σ=[some (.ref y),t,u])/\∀j k x,j < i->ks[j]?=some k->ws[j]?=some x->(decide (k="men") && decide (x=10\/x=11))=false
inductive dQ (K:JA)(Z:Adr)(vs:List V)(H:Hp)(Q:VK)(E:XK):Prop | mk (y kn wh:Addr) (ks:List Str) (ws:List Int) (m:Int):vs=[.ref y]->eD Z.fX H y kn wh ks ws m->ks.length=ws.length->(∀H',aC H H'->Q (.bl (zi ks ws)) H')->dQ K Z vs H Q E
include T in
theorem mH:FF P w K mg base CX0 1 "men_aboard" "Yard.men_aboard" eH gW (dQ K Z):=fk0 dM fun vs H Q E h=>by
 obtain ⟨y,kn,wh,ks,ws,m,rfl,hy,hlen,q⟩:=h
 k_all
 refine seg 1 (ag (aA fP)) fun zt1 zh1 ze1=>?_
 refine ⟨_,ae (dI PassesOwn.never rfl (CI (by rfl) T.Gh Ek (aB (pv' 0)) (aB (pv' 0))) (kX rfl (bg (aM (i:=1) dM.nd rfl orL) (bg (aM (i:=2) dM.nd rfl orL) gp))) (ag (aK (i7 (cb (pv' 1) ak) (fU (cw eR (pv' 2) (dA (by rfl) T.uL) (by rfl)))).pt (ag (aA fP)) (aD)))) zh1,?_⟩
 obtain ⟨⟨dx,hob⟩,hkn,hwh⟩:=id hy
 k_mem
 refine fgo hob T.eZ T.fe rfl (fgo hob T.eZ T.ff rfl ?_)
 k_mem
 refine ⟨⟨_,SqL.of hkn⟩,⟨_,SqL.of hwh⟩,?_⟩
 k_upd
 refine vy ws.length (Bq y ks ws H) ⟨aC.refl H,⟨_,_,rfl⟩,fun j _ _ hj=>absurd hj (Nat.not_lt_zero _)⟩ ?_ ?_ ?_ ?_
 ·rintro i σ H' hi ⟨s1,_,_⟩
  have hk:ks[i]?=some ks[i]:=List.getElem?_eq_getElem (by omega)
  k_upd
  exact ⟨_,_,_,_,s1.seq (SqL.of hkn),s1.seq (SqL.of hwh),by rw [List.getElem?_map,hk];rfl,by rw [List.getElem?_map,Az hi];rfl⟩
 ·rintro σ H' ⟨s1,_,_⟩
  k_upd
  exact ⟨_,_,s1.seq (SqL.of hkn),s1.seq (SqL.of hwh),.inr (by rw [JB];exact Nat.le_refl _)⟩
 ·rintro i σ H' hi ⟨s1,⟨t,u,rfl⟩,hj⟩ x H2 ⟨tp,z1,z2,rfl,htp,rfl,hz1,hz2⟩
  have hk:ks[i]?=some ks[i]:=List.getElem?_eq_getElem (by omega)
  have hw:ws[i]?=some ws[i]:=List.getElem?_eq_getElem hi
  have e:=hz1 _ (s1.seq (SqL.of hkn))
  rw [List.getElem?_map,hk] at e
  cases e
  have e:=hz2 _ (s1.seq (SqL.of hwh))
  rw [List.getElem?_map,hw] at e
  cases e
  k_mem
  refine ⟨_,SqT.of ah,rfl,?_⟩
  k_mem
  have no:(decide (ks[i]=Str.ofString "men") && decide (ws[i]=10\/ws[i]=11))=false->Bq y ks ws H (i+1) [some (V.ref y),some (V.str ks[i]),some (V.int ws[i])] (upd H' tp (HO.tup [V.str ks[i],V.int ws[i]])):=fun hn=>by
   refine ⟨s1.lay htp,⟨_,_,rfl⟩,fun j k x hj' e1 e2=>?_⟩
   by_cases e:j=i
   ·subst e
    rw [hk] at e1;rw [hw] at e2
    cases e1;cases e2
    exact hn
   ·exact hj j k x (by omega) e1 e2
  k_upd
  split
  ·rename_i h1
   k_upd
   refine ⟨_,.inr (T.uM _),rfl,rfl,?_⟩
   rw [zk]
   k_mem
   split
   ·rename_i h2
    have q':=q _ (s1.lay (o:=HO.tup [V.str ks[i],V.int ws[i]]) htp)
    rw [AB hk hw h1 h2] at q'
    k_upd
    exact q'
   ·rename_i h2
    exact no (by simp [h2])
  ·rename_i h1
   exact no (by simp [h1])
 ·rintro σ H' ⟨s1,⟨t,u,rfl⟩,hj⟩
  k_mem
  have q':=q _ s1
  rw [zj hj (.inr (Nat.le_refl _))] at q'
  k_upd
  exact q'
variable (g9:KM P w K mg base CX0 1 Z.fX "men_aboard" (dQ K Z))
inductive gF (K:JA)(Z:Adr)(vs:List V)(H:Hp)(Q:VK)(E:XK):Prop | mk (n:Int):vs=[.int n]->(Q (.bl (decide (1<=n/\n<=9))) H)->gF K Z vs H Q E
include T in
theorem rz:FF P w K mg base CX0 1 "are_strokes" "are_strokes" ig lR (gF K Z):=fk0 qM fun vs H Q E h=>by
 obtain ⟨n,rfl,q⟩:=h
 k_all
 refine ⟨_,ag (aA (qb (bR Bg (pv' 0) (dA (by rfl) T.oU) (bE _)) (uf (bR EV (pv' 0) (dA (by rfl) T.qX) (bE _))))),?_⟩
 k_mem
 split
 ·rename_i h0
  rw [show decide (1<=n/\n<=9)=decide (n<=9) by simp [h0]] at q
  k_upd
  exact q
 ·rename_i h0
  rw [show decide (1<=n/\n<=9)=false by simp;omega] at q
  k_upd
  exact q
variable (dD:KD P w K mg base CX0 1 "are_strokes" (gF K Z))
inductive iz (K:JA)(Z:Adr)(vs:List V)(H:Hp)(Q:VK)(E:XK):Prop | mk (x dx l:Addr) (ls:List Cd):vs=[.ref x,.ref l]->H x=some (.ins Z.bh dx [])->hX cdV K H l ls->ls.length<=1000->(∀(cs fl st:Addr) (H':Hp),H cs=none->H fl=none->aw x H H'->bb Z.bh K H' x cs fl st ls (ls.map fun _=>false) .no->Q .non H')->iz K Z vs H Q E
include T in
theorem sL:FF P w K mg base CX0 1 "__init__" "Bells.__init__" jf nE (iz K Z):=fk0 r9 fun vs H Q E h=>by
 obtain ⟨x,dx,l,ls,rfl,hx,hL,hn,q⟩:=h
 k_all
 refine seg 2 (ag (bA (pv' 0) (bc (pa4 ak i6 i6 i6)) rfl)) fun zt2 zh2 ze2=>?_
 refine seg 1 (ae (bA (pv' 0) (o7 ["code"] [none] (de (pv' 1)) (fun _ _ _ _=>(aM (i:=0) (show (["code"]:List Str).Nodup by decide +kernel) rfl orL)) (fun _ _ _ _=>jb) (fun _ _ _ _=>fP)) rfl) zh2) fun zt1 zh1 ze1=>?_
 refine ⟨_,ae (bA (pv' 0) (bB cf (by rfl) T.gC ez (pa1 (pv' 1))) rfl) zh1,?_⟩
 obtain ⟨as,hS,hT⟩:=id hL
 k_mem
 refine ⟨_,.inl hS,fun cs hcs=>?_⟩
 k_upd
 refine ⟨_,_,_,upo hx hcs,T.a9,T.cy,by decide,?_⟩
 have nx:cs≠x:=fun z=>by rw [z,hx] at hcs;cases hcs
 have k1:L2.aw x H (upd (upd H cs (HO.lst (as.map V.ref))) x (HO.ins Z.bh dx (aX "codes" (.ref cs) []))):=(aw.of ((aC.refl H).lay hcs)).put
 have hx1:upd (upd H cs (HO.lst (as.map V.ref))) x (HO.ins Z.bh dx (aX "codes" (.ref cs) [])) x=some (HO.ins Z.bh dx [("codes",.ref cs)]):=ah
 have hc1:upd (upd H cs (HO.lst (as.map V.ref))) x (HO.ins Z.bh dx (aX "codes" (.ref cs) [])) cs=some (HO.lst (as.map V.ref)):=by rw [aE nx,ah]
 generalize upd (upd H cs (HO.lst (as.map V.ref))) x (HO.ins Z.bh dx (aX "codes" (.ref cs) []))=H1 at *
 k_upd
 refine ⟨⟨_,hS.keepI k1 hx⟩,?_⟩
 refine o9 (fun _=>true) (fun _=>V.bl false) (hS.keepI k1 hx) (by rw [JB,hT.1,sizeLine_eq];omega) rfl (fun y _ N hN=>by k_mem;exact hN) (fun y _ _ N hN=>by k_mem;exact hN) fun fl hfl=>?_
 k_mem
 have ef:((as.map V.ref).filter fun _=>true).map (fun _=>V.bl false)=(ls.map fun _=>false).map V.bl:=by
  rw [List.filter_eq_self.mpr (by simp),List.map_map,List.map_map]
  refine List.ext_getElem (by simp [hT.1]) fun i h1 h2=>by simp
 rw [ef]
 have nfx:fl≠x:=fun z=>by rw [z,hx1] at hfl;cases hfl
 have nfc:cs≠fl:=fun z=>by rw [←z,hc1] at hfl;cases hfl
 k_upd
 refine ⟨_,_,_,upo hx1 hfl,T.a9,T.cD,by show 1 < 1000;decide,?_⟩
 have k2:L2.aw x H1 (upd (upd H1 fl (HO.lst ((ls.map fun _=>false).map V.bl))) x (HO.ins Z.bh dx (aX "failed" (.ref fl) [("codes",.ref cs)]))):=(aw.of ((aC.refl H1).lay hfl)).put
 have hx2:upd (upd H1 fl (HO.lst ((ls.map fun _=>false).map V.bl))) x (HO.ins Z.bh dx (aX "failed" (.ref fl) [("codes",.ref cs)])) x=some (HO.ins Z.bh dx [("codes",.ref cs),("failed",.ref fl)]):=by rw [ah];rfl
 have hf2:upd (upd H1 fl (HO.lst ((ls.map fun _=>false).map V.bl))) x (HO.ins Z.bh dx (aX "failed" (.ref fl) [("codes",.ref cs)])) fl=some (HO.lst ((ls.map fun _=>false).map V.bl)):=by rw [aE nfx,ah]
 generalize upd (upd H1 fl (HO.lst ((ls.map fun _=>false).map V.bl))) x (HO.ins Z.bh dx (aX "failed" (.ref fl) [("codes",.ref cs)]))=H2 at *
 k_upd
 refine ⟨by decide,fun st hst=>⟨_,_,_,upo hx2 hst,T.a9,T.ba,by show 2 < 1000;decide,?_⟩⟩
 have nsx:st≠x:=fun z=>by rw [z,hx2] at hst;cases hst
 have k3:L2.aw x H2 (upd (upd H2 st (HO.tup [V.str (Str.ofString "not rung"),V.non,V.non,V.non])) x (HO.ins Z.bh dx (aX "state" (.ref st) [("codes",.ref cs),("failed",.ref fl)]))):=(aw.of ((aC.refl H2).lay hst)).put
 refine q cs fl st _ hcs (k1.free nfx hfl) ((k1.trans k2).trans k3) ⟨⟨dx,by rw [ah];rfl⟩,⟨as,k3 _ _ nx (k2 _ _ nx hc1),?_⟩,k3 _ _ nfx hf2,SqT.of (by rw [aE nsx,ah];rfl),nfc,by rw [JB]⟩
 exact hT.keepI ((k1.trans k2).trans k3) hx
variable (fZ:KN P w K mg base CX0 1 Z.bh (iz K Z))
inductive fJ (K:JA)(Z:Adr)(vs:List V)(H:Hp)(Q:VK)(E:XK):Prop | mk (b cs fl st:Addr) (ls:List Cd) (fs:List Bool) (e:Eng):vs=[.ref b]->bb Z.bh K H b cs fl st ls fs e->Q (.ref st) H->fJ K Z vs H Q E
include T in
theorem pO:FF P w K mg base CX0 1 "engine" "Bells.engine" gw j1 (fJ K Z):=fk0 pJ fun vs H Q E h=>by
 obtain ⟨b,cs,fl,st,ls,fs,e,rfl,hB,q⟩:=h
 k_all
 refine ⟨_,ag (aA (aB (pv' 0))),?_⟩
 obtain ⟨⟨dx,hob⟩,⟨as,hcs,hT⟩,hfl,hst,nn,ln⟩:=id hB
 k_mem
 exact fgo hob T.a9 T.ba rfl q
variable (kA:KM P w K mg base CX0 1 Z.bh "engine" (fJ K Z))
def E3 (a:Addr)(ds:List Int)(H:Hp)(i:Nat)(σ:St)(H':Hp):Prop:=H'=H/\(∃t,σ=[some (.ref a),t,none])/\∀j,j < i->0<=ds.getD j 0/\ds.getD j 0<=500
def E4 (a:Addr)(ds:List Int)(H:Hp)(i:Nat)(σ:St)(H':Hp):Prop:=H'=H/\(∃t u,σ=[some (.ref a),t,u])/\∀j,j < i->ds.getD j 0 < ds.getD (j+1) 0
inductive fK (K:JA)(Z:Adr)(vs:List V)(H:Hp)(Q:VK)(E:XK):Prop | mk (a:Addr) (ds:List Int):vs=[.ref a]->SqL K H a (ds.map V.int)->ds.length<=100000->((cq ds->Q .non H))->((¬cq ds->E (.ref Z.ck) none H))->fK K Z vs H Q E
include T in
theorem pP:FF P w K mg base (CXf P w) 1 "check_depths" "check_depths" gx j3 (fK K Z):=fkF fE fun vs H Q E h=>by
 obtain ⟨a,ds,rfl,hS,hl,q1,q2⟩:=h
 k_all
 refine seg 2 (ag (dI y4 rfl (qB (by rfl) T.cP (pa2 af (aF av (by rfl) T.bZ bw (pa1 (pv' 0))))) (aM (i:=2) fE.nd rfl orL) (ag (aK (Gf (aq au (pv' 0) (pv' 2)) (aq au (pv' 0) (aV cC (pv' 2) af))) (ag (bC T.kv (by rfl) T.kl (pa1 ak))) (aD))))) fun zt2 zh2 ze2=>?_
 refine seg 1 (ae (dI y4 rfl (de (pv' 0)) (aM (i:=1) fE.nd rfl orL) (ag (aK (mW (jL (pv' 1) af) (jR (yC (pv' 1) (dA (by rfl) T.oV)))).pt (ag (bC T.kv (by rfl) T.kl (pa1 ak))) (aD)))) zh2) fun zt1 zh1 ze1=>?_
 refine ⟨_,ae (aK (mW (jL (aF av (by rfl) T.bZ bw (pa1 (pv' 0))) (dA (by rfl) T.pM)) (jR (yC (aF av (by rfl) T.bZ bw (pa1 (pv' 0))) (dA (by rfl) T.sj)))).pt (ag (bC T.kv (by rfl) T.kl (pa1 ak))) (aD)) zh1,?_⟩
 k_mem
 refine ⟨_,.inl hS,?_⟩
 rw [JB]
 k_upd
 split
 ·k_upd
  exact ⟨by decide,q2 fun h=>by have:=h.l2;omega⟩
 ·k_upd
  refine ⟨_,.inl hS,?_⟩
  rw [JB]
  k_upd
  split
  ·k_upd
   exact ⟨by decide,q2 fun h=>by have:=h.l6;omega⟩
  ·k_upd
   refine ⟨⟨_,hS⟩,?_⟩
   k_upd
   refine kP (ds.map V.int) (E3 a ds H) ⟨rfl,⟨_,rfl⟩,fun j h=>absurd h (Nat.not_lt_zero _)⟩ (fun i σ H' _ ⟨e,_⟩=>by rw [e];exact hS) ?_ ?_
   ·rintro i x σ H' hx ⟨rfl,⟨t,rfl⟩,hj⟩
    obtain ⟨d,rfl,hd,hmem⟩:=nj hx
    have hi:i < ds.length:=(List.getElem?_eq_some_iff.mp hd).1
    have hdg:ds.getD i 0=d:=by rw [List.getD_eq_getElem?_getD,hd];rfl
    k_mem
    split
    ·k_upd
     exact ⟨by decide,q2 fun h=>by have:=h.lo d hmem;omega⟩
    ·split
     ·k_upd
      exact ⟨by decide,q2 fun h=>by have:=h.hi d hmem;omega⟩
     ·k_upd
      refine ⟨rfl,⟨_,rfl⟩,fun j hj'=>?_⟩
      by_cases e:j=i
      ·rw [e,hdg];omega
      ·exact hj j (by omega)
   ·rintro σ H' ⟨rfl,⟨t,rfl⟩,hb⟩
    rw [JB] at hb
    k_mem
    refine ⟨_,.inl hS,⟨by decide,by decide,by rw [JB];omega,by rw [JB];omega⟩,?_⟩
    k_upd
    refine cN (E4 a ds H') ⟨rfl,⟨_,_,rfl⟩,fun j h=>absurd h (Nat.not_lt_zero _)⟩ ?_ ?_
    ·rintro i σ H' hi ⟨rfl,⟨t,u,rfl⟩,hj⟩
     rw [JB] at hi
     k_mem
     refine ⟨_,hS,_,cM (by omega) (by omega),_,hS,_,cM (by omega) (by omega),?_⟩
     k_mem
     rw [show (1+(i:Int)).toNat=i+1 by omega,show (1+(i:Int) - 1).toNat=i by omega]
     k_upd
     split
     ·k_upd
      refine ⟨by decide,q2 fun h=>?_⟩
      have:=h.lt (i:=i) (j:=i+1) (by omega) (by omega)
      omega
     ·k_upd
      refine ⟨rfl,⟨_,_,rfl⟩,fun j hj'=>?_⟩
      by_cases e:j=i
      ·rw [e];omega
      ·exact hj j (by omega)
    ·rintro σ H' ⟨rfl,⟨t,u,rfl⟩,hu⟩
     rw [JB] at hu
     k_mem
     exact q1 (cq.of (by omega) (by omega) hb fun i hi=>hu i (by omega))
variable (kB:KD P w K mg base (CXf P w) 1 "check_depths" (fK K Z))
inductive iA (K:JA)(Z:Adr)(vs:List V)(H:Hp)(Q:VK)(E:XK):Prop | mk (a:Addr) (ds:List Int):vs=[.ref a]->SqL K H a (ds.map V.int)->0 < ds.length->Q (.int (bX ds)) H->iA K Z vs H Q E
include T in
theorem sM:FF P w K mg base CX0 1 "drum_whole" "drum_whole" jj nI (iA K Z):=fk0 sg fun vs H Q E h=>by
 obtain ⟨a,ds,rfl,hS,hl,q⟩:=h
 k_all
 refine ⟨_,ag (aA (aq au (pv' 0) (aV cC (aF av (by rfl) T.bZ bw (pa1 (pv' 0))) af))),?_⟩
 k_mem
 refine ⟨_,.inl hS,_,hS,_,cM (by rw [JB];omega) (by rw [JB];omega),?_⟩
 rw [JB,show ((ds.length:Int) - 1).toNat=ds.length - 1 by omega]
 k_upd
 exact q
variable (og:KD P w K mg base CX0 1 "drum_whole" (iA K Z))
def Br (a:Addr)(ds:List Int)(d:Int)(H:Hp)(i:Nat)(σ:St)(H':Hp):Prop:=H'=H/\(∃t,σ=[some (.ref a),some (.int d),t])/\∀j,j < i->ds.getD j 0≠d
inductive kC (K:JA)(Z:Adr)(vs:List V)(H:Hp)(Q:VK)(E:XK):Prop | mk (a:Addr) (ds:List Int) (d:Int):vs=[.ref a,.int d]->SqL K H a (ds.map V.int)->ds.length<=100000->((∀i:Nat,i < ds.length->ds.getD i 0=d->Q (.int i) H))->(((∀i,i < ds.length->ds.getD i 0≠d)->Q .non H))->kC K Z vs H Q E
include T in
theorem v9:FF P w K mg base CX0 1 "level_at" "level_at" mm qG (kC K Z):=fk0 pz fun vs H Q E h=>by
 obtain ⟨a,ds,d,rfl,hS,hl,q1,q2⟩:=h
 k_all
 refine seg 1 (ag (aA i6)) fun zt1 zh1 ze1=>?_
 refine ⟨_,ae (dI PassesOwn.never rfl (cG (by rfl) T.cP (pa1 (aF av (by rfl) T.bZ bw (pa1 (pv' 0))))) (aM (i:=2) pz.nd rfl orL) (ag (aK (cb (aq au (pv' 0) (pv' 2)) (pv' 1)) (ag (aA (pv' 2))) (aD)))) zh1,?_⟩
 k_mem
 refine ⟨_,.inl hS,by omega,by rw [JB];omega,cN (Br a ds d H) ⟨rfl,⟨_,rfl⟩,fun _ h=>absurd h (Nat.not_lt_zero _)⟩ ?_ ?_⟩
 ·rintro i σ H' hi ⟨rfl,⟨t,rfl⟩,hj⟩
  rw [JB] at hi
  have hi':i < ds.length:=by omega
  k_mem
  refine ⟨_,hS,_,by rw [Int.zero_add];exact vq hi',?_⟩
  k_mem
  split
  ·rename_i he
   rw [Int.zero_add]
   k_upd
   exact q1 i hi' he
  ·rename_i he
   k_upd
   refine ⟨rfl,⟨_,rfl⟩,fun j hj'=>?_⟩
   by_cases e:j=i
   ·rw [e];exact he
   ·exact hj j (by omega)
 ·rintro σ H' ⟨rfl,⟨t,rfl⟩,hj⟩
  k_mem
  refine q2 fun i hi=>hj i ?_
  rw [JB]
  omega
variable (E5:KD P w K mg base CX0 1 "level_at" (kC K Z))
inductive fL (K:JA)(Z:Adr)(vs:List V)(H:Hp)(Q:VK)(E:XK):Prop | mk (sl fa:Int):vs=[.int sl,.int fa]->(if 1<=sl/\sl<=fa/\fa<=500 then Q .non H else E (.ref Z.cn) none H)->fL K Z vs H Q E
include T in
theorem pQ:FF P w K mg base (CXf P w) 1 "check_speeds" "check_speeds" gy j4 (fL K Z):=fkF pK fun vs H Q E h=>by
 obtain ⟨sl,fa,rfl,q⟩:=h
 k_all
 refine ⟨_,ag (aK (mW (jL (pv' 0) af) (mW (jL (pv' 1) (pv' 0)) (jR (yC (pv' 1) (dA (by rfl) T.oW))))).pt (ag (bC T.vW (by rfl) T.vM (pa1 ak))) (aD)),?_⟩
 k_mem
 split
 ·rw [if_neg (by omega)] at q
  k_upd
  exact ⟨by decide,q⟩
 ·split
  ·rw [if_neg (by omega)] at q
   k_upd
   exact ⟨by decide,q⟩
  ·split
   ·rw [if_neg (by omega)] at q
    k_upd
    exact ⟨by decide,q⟩
   ·rw [if_pos (by omega)] at q
    k_upd
    exact q
variable (kD:KD P w K mg base (CXf P w) 1 "check_speeds" (fL K Z))
inductive iB (K:JA)(Z:Adr)(vs:List V)(H:Hp)(Q:VK)(E:XK):Prop | mk (wy sp:Int):vs=[.int wy,.int sp]->0 < sp->sp < 2 ^ 200->Q (.int ((wy+sp - 1) / sp)) H->iB K Z vs H Q E
include T in
theorem sO:FF P w K mg base CX0 1 "wind_ticks" "wind_ticks" jk nJ (iB K Z):=fk0 si fun vs H Q E h=>by
 obtain ⟨wy,sp,rfl,h0,h1,q⟩:=h
 k_all
 refine ⟨_,ag (aA (aV zr (aV cC (aV bK (pv' 0) (pv' 1)) af) (pv' 1))),?_⟩
 k_mem
 exact ⟨⟨h0,h1⟩,q⟩
variable (oh:KD P w K mg base CX0 1 "wind_ticks" (iB K Z))
noncomputable abbrev clZ (Z:Adr):Cl:=⟨Z.bh,Z.fX,Z.cT,Z.mB,Z.bp⟩
inductive eU (K:JA)(Z:Adr)(vs:List V)(H:Hp)(Q:VK)(E:XK):Prop | mk (x dx o b y:Addr) (pl:Int) (gs:List Bool):vs=[.ref x,.int pl,.ref o,.ref b,.ref y]->H x=some (.ins Z.cT dx [])->SqL K H o (gs.map V.bl)->(∀(ol:Addr) (H':Hp),H ol=none->aw x H H'->H' x=some (.ins Z.cT dx [("place",.int pl),("opened",.ref ol),("bells",.ref b),("yard",.ref y)])->H' ol=some (.lst (gs.map V.bl))->Q .non H')->eU K Z vs H Q E
include T in
theorem oX:FF P w K mg base CX0 1 "__init__" "Standing.__init__" fF jM (eU K Z):=fk0 oN fun vs H Q E h=>by
 obtain ⟨x,dx,o,b,y,pl,gs,rfl,hx,hO,q⟩:=h
 k_all
 refine ⟨_,ae (bA (pv' 0) (pv' 1) rfl) (ae (bA (pv' 0) (bB cf (by rfl) T.gC ez (pa1 (pv' 2))) rfl) (ae (bA (pv' 0) (pv' 3) rfl) (ag (bA (pv' 0) (pv' 4) rfl)))),?_⟩
 k_mem
 refine ⟨_,_,_,hx,T.aO,T.bU,by decide,?_⟩
 have k1:L2.aw x H (upd H x (HO.ins Z.cT dx (aX "place" (.int pl) []))):=(aw.of (aC.refl H)).put
 refine ⟨_,.inl (hO.keepI k1 hx),fun ol hol=>?_⟩
 have nol:ol≠x:=fun z=>by rw [z,ah] at hol;cases hol
 refine ⟨_,_,_,upo ah hol,T.aO,T.cz,by show 1 < 1000;decide,_,_,_,ah,T.aO,T.bL,by show 2 < 1000;decide,_,_,_,ah,T.aO,T.eT,by show 3 < 1000;decide,?_⟩
 refine q ol _ (k1.free nol hol) (((k1.trans (aw.of ((aC.refl _).lay hol))).put).put.put) ?_ ?_
 ·rw [ah];rfl
 ·rw [aE nol,aE nol,aE nol,ah]
variable (dG:KN P w K mg base CX0 1 Z.cT (eU K Z))
inductive jB (K:JA)(Z:Adr)(vs:List V)(H:Hp)(Q:VK)(E:XK):Prop | mk (x dx f:Addr):vs=[.ref x,.ref f,.int 300]->H x=some (.ins Z.mB dx [])->(∀(rl:Addr) (H':Hp),H rl=none->aw x H H'->H' x=some (.ins Z.mB dx [("first",.ref f),("most",.int 300),("rows",.ref rl)])->H' rl=some (.lst [])->Q .non H')->jB K Z vs H Q E
include T in
theorem uZ:FF P w K mg base CX0 1 "__init__" "Book.__init__" ka pq (jB K Z):=fk0 uE fun vs H Q E h=>by
 obtain ⟨x,dx,f0,rfl,hx,q⟩:=h
 k_all
 refine ⟨_,ae (bA (pv' 0) (pv' 1) rfl) (ae (bA (pv' 0) (pv' 2) rfl) (ag (bA (pv' 0) (br fA) rfl))),?_⟩
 k_mem
 refine ⟨_,_,_,hx,T.cQ,T.l8,by decide,_,_,_,ah,T.cQ,T.nV,by show 1 < 1000;decide,by decide,fun rl hrl=>?_⟩
 have k1:L2.aw x H (upd (upd H x (HO.ins Z.mB dx (aX "first" (.ref f0) []))) x (HO.ins Z.mB dx (aX "most" (.int 300) (aX "first" (.ref f0) [])))):=((aw.of (aC.refl H)).put).put
 have nrl:rl≠x:=fun z=>by rw [z,ah] at hrl;cases hrl
 refine ⟨_,_,_,upo ah hrl,T.cQ,T.bM,by show 2 < 1000;decide,?_⟩
 refine q rl _ (k1.free nrl hrl) ((k1.trans (aw.of ((aC.refl _).lay hrl))).put) ?_ ?_
 ·rw [ah];rfl
 ·rw [aE nrl,ah]
variable (pB:KN P w K mg base CX0 1 Z.mB (jB K Z))
inductive gG (K:JA)(Z:Adr)(vs:List V)(H:Hp)(Q:VK)(E:XK):Prop | mk (bk rl:Addr) (g:Cfg) (n0:aY) (rs:List Row):vs=[.ref bk]->BAt (clZ Z) K H bk rl g n0 rs->((rs=[]->E (.ref Z.bF) none H))->((∀rs' r,rs=rs'++[r]->∀p H',aw rl H H'->BAt (clZ Z) K H' bk rl g n0 rs'->SqT K H' p r.deed->Q (.ref p) H'))->gG K Z vs H Q E
include T in
theorem rA:FF P w K mg base (CXf P w) 1 "strike" "Book.strike" ip lV (gG K Z):=fkF qP fun vs H Q E h=>by
 obtain ⟨bk,rl,g,n0,rs,rfl,hB,q1,q2⟩:=h
 k_all
 refine seg 1 (ag (aA (aq aG (Ac PySem.F.plainAttrs_list PySem.F.slot_list_pop PySem.F.type_list_pop yB (aB (pv' 0))) af))) fun zt1 zh1 ze1=>?_
 refine ⟨_,ae (aK (dH (ql (aB (pv' 0)) (fun _=>rfl))) (ag (bC T.sJ (by rfl) T.sq (pa1 ak))) (aD)) zh1,?_⟩
 obtain ⟨⟨dx,f0,hob,hF⟩,as,hrl,hR⟩:=id hB
 k_mem
 refine fgo hob T.cQ T.bM rfl ⟨_,.inl ⟨_,SqL.of hrl,rfl⟩,?_⟩
 rcases dY rs with rfl | ⟨rs',r,rfl⟩
 ·have e:as=[]:=List.length_eq_zero_iff.mp hR.1
  subst e
  k_upd
  exact ⟨by decide,q1 rfl⟩
 ·obtain ⟨as',a,rfl,hR',dd,s,hra,hdd,hs⟩:=hR.last
  k_upd
  rw [if_neg (by simp)]
  k_upd
  refine fgo hob T.cQ T.bM rfl ?_
  k_mem
  refine ⟨.inl ⟨rfl,_,SqL.of hrl⟩,_,hrl,.ref a,by simp,?_⟩
  have k1:L2.aw rl H (upd H rl (HO.lst ((as'++[a]).map V.ref).dropLast)):=(aw.of (aC.refl H)).put
  k_mem
  refine ⟨_,hra.keep k1 hrl,_,rfl,?_⟩
  refine q2 rs' r rfl dd _ k1 ⟨⟨dx,f0,k1 _ _ (fun z=>by rw [z,hrl] at hob;cases hob) hob,hF.keep k1 hrl⟩,as',by rw [ah];simp,hR'.keep k1 hrl⟩ (hdd.keep k1 hrl)
variable (md:KM P w K mg base (CXf P w) 1 Z.mB "strike" (gG K Z))
inductive kE (K:JA)(Z:Adr)(vs:List V)(H:Hp)(Q:VK)(E:XK):Prop | mk (bk rl:Addr) (g:Cfg) (n0:aY) (rs:List Row):vs=[.ref bk]->BAt (clZ Z) K H bk rl g n0 rs->Q (.int (jO rs)) H->kE K Z vs H Q E
include T in
theorem wa:FF P w K mg base CX0 1 "now" "Book.now" mq qI (kE K Z):=fk0 vL fun vs H Q E h=>by
 obtain ⟨bk,rl,g,n0,rs,rfl,hB,q⟩:=h
 k_all
 refine seg 1 (ag (aA (aq aG (aq au (aB (pv' 0)) (aV cC (aF av (by rfl) T.bZ bw (pa1 (aB (pv' 0)))) af)) af))) fun zt1 zh1 ze1=>?_
 refine ⟨_,ae (aK (dH (ql (aB (pv' 0)) (fun _=>rfl))) (ag (aA af)) (aD)) zh1,?_⟩
 obtain ⟨⟨dx,f0,hob,hF⟩,as,hrl,hR⟩:=id hB
 k_mem
 refine fgo hob T.cQ T.bM rfl ⟨_,.inl ⟨_,SqL.of hrl,rfl⟩,?_⟩
 rcases dY rs with rfl | ⟨rs',r,rfl⟩
 ·have e:as=[]:=List.length_eq_zero_iff.mp hR.1
  subst e
  k_upd
  exact q
 ·obtain ⟨as',a,rfl,hR',dd,s,hra,_,_⟩:=hR.last
  k_upd
  rw [if_neg (by simp)]
  k_upd
  refine fgo hob T.cQ T.bM rfl ?_
  k_mem
  refine fgo hob T.cQ T.bM rfl ?_
  k_mem
  refine ⟨_,.inl (SqL.of hrl),_,SqL.of hrl,_,tG,?_⟩
  k_mem
  refine ⟨_,hra,_,rfl,?_⟩
  rw [tH] at q
  k_upd
  exact q
variable (jC:KM P w K mg base CX0 1 Z.mB "now" (kE K Z))
inductive gH (K:JA)(Z:Adr)(vs:List V)(H:Hp)(Q:VK)(E:XK):Prop | mk (bk rl:Addr) (g:Cfg) (n0:aY) (rs:List Row):vs=[.ref bk]->BAt (clZ Z) K H bk rl g n0 rs->(∀s,cW (clZ Z) K H rl g s (aH n0 rs)->Q (.ref s) H)->gH K Z vs H Q E
include T in
theorem rB:FF P w K mg base CX0 1 "latest" "Book.latest" iq lW (gH K Z):=fk0 qQ fun vs H Q E h=>by
 obtain ⟨bk,rl,g,n0,rs,rfl,hB,q⟩:=h
 k_all
 refine seg 1 (ag (aA (aq aG (aq au (aB (pv' 0)) (aV cC (aF av (by rfl) T.bZ bw (pa1 (aB (pv' 0)))) af)) af))) fun zt1 zh1 ze1=>?_
 refine ⟨_,ae (aK (dH (ql (aB (pv' 0)) (fun _=>rfl))) (ag (aA (aB (pv' 0)))) (aD)) zh1,?_⟩
 obtain ⟨⟨dx,f0,hob,hF⟩,as,hrl,hR⟩:=id hB
 k_mem
 refine fgo hob T.cQ T.bM rfl ⟨_,.inl ⟨_,SqL.of hrl,rfl⟩,?_⟩
 rcases dY rs with rfl | ⟨rs',r,rfl⟩
 ·have e:as=[]:=List.length_eq_zero_iff.mp hR.1
  subst e
  k_upd
  exact fgo hob T.cQ T.l8 rfl (q f0 hF)
 ·obtain ⟨as',a,rfl,hR',dd,s,hra,_,hs⟩:=hR.last
  k_upd
  rw [if_neg (by simp)]
  k_upd
  refine fgo hob T.cQ T.bM rfl ?_
  k_mem
  refine fgo hob T.cQ T.bM rfl ?_
  k_mem
  refine ⟨_,.inl (SqL.of hrl),_,SqL.of hrl,_,tG,?_⟩
  k_mem
  refine ⟨_,hra,_,rfl,?_⟩
  rw [pd] at q
  k_upd
  exact q s hs
variable (a6:KM P w K mg base CX0 1 Z.mB "latest" (gH K Z))
inductive u0 (K:JA)(Z:Adr)(vs:List V)(H:Hp)(Q:VK)(E:XK):Prop | mk (a:Addr) (ns:List Int) (k:Int):vs=[.ref a,.int k]->SqL K H a (ns.map V.int)->0<=k->Q (.int (ns.getD k.toNat 0)) H->u0 K Z vs H Q E
include T in
theorem CO:FF P w K mg base CX0 1 "_law_at" "_law_at" xw Bj (u0 K Z):=fk0 CJ fun vs H Q E h=>by
 obtain ⟨a,ns,k,rfl,hS,hk,q⟩:=h
 k_all
 refine seg 1 (ag (aA af)) fun zt1 zh1 ze1=>?_
 refine ⟨_,ae (aK (jL (pv' 1) (aF av (by rfl) T.bZ bw (pa1 (pv' 0)))) (ag (aA (aq au (pv' 0) (pv' 1)))) (aD)) zh1,?_⟩
 k_mem
 refine ⟨_,.inl hS,?_⟩
 rw [JB]
 k_upd
 split
 ·rename_i hlt
  k_upd
  exact ⟨_,hS,_,cM hk hlt,q⟩
 ·rename_i hlt
  rw [Ak (by omega)] at q
  k_upd
  exact q
variable (u4:KD P w K mg base CX0 1 "_law_at" (u0 K Z))
def CP (c k n:Int)(H:Hp)(_:Nat)(σ:St)(H':Hp):Prop:=H'=H/\∃r t,σ=[some (.int c),some (.int k),some (.int n),some (.int r),t,none]
inductive oY (K:JA)(Z:Adr)(vs:List V)(H:Hp)(Q:VK)(E:XK):Prop | mk (c k n:Int):vs=[.int c,.int k,.int n]->0<=k->k<=100000->0 < n->(∀r:Int,0<=r->r < n->Q (.int r) H)->oY K Z vs H Q E
include T in
theorem zw:FF P w K mg base CX0 1 "_law_draw" "_law_draw" qT vH (oY K Z):=fk0 iQ fun vs H Q E h=>by
 obtain ⟨c,k,n,rfl,hk0,hk1,hn,q⟩:=h
 k_all
 refine seg 2 (ag (aA (aV nC (eY (bf (aV uA (pv' 5) (aV bK (pv' 5) af)) af) af) (pv' 2)))) fun zt2 zh2 ze2=>?_
 refine seg 1 (ae (aJ (i:=5) iQ.nd rfl orL (bf (aV bK (aV bK (qa (pv' 0) af) (qa (pv' 1) af)) af) af)) zh2) fun zt1 zh1 ze1=>?_
 refine ⟨_,ae (aK (cb (bf (pv' 0) af) af) (ae (aJ (i:=3) iQ.nd rfl orL (eY (pv' 0) af)) (ae (dI PassesOwn.never rfl (cG (by rfl) T.cP (pa1 (pv' 1))) (aM (i:=4) iQ.nd rfl orL) (ag (aJ (i:=3) iQ.nd rfl orL (eY (pv' 3) af)))) (ag (aA (aV nC (bf (pv' 3) af) (pv' 2)))))) (aD)) zh1,?_⟩
 k_mem
 split
 ·k_upd
  refine ⟨by omega,by omega,cN (CP c k n H) ⟨rfl,_,_,rfl⟩ ?_ ?_⟩
  ·rintro i σ H' hi ⟨rfl,r,t,rfl⟩
   k_mem
   exact ⟨rfl,_,_,rfl⟩
  ·rintro σ H' ⟨rfl,r,t,rfl⟩
   k_mem
   exact ⟨hn,q _ (Int.emod_nonneg _ (by omega)) (Int.emod_lt_of_pos _ hn)⟩
 ·k_upd
  refine ⟨.inl ⟨by omega,by omega⟩,hn,q _ (Int.emod_nonneg _ (by omega)) (Int.emod_lt_of_pos _ hn)⟩
variable (cA:KD P w K mg base CX0 1 "_law_draw" (oY K Z))
inductive mI (K:JA)(Z:Adr)(vs:List V)(H:Hp)(Q:VK)(E:XK):Prop | mk (a:Addr) (ns:List Int) (k:Int):vs=[.ref a,.int k]->SqL K H a (ns.map V.int)->0<=k->k < ns.length->(∀n:Int,Q (.int n) H)->mI K Z vs H Q E
include T in
theorem xK:FF P w K mg base CX0 1 "_law_mixed" "_law_mixed" oP tO (mI K Z):=fk0 mx fun vs H Q E h=>by
 obtain ⟨a,ns,k,rfl,hS,hk0,hk1,q⟩:=h
 k_all
 refine ⟨_,ae (aJ (i:=2) mx.nd rfl orL (aq au (pv' 0) (pv' 1))) (ae (aK (cb (bf (aq au (pv' 0) af) af) af) (ag (aA (pv' 2))) (aD)) (ae (aJ (i:=3) mx.nd rfl orL (bf (aV bK (aV bK (qa (pv' 2) af) (qa (pv' 1) af)) af) af)) (ag (aA (bf (aV uA (pv' 3) (aV bK (pv' 3) af)) af))))),?_⟩
 k_mem
 refine ⟨_,hS,_,cM hk0 hk1,_,hS,_,cM (ns:=ns) (k:=0) (by omega) (by omega),?_⟩
 k_mem
 split
 ·exact q _
 ·exact ⟨.inl ⟨by omega,by omega⟩,q _⟩
variable (kZ:KD P w K mg base CX0 1 "_law_mixed" (mI K Z))
theorem two33 {p q c:Int}(h0:0<=c)(h1:c < 2):atI [V.int p,V.int q] c=some (.int (if c=0 then p else q)):=by
 rcases (by omega:c=0\/c=1) with rfl | rfl<;>rfl
noncomputable def jD (ds:List Int)(L:List Dd):Int:=L.foldl (fun p d=>match d with | .wind c l _=>gm ds c l | _=>p) (ds.getD 0 0)
theorem cK (ds:List Int)(L:List Dd)(d:Dd):jD ds (L++[d])=match d with | .wind c l _=>gm ds c l | _=>jD ds L:=by
 unfold jD
 rw [List.foldl_append]
 rfl
theorem kF {ds:List Int}:∀{L:List Dd} {i:Nat},i<=L.length->(∀j d,L.length - i<=j->L[j]?=some d->∀c l k,d≠.wind c l k)->jD ds L=jD ds (L.take (L.length - i))
 | L,0,_,_=>by rw [Nat.sub_zero,List.take_length]
 | L,i+1,h,hn=>by
  rw [kF (i:=i) (by omega) fun j d hj e=>hn j d (by omega) e]
  have hk:L.length - (i+1) < L.length:=by omega
  rw [show L.length - i=L.length - (i+1)+1 by omega,List.take_succ_eq_append_getElem hk,cK]
  have:=hn _ _ (Nat.le_refl _) (List.getElem?_eq_getElem hk)
  generalize L[L.length - (i+1)]=d at *
  cases d with
  | wind c l k=>exact absurd rfl (this c l k)
  | _=>rfl
def okL (m:Nat)(L:List Dd):Prop:=∀d∈L,zl d/\∀c l k,d=.wind c l k->0<=l/\l < m
def CQ (H:Hp)(dl dn:Addr)(L:List Dd)(i:Nat)(σ:St)(H':Hp):Prop:=aC H H'/\(∃t,σ=[some (.ref dl),some (.ref dn),t])/\∀j d,L.length - i<=j->L[j]?=some d->∀c l k,d≠.wind c l k
inductive mJ (K:JA)(Z:Adr)(vs:List V)(H:Hp)(Q:VK)(E:XK):Prop | mk (dl dn:Addr) (ds:List Int) (as:List Addr) (L:List Dd):vs=[.ref dl,.ref dn]->H dl=some (.lst (ds.map V.int))->cq ds->H dn=some (.lst (as.map V.ref))->eF K H as L->okL ds.length L->L.length<=1000->(∀H',aC H H'->Q (.int (jD ds L)) H')->mJ K Z vs H Q E
include T in
theorem xM:FF P w K mg base CX0 1 "_law_place" "_law_place" oS tR (mJ K Z):=fk0 qU fun vs H Q E h=>by
 obtain ⟨dl,dn,ds,as,L,rfl,hdl,hsh,hdn,hD,hok,hL,q⟩:=h
 k_all
 refine seg 1 (ag (aA (aq au (pv' 0) af))) fun zt1 zh1 ze1=>?_
 refine ⟨_,ae (dI PassesOwn.never rfl (tL (by rfl) T.cP (pa3 (aV cC (aF av (by rfl) T.bZ bw (pa1 (pv' 1))) af) (iL dr af) (iL dr af))) (aM (i:=2) qU.nd rfl orL) (ag (aK (cb (aq aG (aq au (pv' 1) (pv' 2)) af) ak) (ag (aA (aq au (br (pa2 (aq au (pv' 0) (aq aG (aq au (pv' 1) (pv' 2)) af)) (aV cC (aq au (pv' 0) (iL dr af)) (aq au (pv' 0) (aq aG (aq au (pv' 1) (pv' 2)) af))))) (aq aG (aq au (pv' 1) (pv' 2)) af)))) (aD)))) zh1,?_⟩
 have l2:=hsh.l2
 have hal:=hD.1
 k_mem
 dsimp only [Bf]
 k_mem
 refine ⟨_,.inl (SqL.of hdn),?_⟩
 rw [JB,hal]
 k_upd
 refine ⟨_,_,_,L.length,rfl,tK.down (by omega),?_⟩
 k_upd
 refine qA (CQ H dl dn L) ⟨aC.refl _,⟨_,rfl⟩,fun j d hj e=>by rw [List.getElem?_eq_none (by omega)] at e;cases e⟩ ?_ ?_
 ·rintro i σ H' hi ⟨s1,⟨t,rfl⟩,hn⟩
  obtain ⟨k,hk,ek⟩:∃k:Nat,k < L.length/\(L.length:Int) - 1+(i:Int) * -1=(k:Int):=⟨L.length - 1 - i,by omega,by omega⟩
  rw [ek]
  obtain ⟨d,ed⟩:∃d,L[k]?=some d:=⟨_,List.getElem?_eq_getElem hk⟩
  obtain ⟨da,eda⟩:∃da,as[k]?=some da:=⟨_,List.getElem?_eq_getElem (by omega)⟩
  have hT:=s1.tup (hD.2 k da d eda ed)
  have B:=SqL.of (K:=K) (s1 _ _ hdn)
  have A:=SqL.of (K:=K) (s1 _ _ hdl)
  have atk:atI (as.map V.ref) (k:Int)=some (.ref da):=ay (by rw [List.getElem?_map,eda];rfl)
  obtain ⟨hok1,hok2⟩:=hok d (List.mem_of_getElem? ed)
  obtain ⟨nm,fz,enm,hnm⟩:∃nm fz,ddV d=.str nm::fz/\((∃c l kd,d=.wind c l kd)\/nm≠"wind"/\∀c l kd,d≠.wind c l kd):=by
   cases d with
   | wind c l kd=>exact ⟨_,_,rfl,.inl ⟨c,l,kd,rfl⟩⟩
   | _=>exact ⟨_,_,rfl,.inr ⟨by decide,fun _ _ _ z=>by cases z⟩⟩
  k_mem
  rcases hnm with ⟨c,l,kd,rfl⟩ | ⟨hne,hnw⟩
  ·have hl:=hok2 c l kd rfl
   have hT':SqT K H' da [.str "wind",.int c,.int l,.str kd]:=hT
   have n2:0 < ds.length:=by omega
   k_upd
   refine ⟨_,B,_,atk,?_⟩
   k_mem
   refine ⟨_,hT',_,ay (k:=0) rfl,?_⟩
   k_mem
   refine ⟨_,B,_,atk,?_⟩
   k_mem
   refine ⟨_,hT',_,ay (k:=2) rfl,?_⟩
   k_mem
   refine ⟨_,A,_,cM hl.1 hl.2,_,A,_,jY n2,_,B,_,atk,?_⟩
   k_mem
   refine ⟨_,hT',_,ay (k:=2) rfl,?_⟩
   k_mem
   refine ⟨_,A,_,cM hl.1 hl.2,?_⟩
   k_mem
   refine ⟨by decide,fun p hp=>?_⟩
   (generalize hE:upd H' p _=H2 at *;have s2:=cv hE hp;have e2:=bj hE;clear hE)
   k_upd
   refine ⟨_,(s1.trans s2).seq (SqL.of hdn),_,atk,?_⟩
   k_mem
   refine ⟨_,s2.tup hT',_,ay (k:=1) rfl,?_⟩
   k_mem
   refine ⟨_,SqL.of e2,_,two33 hok1.1.1 hok1.1.2,?_⟩
   have hp:jD ds L=gm ds c l:=by
    rw [kF (i:=i) (by omega) hn,show L.length - i=k+1 by omega,List.take_succ_eq_append_getElem hk,cK]
    have:L[k]=.wind c l kd:=by
     have:=List.getElem?_eq_getElem hk
     rw [ed] at this
     exact (Option.some.inj this).symm
    rw [this]
   have q':=q H2 (s1.trans s2)
   rw [hp] at q'
   k_upd
   exact q'
  ·rw [enm] at hT
   k_upd
   refine ⟨_,B,_,atk,?_⟩
   k_mem
   refine ⟨_,hT,_,ay (k:=0) rfl,?_⟩
   k_mem
   rw [if_neg hne]
   k_upd
   refine ⟨s1,⟨_,rfl⟩,fun j e hj ej=>?_⟩
   by_cases hjk:j=k
   ·subst hjk
    rw [ed] at ej;cases ej
    exact hnw
   ·exact hn j e (by omega) ej
 ·rintro σ H' ⟨s1,⟨t,rfl⟩,hn⟩
  k_mem
  refine ⟨_,SqL.of (s1 _ _ hdl),_,cM (Int.le_refl 0) (by omega),?_⟩
  have hp:jD ds L=ds.getD (0:Int).toNat 0:=by
   rw [kF (i:=L.length) (Nat.le_refl _) hn,Nat.sub_self,List.take_zero];rfl
  have q':=q H' s1
  rw [hp] at q'
  k_upd
  exact q'
variable (ee:KD P w K mg base CX0 1 "_law_place" (mJ K Z))
noncomputable def fv (lv:Int)(L:List Dd):Bool:=L.foldl (fun b d=>match d with | .opn l=>if l=lv then true else b | .sht l=>if l=lv then false else b | _=>b) false
theorem df (lv:Int)(L:List Dd)(d:Dd):fv lv (L++[d])=match d with | .opn l=>if l=lv then true else fv lv L | .sht l=>if l=lv then false else fv lv L | _=>fv lv L:=by
 unfold fv
 rw [List.foldl_append]
 rfl
theorem mK {lv:Int}:∀{L:List Dd} {i:Nat},i<=L.length->(∀j d,L.length - i<=j->L[j]?=some d->d≠.opn lv/\d≠.sht lv)->fv lv L=fv lv (L.take (L.length - i))
 | L,0,_,_=>by rw [Nat.sub_zero,List.take_length]
 | L,i+1,h,hn=>by
  rw [mK (i:=i) (by omega) fun j d hj e=>hn j d (by omega) e]
  have hk:L.length - (i+1) < L.length:=by omega
  rw [show L.length - i=L.length - (i+1)+1 by omega,List.take_succ_eq_append_getElem hk,df]
  have:=hn _ _ (Nat.le_refl _) (List.getElem?_eq_getElem hk)
  generalize L[L.length - (i+1)]=d at *
  cases d with
  | opn l=>exact if_neg fun z=>this.1 (by rw [z])
  | sht l=>exact if_neg fun z=>this.2 (by rw [z])
  | _=>rfl
theorem E6 (lv:Int)(d:Dd):(eqL (ddV d) [V.str "open",V.int lv]=true↔d=.opn lv)/\(eqL (ddV d) [V.str "shut",V.int lv]=true↔d=.sht lv):=by
 cases d<;>simp [ddV,eqL,eqV]<;>first | exact fun h=>absurd h (by decide) | exact ⟨fun h=>absurd h (by decide),fun h=>absurd h (by decide)⟩
def CS (H:Hp)(dn:Addr)(lv:Int)(L:List Dd)(i:Nat)(σ:St)(H':Hp):Prop:=aC H H'/\(∃t,σ=[some (.ref dn),some (.int lv),t])/\∀j d,L.length - i<=j->L[j]?=some d->d≠.opn lv/\d≠.sht lv
inductive k4 (K:JA)(Z:Adr)(vs:List V)(H:Hp)(Q:VK)(E:XK):Prop | mk (dn:Addr) (as:List Addr) (L:List Dd) (lv:Int):vs=[.ref dn,.int lv]->H dn=some (.lst (as.map V.ref))->eF K H as L->L.length<=1000->(∀H',aC H H'->Q (.bl (fv lv L)) H')->k4 K Z vs H Q E
include T in
theorem zx:FF P w K mg base CX0 1 "_law_wide" "_law_wide" qV vI (k4 K Z):=fk0 tS fun vs H Q E h=>by
 obtain ⟨dn,as,L,lv,rfl,hdn,hD,hL,q⟩:=h
 k_all
 refine seg 1 (ag (aA fP)) fun zt1 zh1 ze1=>?_
 refine ⟨_,ae (dI PassesOwn.never rfl (tL (by rfl) T.cP (pa3 (aV cC (aF av (by rfl) T.bZ bw (pa1 (pv' 0))) af) (iL dr af) (iL dr af))) (aM (i:=2) tS.nd rfl orL) (ag (aK (mW (cw (xv hr.units0) (aq au (pv' 0) (pv' 2)) (bc (pa2 ak (pv' 1))) (bE _)) (jR (cw (xv hr.units0) (aq au (pv' 0) (pv' 2)) (bc (pa2 ak (pv' 1))) (bE _)))).pt (ag (aA (bR fD (aq aG (aq au (pv' 0) (pv' 2)) af) ak (bE _)))) (aD)))) zh1,?_⟩
 have hal:=hD.1
 k_mem
 dsimp only [Bf]
 k_mem
 refine ⟨_,.inl (SqL.of hdn),?_⟩
 rw [JB,hal]
 k_upd
 refine ⟨_,_,_,L.length,rfl,tK.down (by omega),?_⟩
 k_upd
 refine qA (CS H dn lv L) ⟨aC.refl _,⟨_,rfl⟩,fun j d hj e=>by rw [List.getElem?_eq_none (by omega)] at e;cases e⟩ ?_ ?_
 ·rintro i σ H' hi ⟨s1,⟨t,rfl⟩,hn⟩
  obtain ⟨k,hk,ek⟩:∃k:Nat,k < L.length/\(L.length:Int) - 1+(i:Int) * -1=(k:Int):=⟨L.length - 1 - i,by omega,by omega⟩
  rw [ek]
  obtain ⟨d,ed⟩:∃d,L[k]?=some d:=⟨_,List.getElem?_eq_getElem hk⟩
  obtain ⟨da,eda⟩:∃da,as[k]?=some da:=⟨_,List.getElem?_eq_getElem (by omega)⟩
  have hT:=s1.tup (hD.2 k da d eda ed)
  have B:=SqL.of (K:=K) (s1 _ _ hdn)
  have atk:atI (as.map V.ref) (k:Int)=some (.ref da):=ay (by rw [List.getElem?_map,eda];rfl)
  obtain ⟨eo,es⟩:=E6 lv d
  have fd:(ddV d).all a7=true:=by cases d<;>rfl
  have hLk:L[k]=d:=by
   have:=List.getElem?_eq_getElem hk
   rw [ed] at this
   exact (Option.some.inj this).symm
  have hw:(d=.opn lv->fv lv L=true)/\(d=.sht lv->fv lv L=false):=by
   rw [mK (i:=i) (by omega) hn,show L.length - i=k+1 by omega,List.take_succ_eq_append_getElem hk,df,hLk]
   k_upd
   exact ⟨fun z=>by rw [z];exact if_pos rfl,fun z=>by rw [z];exact if_pos rfl⟩
  k_mem
  refine ⟨_,B,_,atk,by decide,fun p hp=>?_⟩
  (generalize hE:upd H' p _=H2 at *;have s2:=cv hE hp;have e2:=bj hE;clear hE)
  k_mem
  refine ⟨_,s2.tup hT,_,SqT.of e2,fd,rfl,?_⟩
  have B2:=SqL.of (K:=K) ((s1.trans s2) _ _ hdn)
  k_upd
  split
  ·rename_i he
   have hp:=hw.1 (eo.mp he)
   cases eo.mp he
   k_upd
   refine ⟨_,B2,_,atk,?_⟩
   k_mem
   refine ⟨_,s2.tup hT,_,ay (k:=0) rfl,?_⟩
   k_mem
   have q':=q H2 (s1.trans s2)
   rw [hp] at q'
   k_upd
   exact q'
  ·rename_i he
   k_upd
   refine ⟨_,B2,_,atk,by decide,fun p3 hp3=>?_⟩
   (generalize hE:upd H2 p3 _=H3 at *;have s3:=cv hE hp3;have e3:=bj hE;clear hE)
   k_mem
   refine ⟨_,(s2.trans s3).tup hT,_,SqT.of e3,fd,rfl,?_⟩
   have B3:=SqL.of (K:=K) ((s1.trans (s2.trans s3)) _ _ hdn)
   k_upd
   split
   ·rename_i hf
    have hp:=hw.2 (es.mp hf)
    cases es.mp hf
    k_upd
    refine ⟨_,B3,_,atk,?_⟩
    k_mem
    refine ⟨_,(s2.trans s3).tup hT,_,ay (k:=0) rfl,?_⟩
    k_mem
    have q':=q H3 (s1.trans (s2.trans s3))
    rw [hp] at q'
    k_upd
    exact q'
   ·rename_i hf
    k_upd
    refine ⟨s1.trans (s2.trans s3),⟨_,rfl⟩,fun j e hj ej=>?_⟩
    by_cases hjk:j=k
    ·subst hjk
     rw [ed] at ej;cases ej
     k_upd
     exact ⟨fun z=>he (eo.mpr z),fun z=>hf (es.mpr z)⟩
    ·exact hn j e (by omega) ej
 ·rintro σ H' ⟨s1,⟨t,rfl⟩,hn⟩
  k_mem
  have hp:fv lv L=false:=by
   rw [mK (i:=L.length) (Nat.le_refl _) hn,Nat.sub_self,List.take_zero];rfl
  have q':=q H' s1
  rw [hp] at q'
  k_upd
  exact q'
variable (i4:KD P w K mg base CX0 1 "_law_wide" (k4 K Z))
noncomputable def eV:Dd->Bool
 | .ring _ _=>true
 | _=>false
noncomputable def mL:Dd->Bool
 | .rept _=>true
 | _=>false
noncomputable def mM:Dd->Bool
 | .wind _ _ _=>true
 | _=>false
inductive ES where
 | off
 | rung (l r:Int)
 | told (l r s:Int) (w:Bool)
noncomputable def esV:ES->List V
 | .off=>[.str "not rung",.non,.non,.non]
 | .rung l r=>[.str "not repeated",.int l,.int r,.non]
 | .told l r s w=>[.str (if w=true then "used up" else if s=r then "armed" else "repeated otherwise"),.int l,.int r,.int s]
noncomputable def gI (L:List Dd):ES->Prop
 | .off=>∀d∈L,eV d=false
 | .rung l r=>∃A B,L=A++.ring l r::B/\(∀d∈B,eV d=false)/\(∀d∈B,mL d=false)/\∀d∈B,mM d=false
 | .told l r s w=>∃A B,L=A++.ring l r::B/\(∀d∈B,eV d=false)/\B.filter mL=[.rept s]/\B.any mM=w
theorem wb {K:JA}{l:Addr}{as:List Addr}{L:List Dd}{tc:TT}{te:TE}{cm:List (Option Nat)}{σ:St}{H:Hp}{Q:VK}{j:Nat}(pr:Dd->Bool)(f:Dd->V)(hS:SqL K H l (as.map V.ref))(hD:eF K H as L)(hn:L.length<=1000)(hj:(bV cm σ)[j]?=some none)
  (hc:∀a d,d∈L->SqT K H a (ddV d)->∀N:Bool->Hp->Prop,N (pr d) H->tc ((bV cm σ).set j (some (.ref a))) H N) (he:∀a d,d∈L->SqT K H a (ddV d)->pr d=true->∀N:VK,N (f d) H->te ((bV cm σ).set j (some (.ref a))) H N)
  (hd:∀p,H p=none->Q (.ref p) (upd H p (.lst ((L.filter pr).map f)))):o8 (Itl K l) (eg j) tc te cm σ Q H:=by
 have hal:=hD.1
 refine Au L.length (fun i acc H'=>H'=H/\acc=((L.take i).filter pr).map f) ⟨rfl,rfl⟩ ?_ ?_ ?_ ?_
 ·rintro i acc H' hi ⟨rfl,_⟩
  exact ⟨_,.ref as[i],hS,by rw [List.getElem?_map,List.getElem?_eq_getElem (by omega)];rfl⟩
 ·rintro acc H' ⟨rfl,_⟩
  exact ⟨_,hS,by rw [JB];omega⟩
 ·rintro i acc H' hi ⟨rfl,rfl⟩
  refine ⟨dX ?_,fun x H2 y M hM=>?_⟩
  ·rw [JB]
   have:=List.length_filter_le pr (L.take i)
   rw [List.length_take] at this
   omega
  obtain ⟨e,y⟩:=y
  subst e
  have hy:=y _ hS
  have hia:i < as.length:=by omega
  rw [List.getElem?_map,List.getElem?_eq_getElem hia] at hy
  cases hy
  have hT:=hD.2 i _ _ (List.getElem?_eq_getElem hia) (List.getElem?_eq_getElem hi)
  have hm:=List.getElem_mem hi
  have ht:((L.take (i+1)).filter pr).map f=((L.take i).filter pr).map f++(if pr L[i] then [f L[i]] else []):=by
   rw [List.take_succ_eq_append_getElem hi,List.filter_append,List.map_append]
   cases hp:pr L[i]<;>simp [hp]
  refine ⟨Ew hj,hc _ _ hm hT _ ?_⟩
  cases hp:pr L[i] with
  | true=>
   rw [if_pos rfl]
   refine he _ _ hm hT hp _ (hM _ _ ⟨rfl,?_⟩)
   rw [ht,hp];rfl
  | false=>
   rw [if_neg (by decide)]
   refine hM _ _ ⟨rfl,?_⟩
   rw [ht,hp];simp
 ·rintro acc H' ⟨rfl,rfl⟩ p hp
  rw [List.take_length]
  exact hd p hp
noncomputable def t6 (d:Dd):Str:=match d with | .ring _ _=>"ring" | .rept _=>"repeat" | .opn _=>"open" | .sht _=>"shut" | .load _ _=>"load" | .unload _=>"unload" | .wind _ _ _=>"wind" | .fail _=>"fail"
theorem rC (d:Dd):∃r,ddV d=.str (t6 d)::r:=by cases d<;>exact ⟨_,rfl⟩
theorem zy (d:Dd):eV d=decide (t6 d="ring"):=by cases d<;>rfl
theorem zz (d:Dd):mL d=decide (t6 d="repeat"):=by cases d<;>rfl
theorem zB (d:Dd):mM d=decide (t6 d="wind"):=by cases d<;>rfl
noncomputable def hG (L:List Dd):List Int:=((List.range L.length).filter fun i=>eV (L.getD i (.fail 0))).map fun (i:Nat)=>(i:Int)
noncomputable def DD:Dd->V
 | .rept s=>.int s
 | _=>.non
theorem wc {L:List Dd}(h:∀d∈L,eV d=false):hG L=[]:=by
 unfold hG
 rw [List.filter_eq_nil_iff.mpr fun i hi=>?_]
 ·rfl
 ·rw [List.mem_range] at hi
  rw [List.getD_eq_getElem?_getD,List.getElem?_eq_getElem hi,Option.getD_some,h _ (List.getElem_mem hi)]
  decide
theorem sP (A B:List Dd)(l r:Int)(h:∀d∈B,eV d=false):∃X,hG (A++.ring l r::B)=X++[(A.length:Int)]:=by
 refine ⟨((List.range A.length).filter fun i=>eV ((A++.ring l r::B).getD i (.fail 0))).map fun (i:Nat)=>(i:Int),?_⟩
 unfold hG
 rw [show (A++.ring l r::B).length=(A.length+1)+B.length by rw [List.length_append,List.length_cons];omega,List.range_add,List.filter_append,List.range_succ,List.filter_append,List.filter_cons,
  if_pos (by rw [List.getD_eq_getElem?_getD,List.getElem?_append_right (Nat.le_refl _),Nat.sub_self];rfl),
  (List.filter_eq_nil_iff (l:=(List.range B.length).map _)).mpr fun i hi=>?_]
 ·simp
 ·obtain ⟨j,hj,rfl⟩:=List.mem_map.mp hi
  rw [List.mem_range] at hj
  rw [List.getD_eq_getElem?_getD,List.getElem?_append_right (by omega),show A.length+1+j - A.length=j+1 by omega,List.getElem?_cons_succ,List.getElem?_eq_getElem hj,Option.getD_some,h _ (List.getElem_mem hj)]
  decide
theorem Bs {K:JA}{H:Hp}{as:List Addr}{A B:List Dd}{d:Dd}(h:eF K H as (A++d::B)):∃ra asB,(as.map V.ref)[A.length]?=some (.ref ra)/\as.drop (A.length+1)=asB/\SqT K H ra (ddV d)/\eF K H asB B:=by
 have hl:=h.1
 rw [List.length_append,List.length_cons] at hl
 have hlt:A.length < as.length:=by omega
 refine ⟨as[A.length],_,by rw [List.getElem?_map,List.getElem?_eq_getElem hlt];rfl,rfl,h.2 A.length _ _ (List.getElem?_eq_getElem hlt) (by rw [List.getElem?_append_right (Nat.le_refl _),Nat.sub_self];rfl),by rw [List.length_drop];omega,fun i a x e1 e2=>?_⟩
 rw [List.getElem?_drop] at e1
 refine h.2 (A.length+1+i) a x e1 ?_
 rw [List.getElem?_append_right (by omega),show A.length+1+i - A.length=i+1 by omega,List.getElem?_cons_succ]
 exact e2
theorem gI.cas {L:List Dd}{e:ES}(h:gI L e):(e=.off/\∀d∈L,eV d=false)\/∃A B l r,L=A++.ring l r::B/\(∀d∈B,eV d=false)/\((e=.rung l r/\B.filter mL=[])\/∃s w,e=.told l r s w/\B.filter mL=[.rept s]/\B.any mM=w):=by
 cases e with
 | off=>exact .inl ⟨rfl,h⟩
 | rung l r=>
  obtain ⟨A,B,k,k1,k2,k3⟩:=h
  exact .inr ⟨A,B,l,r,k,k1,.inl ⟨rfl,List.filter_eq_nil_iff.mpr fun x hx=>by rw [k2 x hx];decide⟩⟩
 | told l r s w=>
  obtain ⟨A,B,k,k1,k2,k3⟩:=h
  exact .inr ⟨A,B,l,r,k,k1,.inr ⟨s,w,rfl,k2,k3⟩⟩
theorem Bt (B:List Dd):inV (.str "wind") ((B.filter fun _=>true).map fun d=>.str (t6 d))=B.any mM:=by
 unfold inV
 rw [List.filter_eq_self.mpr fun _ _=>rfl,List.any_map]
 congr 1
 funext d
 rw [zB]
 rfl
noncomputable def rD (m:Nat):Dd->Prop
 | .ring l _=>0<=l/\l < m
 | .opn l=>0<=l/\l < m
 | .sht l=>0<=l/\l < m
 | .fail l=>0<=l/\l < m
 | .rept _=>True
 | .wind c _ k=>(0<=c/\c < 2)/\(k="men"\/k="coal")
 | _=>False
def dw (H:Hp)(as:List Addr)(L:List Dd):Prop:=jZ (fun a d=>H a=some (.tup (ddV d))) as L
theorem dw.same {H H':Hp}{as:List Addr}{L:List Dd}(h:dw H as L)(s:aC H H'):dw H' as L:=h.imp fun a x q=>s _ _ q
theorem dw.at {K:JA}{H:Hp}{as:List Addr}{L:List Dd}(h:dw H as L):eF K H as L:=h.imp fun a x q=>SqT.of q
theorem u5 (lv:Int)(d:Dd):(eqL (ddV d) [V.str "fail",V.int lv]=true↔d=.fail lv)/\(ddV d=[V.str "fail",V.int lv]↔d=.fail lv):=by
 cases d<;>simp [ddV,eqL,eqV]<;>first | exact fun h=>absurd h (by decide) | exact ⟨fun h=>absurd h (by decide),fun h=>absurd h (by decide)⟩
open Classical in
theorem Gj {K:JA}{H:Hp}{as:List Addr}{L:List Dd}{a:Addr}{lv:Int}(hD:dw H as L)(ha:H a=some (.tup (ddV (.fail lv)))):∃f:Addr->Bool,(∀q∈as,(q=a->f q=true)/\∃t,SqT K H q t/\t.all a7=true/\eqL t (ddV (.fail lv))=f q)/\(as.any f=true↔Dd.fail lv∈L):=by
 refine ⟨fun q=>decide (H q=some (.tup (ddV (.fail lv)))),fun q hq=>⟨fun z=>decide_eq_true (by rw [z];exact ha),?_⟩,?_⟩
 ·obtain ⟨i,hi⟩:=List.getElem?_of_mem hq
  have hlt:=(List.getElem?_eq_some_iff.mp hi).1
  have hl:=hD.1
  obtain ⟨d,ed⟩:∃d,L[i]?=some d:=⟨_,List.getElem?_eq_getElem (by omega)⟩
  have hd:=hD.2 i q d hi ed
  refine ⟨ddV d,SqT.of hd,List.all_eq_true.mpr (qs d),?_⟩
  rw [Bool.eq_iff_iff,decide_eq_true_eq,hd]
  show eqL (ddV d) [V.str "fail",V.int lv]=true↔_
  rw [(u5 lv d).1,←(u5 lv d).2]
  exact ⟨fun z=>(by rw [z];rfl),fun z=>(by injection z with z;injection z)⟩
 ·rw [List.any_eq_true]
  constructor
  ·rintro ⟨q,hq,e⟩
   rw [decide_eq_true_eq] at e
   obtain ⟨i,hi⟩:=List.getElem?_of_mem hq
   have hlt:=(List.getElem?_eq_some_iff.mp hi).1
   have hl:=hD.1
   obtain ⟨d,ed⟩:∃d,L[i]?=some d:=⟨_,List.getElem?_eq_getElem (by omega)⟩
   have hd:=hD.2 i q d hi ed
   rw [hd] at e
   have:ddV d=[V.str "fail",V.int lv]:=by injection e with e;injection e
   rw [(u5 lv d).2] at this
   rw [←this]
   exact List.mem_of_getElem? ed
  ·intro hm
   obtain ⟨i,hi⟩:=List.getElem?_of_mem hm
   have hlt:=(List.getElem?_eq_some_iff.mp hi).1
   have hl:=hD.1
   refine ⟨as[i],List.getElem_mem (by omega),decide_eq_true (hD.2 i _ _ (List.getElem?_eq_getElem (by omega)) hi)⟩
theorem qc (w:Bool)(s r:Int):¬(if w=true then ("used up":Str) else if s=r then "armed" else "repeated otherwise")="not repeated":=by
 cases w
 ·rw [if_neg Bool.false_ne_true]
  split<;>decide
 ·rw [if_pos rfl]
  decide
inductive kG (K:JA)(Z:Adr)(vs:List V)(H:Hp)(Q:VK)(E:XK):Prop | mk (dn:Addr) (as:List Addr) (L:List Dd) (e:ES):vs=[.ref dn]->H dn=some (.lst (as.map V.ref))->eF K H as L->L.length<=1000->gI L e->(∀p H',aC H H'->SqT K H' p (esV e)->Q (.ref p) H')->kG K Z vs H Q E
include T in
theorem we:FF P w K mg base CX0 1 "_law_engine" "_law_engine" mz qK (kG K Z):=fk0 fu fun vs H Q E h=>by
 obtain ⟨dn,as,L,e,rfl,hdn,hD,hL,hE,q⟩:=h
 k_all
 refine seg 7 (ag (aA (bc (pa4 (aq au (br (pa2 ak ak)) (bB cO (by rfl) T.ki gh (pa1 (bR fD (aq au (pv' 4) af) (aq aG (pv' 2) af) (bE _))))) (aq aG (pv' 2) af) (aq aG (pv' 2) af) (aq au (pv' 4) af))))) fun zt7 zh7 ze7=>?_
 refine seg 6 (ae (aK (cw eR ak (o7 ["_law_deed_here"] [none] (de (pv' 3)) (fun _ _ _ _=>(aM (i:=0) (show (["_law_deed_here"]:List Str).Nodup by decide +kernel) rfl orL)) (fun _ _ _ _=>jb) (fun _ _ _ _=>(aq (show IxR _ (dB K) from aG) (pv' 0) af))) (by rfl)) (ag (aA (bc (pa4 ak (aq aG (pv' 2) af) (aq aG (pv' 2) af) (aq au (pv' 4) af))))) (aD)) zh7) fun zt6 zh6 ze6=>?_
 refine seg 5 (ae (aK (cw (uC hr.units0) (pv' 4) (br fA) (bE _)) (ag (aA (bc (pa4 ak (aq aG (pv' 2) af) (aq aG (pv' 2) af) i6)))) (aD)) zh6) fun zt5 zh5 ze5=>?_
 refine seg 4 (ae (AA ["_law_deed_here"] [none] (iy:=4) fu.nd rfl rfl (de (pv' 3)) (fun _ _ _ _=>(aM (i:=0) (show (["_law_deed_here"]:List Str).Nodup by decide +kernel) rfl orL)) (fun _ _ _ _=>(pW (cb (aq (show IxR _ (dB K) from aG) (pv' 0) af) ak))) (fun _ _ _ _=>(aq (show IxR _ (dB K) from aG) (pv' 0) af))) zh5) fun zt4 zh4 ze4=>?_
 refine seg 3 (ae (aJ (i:=3) fu.nd rfl orL (vm vF (pv' 0) (qC (aV bK (aq au (pv' 1) (iL dr af)) af)) BM)) zh4) fun zt3 zh3 ze3=>?_
 refine seg 2 (ae (aJ (i:=2) fu.nd rfl orL (aq au (pv' 0) (aq au (pv' 1) (iL dr af)))) zh3) fun zt2 zh2 ze2=>?_
 refine seg 1 (ae (aK (cw (uC hr.units0) (pv' 1) (br fA) (bE _)) (ag (aA (bc (pa4 ak i6 i6 i6)))) (aD)) zh2) fun zt1 zh1 ze1=>?_
 refine ⟨_,ae (AA ["_law_k","_law_done"] [none,some 0] (iy:=1) fu.nd rfl rfl (cG (by rfl) T.cP (pa1 (aF av (by rfl) T.bZ bw (pa1 (pv' 0))))) (fun _ _ _ _=>(aM (i:=0) (show (["_law_k","_law_done"]:List Str).Nodup by decide +kernel) rfl orL)) (fun _ _ _ _=>(pW (cb (aq (show IxR _ (dB K) from aG) (aq (show IxR _ (qy K) from au) (pv' 1) (pv' 0)) af) ak))) (fun _ _ _ _=>(pv' 0))) zh1,?_⟩
 have hal:=hD.1
 k_mem
 refine ⟨_,.inl (SqL.of hdn),by rw [JB,hal];omega,by rw [JB,hal];omega,?_⟩
 rw [JB,Int.toNat_natCast,hal]
 refine fC (fun i=>eV (L.getD i (.fail 0))) (fun (i:Nat)=>.int (i:Int)) (by rw [sizeLine_eq];omega) rfl (fun i hi N hN=>?_) (fun i hi _ N hN=>?_) fun p1 hp1=>?_
 ·obtain ⟨da,eda⟩:∃da,as[i]?=some da:=⟨_,List.getElem?_eq_getElem (by omega)⟩
  have ed:L[i]?=some (L.getD i (.fail 0)):=by rw [List.getD_eq_getElem?_getD,List.getElem?_eq_getElem hi];rfl
  obtain ⟨r,er⟩:=rC (L.getD i (.fail 0))
  have hT:SqT K H da (ddV (L.getD i (.fail 0))):=hD.2 i da _ eda ed
  rw [er] at hT
  k_mem
  refine ⟨_,SqL.of hdn,_,(by rw [Int.zero_add];exact ay (by rw [List.getElem?_map,eda];rfl)),?_⟩
  k_mem
  refine ⟨_,hT,_,ay (k:=0) rfl,?_⟩
  k_mem
  rw [zy] at hN
  k_upd
  split
  ·rename_i e;rw [decide_eq_true e] at hN;exact hN
  ·rename_i e;rw [decide_eq_false e] at hN;exact hN
 ·k_mem
  rw [Int.zero_add]
  exact hN
 rw [show List.map (fun (i:Nat)=>V.int (i:Int)) (List.filter (fun i=>eV (L.getD i (Dd.fail 0))) (List.range L.length))=(hG L).map V.int by unfold hG;rw [List.map_map];rfl] at *
 (generalize hE:upd H p1 _=H1 at *;have s1:=cv hE hp1;have e1:=bj hE;clear hE)
 k_mem
 refine ⟨by decide,fun p2 hp2=>?_⟩
 (generalize hE:upd H1 p2 _=H2 at *;have s2:=cv hE hp2;have e2:=bj hE;clear hE)
 k_upd
 refine ⟨_,SqL.of (s2 _ _ e1),_,SqL.of e2,by simp [a7],rfl,?_⟩
 rw [CF]
 have s12:=s1.trans s2
 rcases hE.cas with ⟨rfl,hE⟩ | ⟨A,B,l,r,rfl,k1,hE⟩
 ·rw [show decide ((hG L).map V.int=[])=true by rw [decide_eq_true_eq,List.map_eq_nil_iff];exact wc hE]
  k_mem
  refine ⟨by decide,fun p3 hp3=>?_⟩
  k_upd
  exact q p3 _ (s12.lay hp3) (SqT.of ah)
 ·obtain ⟨X,eX⟩:=sP A B l r k1
  obtain ⟨ra,asB,hra,easB,hTr,hDB⟩:=Bs hD
  rw [show decide ((hG (A++.ring l r::B)).map V.int=[])=false by rw [eX];simp]
  k_upd
  rw [if_neg (by decide)]
  rw [eX] at e1
  have hlB:B.length<=1000:=by rw [List.length_append,List.length_cons] at hL;omega
  have hlA:A.length<=1000:=by rw [List.length_append,List.length_cons] at hL;omega
  have hlas:A.length+1<=as.length:=by rw [hal,List.length_append,List.length_cons];omega
  have em1:atI ((X++[(A.length:Int)]).map V.int) (-1)=some (.int A.length):=by rw [jY (by simp)];simp [bX]
  k_mem
  refine ⟨_,SqL.of (s2 _ _ e1),_,em1,?_⟩
  k_mem
  refine ⟨_,SqL.of (s12 _ _ hdn),_,ay hra,?_⟩
  k_mem
  refine ⟨_,SqL.of (s2 _ _ e1),_,em1,?_⟩
  k_mem
  refine ⟨_,SqL.of (s12 _ _ hdn),fun p3 hp3=>?_⟩
  rw [show rX (as.map V.ref) (some ((A.length:Int)+1)) none=asB.map V.ref by rw [←easB];exact Eu as V.ref (A.length+1) hlas] at *
  (generalize hE:upd H2 p3 _=H3 at *;have s3:=cv hE hp3;have e3:=bj hE;clear hE)
  have s13:=s12.trans s3
  k_mem
  refine ⟨⟨_,SqL.of e3⟩,?_⟩
  refine wb mL DD (SqL.of e3) (hDB.same s13) hlB rfl (fun a d _ hT N hN=>?_) (fun a d _ hT hp N hN=>?_) fun p4 hp4=>?_
  ·obtain ⟨r',er⟩:=rC d
   rw [er] at hT
   k_mem
   refine ⟨_,hT,_,ay (k:=0) rfl,?_⟩
   k_mem
   rw [zz] at hN
   k_upd
   split
   ·rename_i e;rw [decide_eq_true e] at hN;exact hN
   ·rename_i e;rw [decide_eq_false e] at hN;exact hN
  ·obtain ⟨sv,rfl⟩:∃sv,d=.rept sv:=by cases d<;>first | exact ⟨_,rfl⟩ | cases hp
   k_mem
   exact ⟨_,hT,_,ay (k:=1) rfl,hN⟩
  (generalize hE:upd H3 p4 _=H4 at *;have s4:=cv hE hp4;have e4:=bj hE;clear hE)
  have s14:=s13.trans s4
  k_mem
  refine ⟨by decide,fun p5 hp5=>?_⟩
  (generalize hE:upd H4 p5 _=H5 at *;have s5:=cv hE hp5;have e5:=bj hE;clear hE)
  have s15:=s14.trans s5
  have hT5:SqT K H5 ra [.str "ring",.int l,.int r]:=s15.tup hTr
  rcases hE with ⟨rfl,k2⟩ | ⟨sv,w,rfl,k2,k3⟩
  ·rw [k2] at e4
   k_upd
   refine ⟨_,SqL.of (s5 _ _ e4),_,SqL.of e5,rfl,rfl,?_⟩
   k_mem
   rw [if_pos (show eqL ([]:List V) []=true from rfl)]
   k_upd
   exact ⟨_,hT5,_,ay (k:=1) rfl,_,hT5,_,ay (k:=2) rfl,by decide,fun p6 hp6=>q p6 _ (s15.lay hp6) (SqT.of ah)⟩
  ·rw [k2] at e4
   k_upd
   refine ⟨_,SqL.of (s5 _ _ e4),_,SqL.of e5,rfl,rfl,?_⟩
   k_mem
   rw [if_neg (show ¬eqL [DD (.rept sv)] []=true from Bool.false_ne_true)]
   k_mem
   have e4':=s5 _ _ e4
   k_upd
   refine ⟨⟨_,SqL.of ((s4.trans s5) _ _ e3)⟩,?_⟩
   refine wb (fun _=>true) (fun d=>.str (t6 d)) (SqL.of ((s4.trans s5) _ _ e3)) (hDB.same s15) hlB rfl (fun a d _ hT N hN=>?_) (fun a d _ hT hp N hN=>?_) fun p6 hp6=>?_
   ·k_mem
    exact hN
   ·obtain ⟨r',er⟩:=rC d
    rw [er] at hT
    k_mem
    exact ⟨_,hT,_,ay (k:=0) rfl,hN⟩
   (generalize hE:upd H5 p6 _=H6 at *;have s6:=cv hE hp6;have e6:=bj hE;clear hE)
   have s16:=s15.trans s6
   have e46:=s6 _ _ e4'
   have hT6:SqT K H6 ra [.str "ring",.int l,.int r]:=s16.tup hTr
   k_upd
   refine ⟨_,.inl (SqL.of e6),rfl,by simp [a7],?_⟩
   rw [Bt,k3]
   cases w with
   | true=>
    rw [if_pos rfl]
    k_upd
    exact ⟨_,hT6,_,ay (k:=1) rfl,_,hT6,_,ay (k:=2) rfl,_,SqL.of e46,_,rfl,by decide,fun p7 hp7=>q p7 _ (s16.lay hp7) (SqT.of ah)⟩
   | false=>
    rw [if_neg Bool.false_ne_true]
    k_mem
    refine ⟨by decide,fun p7 hp7=>?_⟩
    (generalize hE:upd H6 p7 _=H7 at *;have s7:=cv hE hp7;have e7:=bj hE;clear hE)
    have hT7:SqT K H7 ra [.str "ring",.int l,.int r]:=s7.tup hT6
    have e47:=s7 _ _ e46
    k_upd
    refine ⟨_,SqL.of e47,_,rfl,_,hT7,_,ay (k:=2) rfl,?_⟩
    have eb:atI [V.str "repeated otherwise",V.str "armed"] (if decide (sv=r)=true then 1 else 0)=some (.str (if false=true then "used up" else if sv=r then "armed" else "repeated otherwise")):=by
     by_cases hs:sv=r
     ·rw [decide_eq_true hs,if_pos hs];rfl
     ·rw [decide_eq_false hs,if_neg hs];rfl
    k_upd
    exact ⟨_,SqL.of e7,_,eb,_,hT7,_,ay (k:=1) rfl,_,hT7,_,ay (k:=2) rfl,_,SqL.of e47,_,rfl,by decide,fun p8 hp8=>q p8 _ ((s16.trans s7).lay hp8) (SqT.of ah)⟩
variable (cB:KD P w K mg base CX0 1 "_law_engine" (kG K Z))
inductive gJ (K:JA)(Z:Adr)(vs:List V)(H:Hp)(Q:VK)(E:XK):Prop | mk (lv m:Int):vs=[.int lv,.int m]->((0<=lv/\lv < m->Q .non H)/\(¬(0<=lv/\lv < m)->E (.ref Z.ao) none H))->gJ K Z vs H Q E
include T dP in
theorem rE:FF P w K mg base (CXf P w) 2 "check_level" "check_level" hZ lP (gJ K Z):=fkF qL fun vs H Q E h=>by
 obtain ⟨lv,m,rfl,q1,q2⟩:=h
 k_all
 refine ⟨_,ag (aK (dH (bS (dc0 dP hr.dn (pa2 (pv' 0) (pv' 1))))) (ag (bC T.rj (by rfl) T.kj (pa1 ak))) (aD)),?_⟩
 k_mem
 refine ⟨_,_,rfl,?_⟩
 k_mem
 split
 ·rename_i h
  k_upd
  exact ⟨by decide,q2 h⟩
 ·rename_i h
  k_upd
  exact q1 (by simpa using h)
variable (bI:KD P w K mg base (CXf P w) 2 "check_level" (gJ K Z))
inductive iC (K:JA)(Z:Adr)(vs:List V)(H:Hp)(Q:VK)(E:XK):Prop | mk (n m:Int):vs=[.int n,.int m]->((0<=n/\n < m->Q .non H)/\(¬(0<=n/\n < m)->E (.ref Z.bO) none H))->iC K Z vs H Q E
include T dP in
theorem sQ:FF P w K mg base (CXf P w) 2 "check_load" "check_load" je nD (iC K Z):=fkF r8 fun vs H Q E h=>by
 obtain ⟨n,m,rfl,q1,q2⟩:=h
 k_all
 refine ⟨_,ag (aK (dH (bS (dc0 dP hr.dn (pa2 (pv' 0) (pv' 1))))) (ag (bC T.sr (by rfl) T.so (pa1 ak))) (aD)),?_⟩
 k_mem
 refine ⟨_,_,rfl,?_⟩
 k_mem
 split
 ·rename_i h
  k_upd
  exact ⟨by decide,q2 h⟩
 ·rename_i h
  k_upd
  exact q1 (by simpa using h)
variable (CT:KD P w K mg base (CXf P w) 2 "check_load" (iC K Z))
def Gk (l:Addr)(m:Int)(ls:List Ld)(H:Hp)(i:Nat)(σ:St)(H':Hp):Prop:=H'=H/\(∃t u v,σ=[some (.ref l),some (.int m),t,u,v])/\∀(j:Nat) x,j < i->ls[j]?=some x->oF m x
inductive gK (K:JA)(Z:Adr)(vs:List V)(H:Hp)(Q:VK)(E:XK):Prop | mk (l:Addr) (ls:List Ld) (m:Int):vs=[.ref l,.int m]->eA K H l ls->(((ls.length<=30/\∀x∈ls,oF m x)->Q .non H))->((¬(ls.length<=30/\∀x∈ls,oF m x)->E (.ref Z.cI) none H))->gK K Z vs H Q E
include T dP in
theorem rF:FF P w K mg base (CXf P w) 2 "check_loads" "check_loads" ie lQ (gK K Z):=fkF eG fun vs H Q E h=>by
 obtain ⟨l,ls,m,rfl,hL,q1,q2⟩:=h
 k_all
 refine seg 1 (ag (dI y4 rfl (de (pv' 0)) (kX rfl (bg (aM (i:=2) eG.nd rfl orL) (bg (aM (i:=3) eG.nd rfl orL) (bg (aM (i:=4) eG.nd rfl orL) gp)))) (ag (aK (mW (dH (bS (dc0 dP hr.dn (pa2 (pv' 3) (pv' 1))))) (jR (dH (bS (dc0 dP hr.dn (pa2 (pv' 4) (pv' 1))))))).pt (ag (bC T.rn (by rfl) T.qY (pa1 ak))) (aD))))) fun zt1 zh1 ze1=>?_
 refine ⟨_,ae (aK (yC (aF av (by rfl) T.bZ bw (pa1 (pv' 0))) (dA (by rfl) T.uJ)) (ag (bC T.rn (by rfl) T.qY (pa1 ak))) (aD)) zh1,?_⟩
 obtain ⟨as,hS,hlen,hT⟩:=id hL
 k_mem
 refine ⟨_,.inl hS,?_⟩
 rw [JB]
 k_upd
 split
 ·k_upd
  exact ⟨by decide,q2 fun h=>by omega⟩
 ·k_upd
  refine ⟨⟨_,hS⟩,?_⟩
  k_upd
  refine kP (as.map V.ref) (Gk l m ls H) ⟨rfl,⟨_,_,_,rfl⟩,fun j x h=>absurd h (Nat.not_lt_zero _)⟩ (fun i σ H' _ ⟨e,_⟩=>by rw [e];exact hS) ?_ ?_
  ·rintro i x σ H' hx ⟨rfl,⟨t,u,v,rfl⟩,hj⟩
   rw [List.getElem?_map] at hx
   obtain ⟨a,ea,rfl⟩:=Option.map_eq_some_iff.mp hx
   have hi:i < as.length:=(List.getElem?_eq_some_iff.mp ea).1
   have el:ls[i]?=some ls[i]:=List.getElem?_eq_getElem (by omega)
   have hm:ls[i]∈ls:=List.getElem_mem _
   k_mem
   refine ⟨_,hT i a _ ea el,rfl,?_⟩
   k_mem
   refine ⟨_,_,rfl,?_⟩
   k_mem
   split
   ·rename_i h1
    k_upd
    exact ⟨by decide,q2 fun h=>h1 (h.2 _ hm).1⟩
   ·rename_i h1
    k_upd
    refine ⟨_,_,rfl,?_⟩
    k_mem
    split
    ·rename_i h2
     k_upd
     exact ⟨by decide,q2 fun h=>h2 (h.2 _ hm).2⟩
    ·rename_i h2
     k_upd
     refine ⟨rfl,⟨_,_,_,rfl⟩,fun j x hj' hx=>?_⟩
     by_cases e:j=i
     ·rw [e,el] at hx
      cases hx
      k_upd
      exact ⟨by omega,by omega⟩
     ·exact hj j x (by omega) hx
  ·rintro σ H' ⟨rfl,⟨t,u,v,rfl⟩,hj⟩
   k_mem
   refine q1 ⟨by omega,fun x hx=>?_⟩
   obtain ⟨j,hj1,rfl⟩:=List.getElem_of_mem hx
   rw [JB] at hj
   exact hj j _ (by omega) (List.getElem?_eq_getElem hj1)
variable (me:KD P w K mg base (CXf P w) 2 "check_loads" (gK K Z))
def Gm (l:Addr)(m:Int)(ls:List Cd)(H:Hp)(i:Nat)(σ:St)(H':Hp):Prop:=H'=H/\(∃t u,σ=[some (.ref l),some (.int m),t,u])/\∀(j:Nat) x,j < i->ls[j]?=some x->eO x
inductive gL (K:JA)(Z:Adr)(vs:List V)(H:Hp)(Q:VK)(E:XK):Prop | mk (l:Addr) (ls:List Cd) (m:Int):vs=[.ref l,.int m]->hX cdV K H l ls->((((ls.length:Int)=m/\∀x∈ls,eO x)->Q .non H))->((¬((ls.length:Int)=m/\∀x∈ls,eO x)->E (.ref Z.cJ) none H))->gL K Z vs H Q E
include T dD in
theorem rG:FF P w K mg base (CXf P w) 2 "check_codes" "check_codes" ij lS (gL K Z):=fkF gu fun vs H Q E h=>by
 obtain ⟨l,ls,m,rfl,hL,q1,q2⟩:=h
 k_all
 refine seg 1 (ag (dI y4 rfl (de (pv' 0)) (kX rfl (bg (aM (i:=2) gu.nd rfl orL) (bg (aM (i:=3) gu.nd rfl orL) gp))) (ae (aK (mW (dH (bS (dc0 dD hr.dn (pa1 (pv' 2))))) (jR (dH (bS (dc0 dD hr.dn (pa1 (pv' 3))))))).pt (ag (bC T.mF (by rfl) T.mD (pa1 ak))) (aD)) (ag (aK (cb (pv' 2) (pv' 3)) (ag (bC T.mF (by rfl) T.mD (pa1 ak))) (aD)))))) fun zt1 zh1 ze1=>?_
 refine ⟨_,ae (aK (tN (aF av (by rfl) T.bZ bw (pa1 (pv' 0))) (pv' 1)) (ag (bC T.mF (by rfl) T.mD (pa1 ak))) (aD)) zh1,?_⟩
 obtain ⟨as,hS,hlen,hT⟩:=id hL
 k_mem
 refine ⟨_,.inl hS,?_⟩
 rw [JB]
 k_upd
 split
 ·k_upd
  exact ⟨by decide,q2 fun h=>by omega⟩
 ·k_upd
  refine ⟨⟨_,hS⟩,?_⟩
  k_upd
  refine kP (as.map V.ref) (Gm l m ls H) ⟨rfl,⟨_,_,rfl⟩,fun j x h=>absurd h (Nat.not_lt_zero _)⟩ (fun i σ H' _ ⟨e,_⟩=>by rw [e];exact hS) ?_ ?_
  ·rintro i x σ H' hx ⟨rfl,⟨t,u,rfl⟩,hj⟩
   rw [List.getElem?_map] at hx
   obtain ⟨a,ea,rfl⟩:=Option.map_eq_some_iff.mp hx
   have hi:i < as.length:=(List.getElem?_eq_some_iff.mp ea).1
   have el:ls[i]?=some ls[i]:=List.getElem?_eq_getElem (by omega)
   have hm:ls[i]∈ls:=List.getElem_mem _
   k_mem
   refine ⟨_,hT i a _ ea el,rfl,?_⟩
   k_mem
   refine ⟨_,rfl,?_⟩
   k_mem
   split
   ·rename_i h1
    k_upd
    exact ⟨by decide,q2 fun h=>h1 (h.2 _ hm).1⟩
   ·rename_i h1
    k_upd
    refine ⟨_,rfl,?_⟩
    k_mem
    split
    ·rename_i h2
     k_upd
     exact ⟨by decide,q2 fun h=>h2 (h.2 _ hm).2.1⟩
    ·rename_i h2
     k_upd
     split
     ·rename_i h3
      k_upd
      exact ⟨by decide,q2 fun h=>(h.2 _ hm).2.2 h3⟩
     ·rename_i h3
      k_upd
      refine ⟨rfl,⟨_,_,rfl⟩,fun j x hj' hx=>?_⟩
      by_cases e:j=i
      ·rw [e,el] at hx
       cases hx
       k_upd
       exact ⟨by omega,by omega,h3⟩
      ·exact hj j x (by omega) hx
  ·rintro σ H' ⟨rfl,⟨t,u,rfl⟩,hj⟩
   k_mem
   refine q1 ⟨by omega,fun x hx=>?_⟩
   obtain ⟨j,hj1,rfl⟩:=List.getElem_of_mem hx
   exact hj j _ (by rw [JB];omega) (List.getElem?_eq_getElem hj1)
variable (mf:KD P w K mg base (CXf P w) 2 "check_codes" (gL K Z))
inductive fM (K:JA)(Z:Adr)(vs:List V)(H:Hp)(Q:VK)(E:XK):Prop | mk (b cs fl st:Addr) (ls:List Cd) (fs:List Bool) (e:Eng) (s:Int):vs=[.ref b,.int s]->bb Z.bh K H b cs fl st ls fs e->(((∀l r,e≠.wait l r)->E (.ref Z.aI) none H))->((∀l r,e=.wait l r->¬(1<=s/\s<=9)->E (.ref Z.bz) none H))->((∀l r,e=.wait l r->(1<=s/\s<=9)->∀st' p H',H p=none->aw b H H'->bb Z.bh K H' b cs fl st' ls fs (if s=r then .armed l r else .other l r s)->SqT K H' p [.bl (decide (s=r)),.int r,.int s]->Q (.ref p) H'))->fM K Z vs H Q E
include T dD in
theorem pR:FF P w K mg base (CXf P w) 2 "repeat" "Bells.repeat" gv j0 (fM K Z):=fkF dF fun vs H Q E h=>by
 obtain ⟨b,cs,fl,st,ls,fs,e,s,rfl,hB,q1,q2,q3⟩:=h
 k_all
 refine ⟨_,ae (aK (tN (aq aG (aB (pv' 0)) af) ak) (ag (bC T.sy (by rfl) T.l7 (pa1 ak))) (aD)) (ae (aK (dH (bS (dc0 dD hr.dn (pa1 (pv' 1))))) (ag (bC T.vR (by rfl) T.q0 (pa1 ak))) (aD)) (ae (aJ (i:=2) dF.nd rfl orL (aq aG (aB (pv' 0)) af)) (ae (aJ (i:=3) dF.nd rfl orL (aq aG (aB (pv' 0)) af)) (ae (aJ (i:=4) dF.nd rfl orL (bR fD (pv' 1) (pv' 3) (bE _))) (ae (bA (pv' 0) (bc (pa4 (vf (bS (pv' 4)) ak ak) (pv' 2) (pv' 3) (pv' 1))) rfl) (ag (aA (bc (pa3 (pv' 4) (pv' 3) (pv' 1)))))))))),?_⟩
 obtain ⟨⟨dx,hob⟩,⟨as,hcs,hT⟩,hfl,hst,nn,ln⟩:=id hB
 k_mem
 refine fgo hob T.a9 T.ba rfl ?_
 k_mem
 cases e with
 | wait l r=>
  refine ⟨_,hst,_,rfl,?_⟩
  k_mem
  refine ⟨_,rfl,?_⟩
  k_mem
  split
  ·rename_i h
   exact ⟨by decide,q2 l r rfl h⟩
  ·rename_i h
   have hs:1<=s/\s<=9:=by simpa using h
   refine fgo hob T.a9 T.ba rfl ?_
   k_mem
   refine ⟨_,hst,_,rfl,?_⟩
   k_mem
   refine fgo hob T.a9 T.ba rfl ?_
   k_mem
   refine ⟨_,hst,_,rfl,?_⟩
   k_mem
   split
   ·rename_i hr
    refine ⟨by decide,fun st' hst'=>⟨_,_,_,upo hob hst',T.a9,T.ba,by show 3 < 1000;decide,by decide,fun p hp=>?_⟩⟩
    have nsx:st'≠b:=fun z=>by rw [z,hob] at hst';cases hst'
    have hpn:=upn (aw.free (H':=upd (upd H st' (HO.tup [V.str (Str.ofString "armed"),V.int l,V.int r,V.int s])) b (HO.ins Z.bh dx (aX "state" (.ref st') [("codes",V.ref cs),("failed",V.ref fl),("state",V.ref st)]))) (p:=b) ((aw.of (aC.refl _)).put) (fun z=>by rw [z,ah] at hp;cases hp) hp)
    have k:=((aw.of ((aC.refl H).lay (o:=HO.tup [V.str (Str.ofString "armed"),V.int l,V.int r,V.int s]) hst')).put (o:=HO.ins Z.bh dx (aX "state" (.ref st') [("codes",V.ref cs),("failed",V.ref fl),("state",V.ref st)])) (p:=b))
    refine q3 l r rfl hs st' p _ hpn (k.trans (aw.of ((aC.refl _).lay hp))) ?_ (SqT.of ?_)
    ·refine (hB.state k (dx:=dx) (by rw [ah];rfl) (SqT.of (xs:=pI (if s=r then .armed l r else .other l r s)) ?_)).same ((aC.refl _).lay hp)
     rw [aE nsx,ah,if_pos hr,hr];rfl
    ·rw [ah]
   ·rename_i hr
    refine ⟨by decide,fun st' hst'=>⟨_,_,_,upo hob hst',T.a9,T.ba,by show 3 < 1000;decide,by decide,fun p hp=>?_⟩⟩
    have nsx:st'≠b:=fun z=>by rw [z,hob] at hst';cases hst'
    have hpn:=upn (aw.free (H':=upd (upd H st' (HO.tup [V.str (Str.ofString "repeated otherwise"),V.int l,V.int r,V.int s])) b (HO.ins Z.bh dx (aX "state" (.ref st') [("codes",V.ref cs),("failed",V.ref fl),("state",V.ref st)]))) (p:=b) ((aw.of (aC.refl _)).put) (fun z=>by rw [z,ah] at hp;cases hp) hp)
    have k:=((aw.of ((aC.refl H).lay (o:=HO.tup [V.str (Str.ofString "repeated otherwise"),V.int l,V.int r,V.int s]) hst')).put (o:=HO.ins Z.bh dx (aX "state" (.ref st') [("codes",V.ref cs),("failed",V.ref fl),("state",V.ref st)])) (p:=b))
    refine q3 l r rfl hs st' p _ hpn (k.trans (aw.of ((aC.refl _).lay hp))) ?_ (SqT.of ?_)
    ·refine (hB.state k (dx:=dx) (by rw [ah];rfl) (SqT.of (xs:=pI (if s=r then .armed l r else .other l r s)) ?_)).same ((aC.refl _).lay hp)
     rw [aE nsx,ah,if_neg hr];rfl
    ·rw [ah]
 | _=>
  refine ⟨_,hst,_,rfl,?_⟩
  k_mem
  first
  | rw [if_pos (by decide)]
  | skip
  exact ⟨by decide,q1 fun l r z=>Eng.noConfusion z⟩
variable (kH:KM P w K mg base (CXf P w) 2 Z.bh "repeat" (fM K Z))
inductive gM (K:JA)(Z:Adr)(vs:List V)(H:Hp)(Q:VK)(E:XK):Prop | mk (a:Addr) (ds:List Int) (p:Int):vs=[.ref a,.int p]->SqL K H a (ds.map V.int)->0 < ds.length->Q (.int (bX ds - p)) H->gM K Z vs H Q E
include T og in
theorem rH:FF P w K mg base CX0 2 "other_place" "other_place" ik lT (gM K Z):=fk0 qN fun vs H Q E h=>by
 obtain ⟨a,ds,p,rfl,hS,hl,q⟩:=h
 k_all
 refine ⟨_,ag (aA (aV cC (dc0 og hr.dn (pa1 (pv' 0))) (pv' 1))),?_⟩
 k_mem
 refine ⟨a,ds,rfl,hS,hl,?_⟩
 k_mem
 exact q
variable (cU:KD P w K mg base CX0 2 "other_place" (gM K Z))
inductive iD (K:JA)(Z:Adr)(vs:List V)(H:Hp)(Q:VK)(E:XK):Prop | mk (bk rl dd s:Addr) (g:Cfg) (n0 n:aY) (rs:List Row) (tk sp:Int) (dv:List V):vs=[.ref bk,.ref dd,.int tk,.int sp,.ref s]->BAt (clZ Z) K H bk rl g n0 rs->SqT K H dd dv->cW (clZ Z) K H rl g s n->((300<=rs.length->E (.ref Z.cx) none H))->((rs.length < 300->∀H',aw rl H H'->BAt (clZ Z) K H' bk rl g n0 (rs++[⟨jO rs,jO rs+tk,dv,sp,n⟩])->Q .non H'))->iD K Z vs H Q E
include T jC in
theorem sR:FF P w K mg base (CXf P w) 2 "write" "Book.write" jl nK (iD K Z):=fkF l3 fun vs H Q E h=>by
 obtain ⟨bk,rl,dd,s0,g,n0,n,rs,tk,sp,dv,rfl,hB,hD,hS,q1,q2⟩:=h
 k_all
 refine seg 2 (ag (bD (mZ PySem.F.plainAttrs_list PySem.F.slot_list_append PySem.F.type_list_append gn (aB (pv' 0)) (pa1 (bc (fV (pv' 5) (pa4 (aV bK (pv' 5) (pv' 2)) (pv' 1) (pv' 3) (pv' 4)))))))) fun zt2 zh2 ze2=>?_
 refine seg 1 (ae (aJ (i:=5) l3.nd rfl orL (fW (pv' 0) jC hr.dn bY)) zh2) fun zt1 zh1 ze1=>?_
 refine ⟨_,ae (aK (Dw (aF av (by rfl) T.bZ bw (pa1 (aB (pv' 0)))) (aB (pv' 0))) (ag (bC T.xH (by rfl) T.xy (pa1 ak))) (aD)) zh1,?_⟩
 obtain ⟨⟨dx,f0,hob,hF⟩,as,hrl,hR⟩:=id hB
 have hl:=hR.1
 k_mem
 refine fgo hob T.cQ T.bM rfl ?_
 k_mem
 refine ⟨_,.inl (SqL.of hrl),_,_,_,hob,T.cQ,T.nV,_,rfl,?_⟩
 k_mem
 rw [JB]
 k_upd
 split
 ·k_upd
  exact ⟨by decide,q1 (by omega)⟩
 ·rename_i hlt
  k_upd
  refine mgo hob rfl ⟨_,_,_,_,_,rfl,hB,?_⟩
  k_mem
  refine fgo hob T.cQ T.bM rfl ?_
  k_mem
  refine ⟨.inl ⟨rfl,_,SqL.of hrl⟩,by decide,fun p hp=>⟨_,upo hrl hp,dX (by rw [JB];omega),?_⟩⟩
  have s1:=(aC.refl H).lay (o:=HO.tup [V.int (jO rs),V.int (jO rs+tk),V.ref dd,V.int sp,V.ref s0]) hp
  have hrl1:=upo (o:=HO.tup [V.int (jO rs),V.int (jO rs+tk),V.ref dd,V.int sp,V.ref s0]) hrl hp
  have k1:L2.aw rl H (upd (upd H p (HO.tup [V.int (jO rs),V.int (jO rs+tk),V.ref dd,V.int sp,V.ref s0])) rl (HO.lst (as.map V.ref++[V.ref p]))):=(aw.of s1).put
  refine q2 (by omega) _ k1 ⟨⟨dx,f0,k1 _ _ (fun z=>by rw [z,hrl] at hob;cases hob) hob,hF.keep k1 hrl⟩,as++[p],by rw [ah,List.map_append];rfl,?_⟩
  exact (hR.keep k1 hrl).push ⟨dd,s0,(SqT.of ah).rew hrl1,hD.keep k1 hrl,hS.keep k1 hrl⟩
variable (oi:KM P w K mg base (CXf P w) 2 Z.mB "write" (iD K Z))
inductive dR (K:JA)(Z:Adr)(vs:List V)(H:Hp)(Q:VK)(E:XK):Prop | mk (w bk rl:Addr) (g:Cfg) (n0:aY) (rs:List Row):vs=[.ref w]->WAt (clZ Z) K H w bk rl g n0 rs->((rs=[]->E (.ref Z.bF) none H))->((∀rs' r,rs=rs'++[r]->∀p H',aw rl H H'->WAt (clZ Z) K H' w bk rl g n0 rs'->SqT K H' p r.deed->Q (.ref p) H'))->dR K Z vs H Q E
include T md in
theorem mO:FF P w K mg base (CXf P w) 2 "take_back" "Works.take_back" eL g0 (dR K Z):=fkF mw fun vs H Q E h=>by
 obtain ⟨w,bk,rl,g,n0,rs,rfl,hW,q1,q2⟩:=h
 k_all
 refine ⟨_,ag (aA (fW (aB (pv' 0)) md hr.dn cV)),?_⟩
 obtain ⟨⟨dx,dl,gl,hob,hdl,hgl,n1,n2⟩,hB⟩:=id hW
 obtain ⟨⟨db,f0,hbo,hF⟩,as,hrl,hR⟩:=id hB
 k_mem
 refine fgo hob T.bt T.bN rfl ?_
 k_mem
 exact mgo hbo rfl ⟨_,_,_,_,_,rfl,hB,q1,fun rs2 r e p H' k hB2 hp=>q2 rs2 r e p H' k (hW.keep k hrl hB2) hp⟩
variable (cX:KM P w K mg base (CXf P w) 2 Z.bp "take_back" (dR K Z))
inductive dz (K:JA)(Z:Adr)(vs:List V)(H:Hp)(Q:VK)(E:XK):Prop | mk (w bk rl:Addr) (g:Cfg) (n0:aY) (rs:List Row) (s:Addr) (n:aY):vs=[.ref w,.ref s]->WAt (clZ Z) K H w bk rl g n0 rs->cW (clZ Z) K H rl g s n->g.ks.length=n.ws.length->(∀H',aC H H'->Q (.int (eP g n)) H')->dz K Z vs H Q E
include T g9 in
theorem lM:FF P w K mg base CX0 2 "speed_with" "Works.speed_with" dN gq (dz K Z):=fk0 lq fun vs H Q E h=>by
 obtain ⟨w,bk,rl,g,n0,rs,s0,n,rfl,hW,hS,hl,q⟩:=h
 k_all
 refine ⟨_,ag (aA (vf (bS (fW (aB (pv' 1)) g9 hr.dn bY)) (aB (pv' 0)) (aB (pv' 0)))),?_⟩
 obtain ⟨⟨dx,dl,gl,hob,hdl,hgl,n1,n2⟩,hB⟩:=id hW
 obtain ⟨⟨db,f0,hbo,hF⟩,as,hrl,hR⟩:=id hB
 k_mem
 obtain ⟨A,hA⟩:=id hS
 k_upd
 refine fgo hA.ob T.aO T.eT rfl ?_
 k_mem
 obtain ⟨dy,hyb⟩:=hA.ya.ob
 k_upd
 refine ⟨_,_,hyb,rfl,_,_,_,_,_,_,rfl,hA.ya,hl,fun H' s1=>?_⟩
 k_mem
 have q':=q H' s1
 unfold eP at q'
 k_upd
 split
 ·rename_i h
  k_upd
  rw [if_pos h] at q'
  k_upd
  exact fgo (s1 _ _ hob) T.bt T.l9 rfl q'
 ·rename_i h
  k_upd
  rw [if_neg h] at q'
  k_upd
  exact fgo (s1 _ _ hob) T.bt T.ma rfl q'
variable (cR:KM P w K mg base CX0 2 Z.bp "speed_with" (dz K Z))
inductive jE (K:JA)(Z:Adr)(vs:List V)(H:Hp)(Q:VK)(E:XK):Prop | mk (w bk rl:Addr) (g:Cfg) (n0:aY) (rs:List Row):vs=[.ref w]->WAt (clZ Z) K H w bk rl g n0 rs->Q (.int (jO rs)) H->jE K Z vs H Q E
include T jC in
theorem u6:FF P w K mg base CX0 2 "now" "Works.now" kb pw (jE K Z):=fk0 uF fun vs H Q E h=>by
 obtain ⟨w,bk,rl,g,n0,rs,rfl,hW,q⟩:=h
 k_all
 refine ⟨_,ag (aA (fW (aB (pv' 0)) jC hr.dn bY)),?_⟩
 obtain ⟨⟨dx,dl,gl,hob,hdl,hgl,n1,n2⟩,hB⟩:=id hW
 obtain ⟨⟨db,f0,hbo,hF⟩,as,hrl,hR⟩:=id hB
 k_mem
 refine fgo hob T.bt T.bN rfl ?_
 k_mem
 exact mgo hbo rfl ⟨_,_,_,_,_,rfl,hB,q⟩
variable (pC:KM P w K mg base CX0 2 Z.bp "now" (jE K Z))
inductive fN (K:JA)(Z:Adr)(vs:List V)(H:Hp)(Q:VK)(E:XK):Prop | mk (w bk rl:Addr) (g:Cfg) (n0:aY) (rs:List Row):vs=[.ref w]->WAt (clZ Z) K H w bk rl g n0 rs->(∀st,SqT K H st (pI (aH n0 rs).e)->Q (.ref st) H)->fN K Z vs H Q E
include T kA a6 in
theorem pS:FF P w K mg base CX0 2 "engine" "Works.engine" gB j6 (fN K Z):=fk0 pL fun vs H Q E h=>by
 obtain ⟨w,bk,rl,g,n0,rs,rfl,hW,q⟩:=h
 k_all
 refine ⟨_,ag (aA (fW (aB (fW (aB (pv' 0)) a6 hr.dn bY)) kA hr.dn bY)),?_⟩
 obtain ⟨⟨dx,dl,gl,hob,hdl,hgl,n1,n2⟩,hB⟩:=id hW
 obtain ⟨⟨db,f0,hbo,hF⟩,as,hrl,hR⟩:=id hB
 k_mem
 refine fgo hob T.bt T.bN rfl ?_
 k_mem
 refine mgo hbo rfl ⟨_,_,_,_,_,rfl,hB,fun s0 ⟨A,hA⟩=>?_⟩
 k_mem
 refine fgo hA.ob T.aO T.bL rfl ?_
 k_mem
 obtain ⟨db2,hbb⟩:=hA.be.ob
 k_upd
 exact mgo hbb rfl ⟨_,_,_,_,_,_,_,rfl,hA.be,q _ hA.be.os⟩
variable (dh:KM P w K mg base CX0 2 Z.bp "engine" (fN K Z))
def zC (c r0 sh:Int)(l:Addr)(H:Hp)(i:Nat)(σ:St)(H':Hp):Prop:=∃(ds:List Int) (last:Int) (t u:Option V),σ=[some (.int c),some (.int (2+r0)),some (.int sh),none,some (.ref l),some (.int last),t,u]/\jc ds last/\last<=500 - (2+r0)+i/\ds.length=i/\H'=upd H l (.lst (ds.map V.int))
inductive kI (K:JA)(Z:Adr)(vs:List V)(H:Hp)(Q:VK)(E:XK):Prop | mk (c:Int):vs=[.int c]->(∀(l:Addr) (ds:List Int) (H':Hp),H l=none->aC H H'->H' l=some (.lst (ds.map V.int))->cq ds->Q (.ref l) H')->kI K Z vs H Q E
include T cA in
theorem wg:FF P w K mg base CX0 2 "_law_depths" "_law_depths" my qJ (kI K Z):=fk0 cj fun vs H Q E h=>by
 obtain ⟨c,rfl,q⟩:=h
 k_all
 refine ⟨_,ae (aJ (i:=1) cj.nd rfl orL (aV bK af (dc0 cA hr.dn (pa3 (pv' 0) af af)))) (ae (aJ (i:=2) cj.nd rfl orL (dc0 cA hr.dn (pa3 (pv' 0) af af))) (ae (aK (cb (pv' 2) af) (ae (aJ (i:=3) cj.nd rfl (Or.inr rfl) (aV bK af (dc0 cA hr.dn (pa3 (pv' 0) af af)))) (ag (aA (o7 ["_law_k","_law_gap"] [none,some 3] (cG (by rfl) T.cP (pa1 (pv' 1))) (fun _ _ _ _=>(aM (i:=0) (show (["_law_k","_law_gap"]:List Str).Nodup by decide +kernel) rfl orL)) (fun _ _ _ _=>jb) (fun _ _ _ _=>(aV uA (pv' 1) (pv' 0))))))) (aD)) (ae (aJ (i:=4) cj.nd rfl orL (br fA)) (ae (aJ (i:=5) cj.nd rfl orL (iL dr af)) (ae (dI PassesOwn.never rfl (cG (by rfl) T.cP (pa1 (pv' 1))) (aM (i:=6) cj.nd rfl orL) (ae (aJ (i:=7) cj.nd rfl orL (aV cC (aV bK (aV cC af (pv' 1)) (pv' 6)) (pv' 5))) (ae (aK (cb (pv' 2) af) (ag (aJ (i:=7) cj.nd rfl orL (aF (mj rfl) (by rfl) T.Bn w9 (pa2 (pv' 7) af)))) (aD)) (ae (aJ (i:=5) cj.nd rfl orL (aV bK (aV bK (pv' 5) af) (dc0 cA hr.dn (pa3 (pv' 0) (aV bK af (pv' 6)) (pv' 7))))) (ag (bD (mZ PySem.F.plainAttrs_list PySem.F.slot_list_append PySem.F.type_list_append gn (pv' 4) (pa1 (pv' 5))))))))) (ae (aK (i7 (cb (pv' 2) af) (fU (cb (dc0 cA hr.dn (pa3 (pv' 0) af af)) af))).pt (ag (aA (aV uB (aV uB (br (pa1 af)) (vm vF (pv' 4) (qC af) (qC (iL dr af)))) (br (pa1 af))))) (aD)) (ag (aA (pv' 4))))))))),?_⟩
 k_mem
 refine ⟨c,0,5,rfl,by omega,by omega,by omega,fun r0 h0 h0'=>?_⟩
 k_mem
 refine ⟨c,1,4,rfl,by omega,by omega,by omega,fun sh h1 h1'=>?_⟩
 k_mem
 split
 ·refine ⟨c,2,100,rfl,by omega,by omega,by omega,fun r2 h2 h2'=>?_⟩
  k_mem
  refine ⟨by omega,by omega,uo (fun i=>V.int ((1+r2) * (i:Int))) (Nat.le_trans (by omega:(2+r0).toNat<=1000) (by decide)) rfl (fun i hi N q=>?_) (fun p hp=>?_)⟩
  ·k_mem
   rw [Int.zero_add]
   exact ⟨.inl ⟨by omega,by omega⟩,q⟩
  ·refine q p ((List.range (2+r0).toNat).map fun (i:Nat)=>(1+r2) * (i:Int)) _ hp (fun b o e=>?_) ?_ (cq.even (by omega) (by omega) (by omega) (by omega))
   ·rw [aE (ai e hp)];exact e
   ·rw [ah,List.map_map];rfl
 ·refine ⟨by decide,fun l hln=>⟨by omega,by omega,cN (zC c r0 sh l H) ⟨[],-1,_,_,rfl,jc.nil,by omega,rfl,rfl⟩ ?_ ?_⟩⟩
  ·rintro i σ H' hi ⟨ds,last,t,u,rfl,hR,hla,hlen,rfl⟩
   have l0:=hR.l0
   k_mem
   split
   all_goals
    refine ⟨c,_,_,rfl,by omega,by omega,by (try split)<;>omega,fun r hr0 hr1=>?_⟩
    k_mem
    refine ⟨.inl ⟨rfl,_,SqL.of ah⟩,_,ah,dX (by rw [JB];omega),ds++[last+1+r],last+1+r,_,_,rfl,hR.snoc hr0,?_,by rw [List.length_append,hlen];rfl,?_⟩
    ·(try split at hr1)<;>omega
    ·rw [By,List.map_append];rfl
  ·rintro σ H' ⟨ds,last,t,u,rfl,hR,hla,hlen,rfl⟩
   have hsh:=hR.shaft (by omega) (by omega) (by omega)
   have hQ0:Q (V.ref l) (upd H l (HO.lst (List.map V.int ds))):=q l ds _ hln ((aC.refl H).lay hln) ah hsh
   k_mem
   split
   ·refine ⟨c,8,4,rfl,by omega,by omega,by omega,fun r hr0 hr1=>?_⟩
    k_mem
    split
    ·refine ⟨by decide,fun p1 hp1=>⟨_,SqL.of (upo ah hp1),fun p2 hp2=>⟨_,upo ah hp2,_,ah,?_,fun p3 hp3=>⟨by decide,fun p4 hp4=>⟨_,upo ah hp4,_,ah,?_,fun p5 hp5=>?_⟩⟩⟩⟩⟩
     ·have:=jT (List.map V.int ds) (some 1) (some (-1))
      rw [JB] at this
      exact Nat.le_of_lt (dX (by rw [List.length_singleton];omega))
     ·have:=jT (List.map V.int ds) (some 1) (some (-1))
      rw [JB] at this
      exact Nat.le_of_lt (dX (by rw [List.length_append,List.length_singleton,List.length_singleton];omega))
     ·refine q p5 ([0]++(ds.drop 1).take (ds.length - 1 - 1)++[500]) _ (upn (upn (upn (upn (upn hp5))))) ((((((aC.refl H).lay hln).lay hp1).lay hp2).lay hp3).lay hp4 |>.lay hp5) ?_ hsh.ends
      rw [ah,Am ds hsh.l2,List.map_append,List.map_append]
      rfl
    ·exact hQ0
   ·exact hQ0
variable (rJ:KD P w K mg base CX0 2 "_law_depths" (kI K Z))
def Bu (K:JA)(c m:Int)(l:Addr)(H:Hp)(i:Nat)(σ:St)(H':Hp):Prop:=aC H H'/\∃(as:List Addr) (ls:List Cd) (t u:Option V),σ=[some (.int c),some (.int m),some (.ref l),t,u]/\H' l=some (.lst (as.map V.ref))/\bP cdV K H' as ls/\ls.length=i/\∀x∈ls,eO x
inductive mP (K:JA)(Z:Adr)(vs:List V)(H:Hp)(Q:VK)(E:XK):Prop | mk (c m:Int):vs=[.int c,.int m]->0<=m->m<=500->(∀(l:Addr) (as:List Addr) (ls:List Cd) (H':Hp),H l=none->aC H H'->H' l=some (.lst (as.map V.ref))->bP cdV K H' as ls->(ls.length:Int)=m->(∀x∈ls,eO x)->Q (.ref l) H')->mP K Z vs H Q E
include T cA in
theorem xN:FF P w K mg base CX0 2 "_law_codes" "_law_codes" oR tP (mP K Z):=fk0 jr fun vs H Q E h=>by
 obtain ⟨c,m,rfl,h0,h1,q⟩:=h
 k_all
 refine ⟨_,ae (aJ (i:=2) jr.nd rfl orL (br fA)) (ae (dI PassesOwn.never rfl (cG (by rfl) T.cP (pa1 (pv' 1))) (aM (i:=3) jr.nd rfl orL) (ae (aJ (i:=4) jr.nd rfl orL (aV bK af (dc0 cA hr.dn (pa3 (pv' 0) (vG af (pv' 3)) af)))) (ag (bD (mZ PySem.F.plainAttrs_list PySem.F.slot_list_append PySem.F.type_list_append gn (pv' 2) (pa1 (bc (pa2 (pv' 4) (aV bK af (bf (aV bK (pv' 4) (dc0 cA hr.dn (pa3 (pv' 0) (aV bK (vG af (pv' 3)) af) af))) af)))))))))) (ag (aA (pv' 2)))),?_⟩
 k_mem
 refine ⟨by decide,fun l hl=>⟨by omega,by omega,?_⟩⟩
 refine cN (Bu K c m l H) ⟨(aC.refl H).lay hl,[],[],_,_,rfl,ah,bP.nil,rfl,fun x hx=>by cases hx⟩ ?_ ?_
 ·rintro i σ H' hi ⟨s1,as,ls,t,u,rfl,hl',hT,hlen,hg⟩
  k_mem
  refine ⟨c,2 * (0 + ↑i),9,rfl,by omega,by omega,by omega,fun r1 h2 h3=>?_⟩
  k_mem
  refine ⟨.inl ⟨rfl,_,SqL.of hl'⟩,c,2 * (0 + ↑i)+1,8,rfl,by omega,by omega,by omega,fun r2 h4 h5=>?_⟩
  k_mem
  refine ⟨by decide,fun p2 hp2=>⟨_,upo hl' hp2,dX (by rw [JB,hT.1];omega),?_⟩⟩
  have hl2:=upo (o:=HO.tup [V.int (1+r1),V.int (1+(1+r1+r2) % 9)]) hl' hp2
  refine ⟨(s1.lay hp2).rewr hl,as++[p2],ls++[(1+r1,1+(1+r1+r2) % 9)],_,_,rfl,?_,?_,by rw [List.length_append,hlen];rfl,?_⟩
  ·rw [ah,List.map_append];rfl
  ·exact ((hT.same ((aC.refl H').lay hp2)).app (bP.one (SqT.of ah))).rew hl2
  ·intro x hx
   rcases List.mem_append.mp hx with hx | hx
   ·exact hg x hx
   ·rw [List.mem_singleton] at hx
    subst hx
    refine ⟨⟨?_,?_⟩,⟨?_,?_⟩,?_⟩
    ·show 1<=1+r1;omega
    ·show 1+r1<=9;omega
    ·show 1<=1+(1+r1+r2) % 9;omega
    ·show 1+(1+r1+r2) % 9<=9;omega
    ·show 1+r1≠1+(1+r1+r2) % 9;omega
 ·rintro σ H' ⟨s1,as,ls,t,u,rfl,hl',hT,hlen,hg⟩
  k_mem
  exact q l as ls H' hl s1 hl' hT (by omega) hg
variable (ua:KD P w K mg base CX0 2 "_law_codes" (mP K Z))
noncomputable def pT:Eng->ES
 | .no=>.off
 | .wait l r=>.rung l r
 | .armed l r=>.told l r r false
 | .other l r s=>.told l r s false
 | .used l r=>.told l r r true
structure M33 (g:Cfg)(n:aY)(L:List Dd):Prop where
 pl:n.place=jD g.ds L
 ga:∀i:Nat,i < g.ds.length->n.gates.getD i false=fv (i:Int) L
 fl:∀i:Nat,i < g.ds.length->(n.fs.getD i false=true↔Dd.fail (i:Int)∈L)
 en:gI L (pT n.e)
 ot:∀l r s,n.e=.other l r s->s≠r
 ok:okL g.ds.length L
theorem gI.thing {L:List Dd}{e:ES}{d:Dd}(h:gI L e)(h1:eV d=false)(h2:mL d=false)(h3:mM d=false):gI (L++[d]) e:=by
 cases e with
 | off=>
  intro x hx
  rw [List.mem_append,List.mem_singleton] at hx
  rcases hx with hx | rfl
  ·exact h x hx
  ·exact h1
 | rung l r=>
  obtain ⟨A,B,rfl,k1,k2,k3⟩:=h
  refine ⟨A,B++[d],by rw [List.append_assoc,List.cons_append],?_,?_,?_⟩<;>intro x hx<;>rw [List.mem_append,List.mem_singleton] at hx<;>rcases hx with hx | rfl
  ·exact k1 x hx
  ·exact h1
  ·exact k2 x hx
  ·exact h2
  ·exact k3 x hx
  ·exact h3
 | told l r s w=>
  obtain ⟨A,B,rfl,k1,k2,k3⟩:=h
  refine ⟨A,B++[d],by rw [List.append_assoc,List.cons_append],?_,?_,?_⟩
  ·intro x hx
   rw [List.mem_append,List.mem_singleton] at hx
   rcases hx with hx | rfl
   ·exact k1 x hx
   ·exact h1
  ·rw [List.filter_append,k2,List.filter_cons,if_neg (by rw [h2];decide)];rfl
  ·rw [List.any_append,k3,List.any_cons,h3];simp
theorem gI.rept {L:List Dd}{l r:Int}(s:Int)(h:gI L (.rung l r)):gI (L++[.rept s]) (.told l r s false):=by
 obtain ⟨A,B,rfl,k1,k2,k3⟩:=h
 refine ⟨A,B++[.rept s],by rw [List.append_assoc,List.cons_append],?_,?_,?_⟩
 ·intro x hx
  rw [List.mem_append,List.mem_singleton] at hx
  rcases hx with hx | rfl
  ·exact k1 x hx
  ·rfl
 ·rw [List.filter_append,List.filter_eq_nil_iff.mpr fun x hx=>by rw [k2 x hx];decide];rfl
 ·rw [List.any_append,List.any_eq_false.mpr fun x hx=>by rw [k3 x hx];decide];rfl
theorem gI.wind {L:List Dd}{l r s c l':Int}{w:Bool}{k:Str}(h:gI L (.told l r s w)):gI (L++[.wind c l' k]) (.told l r s true):=by
 obtain ⟨A,B,rfl,k1,k2,k3⟩:=h
 refine ⟨A,B++[.wind c l' k],by rw [List.append_assoc,List.cons_append],?_,?_,?_⟩
 ·intro x hx
  rw [List.mem_append,List.mem_singleton] at hx
  rcases hx with hx | rfl
  ·exact k1 x hx
  ·rfl
 ·rw [List.filter_append,k2];rfl
 ·rw [List.any_append];simp [mM]
noncomputable def rwW:Option Rw->Str
 | none=>""
 | some .lv=>"UnknownLevel"
 | some .go=>"GateOpen"
 | some .na=>"NotArmed"
 | some .nr=>"NothingRung"
 | some .nc=>"NoCode"
 | some .db=>"DeadBell"
 | some .ch=>"NoChange"
 | _=>"?"
theorem M33.zero {g:Cfg}{n:aY}(h1:n.place=g.ds.getD 0 0)(h2:∀i:Nat,n.gates.getD i false=false)(h3:∀i:Nat,n.fs.getD i false=false)(h4:n.e=.no):M33 g n []:=
 ⟨h1,fun i _=>h2 i,fun i _=>by rw [h3 i];simp,(by rw [h4];exact fun x hx=>nomatch hx),fun l r s e=>(by rw [h4] at e;cases e),fun x hx=>nomatch hx⟩
theorem M33.next {g:Cfg}{n:aY}{L:List Dd}{d:Dd}(h:M33 g n L)(hn:c5 g n)(ok:zl d)(hr:dq g n d=none)(hnd:(∀k c,d≠.load k c)/\∀c,d≠.unload c):M33 g (cu g n d) (L++[d]):=by
 have gl:=hn.gl
 have fll:=hn.fl
 have okn:okL g.ds.length (L++[d]):=fun x hx=>by
  rw [List.mem_append,List.mem_singleton] at hx
  rcases hx with hx | rfl
  ·exact h.ok x hx
  ·refine ⟨ok,fun c l k e=>?_⟩
   subst e
   exact (qt hr).1
 have fnot:(∀l,d≠.fail l)->∀i:Nat,(Dd.fail (i:Int)∈L++[d]↔Dd.fail (i:Int)∈L):=fun z i=>by
  rw [List.mem_append,List.mem_singleton]
  exact ⟨fun y=>y.elim id fun y=>absurd y.symm (z _),.inl⟩
 cases d with
 | ring l s=>exact ⟨by rw [cK];exact h.pl,fun i hi=>by rw [df];exact h.ga i hi,fun i hi=>by rw [fnot (fun l e=>by cases e)];exact h.fl i hi,⟨L,[],rfl,fun x hx=>(nomatch hx),fun x hx=>(nomatch hx),fun x hx=>(nomatch hx)⟩,fun _ _ _ e=>(by cases e),okn⟩
 | rept s=>
  obtain ⟨l,r,e0,_⟩:=vC hr
  have en:=h.en
  rw [e0] at en
  refine ⟨by rw [cK];exact h.pl,fun i hi=>by rw [df];exact h.ga i hi,fun i hi=>by rw [fnot (fun l e=>by cases e)];exact h.fl i hi,?_,?_,okn⟩
  ·have:=gI.rept s en
   simp only [cu,uw,e0]
   split
   ·rename_i e;subst e;exact this
   ·exact this
  ·intro l' r' s' e
   simp only [cu,uw,e0] at e
   split at e
   ·cases e
   ·cases e;assumption
 | opn l=>
  obtain ⟨h1,_⟩:=BX hr
  refine ⟨by rw [cK];exact h.pl,fun i hi=>?_,fun i hi=>by rw [fnot (fun l e=>by cases e)];exact h.fl i hi,h.en.thing rfl rfl rfl,h.ot,okn⟩
  rw [df]
  show (n.gates.set l.toNat true).getD i false=_
  rw [oI,h.ga i hi]
  by_cases e:l=(i:Int)
  ·rw [if_pos ⟨by omega,by omega⟩];simp [e]
  ·rw [if_neg (by omega)];simp [e]
 | sht l=>
  obtain ⟨h1,_⟩:=BY hr
  refine ⟨by rw [cK];exact h.pl,fun i hi=>?_,fun i hi=>by rw [fnot (fun l e=>by cases e)];exact h.fl i hi,h.en.thing rfl rfl rfl,h.ot,okn⟩
  rw [df]
  show (n.gates.set l.toNat false).getD i false=_
  rw [oI,h.ga i hi]
  by_cases e:l=(i:Int)
  ·rw [if_pos ⟨by omega,by omega⟩];simp [e]
  ·rw [if_neg (by omega)];simp [e]
 | load k c=>exact absurd rfl (hnd.1 k c)
 | unload c=>exact absurd rfl (hnd.2 c)
 | wind c l k=>
  obtain ⟨h1,_,e0⟩:=qt hr
  have en:=h.en
  rw [e0] at en
  exact ⟨by rw [cK];rfl,fun i hi=>by rw [df];exact h.ga i hi,fun i hi=>by rw [fnot (fun l e=>by cases e)];exact h.fl i hi,gI.wind en,fun _ _ _ e=>(by cases e),okn⟩
 | fail l=>
  obtain ⟨h1,_⟩:=AE hr
  refine ⟨by rw [cK];exact h.pl,fun i hi=>by rw [df];exact h.ga i hi,fun i hi=>?_,h.en.thing rfl rfl rfl,h.ot,okn⟩
  show (n.fs.set l.toNat true).getD i false=true↔_
  rw [oI,List.mem_append,List.mem_singleton]
  by_cases e:l=(i:Int)
  ·rw [if_pos ⟨by omega,by omega⟩];simp [e]
  ·rw [if_neg (by omega),h.fl i hi]
   exact ⟨.inl,fun y=>y.elim id fun y=>absurd (by cases y;rfl) e⟩
theorem rK {g:Cfg}{n:aY}:eQ g n=true↔∃i:Nat,i < g.ds.length/\(g.ds.getD i 0=n.place\/g.ds.getD i 0=bX g.ds - n.place)/\n.gates.getD i false=true:=by
 unfold eQ gU
 rw [List.any_eq_true]
 constructor
 ·rintro ⟨x,hx,hg⟩
  obtain ⟨i,hi,rfl⟩:=List.mem_map.mp hx
  rw [List.mem_filter,List.mem_range,decide_eq_true_eq] at hi
  rw [Int.toNat_natCast] at hg
  exact ⟨i,hi.1,hi.2,hg⟩
 ·rintro ⟨i,h1,h2,h3⟩
  exact ⟨(i:Int),List.mem_map.mpr ⟨i,by rw [List.mem_filter,List.mem_range,decide_eq_true_eq];exact ⟨h1,h2⟩,rfl⟩,by rw [Int.toNat_natCast];exact h3⟩
theorem E7 {e:Eng}{l c:Int}(h:∀l r s,e=.other l r s->s≠r):eqL (esV (pT e)) [.str "armed",.int l,.int c,.int c]=decide (e=.armed l c):=by
 cases e with
 | no=>rfl
 | wait l' r=>rfl
 | armed l' r=>
  rw [Bool.eq_iff_iff]
  simp [pT,esV,eqL,eqV]
 | other l' r s=>
  have:=h l' r s rfl
  simp [pT,esV,eqL,eqV,this]
  exact fun z=>absurd z (by decide)
 | used l' r=>
  simp [pT,esV,eqL,eqV]
  exact fun z=>absurd z (by decide)
def yI (H:Hp)(g:Cfg)(n:aY)(dl cl dn da:Addr)(pl:Int)(i:Nat)(σ:St)(H':Hp):Prop:=aC H H'/\(∃t u,σ=[some (.ref dl),some (.ref cl),some (.ref dn),some (.ref da),some (.int pl),t,u,none,none])/\∀j:Nat,j < i->(g.ds.getD j 0=n.place\/g.ds.getD j 0=bX g.ds - n.place)->n.gates.getD j false=false
theorem zD {ls:List Cd}{l:Int}{k:Str}(hk:k="men"\/k="coal"):∃j:Nat,j < 2/\eqV (([V.str "men",V.str "coal"]:List V).getD j .non) (.str k)=true/\(∀i,i < j->eqV (([V.str "men",V.str "coal"]:List V).getD i .non) (.str k)=false)/\atI (cdV (dk ls l)) (j:Int)=some (.int (bW ls l k)):=by
 rcases hk with rfl | rfl
 ·exact ⟨0,by decide,by decide,fun i h=>absurd h (Nat.not_lt_zero _),rfl⟩
 ·refine ⟨1,by decide,by decide,fun i h=>?_,?_⟩
  ·obtain rfl:i=0:=by omega
   decide
  ·unfold bW
   rw [if_neg (by decide)]
   rfl
inductive eM (K:JA)(Z:Adr)(vs:List V)(H:Hp)(Q:VK)(E:XK):Prop | mk (dl cl dn da:Addr) (g:Cfg) (n:aY) (as:List Addr) (L:List Dd) (c l:Int) (k:Str):vs=[.ref dl,.ref cl,.ref dn,.ref da]->H dl=some (.lst (g.ds.map V.int))->((∃cs:List Addr,H cl=some (.lst (cs.map V.ref))/\bP cdV K H cs g.ls))->H dn=some (.lst (as.map V.ref))->eF K H as L->L.length<=1000->gV g->c5 g n->M33 g n L->SqT K H da [.str "wind",.int c,.int l,.str k]->((k="men"\/k="coal"))->(∀H',aC H H'->Q (.str (rwW (dq g n (.wind c l k)))) H')->eM K Z vs H Q E
include T ee i4 cB in
theorem oj:FF P w K mg base CX0 2 "_law_wind_refusal" "_law_wind_refusal" eS iP (eM K Z):=fk0 bT fun vs H Q E h=>by
 obtain ⟨dl,cl,dn,da,g,n,as,L,c,l,k,rfl,hdl,⟨cs,hcl,hC⟩,hdn,hD,hL,hg,hn,hM,hT,hk,q⟩:=h
 k_all
 refine seg 5 (ag (aA (aq au (br (pa2 ak ak)) (bB cO (by rfl) T.ki gh (pa1 (bR (xv hr.units0) (pv' 7) (bc (pa4 ak (aq aG (pv' 3) af) (pv' 8) (pv' 8))) (bE _))))))) fun zt5 zh5 ze5=>?_
 refine seg 4 (ae (aJ (i:=8) bT.nd rfl orL (aq aG (aq au (pv' 1) (aq aG (pv' 3) af)) (mZ PySem.F.plainAttrs_list PySem.F.slot_list_index PySem.F.type_list_index zu (br (pa2 ak ak)) (pa1 (aq aG (pv' 3) af))))) zh5) fun zt4 zh4 ze4=>?_
 refine seg 3 (ae (aJ (i:=7) bT.nd rfl orL (dc0 cB hr.dn (pa1 (pv' 2)))) zh4) fun zt3 zh3 ze3=>?_
 refine seg 2 (ae (dI PassesOwn.never rfl (cG (by rfl) T.cP (pa1 (aF av (by rfl) T.bZ bw (pa1 (pv' 0))))) (aM (i:=5) bT.nd rfl orL) (ae (aJ (i:=6) bT.nd rfl orL (EW (bR fD (aq au (pv' 0) (pv' 5)) (pv' 4) (bE _)) (uf (bR fD (aV bK (aq au (pv' 0) (pv' 5)) (pv' 4)) (aq au (pv' 0) (iL dr af)) (bE _))))) (ag (aK (i7 (bS (pv' 6)) (fU (bS (dc0 i4 hr.dn (pa2 (pv' 2) (pv' 5)))))).pt (ag (aA ak)) (aD))))) zh3) fun zt2 zh2 ze2=>?_
 refine seg 1 (ae (aJ (i:=4) bT.nd rfl orL (dc0 ee hr.dn (pa2 (pv' 0) (pv' 2)))) zh2) fun zt1 zh1 ze1=>?_
 refine ⟨_,ae (aK (mW (jL (aq aG (pv' 3) af) af) (jR (Dw (aq aG (pv' 3) af) (aF av (by rfl) T.bZ bw (pa1 (pv' 0)))))).pt (ag (aA ak)) (aD)) zh1,?_⟩
 have hal:=hD.1
 have l2:=hg.sh.l2
 have lc:=hg.lc
 have elv:l < 0\/(g.ds.length:Int)<=l->dq g n (.wind c l k)=some .lv:=fun z=>if_pos (by unfold unk;omega)
 k_mem
 refine ⟨_,hT,_,ay (k:=2) rfl,?_⟩
 k_mem
 by_cases h0:l < 0
 ·rw [if_pos h0]
  have q':=q H (aC.refl _)
  rw [elv (.inl h0)] at q'
  k_upd
  exact q'
 k_upd
 rw [if_neg h0]
 k_upd
 refine ⟨_,hT,_,ay (k:=2) rfl,_,.inl (SqL.of hdl),?_⟩
 k_mem
 rw [JB]
 by_cases h1:(g.ds.length:Int)<=l
 ·rw [if_pos h1]
  have q':=q H (aC.refl _)
  rw [elv (.inr h1)] at q'
  k_upd
  exact q'
 k_upd
 rw [if_neg h1]
 k_mem
 refine ⟨dl,dn,g.ds,as,L,rfl,hdl,hg.sh,hdn,hD,hM.ok,hL,fun H1 s1=>?_⟩
 rw [←hM.pl]
 have l6:=hg.sh.l6
 k_mem
 refine ⟨_,.inl (SqL.of (s1 _ _ hdl)),by rw [JB];omega,by rw [JB];omega,?_⟩
 rw [JB,Int.toNat_natCast]
 have lvn:¬unk l g.ds.length:=fun z=>z ⟨by omega,by omega⟩
 have ego:eQ g n=true->dq g n (.wind c l k)=some .go:=fun z=>by
  show (if unk l g.ds.length then _ else if eQ g n=true then _ else _)=_
  k_upd
  rw [if_neg lvn,if_pos z]
 k_upd
 refine cN (yI H g n dl cl dn da n.place) ⟨s1,⟨_,_,rfl⟩,fun j hj=>absurd hj (Nat.not_lt_zero _)⟩ ?_ ?_
 ·rintro i σ H2 hi ⟨s2,⟨t,u,rfl⟩,hno⟩
  have A:=SqL.of (K:=K) (s2 _ _ hdl)
  k_mem
  rw [Int.zero_add]
  have wd:∀M:VK,(n.gates.getD i false=true->∀H3,aC H H3->M (.bl true) H3)->(n.gates.getD i false=false->∀H3,aC H H3->M (.bl false) H3)->k4 K Z [.ref dn,.int i] H2 M E0:=fun M y z=>⟨dn,as,L,i,rfl,s2 _ _ hdn,hD.same s2,hL,fun H3 s3=>by
   rw [←hM.ga i hi]
   cases e:n.gates.getD i false with
   | true=>exact y e _ (s2.trans s3)
   | false=>exact z e _ (s2.trans s3)⟩
  have fin:∀(v:V) H3,aC H H3->((g.ds.getD i 0=n.place\/g.ds.getD i 0=bX g.ds - n.place)->n.gates.getD i false=false)->yI H g n dl cl dn da n.place (i+1) [some (V.ref dl),some (V.ref cl),some (V.ref dn),some (V.ref da),some (V.int n.place),some (V.int i),some v,none,none] H3:=fun v H3 s3 z=>⟨s3,⟨_,_,rfl⟩,fun j hj y=>by
   rcases (by omega:j < i\/j=i) with w | rfl
   ·exact hno j w y
   ·exact z y⟩
  have go:∀H3,aC H H3->(g.ds.getD i 0=n.place\/g.ds.getD i 0=bX g.ds - n.place)->n.gates.getD i false=true->Q (.str "GateOpen") H3:=fun H3 s3 y e=>by
   have q':=q H3 s3
   rw [ego (rK.mpr ⟨i,hi,y,e⟩)] at q'
   k_upd
   exact q'
  k_upd
  refine ⟨_,A,_,cM (Int.natCast_nonneg _) (by omega),?_⟩
  k_mem
  rw [Int.toNat_natCast]
  by_cases c1:g.ds.getD i 0=n.place
  ·rw [if_pos c1]
   refine wd _ (fun e H3 s3=>?_) (fun e H3 s3=>?_)
   ·k_mem
    exact go H3 s3 (.inl c1) e
   ·k_mem
    exact fin _ H3 s3 fun _=>e
  ·rw [if_neg c1]
   k_upd
   refine ⟨_,A,_,cM (Int.natCast_nonneg _) (by omega),?_⟩
   k_mem
   refine ⟨_,A,_,jY (by omega),?_⟩
   k_mem
   rw [Int.toNat_natCast]
   by_cases c2:g.ds.getD i 0+n.place=bX g.ds
   ·have c3:g.ds.getD i 0=bX g.ds - n.place:=by omega
    simp only [c2,decide_true,if_true]
    refine wd _ (fun e H3 s3=>?_) (fun e H3 s3=>?_)
    ·k_mem
     exact go H3 s3 (.inr c3) e
    ·k_mem
     exact fin _ H3 s3 fun _=>e
   ·simp only [c2,decide_false,if_false]
    exact fin _ H2 s2 fun z=>absurd z (by omega)
 ·rintro σ H2 ⟨s2,⟨t,u,rfl⟩,hno⟩
  k_mem
  refine ⟨dn,as,L,pT n.e,rfl,s2 _ _ hdn,hD.same s2,hL,hM.en,fun p1 H3 s3 hp1=>?_⟩
  have s13:=s2.trans s3
  obtain ⟨cd,acd,hcd⟩:=nq (bP.same s13 hC) (by omega:0<=l) (by omega)
  k_mem
  refine ⟨_,s13.tup hT,_,ay (k:=2) rfl,_,SqL.of (s13 _ _ hcl),_,acd,?_⟩
  k_mem
  refine ⟨by decide,fun p2 hp2=>?_⟩
  (generalize hE:upd H3 p2 _=H4 at *;have s4:=cv hE hp2;have e4:=bj hE;clear hE)
  have s14:=s13.trans s4
  obtain ⟨j,j2,k1,k2,k3⟩:=zD (ls:=g.ls) (l:=l) hk
  k_upd
  refine ⟨.inl ⟨rfl,_,SqL.of e4⟩,_,s14.tup hT,_,ay (k:=3) rfl,_,j,SqL.of e4,rfl,rfl,j2,k1,k2,_,s4.tup hcd,_,k3,?_⟩
  k_mem
  refine ⟨by decide,fun p3 hp3=>?_⟩
  (generalize hE:upd H4 p3 _=H5 at *;have s5:=cv hE hp3;have e5:=bj hE;clear hE)
  k_upd
  refine ⟨_,(s14.trans s5).tup hT,_,ay (k:=2) rfl,by decide,fun p4 hp4=>?_⟩
  (generalize hE:upd H5 p4 _=H6 at *;have s6:=cv hE hp4;have e6:=bj hE;clear hE)
  have fes:(esV (pT n.e)).all a7=true:=by cases n.e<;>rfl
  k_upd
  refine ⟨_,(s4.trans (s5.trans s6)).tup hp1,_,SqT.of e6,fes,rfl,_,SqL.of (s6 _ _ e5),?_⟩
  rw [E7 hM.ot]
  have q':=q H6 (s14.trans (s5.trans s6))
  have hob:¬eQ g n=true:=fun z=>by
   obtain ⟨i,hi,y,e⟩:=rK.mp z
   rw [hno i hi y] at e
   cases e
  have er:dq g n (.wind c l k)=if n.e=.armed l (bW g.ls l k) then none else some .na:=by
   show (if unk l g.ds.length then _ else if eQ g n=true then _ else _)=_
   k_upd
   rw [if_neg lvn,if_neg hob]
  rw [er] at q'
  by_cases ha:n.e=.armed l (bW g.ls l k)
  ·rw [if_pos ha] at q'
   rw [decide_eq_true ha]
   k_upd
   exact ⟨_,rfl,q'⟩
  ·rw [if_neg ha] at q'
   rw [decide_eq_false ha]
   k_upd
   exact ⟨_,rfl,q'⟩
variable (i5:KD P w K mg base CX0 2 "_law_wind_refusal" (eM K Z))
theorem GN {e:Eng}(h:∀l r s,e=.other l r s->s≠r):∃wd fz,esV (pT e)=.str wd::fz/\(wd="not repeated"->∃l r,e=.wait l r)/\(wd="armed"->∃l r,e=.armed l r):=by
 cases e with
 | no=>exact ⟨_,_,rfl,fun z=>absurd z (by decide),fun z=>absurd z (by decide)⟩
 | wait l r=>exact ⟨_,_,rfl,fun _=>⟨l,r,rfl⟩,fun z=>absurd z (by decide)⟩
 | armed l r=>exact ⟨_,_,rfl,fun z=>absurd z (qc _ _ _),fun _=>⟨l,r,rfl⟩⟩
 | other l r s=>exact ⟨_,_,rfl,fun z=>absurd z (qc _ _ _),fun z=>absurd z (by rw [if_neg Bool.false_ne_true,if_neg (h l r s rfl)];decide)⟩
 | used l r=>exact ⟨_,_,rfl,fun z=>absurd z (qc _ _ _),fun z=>absurd z (by rw [if_pos rfl];decide)⟩
inductive lg (K:JA)(Z:Adr)(vs:List V)(H:Hp)(Q:VK)(E:XK):Prop | mk (dl cl dn:Addr) (cell:Int) (g:Cfg) (n:aY) (as:List Addr) (L:List Dd):vs=[.ref dl,.ref cl,.ref dn,.int cell]->H dl=some (.lst (g.ds.map V.int))->((∃cs:List Addr,H cl=some (.lst (cs.map V.ref))/\bP cdV K H cs g.ls))->H dn=some (.lst (as.map V.ref))->dw H as L->L.length<=1000->gV g->c5 g n->M33 g n L->(∀p d H',aC H H'->H' p=some (.tup (ddV d))->rD g.ds.length d->Q (.ref p) H')->lg K Z vs H Q E
include T ee i4 cB in
theorem zE:FF P w K mg base CX0 2 "_law_deed" "_law_deed" qW vJ (lg K Z):=fk0 dZ fun vs H Q E h=>by
 obtain ⟨dl,cl,dn,cell,g,n,as,L,rfl,hdl,⟨cs,hcl,hC⟩,hdn,hD,hL,hg,hn,hM,q⟩:=h
 k_all
 refine seg 14 (ag (aA (aq au (br (pa2 (bc (pa2 ak (pv' 5))) (bc (pa2 ak (pv' 5))))) (bB cO (by rfl) T.ki gh (pa1 (dc0 i4 hr.dn (pa2 (pv' 2) (pv' 5)))))))) fun zt14 zh14 ze14=>?_
 refine seg 13 (ae (aK (i7 (cb (bf (pv' 3) af) af) (fU (cw eR (aV cC (aq au (pv' 0) (iL dr af)) (pv' 8)) (pv' 0) (by rfl)))).pt (ag (aJ (i:=5) dZ.nd rfl orL (mZ PySem.F.plainAttrs_list PySem.F.slot_list_index PySem.F.type_list_index vz (pv' 0) (pa1 (aV cC (aq au (pv' 0) (iL dr af)) (pv' 8)))))) (aD)) zh14) fun zt13 zh13 ze13=>?_
 refine seg 12 (ae (aK (i7 (jL (bf (pv' 3) af) af) (fU (cw eR (pv' 8) (pv' 0) (by rfl)))).pt (ag (aJ (i:=5) dZ.nd rfl orL (mZ PySem.F.plainAttrs_list PySem.F.slot_list_index PySem.F.type_list_index vz (pv' 0) (pa1 (pv' 8))))) (aD)) zh13) fun zt12 zh12 ze12=>?_
 refine seg 11 (ae (aJ (i:=8) dZ.nd rfl orL (dc0 ee hr.dn (pa2 (pv' 0) (pv' 2)))) zh12) fun zt11 zh11 ze11=>?_
 refine seg 10 (ae (aK (i7 (cb (bf (pv' 3) af) af) (fU (cb (bf (pv' 4) af) af))).pt (ag (aA (bc (pa2 ak (aV nC (eY (pv' 4) af) (aF av (by rfl) T.bZ bw (pa1 (pv' 0)))))))) (aD)) zh11) fun zt10 zh10 ze10=>?_
 refine seg 9 (ae (aK (jL (bf (pv' 3) af) af) (ag (aA (bc (pa4 ak (bf (eY (pv' 4) af) af) (aV cC (aV nC (pv' 4) (aV bK (aF av (by rfl) T.bZ bw (pa1 (pv' 0))) af)) af) (pv' 6))))) (aD)) zh10) fun zt9 zh9 ze9=>?_
 refine seg 8 (ae (aK (jL (bf (pv' 3) af) af) (ag (aA (aq au (br (pa2 (bc (pa3 ak (pv' 5) (aV cC (bf (eY (pv' 4) af) af) af))) (bc (pa2 ak (bf (pv' 4) af))))) (bf (pv' 3) af)))) (aD)) zh9) fun zt8 zh8 ze8=>?_
 refine seg 7 (ae (aK (jL (bf (pv' 3) af) af) (ag (aA (bc (pa3 ak (pv' 5) (aq aG (aq au (pv' 1) (pv' 5)) (bf (eY (pv' 4) af) af)))))) (aD)) zh8) fun zt7 zh7 ze7=>?_
 refine seg 6 (ae (aK (i7 (jL (bf (pv' 3) af) af) (fU (cb (aq aG (pv' 7) af) ak))).pt (ag (aA (bc (pa4 ak (bf (pv' 4) af) (aq aG (pv' 7) af) (aq au (br (pa2 ak ak)) (bB cO (by rfl) T.ki gh (pa1 (bR fD (aq aG (aq au (pv' 1) (aq aG (pv' 7) af)) af) (aq aG (pv' 7) af) (bE _))))))))) (aD)) zh7) fun zt6 zh6 ze6=>?_
 refine seg 5 (ae (aK (i7 (jL (bf (pv' 3) af) af) (fU (cb (aq aG (pv' 7) af) ak))).pt (ag (aA (bc (pa2 ak (aq au (br (pa2 (aq aG (pv' 7) af) (bf (pv' 4) af))) (bB cO (by rfl) T.ki gh (pa1 (bR fD (bf (pv' 3) af) af (bE _))))))))) (aD)) zh6) fun zt5 zh5 ze5=>?_
 refine seg 4 (ae (aK (cb (bf (pv' 3) af) af) (ag (aA (bc (pa3 ak (pv' 5) (aq aG (aq au (pv' 1) (pv' 5)) (bf (eY (pv' 4) af) af)))))) (aD)) zh5) fun zt4 zh4 ze4=>?_
 refine seg 3 (ae (aJ (i:=7) dZ.nd rfl orL (dc0 cB hr.dn (pa1 (pv' 2)))) zh4) fun zt3 zh3 ze3=>?_
 refine seg 2 (ae (aJ (i:=6) dZ.nd rfl orL (aq au (br (pa2 ak ak)) (bf (eY (pv' 4) af) af))) zh3) fun zt2 zh2 ze2=>?_
 refine seg 1 (ae (aJ (i:=5) dZ.nd rfl orL (aV nC (pv' 4) (aF av (by rfl) T.bZ bw (pa1 (pv' 0))))) zh2) fun zt1 zh1 ze1=>?_
 refine ⟨_,ae (aJ (i:=4) dZ.nd rfl orL (eY (pv' 3) af)) zh1,?_⟩
 have hal:=hD.1
 have l2:=hg.sh.l2
 have l6:=hg.sh.l6
 have lc:=hg.lc
 k_mem
 refine ⟨_,.inl (SqL.of hdl),by rw [JB];omega,?_⟩
 rw [JB]
 have hm0:0<=cell / 12 % (g.ds.length:Int):=Int.emod_nonneg _ (by omega)
 have hm1:cell / 12 % (g.ds.length:Int) < g.ds.length:=Int.emod_lt_of_pos _ (by omega)
 generalize hnr:cell / 12 % (g.ds.length:Int)=near at *
 k_mem
 refine ⟨by decide,fun p1 hp1=>?_⟩
 (generalize hE:upd H p1 _=H1 at *;have s1:=cv hE hp1;have e1:=bj hE;clear hE)
 have hb01:cell / 12 / 7 % 2=0\/cell / 12 / 7 % 2=1:=by omega
 obtain ⟨kd,hkd,akd⟩:∃kd:Str,(kd="men"\/kd="coal")/\atI [V.str "men",V.str "coal"] (cell / 12 / 7 % 2)=some (.str kd):=by
  rcases hb01 with e | e<;>rw [e]
  ·k_upd
   exact ⟨_,.inl rfl,rfl⟩
  ·k_upd
   exact ⟨_,.inr rfl,rfl⟩
 k_upd
 refine ⟨_,SqL.of e1,_,akd,?_⟩
 k_mem
 refine ⟨dn,as,L,pT n.e,rfl,s1 _ _ hdn,(hD.same s1).at,hL,hM.en,fun p2 H2 s2 hp2=>?_⟩
 have s12:=s1.trans s2
 have code:∀lv:Int,0<=lv->lv < g.ds.length->∃cd,atI (cs.map V.ref) lv=some (.ref cd)/\SqT K H cd (cdV (dk g.ls lv)):=fun lv h0 h1=>nq hC h0 (by omega)
 obtain ⟨sk,ask⟩:∃sk:Int,atI (cdV (dk g.ls near)) (cell / 12 / 7 % 2)=some (.int sk):=by
  rcases hb01 with e | e<;>rw [e]
  ·k_upd
   exact ⟨_,rfl⟩
  ·k_upd
   exact ⟨_,rfl⟩
 obtain ⟨cdn,acdn,hcdn⟩:=code near hm0 hm1
 k_mem
 by_cases c0:cell % 12=0
 ·rw [if_pos c0]
  k_upd
  refine ⟨_,SqL.of (s12 _ _ hcl),_,acdn,?_⟩
  k_mem
  exact ⟨_,s12.tup hcdn,_,ask,by decide,fun p hp=>q p (.ring near sk) _ (s12.lay hp) ah ⟨hm0,hm1⟩⟩
 k_upd
 rw [if_neg c0]
 k_mem
 obtain ⟨wd,fz,ewd,hw1,hw2⟩:=GN hM.ot
 rw [ewd] at hp2
 have k6:zt6 {nx:=fun x H'=>Q V.non H',rt:=Q} [some (V.ref dl),some (V.ref cl),some (V.ref dn),some (V.int cell),some (V.int (cell / 12)),some (V.int near),some (V.str kd),some (V.ref p2),none] H2:=by
  k_mem
  have k7:zt7 {nx:=fun x H'=>Q V.non H',rt:=Q} [some (V.ref dl),some (V.ref cl),some (V.ref dn),some (V.int cell),some (V.int (cell / 12)),some (V.int near),some (V.str kd),some (V.ref p2),none] H2:=by
   k_mem
   by_cases c4:cell % 12 < 4
   ·rw [if_pos c4]
    k_upd
    refine ⟨_,SqL.of (s12 _ _ hcl),_,acdn,?_⟩
    k_mem
    exact ⟨_,s12.tup hcdn,_,ask,by decide,fun p hp=>q p (.ring near sk) _ (s12.lay hp) ah ⟨hm0,hm1⟩⟩
   k_upd
   rw [if_neg c4]
   k_mem
   by_cases c6:cell % 12 < 6
   ·rw [if_pos c6]
    k_upd
    refine ⟨by decide,fun p3 hp3=>?_⟩
    (generalize hE:upd H2 p3 _=H3 at *;have s3:=cv hE hp3;have e3:=bj hE;clear hE)
    k_upd
    refine ⟨by decide,fun p4 hp4=>?_⟩
    (generalize hE:upd H3 p4 _=H4 at *;have s4:=cv hE hp4;have e4:=bj hE;clear hE)
    k_upd
    refine ⟨by decide,fun p5 hp5=>?_⟩
    (generalize hE:upd H4 p5 _=H5 at *;have s5:=cv hE hp5;have e5:=bj hE;clear hE)
    have s15:=s12.trans (s3.trans (s4.trans s5))
    rcases (by omega:cell % 2=0\/cell % 2=1) with e | e<;>rw [e]
    ·k_upd
     exact ⟨_,SqL.of e5,_,rfl,q p3 (.ring near (cell / 12 / 7 % 12 - 1)) _ s15 ((s4.trans s5) _ _ e3) ⟨hm0,hm1⟩⟩
    ·k_upd
     exact ⟨_,SqL.of e5,_,rfl,q p4 (.rept (cell / 12 % 10)) _ s15 (s5 _ _ e4) trivial⟩
   k_upd
   rw [if_neg c6]
   k_mem
   by_cases c8:cell % 12 < 8
   ·rw [if_pos c8]
    k_upd
    refine ⟨_,.inl (SqL.of (s12 _ _ hdl)),?_⟩
    rw [JB]
    k_mem
    exact ⟨by omega,by decide,fun p hp=>q p (.wind (cell / 12 / 3 % 2) (cell / 12 % ((g.ds.length:Int)+2) - 1) kd) _ (s12.lay hp) ah ⟨by omega,hkd⟩⟩
   k_upd
   rw [if_neg c8]
   k_mem
   have k11:zt11 {nx:=fun x H'=>Q V.non H',rt:=Q} [some (V.ref dl),some (V.ref cl),some (V.ref dn),some (V.int cell),some (V.int (cell / 12)),some (V.int near),some (V.str kd),some (V.ref p2),none] H2:=by
    k_mem
    refine ⟨dl,dn,g.ds,as,L,rfl,s12 _ _ hdl,hg.sh,s12 _ _ hdn,(hD.same s12).at,hM.ok,hL,fun H3 s3=>?_⟩
    rw [←hM.pl]
    have s13:=s12.trans s3
    have D3:SqL K H3 dl (g.ds.map V.int):=SqL.of (s13 _ _ hdl)
    have k14:∀nr:Int,0<=nr->nr < g.ds.length->zt14 {nx:=fun x H'=>Q V.non H',rt:=Q} [some (V.ref dl),some (V.ref cl),some (V.ref dn),some (V.int cell),some (V.int (cell / 12)),some (V.int nr),some (V.str kd),some (V.ref p2),some (V.int n.place)] H3:=by
     intro nr h0 h1
     k_mem
     refine ⟨by decide,fun p3 hp3=>?_⟩
     (generalize hE:upd H3 p3 _=H4 at *;have s4:=cv hE hp3;have e4:=bj hE;clear hE)
     k_upd
     refine ⟨by decide,fun p4 hp4=>?_⟩
     (generalize hE:upd H4 p4 _=H5 at *;have s5:=cv hE hp4;have e5:=bj hE;clear hE)
     k_upd
     refine ⟨by decide,fun p5 hp5=>?_⟩
     (generalize hE:upd H5 p5 _=H6 at *;have s6:=cv hE hp5;have e6:=bj hE;clear hE)
     have s16:=s13.trans (s4.trans (s5.trans s6))
     k_upd
     refine ⟨dn,as,L,nr,rfl,s16 _ _ hdn,(hD.same s16).at,hL,fun H7 s7=>?_⟩
     k_mem
     cases fv nr L
     ·k_upd
      exact ⟨_,SqL.of (s7 _ _ e6),_,rfl,q p3 (.opn nr) _ (s16.trans s7) ((s5.trans (s6.trans s7)) _ _ e4) ⟨h0,h1⟩⟩
     ·k_upd
      exact ⟨_,SqL.of (s7 _ _ e6),_,rfl,q p4 (.sht nr) _ (s16.trans s7) ((s6.trans s7) _ _ e5) ⟨h0,h1⟩⟩
    have k13:∀nr:Int,0<=nr->nr < g.ds.length->zt13 {nx:=fun x H'=>Q V.non H',rt:=Q} [some (V.ref dl),some (V.ref cl),some (V.ref dn),some (V.int cell),some (V.int (cell / 12)),some (V.int nr),some (V.str kd),some (V.ref p2),some (V.int n.place)] H3:=by
     intro nr h0 h1
     k_mem
     by_cases c9:cell % 12=9
     ·rw [if_pos c9]
      k_upd
      refine ⟨_,D3,_,jY (by omega),?_⟩
      k_mem
      refine ⟨_,.inl D3,rfl,tE g.ds,?_⟩
      rw [ni]
      by_cases hm:bX g.ds - n.place∈g.ds
      ·rw [if_pos (decide_eq_true hm)]
       k_upd
       refine ⟨.inl ⟨rfl,_,D3⟩,_,D3,_,jY (by omega),?_⟩
       k_mem
       have:=List.idxOf_lt_length_iff.mpr hm
       k_upd
       exact ⟨_,_,_,rfl,rfl,D3,hm,k14 _ (by omega) (by omega)⟩
      ·rw [if_neg (by rw [decide_eq_false hm];decide)]
       exact k14 nr h0 h1
     ·rw [if_neg c9]
      exact k14 nr h0 h1
    k_mem
    by_cases c11:cell % 12 < 11
    ·rw [if_pos c11]
     k_upd
     refine ⟨_,.inl D3,rfl,tE g.ds,?_⟩
     rw [ni]
     by_cases hm:n.place∈g.ds
     ·rw [if_pos (decide_eq_true hm)]
      have:=List.idxOf_lt_length_iff.mpr hm
      k_upd
      exact ⟨.inl ⟨rfl,_,D3⟩,_,_,_,rfl,rfl,D3,hm,k13 _ (by omega) (by omega)⟩
     ·rw [if_neg (by rw [decide_eq_false hm];decide)]
      exact k13 near hm0 hm1
    ·rw [if_neg c11]
     exact k13 near hm0 hm1
   by_cases c88:cell % 12=8
   ·rw [if_pos c88]
    by_cases c3:cell / 12 % 3=0
    ·rw [if_pos c3]
     k_upd
     refine ⟨_,.inl (SqL.of (s12 _ _ hdl)),?_⟩
     rw [JB]
     k_upd
     exact ⟨by omega,by decide,fun p hp=>q p (.fail (cell / 12 / 3 % (g.ds.length:Int))) _ (s12.lay hp) ah ⟨Int.emod_nonneg _ (by omega),Int.emod_lt_of_pos _ (by omega)⟩⟩
    ·rw [if_neg c3]
     exact k11
   ·rw [if_neg c88]
    exact k11
  by_cases c7:cell % 12 < 7
  ·rw [if_pos c7]
   k_upd
   refine ⟨_,hp2,_,ay (k:=0) rfl,?_⟩
   k_mem
   by_cases ew:wd="armed"
   ·rw [if_pos ew]
    obtain ⟨l,r,he⟩:=hw2 ew
    rw [he] at ewd
    obtain ⟨_,rfl⟩:V.str "armed"=.str wd/\[V.int l,.int r,.int r]=fz:=by
     have:esV (pT (.armed l r))=[V.str "armed",.int l,.int r,.int r]:=by show [_,_,_,_]=_;rw [if_neg Bool.false_ne_true,if_pos rfl]
     rw [this] at ewd
     injection ewd with e1 e2
     k_upd
     exact ⟨e1,e2⟩
    obtain ⟨h0,h1,_⟩:=hn.ew l r (.inr he)
    obtain ⟨cdl,acdl,hcdl⟩:=code l h0 h1
    k_upd
    refine ⟨_,hp2,_,ay (k:=1) rfl,by decide,fun p3 hp3=>?_⟩
    (generalize hE:upd H2 p3 _=H3 at *;have s3:=cv hE hp3;have e3:=bj hE;clear hE)
    have s13:=s12.trans s3
    k_mem
    refine ⟨_,s3.tup hp2,_,ay (k:=1) rfl,?_⟩
    k_mem
    refine ⟨_,SqL.of (s13 _ _ hcl),_,acdl,?_⟩
    k_mem
    refine ⟨_,s13.tup hcdl,_,rfl,_,s3.tup hp2,_,ay (k:=2) rfl,?_⟩
    k_mem
    obtain ⟨kw,hkw,ax⟩:∃kw:Str,(kw="men"\/kw="coal")/\atI [V.str "coal",V.str "men"] (if decide ((dk g.ls l).1=r)=true then 1 else 0)=some (.str kw):=by
     cases decide ((dk g.ls l).1=r)
     ·k_upd
      exact ⟨_,.inr rfl,rfl⟩
     ·k_upd
      exact ⟨_,.inl rfl,rfl⟩
    k_upd
    exact ⟨_,SqL.of e3,_,ax,by decide,fun p hp=>q p (.wind (cell / 12 % 2) l kw) _ (s13.lay hp) ah ⟨by omega,hkw⟩⟩
   ·rw [if_neg ew]
    exact k7
  ·rw [if_neg c7]
   exact k7
 by_cases c6:cell % 12 < 6
 ·rw [if_pos c6]
  k_upd
  refine ⟨_,hp2,_,ay (k:=0) rfl,?_⟩
  k_mem
  by_cases ew:wd="not repeated"
  ·rw [if_pos ew]
   obtain ⟨l,r,he⟩:=hw1 ew
   rw [he] at ewd
   obtain ⟨_,rfl⟩:V.str "not repeated"=.str wd/\[V.int l,.int r,.non]=fz:=by injection ewd with e1 e2;exact ⟨e1,e2⟩
   k_upd
   refine ⟨_,hp2,_,ay (k:=2) rfl,by decide,fun p3 hp3=>?_⟩
   (generalize hE:upd H2 p3 _=H3 at *;have s3:=cv hE hp3;have e3:=bj hE;clear hE)
   obtain ⟨x,ax⟩:∃x:Int,atI [V.int r,V.int (cell / 12 % 10)] (if decide (cell % 12=5)=true then 1 else 0)=some (.int x):=by
    cases decide (cell % 12=5)
    ·k_upd
     exact ⟨_,rfl⟩
    ·k_upd
     exact ⟨_,rfl⟩
   k_upd
   exact ⟨_,SqL.of e3,_,ax,by decide,fun p hp=>q p (.rept x) _ ((s12.trans s3).lay hp) ah trivial⟩
  ·rw [if_neg ew]
   exact k6
 ·rw [if_neg c6]
  exact k6
variable (om:KD P w K mg base CX0 2 "_law_deed" (lg K Z))
inductive jF (K:JA)(Z:Adr)(vs:List V)(H:Hp)(Q:VK)(E:XK):Prop | mk (y kn wh:Addr) (ks:List Str) (ws:List Int) (m:Int):vs=[.ref y]->eD Z.fX H y kn wh ks ws m->(∀(y' kn' wh':Addr) (H':Hp),H y'=none->H kn'=none->H wh'=none->kn'≠wh'->aC H H'->eD Z.fX H' y' kn' wh' ks ws m->Q (.ref y') H')->jF K Z vs H Q E
include T g8 in
theorem u7:FF P w K mg base CX0 3 "twin" "Yard.twin" j8 pj (jF K Z):=fk0 nQ fun vs H Q E h=>by
 obtain ⟨y,kn,wh,ks,ws,m,rfl,hy,q⟩:=h
 k_all
 refine ⟨_,ae (aJ (i:=1) nQ.nd rfl orL (dn g8 hr.dn T.Bo bY (pa2 (br fA) (aB (pv' 0))))) (ae (bA (pv' 1) (bB cf (by rfl) T.gC ez (pa1 (aB (pv' 0)))) rfl) (ae (bA (pv' 1) (bB cf (by rfl) T.gC ez (pa1 (aB (pv' 0)))) rfl) (ag (aA (pv' 1))))),?_⟩
 obtain ⟨⟨dy,hob⟩,hkn,hwh⟩:=id hy
 k_mem
 refine ⟨by decide,fun p0 hp0=>⟨_,_,_,upo hob hp0,T.eZ,T.nU,_,rfl,?_⟩⟩
 refine fun x dx hx hdx nxd=>?_
 have s0:=(aC.refl H).lay (o:=HO.lst []) hp0
 have hx':upd (upd H p0 (HO.lst [])) dx (.own x) x=none:=by rw [aE (Ne.symm nxd)];exact hx
 refine ⟨x,dx,p0,[],m,rfl,ah,⟨[],SqL.of (upo (upo ah hdx) hx'),vx.nil⟩,by decide,fun kn0 wh0 H1 hkn0 hwh0 nkw kp hy1=>⟨rfl,?_⟩⟩
 have s1:=s0.trans (fo hx hdx kp)
 obtain ⟨⟨dx1,hob1⟩,hkn1,hwh1⟩:=id hy1
 have hxn:H x=none:=s0.free hx
 clear kp hy1
 k_mem
 refine fgo (s1 _ _ hob) T.eZ T.fe rfl ?_
 k_mem
 refine ⟨_,.inl (SqL.of (s1 _ _ hkn)),fun k1 hk1=>⟨_,_,_,upo hob1 hk1,T.eZ,T.fe,by show 3 < 1000;decide,?_⟩⟩
 have nk1:k1≠x:=fun z=>by rw [z,hob1] at hk1;cases hk1
 have s2:aC H (upd (upd H1 k1 (HO.lst (ks.map V.str))) x (HO.ins Z.fX dx1 (aX "kinds" (.ref k1) [("kinds",V.ref kn0),("where",V.ref wh0),("many",V.int m)]))):=(s1.lay hk1).rewr hxn
 have hob2:upd (upd H1 k1 (HO.lst (ks.map V.str))) x (HO.ins Z.fX dx1 (aX "kinds" (.ref k1) [("kinds",V.ref kn0),("where",V.ref wh0),("many",V.int m)])) x=some (HO.ins Z.fX dx1 [("kinds",V.ref k1),("where",V.ref wh0),("many",V.int m)]):=by rw [ah];rfl
 have hk2:upd (upd H1 k1 (HO.lst (ks.map V.str))) x (HO.ins Z.fX dx1 (aX "kinds" (.ref k1) [("kinds",V.ref kn0),("where",V.ref wh0),("many",V.int m)])) k1=some (HO.lst (ks.map V.str)):=by rw [aE nk1,ah]
 generalize upd (upd H1 k1 (HO.lst (ks.map V.str))) x (HO.ins Z.fX dx1 (aX "kinds" (.ref k1) [("kinds",V.ref kn0),("where",V.ref wh0),("many",V.int m)]))=H2 at *
 refine fgo (s2 _ _ hob) T.eZ T.ff rfl ?_
 k_mem
 refine ⟨_,.inl (SqL.of (s2 _ _ hwh)),fun w1 hw1=>⟨_,_,_,upo hob2 hw1,T.eZ,T.ff,by show 3 < 1000;decide,?_⟩⟩
 have nw1:w1≠x:=fun z=>by rw [z,hob2] at hw1;cases hw1
 have nkw1:k1≠w1:=ai hk2 hw1
 refine q x k1 w1 _ hxn (s1.free hk1) (s2.free hw1) nkw1 ((s2.lay hw1).rewr hxn) ⟨⟨dx1,by rw [ah];rfl⟩,?_,?_⟩
 ·rw [aE nk1,aE nkw1];exact hk2
 ·rw [aE nw1,ah]
variable (pD:KM P w K mg base CX0 3 Z.fX "twin" (jF K Z))
theorem E8 (s:Int)(x:Cd):inV (.int s) (cdV x)=decide (s=x.1\/s=x.2):=ye s x.1 x.2
inductive iE (K:JA)(Z:Adr)(vs:List V)(H:Hp)(Q:VK)(E:XK):Prop | mk (b cs fl st:Addr) (ls:List Cd) (fs:List Bool) (e:Eng) (lv s:Int):vs=[.ref b,.int lv,.int s]->bb Z.bh K H b cs fl st ls fs e->((¬(0<=lv/\lv < ls.length)->E (.ref Z.ao) none H))->((0<=lv->lv < ls.length->fs.getD lv.toNat false=true->E (.ref Z.aQ) none H))->((0<=lv->lv < ls.length->fs.getD lv.toNat false=false->¬(s=(dk ls lv).1\/s=(dk ls lv).2)->E (.ref Z.bz) none H))->((0<=lv->lv < ls.length->fs.getD lv.toNat false=false->(s=(dk ls lv).1\/s=(dk ls lv).2)->∀st' H',aw b H H'->bb Z.bh K H' b cs fl st' ls fs (.wait lv s)->Q .non H'))->iE K Z vs H Q E
include T bI in
theorem sS:FF P w K mg base (CXf P w) 3 "ring" "Bells.ring" jg nF (iE K Z):=fkF sd fun vs H Q E h=>by
 obtain ⟨b,cs,fl,st,ls,fs,e,lv,s,rfl,hB,q1,q2,q3,q4⟩:=h
 k_all
 refine seg 3 (ag (bA (pv' 0) (bc (pa4 ak (pv' 1) (pv' 2) i6)) rfl)) fun zt3 zh3 ze3=>?_
 refine seg 2 (ae (aK (cw r6 (pv' 2) (aq au (aB (pv' 0)) (pv' 1)) (by rfl)) (ag (bC T.vR (by rfl) T.q0 (pa1 ak))) (aD)) zh3) fun zt2 zh2 ze2=>?_
 refine seg 1 (ae (aK (bS (aq au (aB (pv' 0)) (pv' 1))) (ag (bC T.xA (by rfl) T.qZ (pa1 ak))) (aD)) zh2) fun zt1 zh1 ze1=>?_
 refine ⟨_,ae (bD (dc bI hr.dn cV (pa2 (pv' 1) (aF av (by rfl) T.bZ bw (pa1 (aB (pv' 0))))))) zh1,?_⟩
 obtain ⟨⟨dx,hob⟩,⟨as,hcs,hT⟩,hfl,hst,nn,ln⟩:=id hB
 k_mem
 refine fgo hob T.a9 T.cy rfl ?_
 k_mem
 refine ⟨_,.inl (SqL.of hcs),_,_,rfl,?_⟩
 rw [JB,hT.1]
 k_upd
 refine ⟨fun hlv=>?_,q1⟩
 k_mem
 refine fgo hob T.a9 T.cD rfl ?_
 k_mem
 refine ⟨_,SqL.of hfl,_,qq hlv.1 (by omega),?_⟩
 k_mem
 split
 ·rename_i h
  k_upd
  exact ⟨by decide,q2 hlv.1 hlv.2 h⟩
 ·rename_i h
  k_upd
  refine fgo hob T.a9 T.cy rfl ?_
  k_mem
  obtain ⟨ar,ea,hr⟩:=nq hT hlv.1 hlv.2
  k_upd
  refine ⟨_,SqL.of hcs,_,ea,?_⟩
  k_mem
  refine ⟨_,.inr hr,rfl,rfl,?_⟩
  rw [E8]
  k_mem
  split
  ·rename_i h2
   k_upd
   exact ⟨by decide,q3 hlv.1 hlv.2 (by simpa using h) h2⟩
  ·rename_i h2
   k_upd
   refine ⟨by decide,fun st' hst'=>⟨_,_,_,upo hob hst',T.a9,T.ba,by show 3 < 1000;decide,?_⟩⟩
   have nsx:st'≠b:=fun z=>by rw [z,hob] at hst';cases hst'
   refine q4 hlv.1 hlv.2 (by simpa using h) (Decidable.not_not.mp h2) st' _ ((aw.of ((aC.refl H).lay hst')).put) (hB.state ((aw.of ((aC.refl H).lay hst')).put) (dx:=dx) (by rw [ah];rfl) (SqT.of ?_))
   rw [aE nsx,ah];rfl
variable (oo:KM P w K mg base (CXf P w) 3 Z.bh "ring" (iE K Z))
inductive iF (K:JA)(Z:Adr)(vs:List V)(H:Hp)(Q:VK)(E:XK):Prop | mk (b cs fl st:Addr) (ls:List Cd) (fs:List Bool) (e:Eng) (lv:Int):vs=[.ref b,.int lv]->bb Z.bh K H b cs fl st ls fs e->((¬(0<=lv/\lv < ls.length)->E (.ref Z.ao) none H))->((0<=lv->lv < ls.length->fs.getD lv.toNat false=true->E (.ref Z.aL) none H))->((0<=lv->lv < ls.length->fs.getD lv.toNat false=false->∀H',aw fl H H'->H' fl=some (.lst ((fs.set lv.toNat true).map V.bl))->Q .non H'))->iF K Z vs H Q E
include T bI in
theorem sT:FF P w K mg base (CXf P w) 3 "fail" "Bells.fail" jh nG (iF K Z):=fkF se fun vs H Q E h=>by
 obtain ⟨b,cs,fl,st,ls,fs,e,lv,rfl,hB,q1,q2,q3⟩:=h
 k_all
 refine seg 2 (ag (wJ fP (zP (aB (pv' 0)) (pv' 1) tM))) fun zt2 zh2 ze2=>?_
 refine seg 1 (ae (aK (bS (aq au (aB (pv' 0)) (pv' 1))) (ag (bC T.rp (by rfl) T.mE (pa1 ak))) (aD)) zh2) fun zt1 zh1 ze1=>?_
 refine ⟨_,ae (bD (dc bI hr.dn cV (pa2 (pv' 1) (aF av (by rfl) T.bZ bw (pa1 (aB (pv' 0))))))) zh1,?_⟩
 obtain ⟨⟨dx,hob⟩,⟨as,hcs,hT⟩,hfl,hst,nn,ln⟩:=id hB
 k_mem
 refine fgo hob T.a9 T.cy rfl ?_
 k_mem
 refine ⟨_,.inl (SqL.of hcs),_,_,rfl,?_⟩
 rw [JB,hT.1]
 k_upd
 refine ⟨fun hlv=>?_,q1⟩
 k_mem
 refine fgo hob T.a9 T.cD rfl ?_
 k_mem
 refine ⟨_,SqL.of hfl,_,qq hlv.1 (by omega),?_⟩
 k_mem
 split
 ·rename_i h
  k_upd
  exact ⟨by decide,q2 hlv.1 hlv.2 h⟩
 ·rename_i h
  k_upd
  refine fgo hob T.a9 T.cD rfl ?_
  k_mem
  refine ⟨_,hfl,_,Ay hlv.1 (by rw [JB];omega),?_⟩
  k_upd
  exact q3 hlv.1 hlv.2 (by simpa using h) _ ((aw.of (aC.refl H)).put) (by rw [ah,List.map_set])
variable (oq:KM P w K mg base (CXf P w) 3 Z.bh "fail" (iF K Z))
theorem E9 (e:Eng)(lv c:Int):eqL (pI e) [V.str "armed",V.int lv,V.int c,V.int c]=match e with | .armed l' r=>decide (l'=lv/\r=c) | _=>false:=by
 cases e with
 | armed l r=>
  simp only [pI,eqL,uq,Bool.and_true]
  have:eqV (V.str "armed") (V.str "armed")=true:=rfl
  rw [this]
  by_cases h1:l=lv<;>by_cases h2:r=c<;>simp [h1,h2]
 | _=>rfl
theorem CU {k:Str}(hk:k="men"\/k="coal"):∃i:Int,(if eqV (V.str "men") (V.str k)=true then (0:Int) else 1)=i/\(eqV (V.str "men") (V.str k) || eqV (V.str "coal") (V.str k))=true/\∀x:Cd,atI (cdV x) i=some (.int (if k="men" then x.1 else x.2)):=by
 rcases hk with rfl | rfl
 ·exact ⟨0,rfl,rfl,fun x=>rfl⟩
 ·exact ⟨1,rfl,rfl,fun x=>rfl⟩
inductive jG (K:JA)(Z:Adr)(vs:List V)(H:Hp)(Q:VK)(E:XK):Prop | mk (b cs fl st:Addr) (ls:List Cd) (fs:List Bool) (e:Eng) (lv:Int) (k:Str):vs=[.ref b,.int lv,.str k]->bb Z.bh K H b cs fl st ls fs e->((k="men"\/k="coal"))->((¬(0<=lv/\lv < ls.length)->E (.ref Z.ao) none H))->((0<=lv->lv < ls.length->e≠.armed lv (bW ls lv k)->∀H',aC H H'->E (.ref Z.aN) none H'))->((0<=lv->lv < ls.length->e=.armed lv (bW ls lv k)->∀st' H',aw b H H'->bb Z.bh K H' b cs fl st' ls fs (.used lv (bW ls lv k))->Q .non H'))->jG K Z vs H Q E
include T bI in
theorem u9:FF P w K mg base (CXf P w) 3 "use" "Bells.use" j9 pk (jG K Z):=fkF nR fun vs H Q E h=>by
 obtain ⟨b,cs,fl,st,ls,fs,e,lv,k,rfl,hB,hk,q1,q2,q3⟩:=h
 k_all
 refine seg 3 (ag (bA (pv' 0) (bc (pa4 ak (pv' 1) (pv' 3) (pv' 3))) rfl)) fun zt3 zh3 ze3=>?_
 refine seg 2 (ae (aK (cw (Ey hr.units0) (aB (pv' 0)) (bc (pa4 ak (pv' 1) (pv' 3) (pv' 3))) (bE _)) (ag (bC T.xD (by rfl) T.rd (pa1 ak))) (aD)) zh3) fun zt2 zh2 ze2=>?_
 refine seg 1 (ae (aJ (i:=3) nR.nd rfl orL (aq aG (aq au (aB (pv' 0)) (pv' 1)) (mZ PySem.F.plainAttrs_tuple PySem.F.slot_tuple_index PySem.F.type_tuple_index zd (dA (by rfl) T.CK) (pa1 (pv' 2))))) zh2) fun zt1 zh1 ze1=>?_
 refine ⟨_,ae (bD (dc bI hr.dn cV (pa2 (pv' 1) (aF av (by rfl) T.bZ bw (pa1 (aB (pv' 0))))))) zh1,?_⟩
 obtain ⟨⟨dx,hob⟩,⟨as,hcs,hT⟩,hfl,hst,nn,ln⟩:=id hB
 k_mem
 refine fgo hob T.a9 T.cy rfl ?_
 k_mem
 refine ⟨_,.inl (SqL.of hcs),_,_,rfl,?_⟩
 rw [JB,hT.1]
 k_upd
 refine ⟨fun hlv=>?_,q1⟩
 k_mem
 obtain ⟨ar,ea,hr⟩:=nq hT hlv.1 hlv.2
 obtain ⟨i,ei,ek,ex⟩:=CU hk
 k_upd
 refine fgo hob T.a9 T.cy rfl ?_
 k_mem
 refine ⟨_,SqL.of hcs,_,ea,.inr (.inl ⟨rfl,T.CM⟩),_,_,_,_,rfl,rfl,T.CL _,rfl,rfl,rfl,ek,?_⟩
 rw [ei]
 k_mem
 refine ⟨_,hr,_,ex _,?_⟩
 k_mem
 have ec:(if k=Str.ofString "men" then (dk ls lv).1 else (dk ls lv).2)=bW ls lv k:=rfl
 rw [ec]
 k_upd
 refine fgo hob T.a9 T.ba rfl ⟨by decide,fun tp htp=>?_⟩
 k_mem
 refine ⟨_,_,_,_,rfl,rfl,((aC.refl H).lay htp).tup hst,SqT.of ah,List.all_eq_true.mpr (dj e),rfl,?_⟩
 have s0:=(aC.refl H).lay (o:=HO.tup [V.str (Str.ofString "armed"),V.int lv,V.int (bW ls lv k),V.int (bW ls lv k)]) htp
 have e2:eqL (pI e) [V.str (Str.ofString "armed"),V.int lv,V.int (bW ls lv k),V.int (bW ls lv k)]=_:=E9 e lv (bW ls lv k)
 rw [e2]
 have hob0:=s0 _ _ hob
 generalize upd H tp (HO.tup [V.str (Str.ofString "armed"),V.int lv,V.int (bW ls lv k),V.int (bW ls lv k)])=H0 at *
 have no:e≠.armed lv (bW ls lv k)->E (.ref Z.aN) none H0:=fun z=>q2 hlv.1 hlv.2 z H0 s0
 cases e with
 | armed l' r=>
  k_mem
  by_cases hh:l'=lv/\r=bW ls lv k
  ·rw [if_neg (by simp [hh])]
   k_mem
   refine ⟨by decide,fun st' hst'=>⟨_,_,_,upo hob0 hst',T.a9,T.ba,by show 3 < 1000;decide,?_⟩⟩
   have nsx:st'≠b:=fun z=>by rw [z,hob0] at hst';cases hst'
   have k0:=((aw.of (s0.lay (o:=HO.tup [V.str (Str.ofString "used up"),V.int lv,V.int (bW ls lv k),V.int (bW ls lv k)]) hst')).put (o:=HO.ins Z.bh dx (aX "state" (.ref st') [("codes",V.ref cs),("failed",V.ref fl),("state",V.ref st)])) (p:=b))
   refine q3 hlv.1 hlv.2 (by rw [hh.1,hh.2]) st' _ k0 (hB.state k0 (dx:=dx) (by rw [ah];rfl) (SqT.of ?_))
   rw [aE nsx,ah];rfl
  ·rw [if_pos (by simp;intro z1 z2;exact hh ⟨z1,z2⟩)]
   k_mem
   exact ⟨by decide,no fun z=>by injection z with z1 z2;exact hh ⟨z1,z2⟩⟩
 | _=>
  k_mem
  exact ⟨by decide,no fun z=>Eng.noConfusion z⟩
variable (pE:KM P w K mg base (CXf P w) 3 Z.bh "use" (jG K Z))
inductive iG (K:JA)(Z:Adr)(vs:List V)(H:Hp)(Q:VK)(E:XK):Prop | mk (b cs fl st:Addr) (ls:List Cd) (fs:List Bool) (e:Eng):vs=[.ref b]->bb Z.bh K H b cs fl st ls fs e->ls.length<=1000->(∀(b' cs' fl':Addr) (H':Hp),H b'=none->H cs'=none->H fl'=none->aC H H'->bb Z.bh K H' b' cs' fl' st ls fs e->Q (.ref b') H')->iG K Z vs H Q E
include T fZ in
theorem sU:FF P w K mg base CX0 3 "twin" "Bells.twin" ji nH (iG K Z):=fk0 lZ fun vs H Q E h=>by
 obtain ⟨b,cs,fl,st,ls,fs,e,rfl,hB,hn,q⟩:=h
 k_all
 refine ⟨_,ae (aJ (i:=1) lZ.nd rfl orL (dn fZ hr.dn T.yE bY (pa1 (aB (pv' 0))))) (ae (bA (pv' 1) (bB cf (by rfl) T.gC ez (pa1 (aB (pv' 0)))) rfl) (ae (bA (pv' 1) (aB (pv' 0)) rfl) (ag (aA (pv' 1))))),?_⟩
 obtain ⟨⟨db,hob⟩,⟨as,hcs,hT⟩,hfl,hst,nn,ln⟩:=id hB
 k_mem
 refine fgo hob T.a9 T.cy rfl ?_
 refine fun x dx hx hdx nxd=>?_
 have hx':upd H dx (.own x) x=none:=by rw [aE (Ne.symm nxd)];exact hx
 refine ⟨x,dx,cs,ls,rfl,ah,hB.rows.same (((aC.refl H).lay hdx).lay hx'),hn,fun cs1 fl1 st1 H1 hcs1 hfl1 kp hB1=>⟨rfl,?_⟩⟩
 have s1:=fo hx hdx kp
 obtain ⟨⟨dx1,hob1⟩,⟨as1,hc1,hT1⟩,hf1,_,nn1,ln1⟩:=id hB1
 clear kp
 k_mem
 refine fgo (s1 _ _ hob) T.a9 T.cD rfl ?_
 k_mem
 refine ⟨_,.inl (SqL.of (s1 _ _ hfl)),fun f2 hf2=>⟨_,_,_,upo hob1 hf2,T.a9,T.cD,by show 3 < 1000;decide,?_⟩⟩
 have nf2:f2≠x:=fun z=>by rw [z,hob1] at hf2;cases hf2
 have ncf:cs1≠f2:=ai hc1 hf2
 have ncx:cs1≠x:=fun z=>by rw [z,hob1] at hc1;cases hc1
 have s2:aC H (upd (upd H1 f2 (HO.lst (fs.map V.bl))) x (HO.ins Z.bh dx1 (aX "failed" (.ref f2) [("codes",V.ref cs1),("failed",V.ref fl1),("state",V.ref st1)]))):=(s1.lay hf2).rewr hx
 have k2:L2.aw x H1 (upd (upd H1 f2 (HO.lst (fs.map V.bl))) x (HO.ins Z.bh dx1 (aX "failed" (.ref f2) [("codes",V.ref cs1),("failed",V.ref fl1),("state",V.ref st1)]))):=(aw.of ((aC.refl H1).lay hf2)).put
 have hob2:upd (upd H1 f2 (HO.lst (fs.map V.bl))) x (HO.ins Z.bh dx1 (aX "failed" (.ref f2) [("codes",V.ref cs1),("failed",V.ref fl1),("state",V.ref st1)])) x=some (HO.ins Z.bh dx1 [("codes",V.ref cs1),("failed",V.ref f2),("state",V.ref st1)]):=by rw [ah];rfl
 have hff:upd (upd H1 f2 (HO.lst (fs.map V.bl))) x (HO.ins Z.bh dx1 (aX "failed" (.ref f2) [("codes",V.ref cs1),("failed",V.ref fl1),("state",V.ref st1)])) f2=some (HO.lst (fs.map V.bl)):=by rw [aE nf2,ah]
 generalize upd (upd H1 f2 (HO.lst (fs.map V.bl))) x (HO.ins Z.bh dx1 (aX "failed" (.ref f2) [("codes",V.ref cs1),("failed",V.ref fl1),("state",V.ref st1)]))=H2 at *
 refine fgo (s2 _ _ hob) T.a9 T.ba rfl ?_
 k_mem
 refine ⟨_,_,_,hob2,T.a9,T.ba,by show 3 < 1000;decide,?_⟩
 have k3:L2.aw x H2 (upd H2 x (HO.ins Z.bh dx1 (aX "state" (.ref st) [("codes",V.ref cs1),("failed",V.ref f2),("state",V.ref st1)]))):=(aw.of (aC.refl H2)).put
 refine q x cs1 f2 _ hx (eE hcs1) (s1.free hf2) (s2.rewr hx) ⟨⟨dx1,by rw [ah];rfl⟩,⟨as1,k3 _ _ ncx (k2 _ _ ncx hc1),(hT1.keepI k2 hob1).keepI k3 hob2⟩,k3 _ _ nf2 hff,(s2.rewr hx).tup hst,ncf,ln⟩
variable (ou:KM P w K mg base CX0 3 Z.bh "twin" (iG K Z))
inductive gN (K:JA)(Z:Adr)(vs:List V)(H:Hp)(Q:VK)(E:XK):Prop | mk (a:Addr) (ds:List Int) (c lv:Int):vs=[.ref a,.int c,.int lv]->SqL K H a (ds.map V.int)->0<=lv->lv < ds.length->Q (.int (if c=0 then ds.getD lv.toNat 0 else bX ds - ds.getD lv.toNat 0)) H->gN K Z vs H Q E
include T cU in
theorem rL:FF P w K mg base CX0 3 "wound_place" "wound_place" il lU (gN K Z):=fk0 qO fun vs H Q E h=>by
 obtain ⟨a,ds,c,lv,rfl,hS,h0,h1,q⟩:=h
 k_all
 refine seg 1 (ag (aA (dc0 cU hr.dn (pa2 (pv' 0) (aq au (pv' 0) (pv' 2)))))) fun zt1 zh1 ze1=>?_
 refine ⟨_,ae (aK (cb (pv' 1) af) (ag (aA (aq au (pv' 0) (pv' 2)))) (aD)) zh1,?_⟩
 k_mem
 split
 ·rename_i hc
  k_upd
  rw [if_pos hc] at q
  k_upd
  exact ⟨_,hS,_,cM h0 h1,q⟩
 ·rename_i hc
  k_upd
  rw [if_neg hc] at q
  k_upd
  refine ⟨_,hS,_,cM h0 h1,?_⟩
  k_mem
  exact ⟨a,ds,_,rfl,hS,by omega,q⟩
variable (mh:KD P w K mg base CX0 3 "wound_place" (gN K Z))
inductive kJ (K:JA)(Z:Adr)(vs:List V)(H:Hp)(Q:VK)(E:XK):Prop | mk (a:Addr) (ds:List Int) (pl:Int):vs=[.ref a,.int pl]->SqL K H a (ds.map V.int)->0 < ds.length->ds.length<=1000->(∀(b:Addr) (H':Hp),H b=none->aC H H'->H' b=some (.lst ((gU ds pl).map V.int))->Q (.ref b) H')->kJ K Z vs H Q E
include T cU in
theorem wj:FF P w K mg base CX0 3 "gates_by" "gates_by" mn qH (kJ K Z):=fk0 pA fun vs H Q E h=>by
 obtain ⟨a,ds,pl,rfl,hS,h0,h1,q⟩:=h
 k_all
 refine ⟨_,ae (aJ (i:=2) pA.nd rfl (Or.inr rfl) (bc (pa2 (pv' 1) (dc0 cU hr.dn (pa2 (pv' 0) (pv' 1)))))) (ag (aA (o7 ["level","depths","stands"] [none,some 0,some 2] (cG (by rfl) T.cP (pa1 (aF av (by rfl) T.bZ bw (pa1 (pv' 0))))) (fun _ _ _ _=>(aM (i:=0) (show (["level","depths","stands"]:List Str).Nodup by decide +kernel) rfl orL)) (fun _ _ _ _=>(pW (cw (show OpR _ _ (zp K false) from eR) (aq (show IxR _ (qy K) from au) (pv' 1) (pv' 0)) (pv' 2) (by rfl)))) (fun _ _ _ _=>(pv' 0))))),?_⟩
 k_mem
 refine ⟨a,ds,pl,rfl,hS,h0,?_⟩
 k_mem
 refine ⟨by decide,fun t ht=>⟨_,.inl (((aC.refl H).lay ht).seq hS),by omega,by rw [JB];omega,?_⟩⟩
 refine fC (fun i=>decide (ds.getD i 0=pl\/ds.getD i 0=bX ds - pl)) (fun i=>V.int (i:Int)) (Nat.le_of_lt (dX (by rw [JB];omega))) rfl (fun i hi N q=>?_) (fun i hi _ N q=>?_) (fun b hb=>?_)
 ·rw [JB] at hi
  k_mem
  refine ⟨_,((aC.refl H).lay ht).seq hS,_,by rw [Int.zero_add];exact vq (by omega),_,.inr (SqT.of ah),rfl,rfl,?_⟩
  rw [ye]
  exact q
 ·k_mem
  rw [Int.zero_add]
  exact q
 ·refine q b _ (upn hb) (((aC.refl H).lay ht).lay hb) ?_
  rw [ah]
  unfold gU
  rw [List.map_map,JB]
  rfl
variable (rM:KD P w K mg base CX0 3 "gates_by" (kJ K Z))
inductive iH (K:JA)(Z:Adr)(vs:List V)(H:Hp)(Q:VK)(E:XK):Prop | mk (x dx d c l:Addr) (ds:List Int) (ls:List Cd) (lds:List Ld) (slow fast:Int) (N:Addr->Prop):vs=[.ref x,.ref d,.ref c,.int slow,.int fast,.ref l]->H x=some (.ins Z.bp dx [])->SqL K H d (ds.map V.int)->hX cdV K H c ls->eA K H l lds->ds.length<=1000->ls.length<=1000->lds.length<=1000->((∀p,N p->∃ys,H p=some (.lst ys)))->((¬cq ds->E (.ref Z.ck) none H))->((cq ds->¬((ls.length:Int)=(ds.length:Nat)/\∀x∈ls,eO x)->E (.ref Z.cJ) none H))->((cq ds->((ls.length:Int)=(ds.length:Nat)/\∀x∈ls,eO x)->¬(1<=slow/\slow<=fast/\fast<=500)->E (.ref Z.cn) none H))->((cq ds->((ls.length:Int)=(ds.length:Nat)/\∀x∈ls,eO x)->(1<=slow/\slow<=fast/\fast<=500)->¬(lds.length<=30/\∀x∈lds,oF (ds.length:Nat) x)->E (.ref Z.cI) none H))->((cq ds->((ls.length:Int)=(ds.length:Nat)/\∀x∈ls,eO x)->(1<=slow/\slow<=fast/\fast<=500)->(lds.length<=30/\∀x∈lds,oF (ds.length:Nat) x)->∀bk rl H',aw x H H'->H rl=none->WAt (clZ Z) K H' x bk rl (nv ds ls slow fast lds N) (jK ds ls lds) []->Q .non H'))->iH K Z vs H Q E
include T g8 fZ kB kD dG pB me mf in
theorem sV:FF P w K mg base (CXf P w) 3 "__init__" "Works.__init__" jm nL (iH K Z):=fkF ir fun vs H Q E h=>by
 obtain ⟨x,dx,d,c,l,ds,ls,lds,slow,fast,N,rfl,hx,hD,hC,hL,n1,n2,n3,hN,q1,q2,q3,q4,q5⟩:=h
 k_all
 refine ⟨_,ae (bD (dc kB hr.dn cV (pa1 (pv' 1)))) (ae (bD (dc mf hr.dn cV (pa2 (pv' 2) (aF av (by rfl) T.bZ bw (pa1 (pv' 1)))))) (ae (bD (dc kD hr.dn cV (pa2 (pv' 3) (pv' 4)))) (ae (bD (dc me hr.dn cV (pa2 (pv' 5) (aF av (by rfl) T.bZ bw (pa1 (pv' 1)))))) (ae (bA (pv' 0) (bB cf (by rfl) T.gC ez (pa1 (pv' 1))) rfl) (ae (bA (pv' 0) (pv' 3) rfl) (ae (bA (pv' 0) (pv' 4) rfl) (ae (bA (pv' 0) (o7 ["kind","level","goal"] [none,none,none] (de (pv' 5)) (fun _ _ _ _=>(show PG _ _ (qw K 3 _) from kX (n:=3) rfl (bg (aM (i:=0) (show (["kind","level","goal"]:List Str).Nodup by decide +kernel) rfl orL) (bg (aM (i:=1) (show (["kind","level","goal"]:List Str).Nodup by decide +kernel) rfl orL) (bg (aM (i:=2) (show (["kind","level","goal"]:List Str).Nodup by decide +kernel) rfl orL) gp))))) (fun _ _ _ _=>jb) (fun _ _ _ _=>(pv' 2))) rfl) (ae (AA ["depth"] [none] (iy:=6) ir.nd rfl rfl (de (pv' 1)) (fun _ _ _ _=>(aM (i:=0) (show (["depth"]:List Str).Nodup by decide +kernel) rfl orL)) (fun _ _ _ _=>jb) (fun _ _ _ _=>fP)) (ae (aJ (i:=7) ir.nd rfl orL (dn dG hr.dn T.rg bY (pa4 (aq au (pv' 1) af) (pv' 6) (dn fZ hr.dn T.yE bY (pa1 (pv' 2))) (dn g8 hr.dn T.Bo bY (pa2 (pv' 5) (aF av (by rfl) T.bZ bw (pa1 (pv' 1)))))))) (ag (bA (pv' 0) (dn pB hr.dn T.EY bY (pa2 (pv' 7) (dA (by rfl) T.uK))) rfl))))))))))),?_⟩
 k_mem
 refine ⟨d,ds,rfl,hD,by omega,fun sh=>?_,q1⟩
 k_mem
 refine ⟨_,.inl hD,?_⟩
 rw [JB]
 refine ⟨c,ls,_,rfl,hC,fun h2=>?_,q2 sh⟩
 k_mem
 refine ⟨_,_,rfl,?_⟩
 by_cases h3:1<=slow/\slow<=fast/\fast<=500
 case neg=>rw [if_neg h3];exact q3 sh h2 h3
 rw [if_pos h3]
 k_mem
 refine ⟨_,.inl hD,?_⟩
 rw [JB]
 refine ⟨l,lds,_,rfl,hL,fun h4=>?_,q4 sh h2 h3⟩
 replace q5:=q5 sh h2 h3 h4
 clear q1 q2 q3 q4
 k_mem
 refine ⟨_,.inl hD,fun dl hdl=>⟨_,_,_,upo hx hdl,T.bt,T.cE,by decide,_,_,_,ah,T.bt,T.l9,by show 1 < 1000;decide,_,_,_,ah,T.bt,T.ma,by show 2 < 1000;decide,?_⟩⟩
 have ndx:dl≠x:=fun z=>by rw [z,hx] at hdl;cases hdl
 have k1:L2.aw x H (upd (upd (upd (upd H dl (HO.lst (ds.map V.int))) x (HO.ins Z.bp dx (aX "depths" (.ref dl) []))) x (HO.ins Z.bp dx (aX "slow" (.int slow) (aX "depths" (.ref dl) [])))) x (HO.ins Z.bp dx (aX "fast" (.int fast) (aX "slow" (.int slow) (aX "depths" (.ref dl) []))))):=(((aw.of ((aC.refl H).lay hdl)).put).put).put
 have hx1:upd (upd (upd (upd H dl (HO.lst (ds.map V.int))) x (HO.ins Z.bp dx (aX "depths" (.ref dl) []))) x (HO.ins Z.bp dx (aX "slow" (.int slow) (aX "depths" (.ref dl) [])))) x (HO.ins Z.bp dx (aX "fast" (.int fast) (aX "slow" (.int slow) (aX "depths" (.ref dl) [])))) x=some (HO.ins Z.bp dx [("depths",.ref dl),("slow",.int slow),("fast",.int fast)]):=by rw [ah];rfl
 have hd1:upd (upd (upd (upd H dl (HO.lst (ds.map V.int))) x (HO.ins Z.bp dx (aX "depths" (.ref dl) []))) x (HO.ins Z.bp dx (aX "slow" (.int slow) (aX "depths" (.ref dl) [])))) x (HO.ins Z.bp dx (aX "fast" (.int fast) (aX "slow" (.int slow) (aX "depths" (.ref dl) [])))) dl=some (HO.lst (ds.map V.int)):=by rw [aE ndx,aE ndx,aE ndx,ah]
 generalize upd (upd (upd (upd H dl (HO.lst (ds.map V.int))) x (HO.ins Z.bp dx (aX "depths" (.ref dl) []))) x (HO.ins Z.bp dx (aX "slow" (.int slow) (aX "depths" (.ref dl) [])))) x (HO.ins Z.bp dx (aX "fast" (.int fast) (aX "slow" (.int slow) (aX "depths" (.ref dl) []))))=H1 at *
 obtain ⟨asL,hLs,hLt⟩:=id hL
 refine ⟨⟨_,hLs.keepI k1 hx⟩,oK (fun y=>.int y.2.2) (hL.keepI k1 hx) (by rw [sizeLine_eq];omega) rfl (fun y _ M hM=>by k_mem;exact hM) fun gl hgl=>?_⟩
 k_mem
 refine ⟨_,_,_,upo hx1 hgl,T.bt,T.rh,by show 3 < 1000;decide,?_⟩
 have ngx:gl≠x:=fun z=>by rw [z,hx1] at hgl;cases hgl
 have ngd:dl≠gl:=ai hd1 hgl
 have k2:L2.aw x H1 (upd (upd H1 gl (HO.lst (lds.map fun y=>V.int y.2.2))) x (HO.ins Z.bp dx (aX "goals" (.ref gl) [("depths",.ref dl),("slow",.int slow),("fast",.int fast)]))):=(aw.of ((aC.refl H1).lay hgl)).put
 have hx2:upd (upd H1 gl (HO.lst (lds.map fun y=>V.int y.2.2))) x (HO.ins Z.bp dx (aX "goals" (.ref gl) [("depths",.ref dl),("slow",.int slow),("fast",.int fast)])) x=some (HO.ins Z.bp dx [("depths",.ref dl),("slow",.int slow),("fast",.int fast),("goals",.ref gl)]):=by rw [ah];rfl
 have hg2:upd (upd H1 gl (HO.lst (lds.map fun y=>V.int y.2.2))) x (HO.ins Z.bp dx (aX "goals" (.ref gl) [("depths",.ref dl),("slow",.int slow),("fast",.int fast)])) gl=some (HO.lst ((lds.map (·.2.2)).map V.int)):=by rw [aE ngx,ah,List.map_map];rfl
 generalize upd (upd H1 gl (HO.lst (lds.map fun y=>V.int y.2.2))) x (HO.ins Z.bp dx (aX "goals" (.ref gl) [("depths",.ref dl),("slow",.int slow),("fast",.int fast)]))=H2 at *
 have k12:=k1.trans k2
 have hd2:=k2 _ _ ndx hd1
 refine ⟨⟨_,hD.keepI k12 hx⟩,?_⟩
 refine o9 (fun _=>true) (fun _=>V.bl false) (hD.keepI k12 hx) (by rw [JB,sizeLine_eq];omega) rfl (fun y _ M hM=>by k_mem;exact hM) (fun y _ _ M hM=>by k_mem;exact hM) fun sh1 hsh1=>?_
 have es:((ds.map V.int).filter fun _=>true).map (fun _=>V.bl false)=(ds.map fun _=>false).map V.bl:=by
  rw [List.filter_eq_self.mpr (by simp),List.map_map,List.map_map];rfl
 rw [es]
 have f3:=(aC.refl H2).lay (o:=HO.lst ((ds.map fun _=>false).map V.bl)) hsh1
 have hs3:upd H2 sh1 (HO.lst ((ds.map fun _=>false).map V.bl)) sh1=some (HO.lst ((ds.map fun _=>false).map V.bl)):=ah
 generalize upd H2 sh1 (HO.lst ((ds.map fun _=>false).map V.bl))=H3 at *
 have k13:L2.aw x H H3:=k12.trans (aw.of f3)
 have sl2:=sh.l2
 k_mem
 refine ⟨_,hD.keepI k13 hx,_,cM (k:=0) (by omega) (by omega),?_⟩
 k_mem
 refine fun b db hb hdb nbd=>?_
 have hb':upd H3 db (.own b) b=none:=by rw [aE (Ne.symm nbd)];exact hb
 refine ⟨b,db,c,ls,rfl,ah,(hC.keepI k13 hx).same (((aC.refl H3).lay hdb).lay hb'),n2,fun cs fl st H4 hcs hfl kp hB=>⟨rfl,?_⟩⟩
 have f4:=fo hb hdb kp
 have fcs:=eE hcs
 have ffl:=eE hfl
 clear kp hcs hfl
 have f34:=f3.trans f4
 have k14:L2.aw x H H4:=k13.trans (aw.of f4)
 k_mem
 refine ⟨_,.inl (hD.keepI k14 hx),?_⟩
 rw [JB]
 refine fun y dy hy hdy nyd=>?_
 have hy':upd H4 dy (.own y) y=none:=by rw [aE (Ne.symm nyd)];exact hy
 refine ⟨y,dy,l,lds,_,rfl,ah,(hL.keepI k14 hx).same (((aC.refl H4).lay hdy).lay hy'),n3,fun kn wh H5 hkn hwh nkw kp hY=>⟨rfl,?_⟩⟩
 have f5:=fo hy hdy kp
 have fkn:=eE hkn
 have fwh:=eE hwh
 clear kp hkn hwh
 k_mem
 refine fun s ds1 hs hds1 nsd=>?_
 have hs':upd H5 ds1 (.own s) s=none:=by rw [aE (Ne.symm nsd)];exact hs
 refine ⟨s,ds1,sh1,b,y,ds.getD 0 0,ds.map fun _=>false,rfl,ah,(((aC.refl H5).lay hds1).lay hs').seq (SqL.of (f5 _ _ (f4 _ _ hs3))),fun ol H6 hol kp hob6 hol6=>⟨rfl,?_⟩⟩
 have f6:=fo hs hds1 kp
 have fol:=eE hol
 clear kp hol
 k_mem
 refine fun bk dbk hbk hdbk nbk=>?_
 refine ⟨bk,dbk,s,rfl,ah,fun rl H7 hrl kp hob7 hrl7=>⟨rfl,?_⟩⟩
 have f7:=fo hbk hdbk kp
 have frl:=eE hrl
 clear kp hrl
 have f26:=(f3.trans f4).trans (f5.trans f6)
 have f27:=f26.trans f7
 have hx7:=f27 _ _ hx2
 k_mem
 refine ⟨_,_,_,hx7,T.bt,T.bN,by show 4 < 1000;decide,?_⟩
 have k8:L2.aw x H7 (upd H7 x (HO.ins Z.bp dx (aX "log" (.ref bk) [("depths",.ref dl),("slow",.int slow),("fast",.int fast),("goals",.ref gl)]))):=(aw.of (aC.refl H7)).put
 have hx8:upd H7 x (HO.ins Z.bp dx (aX "log" (.ref bk) [("depths",.ref dl),("slow",.int slow),("fast",.int fast),("goals",.ref gl)])) x=some (HO.ins Z.bp dx [("depths",.ref dl),("slow",.int slow),("fast",.int fast),("goals",.ref gl),("log",.ref bk)]):=by rw [ah];rfl
 generalize upd H7 x (HO.ins Z.bp dx (aX "log" (.ref bk) [("depths",.ref dl),("slow",.int slow),("fast",.int fast),("goals",.ref gl)]))=H8 at *
 have frx:∀z,H6 z=none->H z=none:=fun z hz=>by
  by_cases e:z=x
  ·subst e;rw [f26 _ _ hx2] at hz;cases hz
  ·exact k12.free e (f26.free hz)
 obtain ⟨_,⟨asc,oc4,_⟩,of4,_,ncf,_⟩:=id hB
 obtain ⟨_,okn5,owh5⟩:=id hY
 have hsx:s≠x:=fun z=>by rw [z] at hs;rw [f5 _ _ (f34 _ _ hx2)] at hs;cases hs
 have hbx:b≠x:=fun z=>by rw [z] at hb;rw [f3 _ _ hx2] at hb;cases hb
 have hyx:y≠x:=fun z=>by rw [z] at hy;rw [f34 _ _ hx2] at hy;cases hy
 have hbkx:bk≠x:=fun z=>by rw [z] at hbk;rw [f26 _ _ hx2] at hbk;cases hbk
 have f46:=f5.trans f6
 have hN6:∀p,N p->∃ys,H6 p=some (.lst ys):=fun p hp=>by
  obtain ⟨ys,e⟩:=hN p hp
  exact ⟨ys,f26 _ _ (k12 _ _ (fun z=>by rw [z,hx] at e;cases e) e)⟩
 have hNn:∀p,N p->∀z,H z=none->z≠p:=fun p hp z hz e=>by
  obtain ⟨ys,e'⟩:=hN p hp
  rw [←e,hz] at e';cases e'
 have fr3:∀z,z≠x->H3 z=none->H z=none:=fun z e hz=>k13.free e hz
 have nx3:∀z,H3 z=none->z≠x:=fun z hz e=>by rw [e,f3 _ _ hx2] at hz;cases hz
 have gcs:=fr3 cs (nx3 cs fcs) fcs
 have gfl:=fr3 fl (nx3 fl ffl) ffl
 have gkn:=fr3 kn (nx3 kn (f4.free fkn)) (f4.free fkn)
 have gwh:=fr3 wh (nx3 wh (f4.free fwh)) (f4.free fwh)
 have gol:=fr3 ol (nx3 ol (f4.free (f5.free fol))) (f4.free (f5.free fol))
 have cs5:=f5 _ _ oc4
 have fl5:=f5 _ _ of4
 have hst:aU (clZ Z) K H7 rl (nv ds ls slow fast lds N) s ⟨ds1,ol,b,cs,fl,st,y,kn,wh⟩ (jK ds ls lds):=
  ⟨f7 _ _ hob6,f7 _ _ hol6,((hB.same f5).same f6).same f7,(hY.same f6).same f7,
   ⟨ai hol6 frl,ai (f6 _ _ cs5) frl,ai (f6 _ _ fl5) frl,ai (f6 _ _ okn5) frl,ai (f6 _ _ owh5) frl,
   ai cs5 fol,ai fl5 fol,ai okn5 fol,ai owh5 fol,
   (ai fl5 fol).symm,(ai of4 fkn).symm,(ai of4 fwh).symm,
   (ai owh5 fol).symm,ai oc4 fwh,ai of4 fwh,nkw⟩,
   ⟨fun p hp=>by obtain ⟨ys,e⟩:=hN6 p hp;exact ⟨ys,f7 _ _ e⟩,fun p hp=>hNn p hp rl (frx rl frl),fun p hp=>hNn p hp ol gol,fun p hp=>hNn p hp cs gcs,fun p hp=>hNn p hp fl gfl,fun p hp=>hNn p hp kn gkn,fun p hp=>hNn p hp wh gwh⟩⟩
 have hst8:=hst.keepI k8 hx7 hsx hbx hyx
 have nrx:rl≠x:=fun z=>by rw [z] at frl;rw [f26 _ _ hx2] at frl;cases frl
 refine q5 bk rl H8 ((k12.trans (aw.of f27)).trans k8) (frx rl frl) ⟨⟨dx,dl,gl,hx8,k8 _ _ ndx (f27 _ _ hd2),k8 _ _ ngx (f27 _ _ hg2),ai (f26 _ _ hd2) frl,ai (f26 _ _ hg2) frl,fun p hp=>hNn p hp dl hdl,fun p hp=>hNn p hp gl (k1.free ngx hgl)⟩,⟨dbk,s,k8 _ _ hbkx hob7,hst8.at⟩,[],k8 _ _ nrx hrl7,rfl,fun i a r e=>by simp at e⟩
variable (gf:KN P w K mg base (CXf P w) 3 Z.bp (iH K Z))
def ub (Z:Adr)(K:JA)(H:Hp)(w bk rl:Addr)(g:Cfg)(n0:aY)(rs:List Row)(d:Dd)(Q:VK)(E:XK):Prop:=
 (300<=rs.length->∀H',aC H H'->E (.ref Z.cx) none H')/\(rs.length < 300->∀H',aw rl H H'->WAt (clZ Z) K H' w bk rl g n0 (rs++[pf g n0 rs d])->Q (.int (jO rs+xc g (aH n0 rs) d)) H')
inductive gO (K:JA)(Z:Adr)(vs:List V)(H:Hp)(Q:VK)(E:XK):Prop | mk (w bk rl:Addr) (g:Cfg) (n0:aY) (rs:List Row) (dd s:Addr) (tk:Int) (dv:List V) (n:aY):vs=[.ref w,.ref dd,.int tk,.ref s]->WAt (clZ Z) K H w bk rl g n0 rs->SqT K H dd dv->cW (clZ Z) K H rl g s n->g.ks.length=n.ws.length->((300<=rs.length->∀H',aC H H'->E (.ref Z.cx) none H'))->((rs.length < 300->∀H',aw rl H H'->WAt (clZ Z) K H' w bk rl g n0 (rs++[⟨jO rs,jO rs+tk,dv,eP g n,n⟩])->Q (.int (jO rs+tk)) H'))->gO K Z vs H Q E
include T oi cR pC in
theorem rN:FF P w K mg base (CXf P w) 3 "write" "Works.write" iu lX (gO K Z):=fkF qR fun vs H Q E h=>by
 obtain ⟨w,bk,rl,g,n0,rs,dd,s0,tk,dv,n,rfl,hW,hD,hS,hl,q1,q2⟩:=h
 k_all
 refine seg 1 (ag (aA (fW (pv' 0) pC hr.dn bY))) fun zt1 zh1 ze1=>?_
 refine ⟨_,ae (bD (dm' (aB (pv' 0)) oi hr.dn cV (pa4 (pv' 1) (pv' 2) (dm' (pv' 0) cR hr.dn bY (pa1 (pv' 3))) (pv' 3)))) zh1,?_⟩
 obtain ⟨⟨dx,dl,gl,hob,hdl,hgl,n1,n2⟩,hB⟩:=id hW
 obtain ⟨⟨db,f0,hbo,hF⟩,as,hrl,hR⟩:=id hB
 k_mem
 refine fgo hob T.bt T.bN rfl ?_
 k_mem
 refine mgo hbo rfl (mgo hob rfl ⟨_,_,_,_,_,_,_,_,rfl,hW,hS,hl,fun H1 s1=>?_⟩)
 k_mem
 refine ⟨bk,rl,dd,s0,g,n0,n,rs,tk,eP g n,dv,rfl,hB.same s1,s1.tup hD,hS.same s1,fun h=>q1 h H1 s1,fun h H2 k2 hB2=>?_⟩
 k_mem
 have k1:L2.aw rl H H2:=(aw.of s1).trans k2
 have hW2:WAt (clZ Z) K H2 w bk rl g n0 _:=(hW.same s1).keep k2 (s1 _ _ hrl) hB2
 obtain ⟨dx2,_,_,hob2,_⟩:=id hW2.ob
 k_upd
 refine mgo hob2 rfl ⟨_,_,_,_,_,_,rfl,hW2,?_⟩
 rw [tH]
 k_upd
 exact q2 h H2 k1 hW2
variable (bJ:KM P w K mg base (CXf P w) 3 Z.bp "write" (gO K Z))
inductive di (K:JA)(Z:Adr)(vs:List V)(H:Hp)(Q:VK)(E:XK):Prop | mk (w bk rl:Addr) (g:Cfg) (n0:aY) (rs:List Row) (pl:Int):vs=[.ref w,.int pl]->WAt (clZ Z) K H w bk rl g n0 rs->0 < g.ds.length->(∀p,H p=none->Q (.ref p) (upd H p (.tup [.int pl,.int (bX g.ds - pl)])))->di K Z vs H Q E
include T cU in
theorem kK:FF P w K mg base CX0 3 "both_places" "Works.both_places" du fS (di K Z):=fk0 ke fun vs H Q E h=>by
 obtain ⟨w,bk,rl,g,n0,rs,pl,rfl,hW,hn,q⟩:=h
 k_all
 refine ⟨_,ag (aA (bc (pa2 (pv' 1) (dc0 cU hr.dn (pa2 (aB (pv' 0)) (pv' 1)))))),?_⟩
 obtain ⟨⟨dx,dl,gl,hob,hdl,hgl,n1,n2⟩,hB⟩:=id hW
 obtain ⟨⟨db,f0,hbo,hF⟩,as,hrl,hR⟩:=id hB
 k_mem
 refine fgo hob T.bt T.cE rfl ?_
 k_mem
 refine ⟨_,_,_,rfl,SqL.of hdl,hn,?_⟩
 k_mem
 exact ⟨by decide,q⟩
variable (fT:KM P w K mg base CX0 3 Z.bp "both_places" (di K Z))
theorem zF {x y z i:Int}(h0:0<=i)(h2:i<=2):atI [V.int x,V.int y,V.int z] i=some (.int (if i=0 then x else if i=1 then y else z)):=by
 rcases (by omega:i=0\/i=1\/i=2) with rfl | rfl | rfl<;>rfl
inductive mQ (K:JA)(Z:Adr)(vs:List V)(H:Hp)(Q:VK)(E:XK):Prop | mk (a:Addr) (ns:List Int):vs=[.ref a]->SqL K H a (ns.map V.int)->(∀(p dl cl:Addr) (ds:List Int) (as:List Addr) (ls:List Cd) (slow fast:Int) (H':Hp),aC H H'->H p=none->H dl=none->H cl=none->dl≠cl->H' p=some (.lst [.ref dl,.ref cl,.int slow,.int fast])->H' dl=some (.lst (ds.map V.int))->cq ds->H' cl=some (.lst (as.map V.ref))->bP cdV K H' as ls->ls.length=ds.length->(∀x∈ls,eO x)->(1<=slow/\slow<=fast/\fast<=500)->Q (.ref p) H')->mQ K Z vs H Q E
include T u4 cA rJ ua in
theorem xO:FF P w K mg base CX0 3 "_law_shaft" "_law_shaft" iR tQ (mQ K Z):=fk0 dO fun vs H Q E h=>by
 obtain ⟨a,ns,rfl,hS,q⟩:=h
 k_all
 obtain ⟨t1,h1,k1⟩:∃t,PSs (rW CX0 P w K mg base ["_law_script","_law_depths_here","_law_codes_here","_law_cell","_law_slow","_law_fast"] "_law_shaft" (aj iR) zf zv zA zo zs H E).nox ((bQ iR).drop 4) t/\∀(dl cl:Addr) (ds:List Int) (as:List Addr) (ls:List Cd) (c slow:Int) (H1:Hp),aC H H1->H dl=none->H cl=none->dl≠cl->H1 dl=some (.lst (ds.map V.int))->cq ds->H1 cl=some (.lst (as.map V.ref))->bP cdV K H1 as ls->ls.length=ds.length->(∀x∈ls,eO x)->1<=slow->slow<=500->t ({nx:=fun _ H2=>Q .non H2,rt:=Q}:lj) [some (.ref a),some (.ref dl),some (.ref cl),some (.int c),some (.int slow),none] H1:=by
  refine ⟨_,ae (aK (cb (dc0 cA hr.dn (pa3 (pv' 3) af af)) af) (ag (aJ (i:=4) dO.nd rfl orL af)) (aD)) (ae (aJ (i:=5) dO.nd rfl orL (aq au (br (pa3 (pv' 4) af (aV bK (pv' 4) (dc0 cA hr.dn (pa3 (pv' 3) af (aV cC af (pv' 4))))))) (aF (mj rfl) (by rfl) T.Bn w9 (pa2 af (dc0 cA hr.dn (pa3 (pv' 3) af af)))))) (ag (aA (br (pa4 (pv' 1) (pv' 2) (pv' 4) (pv' 5)))))),?_⟩
  intro dl cl ds as ls c slow H1 s1 fd fc ndc hdl hsh hcl hT hlen hg h1 h5
  k_mem
  refine ⟨c,4,16,rfl,by omega,by omega,by omega,fun r4 h40 h41=>?_⟩
  k_mem
  split
  all_goals
   refine ⟨c,2,_,rfl,by omega,by omega,by omega,fun r2 h20 h21=>⟨by decide,fun p1 hp1=>⟨c,3,8,rfl,by omega,by omega,by omega,fun r3 h30 h31=>?_⟩⟩⟩
   k_mem
   refine ⟨_,SqL.of ah,_,zF (by split<;>omega) (by split<;>omega),by decide,fun p2 hp2=>?_⟩
   refine q p2 dl cl ds as ls _ _ _ (s1.trans (((aC.refl H1).lay hp1).lay hp2)) (s1.free (upn hp2)) fd fc ndc ah (upo (upo hdl hp1) hp2) hsh (upo (upo hcl hp1) hp2) (hT.same (((aC.refl H1).lay hp1).lay hp2)) hlen hg ⟨by omega,?_,?_⟩
   ·(repeat' split)<;>omega
   ·(repeat' split)<;>omega
 refine ⟨_,ae (aJ (i:=1) dO.nd rfl orL (dc0 rJ hr.dn (pa1 (dc0 u4 hr.dn (pa2 (pv' 0) af))))) (ae (aJ (i:=2) dO.nd rfl orL (dc0 ua hr.dn (pa2 (dc0 u4 hr.dn (pa2 (pv' 0) af)) (aF av (by rfl) T.bZ bw (pa1 (pv' 1)))))) (ae (aJ (i:=3) dO.nd rfl orL (dc0 u4 hr.dn (pa2 (pv' 0) af))) (ae (aJ (i:=4) dO.nd rfl orL (aV bK af (dc0 cA hr.dn (pa3 (pv' 3) af (aq au (br (pa2 af af)) (dc0 cA hr.dn (pa3 (pv' 3) af af))))))) h1))),?_⟩
 k_mem
 refine ⟨a,ns,1,rfl,hS,by omega,?_⟩
 k_mem
 refine ⟨_,rfl,fun dl ds H1 hdn s1 hdl hsh=>?_⟩
 have l2:=hsh.l2
 have l6:=hsh.l6
 k_mem
 refine ⟨a,ns,2,rfl,s1.seq hS,by omega,?_⟩
 k_mem
 refine ⟨_,.inl (SqL.of hdl),?_⟩
 rw [JB]
 refine ⟨_,_,rfl,by omega,by omega,fun cl as ls H2 hcn s2 hcl hT hlen hg=>?_⟩
 have ndc:dl≠cl:=ai hdl hcn
 k_mem
 refine ⟨a,ns,3,rfl,(s1.trans s2).seq hS,by omega,?_⟩
 k_mem
 refine ⟨by decide,fun p hp=>⟨_,0,2,rfl,by omega,by omega,by omega,fun r0 h00 h01=>?_⟩⟩
 have e0:∃m:Int,(m=30\/m=500)/\atI [V.int 30,V.int 500] r0=some (.int m):=BV (x:=30) (y:=500) (by omega)
 obtain ⟨m,hm,em⟩:=e0
 k_mem
 refine ⟨_,SqL.of ah,_,em,_,1,m,rfl,by omega,by omega,by omega,fun r1 h10 h11=>?_⟩
 k_mem
 have sx:=(aC.refl H2).lay (o:=HO.lst [V.int 30,V.int 500]) hp
 exact k1 dl cl ds as ls _ _ _ ((s1.trans s2).trans sx) hdn (s1.free hcn) ndc (sx _ _ (s2 _ _ hdl)) hsh (sx _ _ hcl) (hT.same sx) (by omega) hg (by omega) (by omega)
variable (lh:KD P w K mg base CX0 3 "_law_shaft" (mQ K Z))
inductive jH (K:JA)(Z:Adr)(vs:List V)(H:Hp)(Q:VK)(E:XK):Prop | mk (dl cl dn da:Addr) (g:Cfg) (n:aY) (as:List Addr) (L:List Dd) (d:Dd):vs=[.ref dl,.ref cl,.ref dn,.ref da]->H dl=some (.lst (g.ds.map V.int))->((∃cs:List Addr,H cl=some (.lst (cs.map V.ref))/\bP cdV K H cs g.ls))->H dn=some (.lst (as.map V.ref))->dw H as L->L.length<=1000->gV g->c5 g n->M33 g n L->H da=some (.tup (ddV d))->rD g.ds.length d->(∀H',aC H H'->Q (.str (rwW (dq g n d))) H')->jH K Z vs H Q E
include T i4 cB i5 in
theorem va:FF P w K mg base CX0 3 "_law_refusal" "_law_refusal" kh px (jH K Z):=fk0 uG fun vs H Q E h=>by
 obtain ⟨dl,cl,dn,da,g,n,as,L,d,rfl,hdl,⟨cs,hcl,hC⟩,hdn,hD,hL,hg,hn,hM,hda,hgd,q⟩:=h
 k_all
 refine seg 4 (ag (aA (aq au (br (pa2 ak ak)) (bB cO (by rfl) T.ki gh (pa1 (bR fD (dc0 i4 hr.dn (pa2 (pv' 2) (aq aG (pv' 3) af))) (bR fD (aq aG (pv' 3) af) ak (bE _)) (bE _))))))) fun zt4 zh4 ze4=>?_
 refine seg 3 (ae (aK (cb (aq aG (pv' 3) af) ak) (ag (aA (aq au (br (pa2 ak ak)) (bB cO (by rfl) T.ki gh (pa1 (bR (Bi hr.units1) (pv' 3) (pv' 2) (by rfl))))))) (aD)) zh4) fun zt3 zh3 ze3=>?_
 refine seg 2 (ae (aK (cb (aq aG (pv' 3) af) ak) (ae (aK (cw (Bi hr.units1) (bc (pa2 ak (aq aG (pv' 3) af))) (pv' 2) (by rfl)) (ag (aA ak)) (aD)) (ag (aA (aq au (br (pa2 ak ak)) (bB cO (by rfl) T.ki gh (pa1 (bR eR (aq aG (pv' 3) af) (aq au (pv' 1) (aq aG (pv' 3) af)) (by rfl)))))))) (aD)) zh3) fun zt2 zh2 ze2=>?_
 refine seg 1 (ae (aK (cb (aq aG (pv' 3) af) ak) (ae (aK (tN (aq aG (dc0 cB hr.dn (pa1 (pv' 2))) af) ak) (ag (aA ak)) (aD)) (ag (aA (aq au (br (pa2 ak ak)) (bB cO (by rfl) T.ki gh (pa1 (bR zh (aq aG (pv' 3) af) (bB uv (by rfl) T.cP Ai (pa2 af af)) (by rfl)))))))) (aD)) zh2) fun zt1 zh1 ze1=>?_
 refine ⟨_,ae (aK (cb (aq aG (pv' 3) af) ak) (ag (aA (dc0 i5 hr.dn (pa4 (pv' 0) (pv' 1) (pv' 2) (pv' 3))))) (aD)) zh1,?_⟩
 have hal:=hD.1
 have l2:=hg.sh.l2
 have lc:=hg.lc
 have hT:SqT K H da (ddV d):=SqT.of hda
 k_mem
 cases d with
 | wind c l k=>
  refine ⟨_,hT,_,ay (k:=0) rfl,?_⟩
  k_mem
  rw [if_pos rfl]
  k_mem
  exact ⟨dl,cl,dn,da,g,n,as,L,c,l,k,rfl,hdl,⟨cs,hcl,hC⟩,hdn,hD.at,hL,hg,hn,hM,hT,hgd.2,q⟩
 | rept s=>
  refine ⟨_,hT,_,ay (k:=0) rfl,?_⟩
  k_mem
  rw [if_neg (by decide)]
  k_mem
  refine ⟨_,hT,_,ay (k:=0) rfl,?_⟩
  k_mem
  rw [if_pos rfl]
  k_mem
  refine ⟨dn,as,L,pT n.e,rfl,hdn,hD.at,hL,hM.en,fun p1 H3 s3 hp1=>?_⟩
  k_mem
  have q':=q H3 s3
  have nr:∀x y:Str,¬x=y->(∀{A:Prop},Q (.str "NothingRung") H3->if ¬x=y then Q (.str "NothingRung") H3 else A):=fun x y h A k=>(by rw [if_pos h];exact k)
  cases he:n.e with
  | wait l r=>
   rw [he] at hp1
   k_upd
   refine ⟨_,hp1,_,ay (k:=0) rfl,?_⟩
   k_mem
   rw [if_neg (by decide)]
   k_upd
   refine ⟨by decide,fun p3 hp3=>?_⟩
   (generalize hE:upd H3 p3 _=H4 at *;have s4:=cv hE hp3;have e4:=bj hE;clear hE)
   k_upd
   refine ⟨_,(s3.trans s4).tup hT,_,ay (k:=1) rfl,_,_,rfl,fun p5 hp5=>?_⟩
   (generalize hE:upd H4 p5 _=H5 at *;have s5:=cv hE hp5;have e5:=bj hE;clear hE)
   have q5:=q H5 (s3.trans (s4.trans s5))
   simp only [dq,he] at q5
   k_upd
   refine ⟨_,_,_,_,rfl,rfl,e5,_,SqL.of (s5 _ _ e4),?_⟩
   by_cases h9:1<=s/\s < 10
   ·rw [decide_eq_true h9]
    k_upd
    rw [if_pos (by omega)] at q5
    k_upd
    exact ⟨_,rfl,q5⟩
   ·rw [decide_eq_false h9]
    k_upd
    rw [if_neg (by omega)] at q5
    k_upd
    exact ⟨_,rfl,q5⟩
  | _=>
   rw [he] at hp1
   simp only [dq,he] at q'
   k_upd
   refine ⟨_,hp1,_,ay (k:=0) rfl,?_⟩
   k_mem
   first | exact nr _ _ (by decide) q' | exact nr _ _ (qc _ _ _) q'
 | ring l s=>
  refine ⟨_,hT,_,ay (k:=0) rfl,?_⟩
  k_mem
  rw [if_neg (by decide)]
  k_mem
  refine ⟨_,hT,_,ay (k:=0) rfl,?_⟩
  k_mem
  rw [if_neg (by decide)]
  k_mem
  refine ⟨_,hT,_,ay (k:=0) rfl,?_⟩
  k_mem
  rw [if_pos rfl]
  k_mem
  have lvn:¬unk l g.ds.length:=fun z=>z hgd
  k_upd
  refine ⟨_,hT,_,ay (k:=1) rfl,by decide,fun p1 hp1=>?_⟩
  (generalize hE:upd H p1 _=H1 at *;have s1:=cv hE hp1;have e1:=bj hE;clear hE)
  obtain ⟨f,f1,f2⟩:=Gj (K:=K) (lv:=l) (hD.same s1) e1
  k_upd
  refine ⟨as,_,f,SqL.of (s1 _ _ hdn),SqT.of e1,rfl,f1,?_⟩
  have hf:n.fs.getD l.toNat false=true↔Dd.fail l∈L:=by
   have:=hM.fl l.toNat (by have:=hgd.1;have:=hgd.2;omega)
   rw [Int.toNat_of_nonneg hgd.1] at this
   exact this
  by_cases hm:as.any f=true
  ·have q':=q H1 s1
   have er:dq g n (.ring l s)=some .db:=by
    show (if unk l g.ds.length then _ else if n.fs.getD l.toNat false=true then _ else _)=_
    k_upd
    rw [if_neg lvn,if_pos (hf.mpr (f2.mp hm))]
   rw [er] at q'
   k_upd
   rw [if_pos hm]
   k_upd
   exact q'
  ·have er:dq g n (.ring l s)=if s=(dk g.ls l).1\/s=(dk g.ls l).2 then none else some .nc:=by
    show (if unk l g.ds.length then _ else if n.fs.getD l.toNat false=true then _ else _)=_
    k_upd
    rw [if_neg lvn,if_neg (fun z=>hm (f2.mpr (hf.mp z)))]
   k_upd
   rw [if_neg hm]
   k_upd
   refine ⟨by decide,fun p2 hp2=>?_⟩
   (generalize hE:upd H1 p2 _=H2 at *;have s2:=cv hE hp2;have e2:=bj hE;clear hE)
   have s12:=s1.trans s2
   obtain ⟨cd,acd,hcd⟩:=nq (bP.same s12 hC) hgd.1 (by have:=hgd.2;omega)
   k_upd
   refine ⟨_,s12.tup hT,_,ay (k:=2) rfl,_,s12.tup hT,_,ay (k:=1) rfl,?_⟩
   k_mem
   refine ⟨_,SqL.of (s12 _ _ hcl),_,acd,?_⟩
   k_mem
   refine ⟨_,.inr hcd,rfl,rfl,_,SqL.of e2,?_⟩
   have q':=q H2 s12
   rw [er] at q'
   have ei:inV (.int s) (cdV (dk g.ls l))=decide (s=(dk g.ls l).1\/s=(dk g.ls l).2):=by
    show inV (.int s) ([(dk g.ls l).1,(dk g.ls l).2].map V.int)=_
    rw [ni]
    simp
   rw [ei]
   by_cases hc:s=(dk g.ls l).1\/s=(dk g.ls l).2
   ·rw [if_pos hc] at q'
    rw [decide_eq_true hc]
    k_upd
    exact ⟨_,rfl,q'⟩
   ·rw [if_neg hc] at q'
    rw [decide_eq_false hc]
    k_upd
    exact ⟨_,rfl,q'⟩
 | fail l=>
  refine ⟨_,hT,_,ay (k:=0) rfl,?_⟩
  k_mem
  rw [if_neg (by decide)]
  k_mem
  refine ⟨_,hT,_,ay (k:=0) rfl,?_⟩
  k_mem
  rw [if_neg (by decide)]
  k_mem
  refine ⟨_,hT,_,ay (k:=0) rfl,?_⟩
  k_mem
  rw [if_neg (by decide)]
  k_mem
  refine ⟨_,hT,_,ay (k:=0) rfl,?_⟩
  k_mem
  rw [if_pos rfl]
  k_mem
  have lvn:¬unk l g.ds.length:=fun z=>z hgd
  have hf:n.fs.getD l.toNat false=true↔Dd.fail l∈L:=by
   have:=hM.fl l.toNat (by have:=hgd.1;have:=hgd.2;omega)
   rw [Int.toNat_of_nonneg hgd.1] at this
   exact this
  k_upd
  refine ⟨by decide,fun p1 hp1=>?_⟩
  (generalize hE:upd H p1 _=H1 at *;have s1:=cv hE hp1;have e1:=bj hE;clear hE)
  obtain ⟨f,f1,f2⟩:=Gj (K:=K) (lv:=l) (hD.same s1) (s1 _ _ hda)
  k_upd
  refine ⟨as,_,f,SqL.of (s1 _ _ hdn),s1.tup hT,rfl,f1,_,SqL.of e1,?_⟩
  have q':=q H1 s1
  have er:dq g n (.fail l)=if n.fs.getD l.toNat false=true then some .ch else none:=by
   show (if unk l g.ds.length then _ else _)=_
   k_upd
   rw [if_neg lvn]
  rw [er] at q'
  by_cases hm:as.any f=true
  ·rw [if_pos (hf.mpr (f2.mp hm))] at q'
   rw [hm]
   k_upd
   exact ⟨_,rfl,q'⟩
  ·rw [if_neg fun z=>hm (f2.mpr (hf.mp z))] at q'
   rw [Bool.eq_false_iff.mpr hm]
   k_upd
   exact ⟨_,rfl,q'⟩
 | opn l=>
  refine ⟨_,hT,_,ay (k:=0) rfl,?_⟩
  k_mem
  rw [if_neg (by decide)]
  k_mem
  refine ⟨_,hT,_,ay (k:=0) rfl,?_⟩
  k_mem
  rw [if_neg (by decide)]
  k_mem
  refine ⟨_,hT,_,ay (k:=0) rfl,?_⟩
  k_mem
  rw [if_neg (by decide)]
  k_mem
  refine ⟨_,hT,_,ay (k:=0) rfl,?_⟩
  k_mem
  rw [if_neg (by decide)]
  k_mem
  have lvn:¬unk l g.ds.length:=fun z=>z hgd
  have hw:n.gates.getD l.toNat false=fv l L:=by
   have:=hM.ga l.toNat (by have:=hgd.1;have:=hgd.2;omega)
   rw [Int.toNat_of_nonneg hgd.1] at this
   exact this
  k_upd
  refine ⟨by decide,fun p1 hp1=>?_⟩
  (generalize hE:upd H p1 _=H1 at *;have s1:=cv hE hp1;have e1:=bj hE;clear hE)
  k_upd
  refine ⟨_,s1.tup hT,_,ay (k:=1) rfl,dn,as,L,l,rfl,s1 _ _ hdn,(hD.same s1).at,hL,fun H2 s2=>?_⟩
  k_upd
  refine ⟨_,(s1.trans s2).tup hT,_,ay (k:=0) rfl,?_⟩
  k_mem
  refine ⟨_,SqL.of (s2 _ _ e1),?_⟩
  have q':=q H2 (s1.trans s2)
  have er:dq g n (.opn l)=if n.gates.getD l.toNat false=true then some .ch else none:=by
   show (if unk l g.ds.length then _ else _)=_
   k_upd
   rw [if_neg lvn]
  rw [er,hw] at q'
  cases ew:fv l L with
  | true=>
   rw [ew] at q'
   k_upd
   exact ⟨_,rfl,q'⟩
  | false=>
   rw [ew] at q'
   k_upd
   exact ⟨_,rfl,q'⟩
 | sht l=>
  refine ⟨_,hT,_,ay (k:=0) rfl,?_⟩
  k_mem
  rw [if_neg (by decide)]
  k_mem
  refine ⟨_,hT,_,ay (k:=0) rfl,?_⟩
  k_mem
  rw [if_neg (by decide)]
  k_mem
  refine ⟨_,hT,_,ay (k:=0) rfl,?_⟩
  k_mem
  rw [if_neg (by decide)]
  k_mem
  refine ⟨_,hT,_,ay (k:=0) rfl,?_⟩
  k_mem
  rw [if_neg (by decide)]
  k_mem
  have lvn:¬unk l g.ds.length:=fun z=>z hgd
  have hw:n.gates.getD l.toNat false=fv l L:=by
   have:=hM.ga l.toNat (by have:=hgd.1;have:=hgd.2;omega)
   rw [Int.toNat_of_nonneg hgd.1] at this
   exact this
  k_upd
  refine ⟨by decide,fun p1 hp1=>?_⟩
  (generalize hE:upd H p1 _=H1 at *;have s1:=cv hE hp1;have e1:=bj hE;clear hE)
  k_upd
  refine ⟨_,s1.tup hT,_,ay (k:=1) rfl,dn,as,L,l,rfl,s1 _ _ hdn,(hD.same s1).at,hL,fun H2 s2=>?_⟩
  k_upd
  refine ⟨_,(s1.trans s2).tup hT,_,ay (k:=0) rfl,?_⟩
  k_mem
  refine ⟨_,SqL.of (s2 _ _ e1),?_⟩
  have q':=q H2 (s1.trans s2)
  have er:dq g n (.sht l)=if n.gates.getD l.toNat false=false then some .ch else none:=by
   show (if unk l g.ds.length then _ else _)=_
   k_upd
   rw [if_neg lvn]
  rw [er,hw] at q'
  cases ew:fv l L with
  | true=>
   rw [ew] at q'
   k_upd
   exact ⟨_,rfl,q'⟩
  | false=>
   rw [ew] at q'
   k_upd
   exact ⟨_,rfl,q'⟩
 | load k c=>exact hgd.elim
 | unload c=>exact hgd.elim
variable (hJ:KD P w K mg base CX0 3 "_law_refusal" (jH K Z))
inductive eW (K:JA)(Z:Adr)(vs:List V)(H:Hp)(Q:VK)(E:XK):Prop | mk (s rl:Addr) (g:Cfg) (n:aY) (ys:List V):vs=[.ref s]->cW (clZ Z) K H rl g s n->H rl=some (.lst ys)->g.ls.length<=1000->(∀(s':Addr) (A:SA) (H':Hp),aC H H'->H s'=none->H A.ol=none->H A.b=none->H A.fl=none->H A.y=none->H A.wh=none->aU (clZ Z) K H' rl g s' A n->Q (.ref s') H')->eW K Z vs H Q E
include T dG pD ou in
theorem oZ:FF P w K mg base CX0 4 "twin" "Standing.twin" fG jN (eW K Z):=fk0 oO fun vs H Q E h=>by
 obtain ⟨s0,rl,g,n,ys,rfl,⟨A0,hA⟩,hrl,hls,q⟩:=h
 k_all
 refine ⟨_,ag (aA (dn dG hr.dn T.rg bY (pa4 (aB (pv' 0)) (aB (pv' 0)) (fW (aB (pv' 0)) ou hr.dn bY) (fW (aB (pv' 0)) pD hr.dn bY)))),?_⟩
 k_mem
 refine fgo hA.ob T.aO T.bU rfl (fgo hA.ob T.aO T.cz rfl (fgo hA.ob T.aO T.bL rfl ?_))
 k_mem
 obtain ⟨db,hbb⟩:=hA.be.ob
 obtain ⟨dy,hyb⟩:=hA.ya.ob
 k_upd
 refine mgo hbb rfl ⟨_,_,_,_,_,_,_,rfl,hA.be,hls,fun b1 cs1 fl1 H1 hb1 hc1 hf1 s1 hB1=>?_⟩
 k_upd
 refine fgo (s1 _ _ hA.ob) T.aO T.eT rfl ?_
 k_mem
 refine mgo (s1 _ _ hyb) rfl ⟨_,_,_,_,_,_,rfl,hA.ya.same s1,fun y2 kn2 wh2 H2 hy2 hk2 hw2 nkw s2 hY2=>?_⟩
 refine fun x dx hx hdx nxd=>?_
 have s12:=s1.trans s2
 have hx':upd H2 dx (.own x) x=none:=by rw [aE (Ne.symm nxd)];exact hx
 k_upd
 refine ⟨x,dx,A0.ol,b1,y2,n.place,n.gates,rfl,ah,(((aC.refl H2).lay hdx).lay hx').seq (SqL.of (s12 _ _ hA.go)),fun ol H3 hol kp hob3 hol3=>⟨rfl,?_⟩⟩
 have s3:=fo hx hdx kp
 have holn:=eE hol
 obtain ⟨_,⟨as1,oc1,_⟩,of1,_⟩:=id hB1
 obtain ⟨_,okn2,owh2⟩:=id hY2
 have cs2:=s2 _ _ oc1
 have fl2:=s2 _ _ of1
 refine q x ⟨dx,ol,b1,cs1,fl1,A0.st,y2,kn2,wh2⟩ H3 (s12.trans s3) (s12.free hx) (s12.free holn) hb1 hf1 (s1.free hy2) (s1.free hw2) ⟨hob3,hol3,(hB1.same s2).same s3,hY2.same s3,⟨?_,?_,?_,?_,?_,?_,?_,?_,?_,?_,?_,?_,?_,?_,?_,?_⟩,⟨(hA.nn.same (s12.trans s3)).al,hA.nn.nr,?_,?_,?_,?_,?_⟩⟩
 ·exact (ai hrl (s12.free holn)).symm
 ·exact (ai hrl hc1).symm
 ·exact (ai hrl hf1).symm
 ·exact (ai hrl (s1.free hk2)).symm
 ·exact (ai hrl (s1.free hw2)).symm
 ·exact ai cs2 holn
 ·exact ai fl2 holn
 ·exact ai okn2 holn
 ·exact ai owh2 holn
 ·exact (ai fl2 holn).symm
 ·exact (ai of1 hk2).symm
 ·exact (ai of1 hw2).symm
 ·exact (ai owh2 holn).symm
 ·exact ai oc1 hw2
 ·exact ai of1 hw2
 ·exact nkw
 all_goals
  intro q hq
  obtain ⟨us,hu⟩:=hA.nn.al q hq
 ·exact (ai hu (s12.free holn)).symm
 ·exact (ai hu hc1).symm
 ·exact (ai hu hf1).symm
 ·exact (ai hu (s1.free hk2)).symm
 ·exact (ai hu (s1.free hw2)).symm
variable (bq:KM P w K mg base CX0 4 Z.cT "twin" (eW K Z))
inductive gP (K:JA)(Z:Adr)(vs:List V)(H:Hp)(Q:VK)(E:XK):Prop | mk (w bk rl:Addr) (g:Cfg) (n0:aY) (rs:List Row):vs=[.ref w]->WAt (clZ Z) K H w bk rl g n0 rs->0 < g.ds.length->(∀p,H p=none->Q (.ref p) (upd H p (.tup [.int (aH n0 rs).place,.int (bX g.ds - (aH n0 rs).place)])))->gP K Z vs H Q E
include T a6 fT in
theorem rO:FF P w K mg base CX0 4 "cages" "Works.cages" iw lY (gP K Z):=fk0 qS fun vs H Q E h=>by
 obtain ⟨w,bk,rl,g,n0,rs,rfl,hW,hn,q⟩:=h
 k_all
 refine ⟨_,ag (aA (dm' (pv' 0) fT hr.dn bY (pa1 (aB (fW (aB (pv' 0)) a6 hr.dn bY))))),?_⟩
 obtain ⟨⟨dx,dl,gl,hob,hdl,hgl,n1,n2⟩,hB⟩:=id hW
 obtain ⟨⟨db,f0,hbo,hF⟩,as,hrl,hR⟩:=id hB
 k_mem
 refine mgo hob rfl (fgo hob T.bt T.bN rfl ?_)
 k_mem
 refine mgo hbo rfl ⟨_,_,_,_,_,rfl,hB,fun s0 ⟨A,hA⟩=>?_⟩
 k_mem
 refine fgo hA.ob T.aO T.bU rfl ?_
 k_upd
 exact ⟨_,_,_,_,_,_,_,rfl,hW,hn,q⟩
variable (fg:KM P w K mg base CX0 4 Z.bp "cages" (gP K Z))
inductive iI (K:JA)(Z:Adr)(vs:List V)(H:Hp)(Q:VK)(E:XK):Prop | mk (w bk rl:Addr) (g:Cfg) (n0:aY) (rs:List Row) (lv s:Int):vs=[.ref w,.int lv,.int s]->WAt (clZ Z) K H w bk rl g n0 rs->g.ls.length<=1000->g.ks.length=(aH n0 rs).ws.length->((¬(0<=lv/\lv < g.ls.length)->∀H',aC H H'->E (.ref Z.ao) none H'))->((0<=lv->lv < g.ls.length->(aH n0 rs).fs.getD lv.toNat false=true->∀H',aC H H'->E (.ref Z.aQ) none H'))->((0<=lv->lv < g.ls.length->(aH n0 rs).fs.getD lv.toNat false=false->¬(s=(dk g.ls lv).1\/s=(dk g.ls lv).2)->∀H',aC H H'->E (.ref Z.bz) none H'))->((0<=lv->lv < g.ls.length->(aH n0 rs).fs.getD lv.toNat false=false->(s=(dk g.ls lv).1\/s=(dk g.ls lv).2)->ub Z K H w bk rl g n0 rs (.ring lv s) Q E))->iI K Z vs H Q E
include T a6 oo bJ bq in
theorem sW:FF P w K mg base (CXf P w) 5 "ring" "Works.ring" jn nM (iI K Z):=fkF l4 fun vs H Q E h=>by
 obtain ⟨w,bk,rl,g,n0,rs,lv,s,rfl,hW,hls,hks,q1,q2,q3,q4⟩:=h
 k_all
 refine seg 2 (ag (aA (dm' (pv' 0) bJ hr.dn cV (pa3 (bc (pa3 ak (pv' 1) (pv' 2))) af (pv' 3))))) fun zt2 zh2 ze2=>?_
 refine seg 1 (ae (bD (dm' (aB (pv' 3)) oo hr.dn cV (pa2 (pv' 1) (pv' 2)))) zh2) fun zt1 zh1 ze1=>?_
 refine ⟨_,ae (aJ (i:=3) l4.nd rfl orL (fW (fW (aB (pv' 0)) a6 hr.dn bY) bq hr.dn bY)) zh1,?_⟩
 obtain ⟨⟨dx,dl,gl,hob,hdl,hgl,n1,n2⟩,hB⟩:=id hW
 obtain ⟨⟨db,f0,hbo,hF⟩,as,hrl,hR⟩:=id hB
 k_mem
 refine fgo hob T.bt T.bN rfl ?_
 k_mem
 refine mgo hbo rfl ⟨_,_,_,_,_,rfl,hB,fun s0 ⟨A0,hA0⟩=>?_⟩
 k_mem
 refine mgo hA0.ob rfl ⟨_,_,_,_,_,rfl,hA0.at,hrl,hls,fun s1 A H1 e1 hs1 ho1 hb1 hf1 hy1 hw1 hA=>?_⟩
 have hW1:=hW.same e1
 have hob1:=e1 _ _ hob
 have hbo1:=e1 _ _ hbo
 have hrl1:=e1 _ _ hrl
 have hdl1:=e1 _ _ hdl
 k_mem
 refine fgo hA.ob T.aO T.bL rfl ?_
 k_mem
 obtain ⟨db1,hbb⟩:=hA.be.ob
 k_upd
 refine mgo hbb rfl ⟨_,_,_,_,_,_,_,_,_,rfl,hA.be,fun h=>q1 h _ e1,fun h h' h2=>q2 h h' h2 _ e1,fun h h' h2 h4=>q3 h h' h2 h4 _ e1,fun h h' h2 h4 st2 H2 k2 hB2=>?_⟩
 have h3:=q4 h h' h2 h4
 have e2:=e1.keeps k2 hb1
 have hA2:=hA.bells k2 hB2
 clear k2 hB2
 k_mem
 refine ⟨_,_,e2 _ _ hob,rfl,by decide,fun p hp=>?_⟩
 have e3:=e2.lay (o:=HO.tup [V.str (Str.ofString "ring"),V.int lv,V.int s]) hp
 have f3:=(aC.refl H2).lay (o:=HO.tup [V.str (Str.ofString "ring"),V.int lv,V.int s]) hp
 k_upd
 refine ⟨_,_,_,_,_,_,p,s1,1,ddV (.ring lv s),cu g (aH n0 rs) (.ring lv s),rfl,hW.same e3,SqT.of (by rw [ah];rfl),?_,?_,fun h H' s'=>h3.1 h H' (e3.trans s'),fun h H' k hWn=>?_⟩
 ·exact (aU.at hA2).same f3
 ·rw [hks];first | rfl | simp only [cu,List.length_set]
 ·k_upd
  exact h3.2 h H' ((aw.of e3).trans k) hWn
variable (ow:KM P w K mg base (CXf P w) 5 Z.bp "ring" (iI K Z))
inductive fO (K:JA)(Z:Adr)(vs:List V)(H:Hp)(Q:VK)(E:XK):Prop | mk (w bk rl:Addr) (g:Cfg) (n0:aY) (rs:List Row) (s:Int):vs=[.ref w,.int s]->WAt (clZ Z) K H w bk rl g n0 rs->g.ls.length<=1000->g.ks.length=(aH n0 rs).ws.length->(((∀l r,(aH n0 rs).e≠.wait l r)->∀H',aC H H'->E (.ref Z.aI) none H'))->((∀l r,(aH n0 rs).e=.wait l r->¬(1<=s/\s<=9)->∀H',aC H H'->E (.ref Z.bz) none H'))->((∀l r,(aH n0 rs).e=.wait l r->(1<=s/\s<=9)->(300<=rs.length->∀H',aC H H'->E (.ref Z.cx) none H')/\(rs.length < 300->∀p H',aw rl H H'->WAt (clZ Z) K H' w bk rl g n0 (rs++[pf g n0 rs (.rept s)])->SqT K H' p [.bl (decide (s=r)),.int r,.int s]->Q (.ref p) H')))->fO K Z vs H Q E
include T a6 kH bJ bq in
theorem pU:FF P w K mg base (CXf P w) 5 "repeat" "Works.repeat" gz j5 (fO K Z):=fkF fH fun vs H Q E h=>by
 obtain ⟨w,bk,rl,g,n0,rs,s,rfl,hW,hls,hks,q1,q2,q3⟩:=h
 k_all
 refine seg 3 (ag (aA (pv' 3))) fun zt3 zh3 ze3=>?_
 refine seg 2 (ae (bD (dm' (pv' 0) bJ hr.dn cV (pa3 (bc (pa2 ak (pv' 1))) af (pv' 2)))) zh3) fun zt2 zh2 ze2=>?_
 refine seg 1 (ae (aJ (i:=3) fH.nd rfl orL (dm' (aB (pv' 2)) kH hr.dn cV (pa1 (pv' 1)))) zh2) fun zt1 zh1 ze1=>?_
 refine ⟨_,ae (aJ (i:=2) fH.nd rfl orL (fW (fW (aB (pv' 0)) a6 hr.dn bY) bq hr.dn bY)) zh1,?_⟩
 obtain ⟨⟨dx,dl,gl,hob,hdl,hgl,n1,n2⟩,hB⟩:=id hW
 obtain ⟨⟨db,f0,hbo,hF⟩,as,hrl,hR⟩:=id hB
 k_mem
 refine fgo hob T.bt T.bN rfl ?_
 k_mem
 refine mgo hbo rfl ⟨_,_,_,_,_,rfl,hB,fun s0 ⟨A0,hA0⟩=>?_⟩
 k_mem
 refine mgo hA0.ob rfl ⟨_,_,_,_,_,rfl,hA0.at,hrl,hls,fun s1 A H1 e1 hs1 ho1 hb1 hf1 hy1 hw1 hA=>?_⟩
 have hW1:=hW.same e1
 have hob1:=e1 _ _ hob
 have hbo1:=e1 _ _ hbo
 have hrl1:=e1 _ _ hrl
 have hdl1:=e1 _ _ hdl
 k_mem
 refine fgo hA.ob T.aO T.bL rfl ?_
 k_mem
 obtain ⟨db1,hbb⟩:=hA.be.ob
 k_upd
 refine mgo hbb rfl ⟨_,_,_,_,_,_,_,_,rfl,hA.be,fun h=>q1 h _ e1,fun l r h h'=>q2 l r h h' _ e1,fun l r h h' st2 p2 H2 hp2 k2 hB2 hT2=>?_⟩
 have h3:=q3 l r h h'
 have e2:=e1.keeps k2 hb1
 have hA2:aU (clZ Z) K H2 rl g s1 {A with st:=st2} (cu g (aH n0 rs) (.rept s)):=by
  have:=hA.bells k2 hB2
  have e0:cu g (aH n0 rs) (.rept s)={(aH n0 rs) with e:=(if s=r then Eng.armed l r else Eng.other l r s)}:=by
   show aY.mk _ _ _ (uw g (aH n0 rs) (.rept s)) _=_
   rw [show uw g (aH n0 rs) (.rept s)=(if s=r then Eng.armed l r else Eng.other l r s) from by simp only [uw,h]]
  rw [e0]
  exact this
 clear k2 hB2
 k_mem
 refine ⟨_,_,e2 _ _ hob,rfl,by decide,fun p hp=>?_⟩
 have e3:=e2.lay (o:=HO.tup [V.str (Str.ofString "repeat"),V.int s]) hp
 have f3:=(aC.refl H2).lay (o:=HO.tup [V.str (Str.ofString "repeat"),V.int s]) hp
 k_upd
 refine ⟨_,_,_,_,_,_,p,s1,1,ddV (.rept s),cu g (aH n0 rs) (.rept s),rfl,hW.same e3,SqT.of (by rw [ah];rfl),?_,?_,fun h H' s'=>h3.1 h H' (e3.trans s'),fun h H' k hWn=>?_⟩
 ·exact (aU.at hA2).same f3
 ·rw [hks];first | rfl | simp only [cu,List.length_set]
 ·k_upd
  exact h3.2 h _ H' ((aw.of e3).trans k) hWn ((f3.tup hT2).keep k (e3 _ _ hrl))
variable (kL:KM P w K mg base (CXf P w) 5 Z.bp "repeat" (fO K Z))
inductive iJ (K:JA)(Z:Adr)(vs:List V)(H:Hp)(Q:VK)(E:XK):Prop | mk (w bk rl:Addr) (g:Cfg) (n0:aY) (rs:List Row) (lv:Int):vs=[.ref w,.int lv]->WAt (clZ Z) K H w bk rl g n0 rs->g.ls.length<=1000->g.ks.length=(aH n0 rs).ws.length->((¬(0<=lv/\lv < g.ls.length)->∀H',aC H H'->E (.ref Z.ao) none H'))->((0<=lv->lv < g.ls.length->(aH n0 rs).fs.getD lv.toNat false=true->∀H',aC H H'->E (.ref Z.aL) none H'))->((0<=lv->lv < g.ls.length->(aH n0 rs).fs.getD lv.toNat false=false->ub Z K H w bk rl g n0 rs (.fail lv) Q E))->iJ K Z vs H Q E
include T a6 oq bJ bq in
theorem sX:FF P w K mg base (CXf P w) 5 "fail" "Works.fail" jo nN (iJ K Z):=fkF l5 fun vs H Q E h=>by
 obtain ⟨w,bk,rl,g,n0,rs,lv,rfl,hW,hls,hks,q1,q2,q3⟩:=h
 k_all
 refine seg 2 (ag (aA (dm' (pv' 0) bJ hr.dn cV (pa3 (bc (pa2 ak (pv' 1))) af (pv' 2))))) fun zt2 zh2 ze2=>?_
 refine seg 1 (ae (bD (dm' (aB (pv' 2)) oq hr.dn cV (pa1 (pv' 1)))) zh2) fun zt1 zh1 ze1=>?_
 refine ⟨_,ae (aJ (i:=2) l5.nd rfl orL (fW (fW (aB (pv' 0)) a6 hr.dn bY) bq hr.dn bY)) zh1,?_⟩
 obtain ⟨⟨dx,dl,gl,hob,hdl,hgl,n1,n2⟩,hB⟩:=id hW
 obtain ⟨⟨db,f0,hbo,hF⟩,as,hrl,hR⟩:=id hB
 k_mem
 refine fgo hob T.bt T.bN rfl ?_
 k_mem
 refine mgo hbo rfl ⟨_,_,_,_,_,rfl,hB,fun s0 ⟨A0,hA0⟩=>?_⟩
 k_mem
 refine mgo hA0.ob rfl ⟨_,_,_,_,_,rfl,hA0.at,hrl,hls,fun s1 A H1 e1 hs1 ho1 hb1 hf1 hy1 hw1 hA=>?_⟩
 have hW1:=hW.same e1
 have hob1:=e1 _ _ hob
 have hbo1:=e1 _ _ hbo
 have hrl1:=e1 _ _ hrl
 have hdl1:=e1 _ _ hdl
 k_mem
 refine fgo hA.ob T.aO T.bL rfl ?_
 k_mem
 obtain ⟨db1,hbb⟩:=hA.be.ob
 k_upd
 refine mgo hbb rfl ⟨_,_,_,_,_,_,_,_,rfl,hA.be,fun h=>q1 h _ e1,fun h h' h2=>q2 h h' h2 _ e1,fun h h' h2 H2 k2 hB2=>?_⟩
 have h3:=q3 h h' h2
 have e2:=e1.keeps k2 hf1
 have hA2:=hA.fail k2 hB2 (List.length_set ..)
 clear k2 hB2
 k_mem
 refine ⟨_,_,e2 _ _ hob,rfl,by decide,fun p hp=>?_⟩
 have e3:=e2.lay (o:=HO.tup [V.str (Str.ofString "fail"),V.int lv]) hp
 have f3:=(aC.refl H2).lay (o:=HO.tup [V.str (Str.ofString "fail"),V.int lv]) hp
 k_upd
 refine ⟨_,_,_,_,_,_,p,s1,1,ddV (.fail lv),cu g (aH n0 rs) (.fail lv),rfl,hW.same e3,SqT.of (by rw [ah];rfl),?_,?_,fun h H' s'=>h3.1 h H' (e3.trans s'),fun h H' k hWn=>?_⟩
 ·exact (aU.at hA2).same f3
 ·rw [hks];first | rfl | simp only [cu,List.length_set]
 ·k_upd
  exact h3.2 h H' ((aw.of e3).trans k) hWn
variable (ox:KM P w K mg base (CXf P w) 5 Z.bp "fail" (iJ K Z))
inductive dS (K:JA)(Z:Adr)(vs:List V)(H:Hp)(Q:VK)(E:XK):Prop | mk (w bk rl:Addr) (g:Cfg) (n0:aY) (rs:List Row) (wd:Str) (lv:Int) (b:Bool) (d:Dd):vs=[.ref w,.str wd,.int lv,.bl b]->WAt (clZ Z) K H w bk rl g n0 rs->g.ls.length<=1000->g.ks.length=(aH n0 rs).ws.length->(aH n0 rs).gates.length=g.ds.length->(((wd="open"/\b=true/\d=.opn lv)\/(wd="shut"/\b=false/\d=.sht lv)))->((¬(0<=lv/\lv < g.ds.length)->∀H',aC H H'->E (.ref Z.ao) none H'))->((0<=lv->lv < g.ds.length->(aH n0 rs).gates.getD lv.toNat false=b->∀H',aC H H'->E (.ref Z.aL) none H'))->((0<=lv->lv < g.ds.length->(aH n0 rs).gates.getD lv.toNat false=!b->ub Z K H w bk rl g n0 rs d Q E))->dS K Z vs H Q E
include T a6 bI bJ bq in
theorem mR:FF P w K mg base (CXf P w) 5 "turn_gate" "Works.turn_gate" eK gZ (dS K Z):=fkF gA fun vs H Q E h=>by
 obtain ⟨w,bk,rl,g,n0,rs,wd,lv,b,d,rfl,hW,hls,hks,hgl2,hd,q1,q2,q3⟩:=h
 k_all
 refine seg 4 (ag (aA (dm' (pv' 0) bJ hr.dn cV (pa3 (bc (pa2 (pv' 1) (pv' 2))) af (pv' 4))))) fun zt4 zh4 ze4=>?_
 refine seg 3 (ae (wJ (pv' 3) (zP (aB (pv' 4)) (pv' 2) tM)) zh4) fun zt3 zh3 ze3=>?_
 refine seg 2 (ae (aK (cb (aq au (aB (pv' 4)) (pv' 2)) (pv' 3)) (ag (bC T.rp (by rfl) T.mE (pa1 ak))) (aD)) zh3) fun zt2 zh2 ze2=>?_
 refine seg 1 (ae (bD (dc bI hr.dn cV (pa2 (pv' 2) (aF av (by rfl) T.bZ bw (pa1 (aB (pv' 0))))))) zh2) fun zt1 zh1 ze1=>?_
 refine ⟨_,ae (aJ (i:=4) gA.nd rfl orL (fW (fW (aB (pv' 0)) a6 hr.dn bY) bq hr.dn bY)) zh1,?_⟩
 obtain ⟨⟨dx,dl,gl,hob,hdl,hgl,n1,n2⟩,hB⟩:=id hW
 obtain ⟨⟨db,f0,hbo,hF⟩,as,hrl,hR⟩:=id hB
 k_mem
 refine fgo hob T.bt T.bN rfl ?_
 k_mem
 refine mgo hbo rfl ⟨_,_,_,_,_,rfl,hB,fun s0 ⟨A0,hA0⟩=>?_⟩
 k_mem
 refine mgo hA0.ob rfl ⟨_,_,_,_,_,rfl,hA0.at,hrl,hls,fun s1 A H1 e1 hs1 ho1 hb1 hf1 hy1 hw1 hA=>?_⟩
 have hW1:=hW.same e1
 have hob1:=e1 _ _ hob
 have hbo1:=e1 _ _ hbo
 have hrl1:=e1 _ _ hrl
 have hdl1:=e1 _ _ hdl
 k_mem
 refine fgo hob1 T.bt T.cE rfl ?_
 k_mem
 refine ⟨_,.inl (SqL.of hdl1),_,_,rfl,?_⟩
 rw [JB]
 k_upd
 refine ⟨fun hlv=>?_,fun h=>q1 h _ e1⟩
 k_mem
 refine fgo hA.ob T.aO T.cz rfl ?_
 k_mem
 refine ⟨_,SqL.of hA.go,_,qq hlv.1 (by omega),?_⟩
 k_mem
 split
 ·rename_i h
  k_upd
  exact ⟨by decide,q2 hlv.1 hlv.2 h _ e1⟩
 ·rename_i h
  have h3:=q3 hlv.1 hlv.2 (by cases b<;>simpa using h)
  k_upd
  refine fgo hA.ob T.aO T.cz rfl ?_
  k_mem
  refine ⟨_,hA.go,_,Ay hlv.1 (by rw [JB];omega),?_⟩
  have e2:=e1.rewr (o:=HO.lst (((aH n0 rs).gates.map V.bl).set lv.toNat (V.bl b))) ho1
  have k2:L2.aw A.ol H1 (upd H1 A.ol (HO.lst (((aH n0 rs).gates.map V.bl).set lv.toNat (V.bl b)))):=(aw.of (aC.refl H1)).put
  have hA2:=hA.gates k2 (gs:=(aH n0 rs).gates.set lv.toNat b) (by rw [ah,List.map_set])
  generalize upd H1 A.ol (HO.lst (((aH n0 rs).gates.map V.bl).set lv.toNat (V.bl b)))=H2 at *
  have hW2:=hW.same e2
  k_upd
  refine ⟨_,_,e2 _ _ hob,rfl,by decide,fun p hp=>?_⟩
  have e3:=e2.lay (o:=HO.tup [V.str wd,V.int lv]) hp
  have f3:=(aC.refl H2).lay (o:=HO.tup [V.str wd,V.int lv]) hp
  k_upd
  refine ⟨_,_,_,_,_,_,p,s1,1,ddV d,cu g (aH n0 rs) d,rfl,hW.same e3,SqT.of ?_,?_,?_,fun h H' s'=>h3.1 h H' (e3.trans s'),fun h H' k hWn=>?_⟩
  ·rw [ah];rcases hd with ⟨rfl,_,rfl⟩ | ⟨rfl,_,rfl⟩<;>rfl
  ·refine (aU.at (A:=A) ?_).same f3
   rcases hd with ⟨_,rfl,rfl⟩ | ⟨_,rfl,rfl⟩<;>exact hA2
  ·rw [hks];rcases hd with ⟨_,rfl,rfl⟩ | ⟨_,rfl,rfl⟩<;>rfl
  ·have:=h3.2 h H' ((aw.of e3).trans k)
   rcases hd with ⟨_,rfl,rfl⟩ | ⟨_,rfl,rfl⟩<;>exact this hWn
variable (cY:KM P w K mg base (CXf P w) 5 Z.bp "turn_gate" (dS K Z))
def CV (w:Addr)(c lv:Int)(kd:Str)(s:Addr)(H:Hp)(gs:List Int)(gates:List Bool)(i:Nat)(σ:St)(H':Hp):Prop:=H'=H/\(∃t,σ=[some (.ref w),some (.int c),some (.int lv),some (.str kd),some (.ref s),t,none,none])/\∀j,j < i->∀x,gs[j]?=some x->gates.getD x.toNat false=false
inductive iK (K:JA)(Z:Adr)(vs:List V)(H:Hp)(Q:VK)(E:XK):Prop | mk (w bk rl:Addr) (g:Cfg) (n0:aY) (rs:List Row) (c lv:Int) (kd:Str):vs=[.ref w,.int c,.int lv,.str kd]->WAt (clZ Z) K H w bk rl g n0 rs->g.ls.length<=1000->g.ks.length=(aH n0 rs).ws.length->cq g.ds->(aH n0 rs).gates.length=g.ds.length->g.ls.length=g.ds.length->1<=eP g (aH n0 rs)->eP g (aH n0 rs)<=500->((kd="men"\/kd="coal"))->((¬(0<=lv/\lv < g.ds.length)->∀H',aC H H'->E (.ref Z.ao) none H'))->((0<=lv->lv < g.ds.length->eQ g (aH n0 rs)=true->∀H',aC H H'->E (.ref Z.aT) none H'))->((0<=lv->lv < g.ds.length->eQ g (aH n0 rs)=false->(aH n0 rs).e≠.armed lv (bW g.ls lv kd)->∀H',aC H H'->E (.ref Z.aN) none H'))->((0<=lv->lv < g.ds.length->eQ g (aH n0 rs)=false->(aH n0 rs).e=.armed lv (bW g.ls lv kd)->ub Z K H w bk rl g n0 rs (.wind c lv kd) Q E))->iK K Z vs H Q E
include T oh a6 bI cR pE mh rM bJ bq in
theorem sY:FF P w K mg base (CXf P w) 5 "wind" "Works.wind" jq nO (iK K Z):=fkF dC fun vs H Q E h=>by
 obtain ⟨w,bk,rl,g,n0,rs,c,lv,kd,rfl,hW,hls,hks,hsh,hgl2,hlc,hsp1,hsp5,hkd,q1,q2,q3,q4⟩:=h
 k_all
 refine seg 7 (ag (aA (dm' (pv' 0) bJ hr.dn cV (pa3 (bc (pa4 ak (pv' 1) (pv' 2) (pv' 3))) (pv' 7) (pv' 4))))) fun zt7 zh7 ze7=>?_
 refine seg 6 (ae (bA (pv' 4) (pv' 6) rfl) zh7) fun zt6 zh6 ze6=>?_
 refine seg 5 (ae (aJ (i:=7) dC.nd rfl orL (dc0 oh hr.dn (pa2 (aF zt (by rfl) T.Gi Ej (pa1 (aV cC (pv' 6) (aB (pv' 4))))) (dm' (pv' 0) cR hr.dn bY (pa1 (pv' 4)))))) zh6) fun zt5 zh5 ze5=>?_
 refine seg 4 (ae (aJ (i:=6) dC.nd rfl orL (dc0 mh hr.dn (pa3 (aB (pv' 0)) (pv' 1) (pv' 2)))) zh5) fun zt4 zh4 ze4=>?_
 refine seg 3 (ae (bD (dm' (aB (pv' 4)) pE hr.dn cV (pa2 (pv' 2) (pv' 3)))) zh4) fun zt3 zh3 ze3=>?_
 refine seg 2 (ae (dI y4 rfl (de (dc0 rM hr.dn (pa2 (aB (pv' 0)) (aB (pv' 4))))) (aM (i:=5) dC.nd rfl orL) (ag (aK (bS (aq au (aB (pv' 4)) (pv' 5))) (ag (bC T.xI (by rfl) T.rf (pa1 ak))) (aD)))) zh3) fun zt2 zh2 ze2=>?_
 refine seg 1 (ae (bD (dc bI hr.dn cV (pa2 (pv' 2) (aF av (by rfl) T.bZ bw (pa1 (aB (pv' 0))))))) zh2) fun zt1 zh1 ze1=>?_
 refine ⟨_,ae (aJ (i:=4) dC.nd rfl orL (fW (fW (aB (pv' 0)) a6 hr.dn bY) bq hr.dn bY)) zh1,?_⟩
 obtain ⟨⟨dx,dl,gl,hob,hdl,hgl,n1,n2⟩,hB⟩:=id hW
 obtain ⟨⟨db,f0,hbo,hF⟩,as,hrl,hR⟩:=id hB
 k_mem
 refine fgo hob T.bt T.bN rfl ?_
 k_mem
 refine mgo hbo rfl ⟨_,_,_,_,_,rfl,hB,fun s0 ⟨A0,hA0⟩=>?_⟩
 k_mem
 refine mgo hA0.ob rfl ⟨_,_,_,_,_,rfl,hA0.at,hrl,hls,fun s1 A H1 e1 hs1 ho1 hb1 hf1 hy1 hw1 hA=>?_⟩
 have hW1:=hW.same e1
 have hob1:=e1 _ _ hob
 have hbo1:=e1 _ _ hbo
 have hrl1:=e1 _ _ hrl
 have hdl1:=e1 _ _ hdl
 k_mem
 refine fgo hob1 T.bt T.cE rfl ?_
 k_mem
 refine ⟨_,.inl (SqL.of hdl1),_,_,rfl,?_⟩
 rw [JB]
 k_upd
 refine ⟨fun hlv=>?_,fun h=>q1 h _ e1⟩
 have l6:=hsh.l6
 k_mem
 refine fgo hob1 T.bt T.cE rfl ?_
 k_upd
 refine fgo hA.ob T.aO T.bU rfl ?_
 k_mem
 refine ⟨_,_,_,rfl,SqL.of hdl1,by omega,by omega,fun gb H2 hgb f2 hgb2=>?_⟩
 have e2:=e1.trans f2
 replace hA:=hA.same f2
 k_mem
 refine ⟨⟨_,SqL.of hgb2⟩,?_⟩
 have gr:∀x∈gU g.ds (aH n0 rs).place,0<=x/\x < g.ds.length:=fun x hx=>by
  unfold gU at hx
  rw [List.mem_map] at hx
  obtain ⟨i,hi,rfl⟩:=hx
  have:=List.mem_range.mp (List.mem_filter.mp hi).1
  omega
 k_upd
 refine kP ((gU g.ds (aH n0 rs).place).map V.int) (CV w c lv kd s1 H2 (gU g.ds (aH n0 rs).place) (aH n0 rs).gates) ⟨rfl,⟨_,rfl⟩,fun j hj=>absurd hj (Nat.not_lt_zero _)⟩ ?_ ?_ ?_
 ·rintro i σ H' _ ⟨rfl,_⟩
  exact SqL.of hgb2
 ·rintro i x σ H' hx ⟨rfl,⟨t,rfl⟩,hj⟩
  obtain ⟨z,rfl,hz,hzm⟩:=nj hx
  have hzr:=gr z hzm
  k_mem
  refine fgo hA.ob T.aO T.cz rfl ?_
  k_mem
  refine ⟨_,SqL.of hA.go,_,qq hzr.1 (by omega),?_⟩
  k_mem
  split
  ·rename_i hopen
   k_upd
   exact ⟨by decide,q2 hlv.1 hlv.2 (List.any_eq_true.mpr ⟨z,hzm,hopen⟩) _ e2⟩
  ·rename_i hopen
   k_upd
   refine ⟨rfl,⟨_,rfl⟩,fun j hj' y hy=>?_⟩
   by_cases e:j=i
   ·subst e
    rw [hz] at hy
    cases hy
    simpa using hopen
   ·exact hj j (by omega) y hy
 ·rintro σ H' ⟨rfl,⟨t,rfl⟩,hj⟩
  have hno:eQ g (aH n0 rs)=false:=by
   unfold eQ
   rw [List.any_eq_false]
   intro x hx
   obtain ⟨j,hjx⟩:=List.getElem?_of_mem hx
   rw [hj j (by rw [JB];exact (List.getElem?_eq_some_iff.mp hjx).1) x hjx]
   exact Bool.false_ne_true
  k_mem
  refine fgo hA.ob T.aO T.bL rfl ?_
  k_mem
  obtain ⟨db1,hbb⟩:=hA.be.ob
  k_upd
  refine mgo hbb rfl ⟨_,_,_,_,_,_,_,_,_,rfl,hA.be,hkd,fun h=>absurd ⟨hlv.1,by omega⟩ h,fun _ _ h H' s'=>q3 hlv.1 hlv.2 hno h H' (e2.trans s'),fun _ _ harm st2 H3 k3 hB3=>?_⟩
  have h3:=q4 hlv.1 hlv.2 hno harm
  have e3:=e2.keeps k3 hb1
  have hA3:=hA.bells k3 hB3
  clear k3 hB3
  k_mem
  refine fgo (e3 _ _ hob) T.bt T.cE rfl ?_
  k_mem
  refine ⟨_,_,_,_,rfl,SqL.of (e3 _ _ hdl),hlv.1,hlv.2,?_⟩
  rw [show (if c=0 then g.ds.getD lv.toNat 0 else bX g.ds - g.ds.getD lv.toNat 0)=gm g.ds c lv from rfl]
  k_mem
  refine fgo hA3.ob T.aO T.bU rfl ?_
  k_mem
  refine mgo (e3 _ _ hob) rfl ⟨_,_,_,_,_,_,_,_,rfl,hW.same e3,hA3.at,hks,fun H4 f4=>?_⟩
  have e4:=e3.trans f4
  replace hA3:=hA3.same f4
  have hspd:eP g {(aH n0 rs) with e:=Eng.used lv (bW g.ls lv kd)}=eP g (aH n0 rs):=rfl
  rw [hspd]
  k_upd
  refine ⟨_,_,rfl,by omega,Int.lt_of_le_of_lt hsp5 (by decide),?_⟩
  k_mem
  refine ⟨_,_,_,hA3.ob,T.aO,T.bU,by show 4 < 1000;decide,?_⟩
  have k5:L2.aw s1 H4 (upd H4 s1 (HO.ins (clZ Z).S A.dx (aX "place" (.int (gm g.ds c lv)) [("place",.int (aH n0 rs).place),("opened",.ref A.ol),("bells",.ref A.b),("yard",.ref A.y)]))):=(aw.of (aC.refl H4)).put
  have e5:=e4.keeps k5 hs1
  have hA5:=hA3.placed k5 (pl:=gm g.ds c lv) (by rw [ah];rfl)
  clear hgb2 f2 f4
  generalize upd H4 s1 (HO.ins (clZ Z).S A.dx (aX "place" (.int (gm g.ds c lv)) [("place",.int (aH n0 rs).place),("opened",.ref A.ol),("bells",.ref A.b),("yard",.ref A.y)]))=H5 at *
  k_upd
  refine ⟨_,_,e5 _ _ hob,rfl,by decide,fun p hp=>?_⟩
  have e6:=e5.lay (o:=HO.tup [V.str (Str.ofString "wind"),V.int c,V.int lv,V.str kd]) hp
  have f6:=(aC.refl H5).lay (o:=HO.tup [V.str (Str.ofString "wind"),V.int c,V.int lv,V.str kd]) hp
  k_upd
  refine ⟨_,_,_,_,_,_,p,s1,(xc g (aH n0 rs) (.wind c lv kd)),ddV (.wind c lv kd),cu g (aH n0 rs) (.wind c lv kd),rfl,hW.same e6,SqT.of (by rw [ah];rfl),?_,?_,fun h H' s'=>h3.1 h H' (e6.trans s'),fun h H' k hWn=>?_⟩
  ·exact (aU.at hA5).same f6
  ·rw [hks];first | rfl | simp only [cu,List.length_set]
  ·k_upd
   exact h3.2 h H' ((aw.of e6).trans k) hWn
variable (oy:KM P w K mg base (CXf P w) 5 Z.bp "wind" (iK K Z))
noncomputable def kM (K:JA):Nat->Sp
 | 0=>fun _ _ _ _=>False
 | n+1=>fun vs H Q _=>∃(x y:V) (d:Dt),vs=[x,y]/\Rep K H n x d/\Rep K H n y d/\∀H',aC H H'->Q (.bl true) H'
noncomputable def zG (K:JA)(Z:Adr):Sp:=kM K 5
def yJ (x y:V)(H:Hp)(_:Nat)(σ:St)(H':Hp):Prop:=aC H H'/\∃t,σ=[some x,some y,none,t]
theorem zH {v:V}{T:String}(h:qp v=some T):(["list","tuple"].any (vv T))=false:=by
 cases v<;>simp only [qp,Option.some.injEq,reduceCtorEq] at h<;>subst h<;>decide
theorem wm {v:V}(h:a7 v=true):∃T,qp v=some T:=by
 cases v<;>simp only [a7,reduceCtorEq,Bool.false_eq_true] at h<;>exact ⟨_,rfl⟩
theorem zI {v:V}(h:a7 v=true):rT v v=true:=by
 cases v<;>simp only [a7,reduceCtorEq,Bool.false_eq_true] at h<;>rfl
include T in
theorem pF {n:Nat}(eN:KD P w K mg base CX0 n "_law_same" (kM K n)):FF P w K mg base CX0 (n+1) "_law_same" "_law_same" kg nP (kM K (n+1)):=fk0 oQ fun vs H Q E h=>by
 obtain ⟨x,y,d,rfl,hx,hy,q⟩:=h
 k_all
 refine ⟨_,ae (aK (dH (bS (aF oE (by rfl) T.aW aR (pa2 (pv' 1) (bc (pa2 (dE (v:=.ty "list") (by rfl) T.gC ez rfl) (dE (v:=.ty "tuple") (by rfl) T.uI qo rfl))))))) (ae (aJ (i:=2) oQ.nd rfl orL (bR fD (aF oE (by rfl) T.aW aR (pa2 (pv' 0) (bc (pa2 (dE (v:=.ty "int") (by rfl) T.ki gh rfl) (dE (v:=.ty "str") (by rfl) T.Dz Ah rfl))))) (aF oE (by rfl) T.aW aR (pa2 (pv' 1) (bc (pa2 (dE (v:=.ty "int") (by rfl) T.ki gh rfl) (dE (v:=.ty "str") (by rfl) T.Dz Ah rfl))))) (bE _))) (ag (aA (qb (pv' 2) (qb (bR fD (aF gg (by rfl) T.aW aR (pa2 (pv' 0) (dE (v:=.ty "bool") (by rfl) T.Bm yd rfl))) (aF gg (by rfl) T.aW aR (pa2 (pv' 1) (dE (v:=.ty "bool") (by rfl) T.Bm yd rfl))) (bE _)) (uf (bR fD (pv' 0) (pv' 1) (bE _)))))))) (aD)) (ae (aK (tN (aF gg (by rfl) T.aW aR (pa2 (pv' 0) (dE (v:=.ty "list") (by rfl) T.gC ez rfl))) (aF gg (by rfl) T.aW aR (pa2 (pv' 1) (dE (v:=.ty "list") (by rfl) T.gC ez rfl)))) (ag (aA fP)) (aD)) (ae (aK (mW (tN (aF gg (by rfl) T.aW aR (pa2 (pv' 0) (dE (v:=.ty "tuple") (by rfl) T.uI qo rfl))) (aF gg (by rfl) T.aW aR (pa2 (pv' 1) (dE (v:=.ty "tuple") (by rfl) T.uI qo rfl)))) (jR (tN (aF av (by rfl) T.bZ bw (pa1 (pv' 0))) (aF av (by rfl) T.bZ bw (pa1 (pv' 1)))))).pt (ag (aA fP)) (aD)) (ae (dI PassesOwn.never rfl (cG (by rfl) T.cP (pa1 (aF av (by rfl) T.bZ bw (pa1 (pv' 1))))) (aM (i:=3) oQ.nd rfl orL) (ag (aK (dH (bS (dc0 eN hr (pa2 (aq z9 (pv' 0) (pv' 3)) (aq z9 (pv' 1) (pv' 3)))))) (ag (aA fP)) (aD)))) (ag (aA fP))))),?_⟩
 k_mem
 refine ⟨by decide,fun tp htp=>?_⟩
 have s1:=(aC.refl H).lay (o:=HO.tup [V.ty "list",V.ty "tuple"]) htp
 have ht1:upd H tp (HO.tup [V.ty "list",V.ty "tuple"]) tp=some (HO.tup (["list","tuple"].map V.ty)):=ah
 generalize upd H tp (HO.tup [V.ty "list",V.ty "tuple"])=H1 at *
 cases hx with
 | @flat _ v hv=>
  cases hy with
  | flat _=>
   obtain ⟨T0,hT⟩:=wm hv
   refine ⟨_,tp,["list","tuple"],T0,rfl,SqT.of ht1,.inl hT,by decide,?_⟩
   rw [zH hT]
   k_mem
   refine ⟨by decide,fun p1 hp1=>⟨_,p1,["int","str"],T0,rfl,SqT.of ah,.inl hT,by decide,?_⟩⟩
   refine ⟨by decide,fun p2 hp2=>⟨_,p2,["int","str"],T0,rfl,SqT.of ah,.inl hT,by decide,?_⟩⟩
   k_mem
   rw [if_pos rfl]
   refine ⟨_,"bool",T0,rfl,.inl hT,by decide,_,"bool",T0,rfl,.inl hT,by decide,?_⟩
   k_mem
   rw [if_pos rfl]
   refine ym.mp ⟨zI hv,?_⟩
   rw [decide_eq_true rfl]
   exact q _ ((s1.lay hp1).lay hp2)
 | @lst m a xs ds hs hb hl hrx=>
  cases hy with
  | @lst _ b ys _ hs' hb' hl' hry=>
   have ha1:=s1.seq hs
   have hb1:=s1.seq hs'
   refine ⟨.ref b,tp,["list","tuple"],"list",rfl,SqT.of ht1,.inr (.inl ⟨b,ys,rfl,hb1,rfl⟩),by decide,?_⟩
   rw [show (["list","tuple"].any (vv "list"))=true from by decide]
   k_mem
   refine ⟨.ref a,"list","list",rfl,.inr (.inl ⟨a,xs,rfl,ha1,rfl⟩),by decide,.ref b,"list","list",rfl,.inr (.inl ⟨b,ys,rfl,hb1,rfl⟩),by decide,?_⟩
   k_mem
   refine ⟨.ref a,"tuple","list",rfl,.inr (.inl ⟨a,xs,rfl,ha1,rfl⟩),by decide,.ref b,"tuple","list",rfl,.inr (.inl ⟨b,ys,rfl,hb1,rfl⟩),by decide,?_⟩
   k_mem
   refine ⟨xs,.inl ha1,ys,.inl hb1,?_⟩
   rw [if_neg (by omega)]
   refine ⟨ys,.inl hb1,by omega,by omega,?_⟩
   refine cN (yJ (.ref a) (.ref b) H1) ⟨aC.refl _,_,rfl⟩ ?_ ?_
   ·rintro i σ H2 hi ⟨s2,t,rfl⟩
    have hi1:i < xs.length:=by omega
    have hi2:i < ys.length:=by omega
    have hi3:i < ds.length:=by omega
    have ex:xs[i]?=some xs[i]:=List.getElem?_eq_getElem hi1
    have ey:ys[i]?=some ys[i]:=List.getElem?_eq_getElem hi2
    have ed:ds[i]?=some ds[i]:=List.getElem?_eq_getElem hi3
    k_mem
    rw [Int.zero_add]
    refine .inl ⟨a,xs,_,_,rfl,rfl,s2.seq ha1,ay ex,.inl ⟨b,ys,_,_,rfl,rfl,s2.seq hb1,ay ey,?_⟩⟩
    refine ⟨_,_,ds[i],rfl,(hrx i _ _ ex ed).same (s1.trans s2),(hry i _ _ ey ed).same (s1.trans s2),fun H3 s3=>?_⟩
    k_mem
    exact ⟨s2.trans s3,_,rfl⟩
   ·rintro σ H2 ⟨s2,t,rfl⟩
    k_mem
    exact q _ (s1.trans s2)
 | @tup m a xs ds hs hb hl hrx=>
  cases hy with
  | @tup _ b ys _ hs' hb' hl' hry=>
   have ha1:=s1.tup hs
   have hb1:=s1.tup hs'
   refine ⟨.ref b,tp,["list","tuple"],"tuple",rfl,SqT.of ht1,.inr (.inr ⟨b,ys,rfl,hb1,rfl⟩),by decide,?_⟩
   rw [show (["list","tuple"].any (vv "tuple"))=true from by decide]
   k_mem
   refine ⟨.ref a,"list","tuple",rfl,.inr (.inr ⟨a,xs,rfl,ha1,rfl⟩),by decide,.ref b,"list","tuple",rfl,.inr (.inr ⟨b,ys,rfl,hb1,rfl⟩),by decide,?_⟩
   k_mem
   refine ⟨.ref a,"tuple","tuple",rfl,.inr (.inr ⟨a,xs,rfl,ha1,rfl⟩),by decide,.ref b,"tuple","tuple",rfl,.inr (.inr ⟨b,ys,rfl,hb1,rfl⟩),by decide,?_⟩
   k_mem
   refine ⟨xs,.inr ha1,ys,.inr hb1,?_⟩
   rw [if_neg (by omega)]
   refine ⟨ys,.inr hb1,by omega,by omega,?_⟩
   refine cN (yJ (.ref a) (.ref b) H1) ⟨aC.refl _,_,rfl⟩ ?_ ?_
   ·rintro i σ H2 hi ⟨s2,t,rfl⟩
    have hi1:i < xs.length:=by omega
    have hi2:i < ys.length:=by omega
    have hi3:i < ds.length:=by omega
    have ex:xs[i]?=some xs[i]:=List.getElem?_eq_getElem hi1
    have ey:ys[i]?=some ys[i]:=List.getElem?_eq_getElem hi2
    have ed:ds[i]?=some ds[i]:=List.getElem?_eq_getElem hi3
    k_mem
    rw [Int.zero_add]
    refine .inr (.inl ⟨a,xs,_,_,rfl,rfl,s2.tup ha1,ay ex,.inr (.inl ⟨b,ys,_,_,rfl,rfl,s2.tup hb1,ay ey,?_⟩)⟩)
    refine ⟨_,_,ds[i],rfl,(hrx i _ _ ex ed).same (s1.trans s2),(hry i _ _ ey ed).same (s1.trans s2),fun H3 s3=>?_⟩
    k_mem
    exact ⟨s2.trans s3,_,rfl⟩
   ·rintro σ H2 ⟨s2,t,rfl⟩
    k_mem
    exact q _ (s1.trans s2)
include T in
theorem zJ {f:Addr}{fd:FuncData}(b:mg "_law_same"=some (.ref f))(F:Fun K "_law_same" "_law_same" kg f fd)(c:cS K fd nP []):FF P w K mg base CX0 5 "_law_same" "_law_same" kg nP (kM K 5):=
 have h:∀n,KD P w K mg base CX0 n "_law_same" (kM K n):=fun n=>by
  induction n with
  | zero=>exact ⟨f,fd,_,b,F.kp,c,As⟩
  | succ n ih=>exact KD.mk b F c (pF T ih)
 pF T (h 4)
variable (eN:KD P w K mg base CX0 5 "_law_same" (zG K Z))
inductive dU (K:JA)(Z:Adr)(vs:List V)(H:Hp)(Q:VK)(E:XK):Prop | mk (w bk rl:Addr) (g:Cfg) (n0:aY) (rs:List Row) (lv:Int):vs=[.ref w,.int lv]->WAt (clZ Z) K H w bk rl g n0 rs->g.ls.length<=1000->g.ks.length=(aH n0 rs).ws.length->(aH n0 rs).gates.length=g.ds.length->((¬(0<=lv/\lv < g.ds.length)->∀H',aC H H'->E (.ref Z.ao) none H'))->((0<=lv->lv < g.ds.length->(aH n0 rs).gates.getD lv.toNat false=true->∀H',aC H H'->E (.ref Z.aL) none H'))->((0<=lv->lv < g.ds.length->(aH n0 rs).gates.getD lv.toNat false=false->ub Z K H w bk rl g n0 rs (.opn lv) Q E))->dU K Z vs H Q E
include T cY in
theorem mS:FF P w K mg base (CXf P w) 6 "open_gate" "Works.open_gate" eI gX (dU K Z):=fkF mr fun vs H Q E h=>by
 obtain ⟨w,bk,rl,g,n0,rs,lv,rfl,hW,hls,hks,hgl2,q1,q2,q3⟩:=h
 k_all
 refine ⟨_,ag (aA (dm' (pv' 0) cY hr.dn cV (pa3 ak (pv' 1) fP))),?_⟩
 obtain ⟨dx,dl,gl,hob,_⟩:=id hW.ob
 k_mem
 exact mgo hob rfl ⟨_,_,_,_,_,_,_,_,_,_,rfl,hW,hls,hks,hgl2,.inl ⟨rfl,rfl,rfl⟩,q1,q2,q3⟩
variable (hU:KM P w K mg base (CXf P w) 6 Z.bp "open_gate" (dU K Z))
inductive dW (K:JA)(Z:Adr)(vs:List V)(H:Hp)(Q:VK)(E:XK):Prop | mk (w bk rl:Addr) (g:Cfg) (n0:aY) (rs:List Row) (lv:Int):vs=[.ref w,.int lv]->WAt (clZ Z) K H w bk rl g n0 rs->g.ls.length<=1000->g.ks.length=(aH n0 rs).ws.length->(aH n0 rs).gates.length=g.ds.length->((¬(0<=lv/\lv < g.ds.length)->∀H',aC H H'->E (.ref Z.ao) none H'))->((0<=lv->lv < g.ds.length->(aH n0 rs).gates.getD lv.toNat false=false->∀H',aC H H'->E (.ref Z.aL) none H'))->((0<=lv->lv < g.ds.length->(aH n0 rs).gates.getD lv.toNat false=true->ub Z K H w bk rl g n0 rs (.sht lv) Q E))->dW K Z vs H Q E
include T cY in
theorem mT:FF P w K mg base (CXf P w) 6 "shut_gate" "Works.shut_gate" eJ gY (dW K Z):=fkF mv fun vs H Q E h=>by
 obtain ⟨w,bk,rl,g,n0,rs,lv,rfl,hW,hls,hks,hgl2,q1,q2,q3⟩:=h
 k_all
 refine ⟨_,ag (aA (dm' (pv' 0) cY hr.dn cV (pa3 ak (pv' 1) fP))),?_⟩
 obtain ⟨dx,dl,gl,hob,_⟩:=id hW.ob
 k_mem
 exact mgo hob rfl ⟨_,_,_,_,_,_,_,_,_,_,rfl,hW,hls,hks,hgl2,.inr ⟨rfl,rfl,rfl⟩,q1,q2,q3⟩
variable (hV:KM P w K mg base (CXf P w) 6 Z.bp "shut_gate" (dW K Z))
noncomputable def sZ (Z:Adr):Rw->Addr
 | .lv=>Z.ao
 | .db=>Z.aQ
 | .nc=>Z.bz
 | .nr=>Z.aI
 | .ch=>Z.aL
 | .na=>Z.aN
 | .go=>Z.aT
 | _=>Z.aL
theorem Fb {g:Cfg}{n:aY}{m:Nat}{d:Dd}{r:Rw}(h:rD m d)(e:dq g n d=some r):r=.lv\/r=.go\/r=.na\/r=.nr\/r=.nc\/r=.db\/r=.ch:=by
 cases d<;>simp only [dq] at e<;>(repeat' split at e)<;>first | exact h.elim | (cases e<;>simp)
noncomputable def GO (K:JA)(Z:Adr)(M:Addr->Hp->Prop):XK:=fun cls _ H'=>W.exmOne K cls (.ref Z.bG)=some true/\∀y,H' y=none->lp K [.ref y,.ref Z.ao] (upd H' y (Ao y cls)) fun x H1=>lp K [.ref y,.ref Z.aT] H1 fun x1 H1=>lp K [.ref y,.ref Z.aN] H1 fun x2 H1=>3<=sizeLine/\∀p,H1 p=none->lp K [.ref y,.ref Z.aI] (upd H1 p (.lst [x,x1,x2])) fun x H1=>lp K [.ref y,.ref Z.bz] H1 fun x3 H1=>lp K [.ref y,.ref Z.aQ] H1 fun x4 H1=>3<=sizeLine/\∀q,H1 q=none->∃xs,upd H1 q (.lst [x,x3,x4]) p=some (.lst xs)/\∃zs,upd H1 q (.lst [x,x3,x4]) q=some (.lst zs)/\xs.length+zs.length<=sizeLine/\∀p,upd H1 q (.lst [x,x3,x4]) p=none->tyV K "list" (.ref p) (upd (upd H1 q (.lst [x,x3,x4])) p (.lst (xs++zs)))/\lp K [.ref y,.ref Z.aL] (upd (upd H1 q (.lst [x,x3,x4])) p (.lst (xs++zs))) fun x H1=>∃xs,H1 p=some (.lst xs)/\xs.length < sizeLine/\M p (upd H1 p (.lst (xs++[x])))
noncomputable def kO (r:Rw):List Bool:=[decide (r=.lv),decide (r=.go),decide (r=.na),decide (r=.nr),decide (r=.nc),decide (r=.db),decide (r=.ch)]
noncomputable def yK:List Str:=["UnknownLevel","GateOpen","NotArmed","NothingRung","NoCode","DeadBell","NoChange"]
theorem Gn {r:Rw}(h:r=.lv\/r=.go\/r=.na\/r=.nr\/r=.nc\/r=.db\/r=.ch):((List.range 7).filter fun j=>(kO r).getD j false).map (fun j=>V.str (yK.getD j ""))=[.str (rwW (some r))]:=by
 rcases h with rfl | rfl | rfl | rfl | rfl | rfl | rfl<;>rfl
inductive vb (K:JA)(Z:Adr)(vs:List V)(H:Hp)(Q:VK)(E:XK):Prop | mk (w bk rl dd:Addr) (g:Cfg) (n0:aY) (rs:List Row) (d:Dd):vs=[.ref w,.ref dd]->WAt (clZ Z) K H w bk rl g n0 rs->gV g->c5 g (aH n0 rs)->rs.length < 300->H dd=some (.tup (ddV d))->rD g.ds.length d->((∀r p H',dq g (aH n0 rs) d=some r->aC H H'->H' p=some (.lst [.str (rwW (some r))])->Q (.ref p) H'))->((dq g (aH n0 rs) d=none->∀p H',aw rl H H'->WAt (clZ Z) K H' w bk rl g n0 (rs++[pf g n0 rs d])->H' p=some (.lst [.str ""])->Q (.ref p) H'))->vb K Z vs H Q E
include T ow kL ox oy hU hV in
theorem CW:FF P w K mg base CX0 7 "_law_do" "_law_do" xx Bk (vb K Z):=fk0 kY fun vs H Q E h=>by
 obtain ⟨w,bk,rl,dd,g,n0,rs,d,rfl,hW0,hg,hn,h300,hdd,hgd,qe,q⟩:=h
 k_all
 refine seg 4 (ag (aA (o7 ["_law_k","_law_names","_law_hit"] [none,some 4,some 2] (cG (by rfl) T.cP (pa1 af)) (fun _ _ _ _=>(aM (i:=0) (show (["_law_k","_law_names","_law_hit"]:List Str).Nodup by decide +kernel) rfl orL)) (fun _ _ _ _=>(pW (bS (aq (show IxR _ (qy K) from au) (pv' 2) (pv' 0))))) (fun _ _ _ _=>(aq (show IxR _ (qy K) from au) (pv' 1) (pv' 0)))))) fun zt4 zh4 ze4=>?_
 refine seg 3 (ae (aK (cw (uC hr.units0) (pv' 2) (br fA) (bE _)) (ag (aA (br (pa1 ak)))) (aD)) zh4) fun zt3 zh3 ze3=>?_
 refine seg 2 (ae (aJ (i:=4) kY.nd rfl (Or.inr rfl) (br (fV ak (fV ak (fV ak (pa4 ak ak ak ak)))))) zh3) fun zt2 zh2 ze2=>?_
 refine seg 1 (ae (Eo (i:=3) rfl rfl (fun _ _=>ag (aK (cb (aq (show IxR _ (dB K) from aG) (pv' 1) af) ak) (ag (bD (dmT (pv' 0) oy hr.dn (pa3 (aq (show IxR _ (dB K) from aG) (pv' 1) af) (aq (show IxR _ (dB K) from aG) (pv' 1) af) (aq (show IxR _ (dB K) from aG) (pv' 1) af))))) (ag (aK (cb (aq (show IxR _ (dB K) from aG) (pv' 1) af) ak) (ag (bD (dmT (pv' 0) kL hr.dn (pa1 (aq (show IxR _ (dB K) from aG) (pv' 1) af))))) (ag (aK (cb (aq (show IxR _ (dB K) from aG) (pv' 1) af) ak) (ag (bD (dmT (pv' 0) ow hr.dn (pa2 (aq (show IxR _ (dB K) from aG) (pv' 1) af) (aq (show IxR _ (dB K) from aG) (pv' 1) af))))) (ag (aK (cb (aq (show IxR _ (dB K) from aG) (pv' 1) af) ak) (ag (bD (dmT (pv' 0) ox hr.dn (pa1 (aq (show IxR _ (dB K) from aG) (pv' 1) af))))) (ag (aK (cb (aq (show IxR _ (dB K) from aG) (pv' 1) af) ak) (ag (bD (dmT (pv' 0) hU hr.dn (pa1 (aq (show IxR _ (dB K) from aG) (pv' 1) af))))) (ag (bD (dmT (pv' 0) hV hr.dn (pa1 (aq (show IxR _ (dB K) from aG) (pv' 1) af))))))))))))))) (fun _=>ae (aJ (i:=2) kY.nd rfl (Or.inr rfl) (br (pa3 (aF (show cZ _ (.builtin "isinstance") (lp K) from gi) (by rfl) T.aW aR (pa2 (pv' 3) (gS (v:=.ref Z.ao) (by rfl) T.kj rfl))) (aF (show cZ _ (.builtin "isinstance") (lp K) from gi) (by rfl) T.aW aR (pa2 (pv' 3) (gS (v:=.ref Z.aT) (by rfl) T.rf rfl))) (aF (show cZ _ (.builtin "isinstance") (lp K) from gi) (by rfl) T.aW aR (pa2 (pv' 3) (gS (v:=.ref Z.aN) (by rfl) T.rd rfl)))))) (ae (aJ (i:=2) kY.nd rfl (Or.inr rfl) (aV uB (pv' 2) (br (pa3 (aF (show cZ _ (.builtin "isinstance") (lp K) from gi) (by rfl) T.aW aR (pa2 (pv' 3) (gS (v:=.ref Z.aI) (by rfl) T.l7 rfl))) (aF (show cZ _ (.builtin "isinstance") (lp K) from gi) (by rfl) T.aW aR (pa2 (pv' 3) (gS (v:=.ref Z.bz) (by rfl) T.q0 rfl))) (aF (show cZ _ (.builtin "isinstance") (lp K) from gi) (by rfl) T.aW aR (pa2 (pv' 3) (gS (v:=.ref Z.aQ) (by rfl) T.qZ rfl))))))) (ag (bD (show PE _ _ (tBM K "list" nB _ _) from mZ PySem.F.plainAttrs_list PySem.F.slot_list_append PySem.F.type_list_append gn (pv' 2) (pa1 (aF (show cZ _ (.builtin "isinstance") (lp K) from gi) (by rfl) T.aW aR (pa2 (pv' 3) (gS (v:=.ref Z.aL) (by rfl) T.mE rfl))))))))) kY.nd rfl rfl (by rfl) T.vN) zh2) fun zt1 zh1 ze1=>?_
 refine ⟨_,ae (aJ (i:=2) kY.nd rfl (Or.inr rfl) (br fA)) zh1,?_⟩
 have l2:=hg.sh.l2
 have l6:=hg.sh.l6
 have lc:=hg.lc
 have wl:=hn.wl
 have gk:=hg.gk
 have full:¬300<=rs.length:=by omega
 k_mem
 refine ⟨by decide,fun h0 hh0=>?_⟩
 (generalize hE:upd H h0 _=H1 at *;have s1:=cv hE hh0;have e1:=bj hE;clear hE)
 k_mem
 have hW:=hW0.same s1
 obtain ⟨⟨dx,dl,gl,hob,hdl,hgl,n1,n2⟩,hB⟩:=id hW
 have hD:SqT K H1 dd (ddV d):=s1.tup (SqT.of hdd)
 have hx:∀r,dq g (aH n0 rs) d=some r->∀H2,aC H1 H2->GO K Z (fun p H'=>zt2 {nx:=fun x H'=>Q V.non H',rt:=Q} [some (V.ref w),some (V.ref dd),some (V.ref p),none,none] H') (.ref (sZ Z r)) none H2:=by
  intro r hr H2 s2
  have kx:W.exmOne K (.ref (sZ Z r)) (.ref Z.bG)=some true/\ExI K (sZ Z r)/\W.kitOne K (.ref (sZ Z r)) (.ref Z.ao)=some (decide (r=.lv))/\W.kitOne K (.ref (sZ Z r)) (.ref Z.aT)=some (decide (r=.go))/\W.kitOne K (.ref (sZ Z r)) (.ref Z.aN)=some (decide (r=.na))/\W.kitOne K (.ref (sZ Z r)) (.ref Z.aI)=some (decide (r=.nr))/\W.kitOne K (.ref (sZ Z r)) (.ref Z.bz)=some (decide (r=.nc))/\W.kitOne K (.ref (sZ Z r)) (.ref Z.aQ)=some (decide (r=.db))/\W.kitOne K (.ref (sZ Z r)) (.ref Z.aL)=some (decide (r=.ch)):=by
   rcases Fb hgd hr with rfl | rfl | rfl | rfl | rfl | rfl | rfl
   ·k_upd
    exact ⟨T.ix,T.rk,T.fY,T.iS,T.iT,T.gD,T.jP,T.iV,T.iU⟩
   ·k_upd
    exact ⟨T.ky,T.xJ,T.i3,T.lI,T.lJ,T.jz,T.oa,T.lL,T.lK⟩
   ·k_upd
    exact ⟨T.ku,T.xE,T.iZ,T.lE,T.lF,T.jy,T.n9,T.lH,T.lG⟩
   ·k_upd
    exact ⟨T.iX,T.sG,T.gE,T.jt,T.ju,T.gR,T.kq,T.jw,T.jv⟩
   ·k_upd
    exact ⟨T.mG,T.Bp,T.jQ,T.nX,T.nY,T.ko,T.pN,T.n6,T.nZ⟩
   ·k_upd
    exact ⟨T.km,T.xB,T.iW,T.lr,T.lu,T.js,T.nW,T.ly,T.lx⟩
   ·k_upd
    exact ⟨T.kr,T.xC,T.iY,T.lz,T.lA,T.jx,T.n8,T.lD,T.lB⟩
  obtain ⟨x0,x1,x2,x3,x4,x5,x6,x7,x8⟩:=kx
  k_upd
  refine ⟨x0,fun y hy=>?_⟩
  (generalize hE:upd H2 y _=H3 at *;have t1:=cv hE hy;have ey:=bj hE;clear hE)
  refine xa ey x1 x2 gj (xa ey x1 x3 gj (xa ey x1 x4 gj ⟨by decide,fun p1 hp1=>?_⟩))
  (generalize hE:upd H3 p1 _=H4 at *;have t2:=cv hE hp1;have e4:=bj hE;clear hE)
  have ey4:=t2 _ _ ey
  refine xa ey4 x1 x5 gj (xa ey4 x1 x6 gj (xa ey4 x1 x7 gj ⟨by decide,fun p2 hp2=>?_⟩))
  (generalize hE:upd H4 p2 _=H5 at *;have t3:=cv hE hp2;have e5:=bj hE;clear hE)
  k_upd
  refine ⟨_,t3 _ _ e4,_,e5,(by show 6<=sizeLine;decide),fun p3 hp3=>?_⟩
  (generalize hE:upd H5 p3 _=H6 at *;have t4:=cv hE hp3;have e6:=bj hE;clear hE)
  k_upd
  refine ⟨.inl ⟨rfl,_,SqL.of e6⟩,xa ((t3.trans t4) _ _ ey4) x1 x8 gj ⟨_,e6,(by show 6 < sizeLine;decide),?_⟩⟩
  have t5:=(s1.trans (s2.trans (t1.trans (t2.trans t3)))).trans (t4.rewr (o:=HO.lst ((kO r).map V.bl)) hp3)
  have e7:upd H6 p3 (HO.lst ((kO r).map V.bl)) p3=some (HO.lst ((kO r).map V.bl)):=ah
  show zt2 _ _ (upd H6 p3 (HO.lst ((kO r).map V.bl)))
  generalize upd H6 p3 (HO.lst ((kO r).map V.bl))=H7 at *
  k_mem
  refine ⟨by decide,fun p4 hp4=>?_⟩
  (generalize hE:upd H7 p4 _=H8 at *;have t8:=cv hE hp4;have e8:=bj hE;clear hE)
  k_mem
  refine ⟨by decide,fun p5 hp5=>?_⟩
  (generalize hE:upd H8 p5 _=H9 at *;have t9:=cv hE hp5;have e9:=bj hE;clear hE)
  k_upd
  refine ⟨_,SqL.of ((t8.trans t9) _ _ e7),_,SqL.of e9,by simp [a7],rfl,?_⟩
  k_upd
  rw [if_neg (show ¬eqL ((kO r).map V.bl) []=true from Bool.false_ne_true)]
  k_mem
  refine ⟨by decide,by decide,?_⟩
  have e79:=(t8.trans t9) _ _ e7
  have e89:=t9 _ _ e8
  refine fC (fun j=>(kO r).getD j false) (fun (j:Nat)=>.str (yK.getD j "")) (by rw [sizeLine_eq];decide) rfl (fun j hj N hN=>?_) (fun j hj _ N hN=>?_) fun lv hlv=>?_
  ·have hj7:j < 7:=hj
   k_mem
   refine ⟨_,SqL.of e79,_,qq (by omega) (by show 0+(j:Int) < ((7:Nat):Int);omega),?_⟩
   k_mem
   rw [Int.zero_add,Int.toNat_natCast]
   exact hN
  ·have hj7:j < 7:=hj
   k_mem
   refine ⟨_,SqL.of e89,_,?_,hN⟩
   rcases (by omega:j=0\/j=1\/j=2\/j=3\/j=4\/j=5\/j=6) with rfl | rfl | rfl | rfl | rfl | rfl | rfl<;>rfl
  rw [Gn (Fb hgd hr)]
  k_upd
  exact qe r lv _ hr ((t5.trans (t8.trans t9)).lay hlv) ah
 have hrl:∃xs,H rl=some (.lst xs):=by
  obtain ⟨as,h,_⟩:=hW0.bo.ro
  k_upd
  exact ⟨_,h⟩
 have fin:dq g (aH n0 rs) d=none->∀H2,aw rl H1 H2->WAt (clZ Z) K H2 w bk rl g n0 (rs++[pf g n0 rs d])->zt2 {nx:=fun x H'=>Q V.non H',rt:=Q} [some (V.ref w),some (V.ref dd),some (V.ref h0),none,none] H2:=by
  intro hr H2 k2 hW2
  obtain ⟨xs,hrl⟩:=hrl
  have e2:=k2 _ _ (ai hrl hh0).symm e1
  k_mem
  refine ⟨by decide,fun p4 hp4=>?_⟩
  (generalize hE:upd H2 p4 _=H8 at *;have t8:=cv hE hp4;have e8:=bj hE;clear hE)
  k_mem
  refine ⟨by decide,fun p5 hp5=>?_⟩
  (generalize hE:upd H8 p5 _=H9 at *;have t9:=cv hE hp5;have e9:=bj hE;clear hE)
  k_upd
  refine ⟨_,SqL.of ((t8.trans t9) _ _ e2),_,SqL.of e9,rfl,rfl,?_⟩
  k_upd
  rw [if_pos (show eqL ([]:List V) []=true from rfl)]
  k_upd
  refine ⟨by decide,fun p6 hp6=>?_⟩
  have t10:=(t8.trans t9).lay (o:=HO.lst [V.str (Str.ofString "")]) hp6
  k_upd
  exact q hr p6 _ (((aw.of s1).trans k2).trans (aw.of t10)) (hW2.same t10) ah
 cases d with
 | wind c l k=>
   refine ⟨_,hD,_,ay (k:=0) rfl,?_⟩
   k_mem
   rw [if_pos rfl,fq]
   k_mem
   have sp:=hg.speed (aH n0 rs)
   k_upd
   refine mgo hob rfl ⟨_,hD,_,rfl,_,hD,_,rfl,_,hD,_,rfl,?_⟩
   k_mem
   refine ⟨_,_,_,_,_,_,_,_,_,rfl,hW,by omega,wl.symm,hg.sh,hn.gl,lc,sp.1,sp.2,hgd.2,fun h H2 s2=>hx .lv (if_pos h) H2 s2,fun h h' h3 H2 s2=>hx .go ((if_neg (fun z=>z ⟨h,h'⟩)).trans (if_pos h3)) H2 s2,fun h h' h3 h4 H2 s2=>hx .na ((if_neg (fun z=>z ⟨h,h'⟩)).trans ((if_neg (by rw [h3];exact Bool.false_ne_true)).trans (if_neg h4))) H2 s2,fun h h' h3 h4=>⟨fun z=>absurd z full,fun _ H2 k2 hW2=>fin ((if_neg (fun z=>z ⟨h,h'⟩)).trans ((if_neg (by rw [h3];exact Bool.false_ne_true)).trans (if_pos h4))) H2 k2 hW2⟩⟩
 | rept s=>
   refine ⟨_,hD,_,ay (k:=0) rfl,?_⟩
   k_mem
   rw [if_neg (by decide)]
   k_upd
   refine ⟨_,hD,_,ay (k:=0) rfl,?_⟩
   k_mem
   rw [if_pos rfl,fq]
   k_mem
   refine mgo hob rfl ⟨_,hD,_,rfl,?_⟩
   k_mem
   refine ⟨_,_,_,_,_,_,_,rfl,hW,by omega,wl.symm,fun h H2 s2=>hx .nr ?_ H2 s2,fun l r e h H2 s2=>hx .nc ?_ H2 s2,fun l r e h=>⟨fun z=>absurd z full,fun _ p H2 k2 hW2 hT=>fin ?_ H2 k2 hW2⟩⟩
   ·simp only [dq]
   ·simp only [dq,e];exact if_neg h
   ·simp only [dq,e];exact if_pos h
 | ring l s=>
   refine ⟨_,hD,_,ay (k:=0) rfl,?_⟩
   k_mem
   rw [if_neg (by decide)]
   k_upd
   refine ⟨_,hD,_,ay (k:=0) rfl,?_⟩
   k_mem
   rw [if_neg (by decide)]
   k_upd
   refine ⟨_,hD,_,ay (k:=0) rfl,?_⟩
   k_mem
   rw [if_pos rfl,fq]
   k_mem
   refine mgo hob rfl ⟨_,hD,_,rfl,_,hD,_,rfl,?_⟩
   k_mem
   refine ⟨_,_,_,_,_,_,_,_,rfl,hW,by omega,wl.symm,fun h H2 s2=>hx .lv ?_ H2 s2,fun h h' h3 H2 s2=>hx .db ?_ H2 s2,fun h h' h3 h4 H2 s2=>hx .nc ?_ H2 s2,fun h h' h3 h4=>⟨fun z=>absurd z full,fun _ H2 k2 hW2=>fin ?_ H2 k2 hW2⟩⟩
   ·rw [lc] at h
    exact if_pos h
   ·rw [lc] at h'
    exact (if_neg (fun z=>z ⟨h,h'⟩)).trans (if_pos h3)
   ·rw [lc] at h'
    exact (if_neg (fun z=>z ⟨h,h'⟩)).trans ((if_neg (by rw [h3];exact Bool.false_ne_true)).trans (if_neg h4))
   ·rw [lc] at h'
    exact (if_neg (fun z=>z ⟨h,h'⟩)).trans ((if_neg (by rw [h3];exact Bool.false_ne_true)).trans (if_pos h4))
 | fail l=>
   refine ⟨_,hD,_,ay (k:=0) rfl,?_⟩
   k_mem
   rw [if_neg (by decide)]
   k_upd
   refine ⟨_,hD,_,ay (k:=0) rfl,?_⟩
   k_mem
   rw [if_neg (by decide)]
   k_upd
   refine ⟨_,hD,_,ay (k:=0) rfl,?_⟩
   k_mem
   rw [if_neg (by decide)]
   k_upd
   refine ⟨_,hD,_,ay (k:=0) rfl,?_⟩
   k_mem
   rw [if_pos rfl,fq]
   k_mem
   refine mgo hob rfl ⟨_,hD,_,rfl,?_⟩
   k_mem
   refine ⟨_,_,_,_,_,_,_,rfl,hW,by omega,wl.symm,fun h H2 s2=>hx .lv ?_ H2 s2,fun h h' h3 H2 s2=>hx .ch ?_ H2 s2,fun h h' h3=>⟨fun z=>absurd z full,fun _ H2 k2 hW2=>fin ?_ H2 k2 hW2⟩⟩
   ·rw [lc] at h
    exact if_pos h
   ·rw [lc] at h'
    exact (if_neg (fun z=>z ⟨h,h'⟩)).trans (if_pos h3)
   ·rw [lc] at h'
    exact (if_neg (fun z=>z ⟨h,h'⟩)).trans (if_neg (by rw [h3];exact Bool.false_ne_true))
 | opn l=>
   refine ⟨_,hD,_,ay (k:=0) rfl,?_⟩
   k_mem
   rw [if_neg (by decide)]
   k_upd
   refine ⟨_,hD,_,ay (k:=0) rfl,?_⟩
   k_mem
   rw [if_neg (by decide)]
   k_upd
   refine ⟨_,hD,_,ay (k:=0) rfl,?_⟩
   k_mem
   rw [if_neg (by decide)]
   k_upd
   refine ⟨_,hD,_,ay (k:=0) rfl,?_⟩
   k_mem
   rw [if_neg (by decide)]
   k_upd
   refine ⟨_,hD,_,ay (k:=0) rfl,?_⟩
   k_mem
   rw [if_pos rfl,fq]
   k_mem
   refine mgo hob rfl ⟨_,hD,_,rfl,?_⟩
   k_mem
   refine ⟨_,_,_,_,_,_,_,rfl,hW,by omega,wl.symm,hn.gl,fun h H2 s2=>hx .lv (if_pos h) H2 s2,fun h h' h3 H2 s2=>hx .ch ((if_neg (fun z=>z ⟨h,h'⟩)).trans (if_pos h3)) H2 s2,fun h h' h3=>⟨fun z=>absurd z full,fun _ H2 k2 hW2=>fin ((if_neg (fun z=>z ⟨h,h'⟩)).trans (if_neg (by rw [h3];decide))) H2 k2 hW2⟩⟩
 | sht l=>
   refine ⟨_,hD,_,ay (k:=0) rfl,?_⟩
   k_mem
   rw [if_neg (by decide)]
   k_upd
   refine ⟨_,hD,_,ay (k:=0) rfl,?_⟩
   k_mem
   rw [if_neg (by decide)]
   k_upd
   refine ⟨_,hD,_,ay (k:=0) rfl,?_⟩
   k_mem
   rw [if_neg (by decide)]
   k_upd
   refine ⟨_,hD,_,ay (k:=0) rfl,?_⟩
   k_mem
   rw [if_neg (by decide)]
   k_upd
   refine ⟨_,hD,_,ay (k:=0) rfl,?_⟩
   k_mem
   rw [if_neg (by decide),fq]
   k_mem
   refine mgo hob rfl ⟨_,hD,_,rfl,?_⟩
   k_mem
   refine ⟨_,_,_,_,_,_,_,rfl,hW,by omega,wl.symm,hn.gl,fun h H2 s2=>hx .lv (if_pos h) H2 s2,fun h h' h3 H2 s2=>hx .ch ((if_neg (fun z=>z ⟨h,h'⟩)).trans (if_pos h3)) H2 s2,fun h h' h3=>⟨fun z=>absurd z full,fun _ H2 k2 hW2=>fin ((if_neg (fun z=>z ⟨h,h'⟩)).trans (if_neg (by rw [h3];decide))) H2 k2 hW2⟩⟩
 | load k c=>exact hgd.elim
 | unload c=>exact hgd.elim
variable (vc:KD P w K mg base CX0 7 "_law_do" (vb K Z))
theorem zK {C:Prop}{dc:Decidable C}{A:Prop}{B:Hp->Prop}{H7:Hp}(h:∀H8,aC H7 H8->B H8)(k:(∀H8,aC H7 H8->B H8)->C->A):@ite _ C dc A (B H7):=by split;exact k h ‹_›;exact h _ (aC.refl _)
def Gp (Z:Adr)(K:JA)(H1:Hp)(a dl cl:Addr)(slow fast:Int)(w bk rl dn:Addr)(g:Cfg)(n0:aY)(i:Nat)(σ:St)(H':Hp):Prop:=∃(as:List Addr) (L:List Dd) (t7 t8 t9 t10 t11:Option V),σ=[some (.ref a),some (.ref dl),some (.ref cl),some (.int slow),some (.int fast),some (.ref w),some (.ref dn),t7,t8,t9,t10,t11]/\aC H1 H'/\WAt (clZ Z) K H' w bk rl g n0 (qz g n0 [] L)/\okS g n0 L/\(∀d∈L,rD g.ds.length d)/\L.length<=i/\H' dn=some (.lst (as.map V.ref))/\dw H' as L
theorem wo (g:Cfg):∀(A B:List Dd) (n:aY),okS g n (A++B)->okS g n A
 | [],_,_,_=>trivial
 | d::A,B,n,h=>⟨h.1,wo g A B _ h.2⟩
theorem Fc {m:Nat}{d:Dd}(h:rD m d):(∀k c,d≠.load k c)/\∀c,d≠.unload c:=by
 cases d<;>first | exact h.elim | exact ⟨fun _ _ z=>(nomatch z),fun _ z=>(nomatch z)⟩
theorem Gq {m:Nat}{d:Dd}(h:rD m d):zl d:=by
 cases d<;>first | exact h.elim | exact h | exact trivial
theorem wq {g:Cfg}{n0:aY}{L:List Dd}(hg:gV g)(hn:c5 g n0)(z:M33 g n0 [])(hok:okS g n0 L)(gd:∀d∈L,rD g.ds.length d):∀k,k<=L.length->c5 g (snD g n0 (L.take k))/\M33 g (snD g n0 (L.take k)) (L.take k)
 | 0,_=>⟨hn,z⟩
 | k+1,h=>by
  obtain ⟨i1,i2⟩:=wq hg hn z hok gd k (by omega)
  have hk:k < L.length:=by omega
  obtain ⟨o1,o2⟩:=Be g L n0 k L[k] hok (List.getElem?_eq_getElem hk)
  rw [List.take_succ_eq_append_getElem hk,yy]
  exact ⟨i1.next hg o1 o2,i2.next i1 o1 o2 (Fc (gd _ (List.getElem_mem hk)))⟩
theorem qd {g:Cfg}{n0:aY}{L:List Dd}(hg:gV g)(hn:c5 g n0)(z:M33 g n0 [])(hok:okS g n0 L)(gd:∀d∈L,rD g.ds.length d):c5 g (aH n0 (qz g n0 [] L))/\M33 g (aH n0 (qz g n0 [] L)) L:=by
 have:=wq hg hn z hok gd L.length (Nat.le_refl _)
 rw [List.take_length] at this
 rw [oM]
 exact this
theorem dw.keep {H H':Hp}{q:Addr}{as:List Addr}{L:List Dd}{ys:List V}(h:dw H as L)(k:aw q H H')(hq:H q=some (.lst ys)):dw H' as L:=h.imp fun a x e=>k _ _ (fun z=>by rw [z,hq] at e;cases e) e
theorem dw.left {H:Hp}{as:List Addr}{L:List Dd}{d:Dd}(h:dw H as (L++[d])):∃as' a,as=as'++[a]/\dw H as' L/\H a=some (.tup (ddV d)):=by
 have hl:=h.1
 rw [List.length_append,List.length_singleton] at hl
 rcases dY as with rfl | ⟨as',a,rfl⟩
 ·cases hl
 ·rw [List.length_append,List.length_singleton] at hl
  refine ⟨as',a,rfl,⟨by omega,fun i b x e1 e2=>?_⟩,?_⟩
  ·have hi:=(List.getElem?_eq_some_iff.mp e1).1
   exact h.2 i b x (by rw [List.getElem?_append_left hi];exact e1) (by rw [List.getElem?_append_left (by omega)];exact e2)
  ·refine h.2 as'.length a d (by simp) ?_
   rw [List.getElem?_append_right (by omega),show as'.length - L.length=0 by omega]
   rfl
theorem qf {e:Eng}(h:∀l r s,e=.other l r s->s≠r):esV (pT e)=pI e:=by
 cases e with
 | no=>rfl
 | wait l r=>rfl
 | armed l r=>show [_,_,_,_]=_;rw [if_neg Bool.false_ne_true,if_pos rfl];rfl
 | other l r s=>show [_,_,_,_]=_;rw [if_neg Bool.false_ne_true,if_neg (h l r s rfl)];rfl
 | used l r=>rfl
theorem uc {α:Type}(xs:List α)(i:Nat):(xs.map fun _=>false).getD i false=false:=by
 rw [List.getD_eq_getElem?_getD,List.getElem?_map]
 cases xs[i]?<;>rfl
theorem Fd {r:Rw}(h:r=.lv\/r=.go\/r=.na\/r=.nr\/r=.nc\/r=.db\/r=.ch):¬rwW (some r)="":=by
 rcases h with rfl | rfl | rfl | rfl | rfl | rfl | rfl<;>decide
theorem Bv (x:Str):eqL [V.str x] [V.str x]=true:=by simp [eqL,eqV]
noncomputable def rP (K:JA)(Z:Adr):Sp:=fun vs H Q _=>∃(a:Addr) (ns:List Int),vs=[.ref a]/\SqL K H a (ns.map V.int)/\ns.length<=63/\∀H',Q (.bl true) H'
include T kZ ee cB cX dh om gf lh hJ fg eN vc in
theorem Fe:FF P w K mg base (CXf P w) 8 "law" "law" nS Bl (rP K Z):=fkF fI fun vs H Q E h=>by
 obtain ⟨a,ns,rfl,hS,hn,q⟩:=h
 k_all
 obtain ⟨t1,h1,k1⟩:∃t,PSs (cxF P w K mg base ["_law_script","_law_depths_here","_law_codes_here","_law_slow","_law_fast","_law_works","_law_done","_law_k","_law_cell","_law_deed_here","_law_word","_law_place_here"] "law" (aj nS) zf zv zA zo zs H E) ((bQ nS).drop 3) t/\∀(dl cl w bk rl dn:Addr) (slow fast:Int) (as0:List Addr) (g:Cfg) (n0:aY) (H1 H2:Hp),aC H H1->aC H1 H2->H1 rl=none->H1 dn=none->gV g->c5 g n0->M33 g n0 []->g.N dn->H1 dl=some (.lst (g.ds.map V.int))->H1 cl=some (.lst (as0.map V.ref))->bP cdV K H1 as0 g.ls->WAt (clZ Z) K H2 w bk rl g n0 []->H2 dn=some (.lst [])->t ({nx:=fun _ H2=>Q .non H2,rt:=Q}:lj) [some (.ref a),some (.ref dl),some (.ref cl),some (.int slow),some (.int fast),some (.ref w),some (.ref dn),none,none,none,none,none] H2:=by
  refine seg 1 (ag (aA (dc0 eN hr.dn (pa2 (fW (pv' 5) dh hr.dn bY) (dc0 cB hr.dn (pa1 (pv' 6))))))) fun zt1 zh1 ze1=>?_
  refine ⟨_,ae (dI y4 rfl (qB (by rfl) T.cP (pa2 af (aF (mj rfl) (by rfl) T.Bn w9 (pa2 (aF av (by rfl) T.bZ bw (pa1 (pv' 0))) af)))) (aM (i:=7) fI.nd rfl orL) (ae (aJ (i:=8) fI.nd rfl orL (dc0 kZ hr.dn (pa2 (pv' 0) (pv' 7)))) (ae (aK (i7 (cb (bf (pv' 8) af) af) (fU (cw (EX hr.units0) (pv' 6) (br fA) (bE _)))).pt (ag (aK (dH (bS (dc0 eN hr.dn (pa2 (fW (pv' 5) cX hr.dn cV) (Ac PySem.F.plainAttrs_list PySem.F.slot_list_pop PySem.F.type_list_pop yB (pv' 6)))))) (ag (aA fP)) (aD))) (ae (aJ (i:=9) fI.nd rfl orL (dc0 om hr.dn (pa4 (pv' 1) (pv' 2) (pv' 6) (pv' 8)))) (ae (aJ (i:=10) fI.nd rfl orL (dc0 hJ hr.dn (pa4 (pv' 1) (pv' 2) (pv' 6) (pv' 9)))) (ae (aK (cw (CG hr.units0) (dc0 vc hr.dn (pa2 (pv' 5) (pv' 9))) (br (pa1 (pv' 10))) (bE _)) (ag (aA fP)) (aD)) (ag (aK (cb (pv' 10) ak) (ag (bD (mZ PySem.F.plainAttrs_list PySem.F.slot_list_append PySem.F.type_list_append gn (pv' 6) (pa1 (pv' 9))))) (aD))))))) (ae (aJ (i:=11) fI.nd rfl orL (dc0 ee hr.dn (pa2 (pv' 1) (pv' 6)))) (ae (aK (dH (bS (dc0 eN hr.dn (pa2 (fW (pv' 5) fg hr.dn bY) (bc (pa2 (pv' 11) (aV cC (aq au (pv' 1) (iL dr af)) (pv' 11)))))))) (ag (aA fP)) (aD)) (ag (aK (dH (bS (dc0 eN hr.dn (pa2 (fW (pv' 5) dh hr.dn bY) (dc0 cB hr.dn (pa1 (pv' 6))))))) (ag (aA fP)) (aD)))))))) zh1,?_⟩
  intro dl cl w bk rl dn slow fast as0 g n0 H1 H2 s1 s2 frl fdn hg hn0 hm0 ndn hdl hcl hT hW hdn
  have l2:=hg.sh.l2
  have l6:=hg.sh.l6
  have hS2:=s2.seq (s1.seq hS)
  k_mem
  refine ⟨_,.inl hS2,⟨by decide,by decide,by rw [JB];split<;>omega,by rw [JB];split<;>omega⟩,?_⟩
  k_upd
  refine cN (Gp Z K H1 a dl cl slow fast w bk rl dn g n0) ⟨[],[],none,none,none,none,none,rfl,s2,hW,trivial,(fun d hd=>nomatch hd),Nat.zero_le _,hdn,jZ.nil⟩ ?_ ?_
  ·clear hW hdn
   rintro i σ H3 hi ⟨as,L,t7,t8,t9,t10,t11,rfl,s3,hW,hok,hgd,hlen,hdn,hD⟩
   rw [JB] at hi
   have hi':i < 58:=by split at hi<;>omega
   have hi2:i+5 < ns.length:=by split at hi<;>omega
   obtain ⟨hsn,hM⟩:=qd hg hn0 hm0 hok hgd
   k_mem
   refine ⟨a,ns,_,rfl,s3.seq (s1.seq hS),by omega,by omega,fun c=>?_⟩
   k_mem
   refine @zK (c % 17=16) _ _ (fun HH=>lg K Z [V.ref dl,V.ref cl,V.ref dn,V.int c] HH _ E0) H3 (fun H4 s4=>?_) fun hT _=>?_
   ·have s14:=s3.trans s4
    k_upd
    refine ⟨dl,cl,dn,c,g,_,as,L,rfl,s14 _ _ hdl,⟨as0,s14 _ _ hcl,bP.same s14 hT⟩,s4 _ _ hdn,hD.same s4,by omega,hg,hsn,hM,fun dd d H5 s5 hdd gdd=>?_⟩
    have s15:=s14.trans s5
    k_upd
    refine ⟨dl,cl,dn,dd,g,_,as,L,d,rfl,s15 _ _ hdl,⟨as0,s15 _ _ hcl,bP.same s15 hT⟩,(s4.trans s5) _ _ hdn,hD.same (s4.trans s5),by omega,hg,hsn,hM,hdd,gdd,fun H6 s6=>?_⟩
    have s16:=s15.trans s6
    have s36:=s4.trans (s5.trans s6)
    have hdd6:=s6 _ _ hdd
    k_mem
    refine ⟨w,bk,rl,dd,g,n0,_,d,rfl,hW.same s36,hg,hsn,by rw [vE];simp;omega,hdd6,gdd,fun r p H7 hr s7 hp=>?_,fun hr p H7 k7 hW7 hp=>?_⟩
    ·k_upd
     refine ⟨by decide,fun p2 hp2=>?_⟩
     (generalize hE:upd H7 p2 _=H8 at *;have s8:=cv hE hp2;have e8:=bj hE;clear hE)
     k_mem
     refine ⟨_,SqL.of (s8 _ _ hp),_,SqL.of e8,rfl,rfl,?_⟩
     rw [hr,if_neg (by rw [Bv];decide),if_neg (Fd (Fb gdd hr))]
     have s68:=s36.trans (s7.trans s8)
     have sN:=s3.trans s68
     have hWN:=hW.same s68
     have hdnN:=s68 _ _ hdn
     have hDN:=hD.same s68
     have hMN:=hM
     have hokN:=hok
     have hgdN:=hgd
     k_upd
     refine ⟨dl,dn,g.ds,_,_,rfl,sN _ _ hdl,hg.sh,hdnN,hDN.at,hMN.ok,by omega,fun HA sA=>?_⟩
     rw [←hMN.pl]
     k_mem
     obtain ⟨dxw,dlw,glw,hobw,_⟩:=id (hWN.same sA).ob
     k_upd
     refine mgo hobw rfl ⟨_,_,_,_,_,_,rfl,hWN.same sA,by omega,fun pc hpc=>?_⟩
     (generalize hE:upd HA pc _=HB at *;have sB:=cv hE hpc;have eB:=bj hE;clear hE)
     k_upd
     refine ⟨_,SqL.of ((sN.trans (sA.trans sB)) _ _ hdl),_,jY (by omega),?_⟩
     k_mem
     refine ⟨by decide,fun pt hpt=>?_⟩
     (generalize hE:upd HB pt _=HC at *;have sC:=cv hE hpt;have eC:=bj hE;clear hE)
     k_upd
     refine ⟨_,_,_,rfl,bx (SqT.of (sC _ _ eB)) (by simp) (by simp [a7]),bx (SqT.of eC) (by simp) (by simp [a7]),fun HD sD=>?_⟩
     k_mem
     have sAD:=sA.trans (sB.trans (sC.trans sD))
     obtain ⟨dxv,dlv,glv,hobv,_⟩:=id (hWN.same sAD).ob
     k_upd
     refine mgo hobv rfl ⟨_,_,_,_,_,_,rfl,hWN.same sAD,fun st hst=>?_⟩
     k_mem
     refine ⟨dn,_,_,_,rfl,sAD _ _ hdnN,(hDN.same sAD).at,by omega,hMN.en,fun pg HE sE hpg=>?_⟩
     rw [qf hMN.ot] at hpg
     k_upd
     refine ⟨_,_,_,rfl,bx (sE.tup hst) (by rw [fm];decide) (dj _),bx hpg (by rw [fm];decide) (dj _),fun HF sF=>?_⟩
     k_mem
     have sEF:=sAD.trans (sE.trans sF)
     k_upd
     exact ⟨_,_,_,_,_,_,_,rfl,sN.trans sEF,hWN.same sEF,hokN,hgdN,by omega,sEF _ _ hdnN,hDN.same sEF⟩
    ·have hoff:=hW.off
     obtain ⟨asr,hrl⟩:=hW.rows
     have hrl6:=s36 _ _ hrl
     have s17:=s16.keeps k7 frl
     have hdn7:=k7 _ _ (hoff dn ndn).symm (s36 _ _ hdn)
     have hD7:=(hD.same s36).keep k7 hrl6
     have hdd7:=k7 _ _ (fun z=>by rw [z,hrl6] at hdd6;cases hdd6) hdd6
     k_upd
     refine ⟨by decide,fun p2 hp2=>?_⟩
     (generalize hE:upd H7 p2 _=H8 at *;have s8:=cv hE hp2;have e8:=bj hE;clear hE)
     k_mem
     refine ⟨_,SqL.of (s8 _ _ hp),_,SqL.of (by rw [hr] at e8;exact e8),rfl,rfl,?_⟩
     rw [hr,if_neg (show ¬(!eqL [V.str ""] [V.str (rwW none)])=true by rw [show rwW none="" from rfl,Bv];decide),if_pos (show rwW none="" from rfl)]
     have hdn8:=s8 _ _ hdn7
     k_upd
     refine ⟨.inl ⟨rfl,_,SqL.of hdn8⟩,_,hdn8,dX (by rw [JB,hD.1];omega),?_⟩
     have k9:L2.aw dn H8 (upd H8 dn (HO.lst (as.map V.ref++[V.ref dd]))):=(aw.of (aC.refl H8)).put
     have e9:upd H8 dn (HO.lst (as.map V.ref++[V.ref dd])) dn=some (HO.lst ((as++[dd]).map V.ref)):=by rw [ah,List.map_append];rfl
     generalize upd H8 dn (HO.lst (as.map V.ref++[V.ref dd]))=H9 at *
     have sN:=(s17.trans s8).keeps k9 fdn
     have hWN:=(hW7.same s8).own ndn k9 e9
     rw [←kW] at hWN
     have hdnN:=e9
     have hdd8:=s8 _ _ hdd7
     have hDN:dw H9 (as++[dd]) (L++[d]):=((hD7.same s8).keep k9 hdn8).push (k9 _ _ (fun z=>by rw [z,hdn8] at hdd8;cases hdd8) hdd8)
     have hokN:okS g n0 (L++[d]):=yz g L [d] n0 hok ⟨⟨Gq gdd,by rw [oM] at hr;exact hr⟩,trivial⟩
     have hgdN:∀x∈L++[d],rD g.ds.length x:=fun x hx=>by
      rw [List.mem_append,List.mem_singleton] at hx
      rcases hx with hx | rfl
      ·exact hgd x hx
      ·exact gdd
     have hMN:=(qd hg hn0 hm0 hokN hgdN).2
     have hlenN:(L++[d]).length=L.length+1:=by rw [List.length_append];rfl
     k_upd
     refine ⟨dl,dn,g.ds,_,_,rfl,sN _ _ hdl,hg.sh,hdnN,hDN.at,hMN.ok,by omega,fun HA sA=>?_⟩
     rw [←hMN.pl]
     k_mem
     obtain ⟨dxw,dlw,glw,hobw,_⟩:=id (hWN.same sA).ob
     k_upd
     refine mgo hobw rfl ⟨_,_,_,_,_,_,rfl,hWN.same sA,by omega,fun pc hpc=>?_⟩
     (generalize hE:upd HA pc _=HB at *;have sB:=cv hE hpc;have eB:=bj hE;clear hE)
     k_upd
     refine ⟨_,SqL.of ((sN.trans (sA.trans sB)) _ _ hdl),_,jY (by omega),?_⟩
     k_mem
     refine ⟨by decide,fun pt hpt=>?_⟩
     (generalize hE:upd HB pt _=HC at *;have sC:=cv hE hpt;have eC:=bj hE;clear hE)
     k_upd
     refine ⟨_,_,_,rfl,bx (SqT.of (sC _ _ eB)) (by simp) (by simp [a7]),bx (SqT.of eC) (by simp) (by simp [a7]),fun HD sD=>?_⟩
     k_mem
     have sAD:=sA.trans (sB.trans (sC.trans sD))
     obtain ⟨dxv,dlv,glv,hobv,_⟩:=id (hWN.same sAD).ob
     k_upd
     refine mgo hobv rfl ⟨_,_,_,_,_,_,rfl,hWN.same sAD,fun st hst=>?_⟩
     k_mem
     refine ⟨dn,_,_,_,rfl,sAD _ _ hdnN,(hDN.same sAD).at,by omega,hMN.en,fun pg HE sE hpg=>?_⟩
     rw [qf hMN.ot] at hpg
     k_upd
     refine ⟨_,_,_,rfl,bx (sE.tup hst) (by rw [fm];decide) (dj _),bx hpg (by rw [fm];decide) (dj _),fun HF sF=>?_⟩
     k_mem
     have sEF:=sAD.trans (sE.trans sF)
     k_upd
     exact ⟨_,_,_,_,_,_,_,rfl,sN.trans sEF,hWN.same sEF,hokN,hgdN,by omega,sEF _ _ hdnN,hDN.same sEF⟩
   ·k_upd
    refine ⟨by decide,fun pe hpe=>?_⟩
    (generalize hE:upd H3 pe _=H4 at *;have s4:=cv hE hpe;have e4:=bj hE;clear hE)
    k_upd
    refine ⟨_,SqL.of (s4 _ _ hdn),SqL.of e4,?_⟩
    rcases dY L with rfl | ⟨LL,d,rfl⟩
    ·have:as=[]:=List.eq_nil_of_length_eq_zero hD.1
     subst this
     k_upd
     rw [if_neg (by decide)]
     exact hT H4 s4
    ·obtain ⟨as2,da,rfl,hD2,hda⟩:=hD.left
     k_upd
     rw [if_pos (by simp)]
     obtain ⟨asr,hrl⟩:=hW.rows
     have hrl4:=s4 _ _ hrl
     obtain ⟨dxw,dlw,glw,hobw,_⟩:=id (hW.same s4).ob
     k_upd
     refine mgo hobw rfl ⟨_,_,_,_,_,_,rfl,hW.same s4,fun z=>by rw [kW] at z;simp at z,fun rs3 r3 e p H5 k5 hW5 hp=>?_⟩
     rw [kW] at e
     obtain ⟨rfl,rfl⟩:=AH e
     have hdn5:=k5 _ _ (hW.off dn ndn).symm (s4 _ _ hdn)
     have s15:=(s3.trans s4).keeps k5 frl
     have hD5:=(hD2.same s4).keep k5 hrl4
     have hda4:=s4 _ _ hda
     have hda5:=k5 _ _ (fun z=>by rw [z,hrl4] at hda4;cases hda4) hda4
     k_mem
     refine ⟨.inl ⟨rfl,_,SqL.of hdn5⟩,_,hdn5,.ref da,by simp,?_⟩
     rw [show ((as2++[da]).map V.ref).dropLast=as2.map V.ref by simp]
     have k6:L2.aw dn H5 (upd H5 dn (HO.lst (as2.map V.ref))):=(aw.of (aC.refl H5)).put
     have e6:upd H5 dn (HO.lst (as2.map V.ref)) dn=some (HO.lst (as2.map V.ref)):=ah
     generalize upd H5 dn (HO.lst (as2.map V.ref))=H6 at *
     have hp6:SqT K H6 p (ddV d):=SqT.keep k6 hdn5 hp
     have hda6:SqT K H6 da (ddV d):=SqT.keep k6 hdn5 (SqT.of hda5)
     k_upd
     refine ⟨_,_,_,rfl,bx hp6 (by have:=yk d;omega) (qs d),bx hda6 (by have:=yk d;omega) (qs d),fun H7 s7=>?_⟩
     k_mem
     have sN:=(s15.keeps k6 fdn).trans s7
     have hWN:=(hW5.own ndn k6 e6).same s7
     have hdnN:=s7 _ _ e6
     have hDN:=(hD5.keep k6 hdn5).same s7
     have hokN:=wo g LL [d] n0 hok
     have hgdN:∀x∈LL,rD g.ds.length x:=fun x hx=>hgd x (List.mem_append_left _ hx)
     have hMN:=(qd hg hn0 hm0 hokN hgdN).2
     have hlenN:(LL++[d]).length=LL.length+1:=by rw [List.length_append];rfl
     k_upd
     refine ⟨dl,dn,g.ds,_,_,rfl,sN _ _ hdl,hg.sh,hdnN,hDN.at,hMN.ok,by omega,fun HA sA=>?_⟩
     rw [←hMN.pl]
     k_mem
     obtain ⟨dxw,dlw,glw,hobw,_⟩:=id (hWN.same sA).ob
     k_upd
     refine mgo hobw rfl ⟨_,_,_,_,_,_,rfl,hWN.same sA,by omega,fun pc hpc=>?_⟩
     (generalize hE:upd HA pc _=HB at *;have sB:=cv hE hpc;have eB:=bj hE;clear hE)
     k_upd
     refine ⟨_,SqL.of ((sN.trans (sA.trans sB)) _ _ hdl),_,jY (by omega),?_⟩
     k_mem
     refine ⟨by decide,fun pt hpt=>?_⟩
     (generalize hE:upd HB pt _=HC at *;have sC:=cv hE hpt;have eC:=bj hE;clear hE)
     k_upd
     refine ⟨_,_,_,rfl,bx (SqT.of (sC _ _ eB)) (by simp) (by simp [a7]),bx (SqT.of eC) (by simp) (by simp [a7]),fun HD sD=>?_⟩
     k_mem
     have sAD:=sA.trans (sB.trans (sC.trans sD))
     obtain ⟨dxv,dlv,glv,hobv,_⟩:=id (hWN.same sAD).ob
     k_upd
     refine mgo hobv rfl ⟨_,_,_,_,_,_,rfl,hWN.same sAD,fun st hst=>?_⟩
     k_mem
     refine ⟨dn,_,_,_,rfl,sAD _ _ hdnN,(hDN.same sAD).at,by omega,hMN.en,fun pg HE sE hpg=>?_⟩
     rw [qf hMN.ot] at hpg
     k_upd
     refine ⟨_,_,_,rfl,bx (sE.tup hst) (by rw [fm];decide) (dj _),bx hpg (by rw [fm];decide) (dj _),fun HF sF=>?_⟩
     k_mem
     have sEF:=sAD.trans (sE.trans sF)
     k_upd
     exact ⟨_,_,_,_,_,_,_,rfl,sN.trans sEF,hWN.same sEF,hokN,hgdN,by omega,sEF _ _ hdnN,hDN.same sEF⟩
  ·rintro σ H3 ⟨as,L,t7,t8,t9,t10,t11,rfl,s3,hW,hok,hgd,hlen,hdn,hD⟩
   rw [JB] at hlen
   obtain ⟨hsn,hM⟩:=qd hg hn0 hm0 hok hgd
   have hL9:L.length<=1000:=by split at hlen<;>omega
   k_mem
   obtain ⟨dxv,dlv,glv,hobv,_⟩:=id hW.ob
   k_upd
   refine mgo hobv rfl ⟨_,_,_,_,_,_,rfl,hW,fun st hst=>?_⟩
   k_mem
   refine ⟨dn,_,_,_,rfl,hdn,hD.at,hL9,hM.en,fun pg HE sE hpg=>?_⟩
   rw [qf hM.ot] at hpg
   k_upd
   exact ⟨_,_,_,rfl,bx (sE.tup hst) (by rw [fm];decide) (dj _),bx hpg (by rw [fm];decide) (dj _),fun HF sF=>q _⟩
 refine seg 2 (ae (aJ (i:=6) fI.nd rfl orL (br fA)) h1) fun zt2 zh2 ze2=>?_
 refine seg 1 (ae (aJ (i:=5) fI.nd rfl orL (dn gf hr.dn T.CN cV (fV (bB cf (by rfl) T.gC ez (pa1 (pv' 1))) (pa4 (bB cf (by rfl) T.gC ez (pa1 (pv' 2))) (pv' 3) (pv' 4) (br fA))))) zh2) fun zt1 zh1 ze1=>?_
 refine ⟨_,ae (wJ (dc0 lh hr.dn (pa1 (pv' 0))) (CH rfl (bg (aM (i:=1) fI.nd rfl orL) (bg (aM (i:=2) fI.nd rfl orL) (bg (aM (i:=3) fI.nd rfl orL) (bg (aM (i:=4) fI.nd rfl orL) gp)))))) zh1,?_⟩
 k_mem
 refine ⟨a,ns,rfl,hS,fun p dl cl ds as0 ls slow fast H1 s1 hpn hdn hcn ndc hp hdl hsh hcl hT hlen hg hsp=>?_⟩
 have l2:=hsh.l2
 have l6:=hsh.l6
 k_mem
 refine ⟨_,SqL.of hp,rfl,?_⟩
 k_mem
 refine ⟨_,.inl (SqL.of hdl),fun p1 hp1=>⟨_,.inl (SqL.of (upo hcl hp1)),fun p2 hp2=>⟨by decide,fun p3 hp3=>?_⟩⟩⟩
 have s2:=((((aC.refl H1).lay (o:=HO.lst (ds.map V.int)) hp1).lay (o:=HO.lst (as0.map V.ref)) hp2).lay (o:=HO.lst []) hp3)
 have q1:upd (upd (upd H1 p1 (HO.lst (ds.map V.int))) p2 (HO.lst (as0.map V.ref))) p3 (HO.lst []) p1=some (HO.lst (ds.map V.int)):=upo (upo ah hp2) hp3
 have q2:upd (upd (upd H1 p1 (HO.lst (ds.map V.int))) p2 (HO.lst (as0.map V.ref))) p3 (HO.lst []) p2=some (HO.lst (as0.map V.ref)):=upo ah hp3
 have q3:upd (upd (upd H1 p1 (HO.lst (ds.map V.int))) p2 (HO.lst (as0.map V.ref))) p3 (HO.lst []) p3=some (HO.lst []):=ah
 generalize upd (upd (upd H1 p1 (HO.lst (ds.map V.int))) p2 (HO.lst (as0.map V.ref))) p3 (HO.lst [])=H2 at *
 refine fun x dx hx hdx nxd=>?_
 have hx':upd H2 dx (.own x) x=none:=by rw [aE (Ne.symm nxd)];exact hx
 have sx:=((aC.refl H2).lay (o:=HO.own x) hdx).lay (o:=HO.ins Z.bp dx []) hx'
 k_upd
 refine ⟨x,dx,p1,p2,p3,ds,ls,[],slow,fast,fun _=>False,rfl,ah,sx.seq (SqL.of q1),⟨as0,sx.seq (SqL.of q2),(hT.same s2).same sx⟩,⟨[],sx.seq (SqL.of q3),vx.nil⟩,by omega,by omega,by decide,fun p hp=>hp.elim,fun h=>absurd hsh h,fun _ h=>absurd ⟨by omega,hg⟩ h,fun _ _ h=>absurd hsp h,fun _ _ _ h=>absurd ⟨by decide,fun x hx=>by cases hx⟩ h,fun _ _ _ _ bk rl H3 kx hrl hW=>⟨rfl,?_⟩⟩
 have s3:=fo hx hdx kx
 have frl:H2 rl=none:=eE hrl
 clear kx hrl sx
 have s13:=s2.trans s3
 k_mem
 refine ⟨by decide,fun dn hdn=>?_⟩
 have s4:=(aC.refl H3).lay (o:=HO.lst []) hdn
 have hW4:=hW.grow hdn s4 ah
 refine k1 dl cl x bk rl dn slow fast as0 _ (jK ds ls []) H1 _ s1 (s13.trans s4) (s2.free frl) (s13.free hdn) ((EB hsh hlen hg hsp (by decide)).plus dn) ((BZ hsh hlen (fun x hx=>by cases hx)).plus dn) (M33.zero rfl (fun i=>uc ds i) (fun i=>uc ls i) rfl) (.inr rfl) hdl hcl hT hW4 ah
include T kZ ee cB cX dh om gf lh hJ fg eN vc in
theorem Ff:FF P w K mg base CX0 8 "law" "law" nS Bl (rP K Z):=(Fe T kZ ee cB cX dh om gf lh hJ fg eN vc).calm fun vs H Q E h=>h
end
theorem Fg {l:W.OpenLaw}{w:World}{K:JA}{h:Heap}{mg:Str->Option Value}{fa:Addr}(X:K.In h)(G:h.Ns mainGlobals mg)(hfa:mg "law"=some (.ref fa)){C0 C1 C2 C3 C4 C5 C6 C7 C8 C9 C10 C11 C12 C13 C14 C15 C16 C17 C18 C19:Addr}{ta_KINDS:Addr}{tk_KINDS_0 tk_KINDS_1:Tok}{tn_KINDS:Nat}{ts_KINDS:Array (Option Value)}{ta_CAGE_SPOTS:Addr}{tk_CAGE_SPOTS_0 tk_CAGE_SPOTS_1:Tok}{to_CAGE_SPOTS:Option Addr}{tn_CAGE_SPOTS:Nat}{ts_CAGE_SPOTS:Array (Option Value)}(fx:DC K C0 C1 C2 C3 C4 C5 C6 C7 C8 C9 C10 C11 C12 C13 C14 C15 C16 C17 C18 C19 ta_KINDS tk_KINDS_0 tk_KINDS_1 tn_KINDS ts_KINDS ta_CAGE_SPOTS tk_CAGE_SPOTS_0 tk_CAGE_SPOTS_1 to_CAGE_SPOTS tn_CAGE_SPOTS ts_CAGE_SPOTS)
 : ∃Z:Adr,∃fd:FuncData,(∀(s:Shared) (v:Value),BindsTo s fd ⟨[v],[]⟩ [("_law_script",v)])/\∀base:Heap,K.In base->base.Ns mainGlobals mg->fi l.prog w K mg base CX0 8 fa fd ["_law_script"] (rP K Z):=by
 obtain ⟨z_len,z_zip,z_list,z_range,z_abs,z_isinstance,z_tuple,z_int,z_str,z_bool,z_min,m0,m1,m2,m3,m4,m5,m6,m7,m8,m9,m10,m11,m12,m13,m14,m15,m16,m17,m18,m19,n_MOST_LOADS,n_FEWEST_STROKES,n_MOST_STROKES,n_FEWEST_LEVELS,n_MOST_LEVELS,n_GREATEST_DEPTH,n_GREATEST_SPEED,n_MOST_DEEDS,n_KINDS,lt_KINDS,n_CAGE_SPOTS,lt_CAGE_SPOTS,cl15,na15_kinds,na15_where,na15_many,cl16,na16_codes,na16_failed,na16_state,cl17,na17_place,na17_opened,na17_bells,na17_yard,cl18,na18_first,na18_most,na18_rows,cl19,na19_depths,na19_slow,na19_fast,na19_goals,na19_log,l0,x0,x1,x2,x3,x4,x5,x6,x7,x8,x9,x10,x11,x12,x13,e0_CageError,k0_UnknownLevel,k0_GateOpen,k0_NotArmed,k0_NoChange,k0_NothingRung,k0_NoCode,k0_DeadBell,e1_CageError,k1_UnknownLevel,k1_GateOpen,k1_NotArmed,k1_NoChange,k1_NothingRung,k1_NoCode,k1_DeadBell,e2_CageError,k2_UnknownLevel,k2_GateOpen,k2_NotArmed,k2_NoChange,k2_NothingRung,k2_NoCode,k2_DeadBell,e3_CageError,k3_UnknownLevel,k3_GateOpen,k3_NotArmed,k3_NoChange,k3_NothingRung,k3_NoCode,k3_DeadBell,e4_CageError,k4_UnknownLevel,k4_GateOpen,k4_NotArmed,k4_NoChange,k4_NothingRung,k4_NoCode,k4_DeadBell,e5_CageError,k5_UnknownLevel,k5_GateOpen,k5_NotArmed,k5_NoChange,k5_NothingRung,k5_NoCode,k5_DeadBell,e6_CageError,k6_UnknownLevel,k6_GateOpen,k6_NotArmed,k6_NoChange,k6_NothingRung,k6_NoCode,k6_DeadBell,e7_CageError,k7_UnknownLevel,k7_GateOpen,k7_NotArmed,k7_NoChange,k7_NothingRung,k7_NoCode,k7_DeadBell,e8_CageError,k8_UnknownLevel,k8_GateOpen,k8_NotArmed,k8_NoChange,k8_NothingRung,k8_NoCode,k8_DeadBell,e9_CageError,k9_UnknownLevel,k9_GateOpen,k9_NotArmed,k9_NoChange,k9_NothingRung,k9_NoCode,k9_DeadBell,e10_CageError,k10_UnknownLevel,k10_GateOpen,k10_NotArmed,k10_NoChange,k10_NothingRung,k10_NoCode,k10_DeadBell,e11_CageError,k11_UnknownLevel,k11_GateOpen,k11_NotArmed,k11_NoChange,k11_NothingRung,k11_NoCode,k11_DeadBell,e12_CageError,k12_UnknownLevel,k12_GateOpen,k12_NotArmed,k12_NoChange,k12_NothingRung,k12_NoCode,k12_DeadBell,e13_CageError,k13_UnknownLevel,k13_GateOpen,k13_NotArmed,k13_NoChange,k13_NothingRung,k13_NoCode,k13_DeadBell,d0,d1,d2,d3,d4,d5,d6,d7,d8,d9,d10,d11,d12,d13,d14,d15,d16,d17,d18,d19,d20,d21,d22,d23,d24,d25,d26,d27,d28,d29,d30,d31,d32,d33,d34,d35,d36,d37,d38,d39,d40,d41,d42,d43,d44,d45,d46,d47,d48,d49,d50,d51,d52,d53,d54,d55,d56,d57,d58,d59,d60⟩:=fx
 obtain ⟨f0,_,b0,F0⟩:=d0
 obtain ⟨f1,_,b1,F1⟩:=d1
 obtain ⟨f2,_,b2,F2⟩:=d2
 obtain ⟨f3,_,b3,F3⟩:=d3
 obtain ⟨f4,_,b4,F4⟩:=d4
 obtain ⟨f5,_,b5,F5⟩:=d5
 obtain ⟨f6,_,b6,F6⟩:=d6
 obtain ⟨f7,_,b7,F7⟩:=d7
 obtain ⟨f8,_,b8,F8⟩:=d8
 obtain ⟨f9,_,b9,F9⟩:=d9
 obtain ⟨f10,_,b10,F10⟩:=d10
 obtain ⟨f11,_,b11,F11⟩:=d11
 obtain ⟨f12,_,b12,F12⟩:=d12
 obtain ⟨f13,_,b13,F13⟩:=d13
 obtain ⟨f14,_,b14,F14⟩:=d14
 obtain ⟨f15,_,b15,F15⟩:=d15
 obtain ⟨f16,_,b16,F16⟩:=d16
 obtain ⟨f17,_,b17,F17⟩:=d17
 obtain ⟨f18,_,b18,F18⟩:=d18
 obtain ⟨f19,_,b19,F19⟩:=d19
 obtain ⟨f20,_,b20,F20⟩:=d20
 obtain ⟨f21,_,b21,F21⟩:=d21
 obtain ⟨f22,_,b22,F22⟩:=d22
 obtain ⟨f23,_,b23,F23⟩:=d23
 obtain ⟨f24,_,b24,F24⟩:=d24
 obtain ⟨f25,_,b25,F25⟩:=d25
 obtain ⟨f26,_,b26,F26⟩:=d26
 obtain ⟨f27,_,b27,F27⟩:=d27
 obtain ⟨f28,_,b28,F28⟩:=d28
 obtain ⟨f29,_,b29,F29⟩:=d29
 obtain ⟨f30,_,b30,F30⟩:=d30
 obtain ⟨f31,_,b31,F31⟩:=d31
 obtain ⟨f32,_,b32,F32⟩:=d32
 obtain ⟨f33,_,b33,F33⟩:=d33
 obtain ⟨f34,_,b34,F34⟩:=d34
 obtain ⟨f35,_,b35,F35⟩:=d35
 obtain ⟨f36,_,b36,F36⟩:=d36
 obtain ⟨f37,_,b37,F37⟩:=d37
 obtain ⟨f38,_,b38,F38⟩:=d38
 obtain ⟨f39,_,b39,F39⟩:=d39
 obtain ⟨f40,_,b40,F40⟩:=d40
 obtain ⟨f41,_,b41,F41⟩:=d41
 obtain ⟨f42,_,b42,F42⟩:=d42
 obtain ⟨f43,_,b43,F43⟩:=d43
 obtain ⟨f44,_,b44,F44⟩:=d44
 obtain ⟨f45,_,b45,F45⟩:=d45
 obtain ⟨f46,_,b46,F46⟩:=d46
 obtain ⟨f47,_,b47,F47⟩:=d47
 obtain ⟨f48,_,b48,F48⟩:=d48
 obtain ⟨f49,_,b49,F49⟩:=d49
 obtain ⟨f50,_,b50,F50⟩:=d50
 obtain ⟨f51,_,b51,F51⟩:=d51
 obtain ⟨f52,_,b52,F52⟩:=d52
 obtain ⟨f53,_,b53,F53⟩:=d53
 obtain ⟨f54,_,b54,F54⟩:=d54
 obtain ⟨f55,_,b55,F55⟩:=d55
 obtain ⟨f56,_,b56,F56⟩:=d56
 obtain ⟨f57,_,b57,F57⟩:=d57
 obtain ⟨f58,_,b58,F58⟩:=d58
 obtain ⟨f59,_,b59,F59⟩:=d59
 obtain ⟨f60,_,b60,F60⟩:=d60
 have e:=hfa.symm.trans (W.mg_of X G b60)
 cases e
 obtain ⟨oc,od,kV,dc,pm,an,cd,ct,sl,rfl,ll,cc⟩:=F60.ex
 let Z:Adr:=⟨C0,C1,C2,C3,C4,C5,C6,C7,C8,C9,C10,C11,C12,C13,C14,C15,C16,C17,C18,C19,ta_KINDS,ta_CAGE_SPOTS⟩
 refine ⟨Z,W.fnOf "law" "law" (cL nS) (bQ nS) (aj nS) .none kV dc pm an cd ct,fun s v=>.of_eq rfl,fun base _ _=>?_⟩
 have T:Txt l.prog w K mg base Z:=⟨W.mg_none_of X G z_len,W.mg_none_of X G z_zip,W.mg_none_of X G z_list,W.mg_none_of X G z_range,W.mg_none_of X G z_abs,W.mg_none_of X G z_isinstance,W.mg_none_of X G z_tuple,W.mg_none_of X G z_int,W.mg_none_of X G z_str,W.mg_none_of X G z_bool,W.mg_none_of X G z_min,KI.txt X G n_MOST_LOADS,KI.txt X G n_FEWEST_STROKES,KI.txt X G n_MOST_STROKES,KI.txt X G n_FEWEST_LEVELS,KI.txt X G n_MOST_LEVELS,KI.txt X G n_GREATEST_DEPTH,KI.txt X G n_GREATEST_SPEED,KI.txt X G n_MOST_DEEDS,⟨_,W.mg_of X G n_KINDS,rfl⟩,fun H=>.inr ⟨_,_,_,lt_KINDS,rfl,rfl,(by show 2<=sizeLine;decide),.cons ⟨_,rfl⟩ (.cons ⟨_,rfl⟩ .nil)⟩,⟨_,lt_KINDS,rfl,rfl⟩,⟨_,W.mg_of X G n_CAGE_SPOTS,rfl⟩,fun H=>.inr ⟨_,_,_,lt_CAGE_SPOTS,rfl,rfl,(by show 2<=sizeLine;decide),.cons ⟨_,rfl⟩ (.cons ⟨_,rfl⟩ .nil)⟩,W.mg_of X G m0,W.mg_of X G m1,W.mg_of X G m2,W.mg_of X G m3,W.mg_of X G m4,W.mg_of X G m5,W.mg_of X G m6,W.mg_of X G m7,W.mg_of X G m8,W.mg_of X G m9,W.mg_of X G m10,W.mg_of X G m11,W.mg_of X G m12,W.mg_of X G m13,W.mg_of X G m14,W.mg_of X G m15,W.mg_of X G m16,W.mg_of X G m17,W.mg_of X G m18,W.mg_of X G m19,cl15,na15_kinds,na15_where,na15_many,cl16,na16_codes,na16_failed,na16_state,cl17,na17_place,na17_opened,na17_bells,na17_yard,cl18,na18_first,na18_most,na18_rows,cl19,na19_depths,na19_slow,na19_fast,na19_goals,na19_log,(x0 l0).ex,x0 l0,e0_CageError,k0_UnknownLevel,k0_GateOpen,k0_NotArmed,k0_NoChange,k0_NothingRung,k0_NoCode,k0_DeadBell,(x1 l0).ex,x1 l0,e1_CageError,k1_UnknownLevel,k1_GateOpen,k1_NotArmed,k1_NoChange,k1_NothingRung,k1_NoCode,k1_DeadBell,(x2 l0).ex,x2 l0,e2_CageError,k2_UnknownLevel,k2_GateOpen,k2_NotArmed,k2_NoChange,k2_NothingRung,k2_NoCode,k2_DeadBell,(x3 l0).ex,x3 l0,e3_CageError,k3_UnknownLevel,k3_GateOpen,k3_NotArmed,k3_NoChange,k3_NothingRung,k3_NoCode,k3_DeadBell,(x4 l0).ex,x4 l0,e4_CageError,k4_UnknownLevel,k4_GateOpen,k4_NotArmed,k4_NoChange,k4_NothingRung,k4_NoCode,k4_DeadBell,(x5 l0).ex,x5 l0,e5_CageError,k5_UnknownLevel,k5_GateOpen,k5_NotArmed,k5_NoChange,k5_NothingRung,k5_NoCode,k5_DeadBell,(x6 l0).ex,x6 l0,e6_CageError,k6_UnknownLevel,k6_GateOpen,k6_NotArmed,k6_NoChange,k6_NothingRung,k6_NoCode,k6_DeadBell,(x7 l0).ex,x7 l0,e7_CageError,k7_UnknownLevel,k7_GateOpen,k7_NotArmed,k7_NoChange,k7_NothingRung,k7_NoCode,k7_DeadBell,(x8 l0).ex,x8 l0,e8_CageError,k8_UnknownLevel,k8_GateOpen,k8_NotArmed,k8_NoChange,k8_NothingRung,k8_NoCode,k8_DeadBell,(x9 l0).ex,x9 l0,e9_CageError,k9_UnknownLevel,k9_GateOpen,k9_NotArmed,k9_NoChange,k9_NothingRung,k9_NoCode,k9_DeadBell,(x10 l0).ex,x10 l0,e10_CageError,k10_UnknownLevel,k10_GateOpen,k10_NotArmed,k10_NoChange,k10_NothingRung,k10_NoCode,k10_DeadBell,(x11 l0).ex,x11 l0,e11_CageError,k11_UnknownLevel,k11_GateOpen,k11_NotArmed,k11_NoChange,k11_NothingRung,k11_NoCode,k11_DeadBell,(x12 l0).ex,x12 l0,e12_CageError,k12_UnknownLevel,k12_GateOpen,k12_NotArmed,k12_NoChange,k12_NothingRung,k12_NoCode,k12_DeadBell,(x13 l0).ex,x13 l0,e13_CageError,k13_UnknownLevel,k13_GateOpen,k13_NotArmed,k13_NoChange,k13_NothingRung,k13_NoCode,k13_DeadBell⟩
 have D0:=KD.mk (W.mg_of X G b0) F0 F0.b2 (v8 T)
 have D4:=KN.mk b4 F4 F4.b3 (uY T)
 have D5:=KM.mk cl15 b5 F5 F5.b1 (mH T)
 have D7:=KD.mk (W.mg_of X G b7) F7 F7.b1 (rz T)
 have D9:=KN.mk b9 F9 F9.b2 (sL T)
 have D12:=KM.mk cl16 b12 F12 F12.b1 (pO T)
 have D16:=KD.mk (W.mg_of X G b16) F16 F16.b1 (pP T)
 have D17:=KD.mk (W.mg_of X G b17) F17 F17.b1 (sM T)
 have D19:=KD.mk (W.mg_of X G b19) F19 F19.b2 (v9 T)
 have D22:=KD.mk (W.mg_of X G b22) F22 F22.b2 (pQ T)
 have D23:=KD.mk (W.mg_of X G b23) F23 F23.b2 (sO T)
 have D24:=KN.mk b24 F24 F24.b5 (oX T)
 have D26:=KN.mk b26 F26 F26.b3 (uZ T)
 have D28:=KM.mk cl18 b28 F28 F28.b1 (rA T)
 have D29:=KM.mk cl18 b29 F29 F29.b1 (wa T)
 have D30:=KM.mk cl18 b30 F30 F30.b1 (rB T)
 have D46:=KD.mk (W.mg_of X G b46) F46 F46.b2 (CO T)
 have D47:=KD.mk (W.mg_of X G b47) F47 F47.b3 (zw T)
 have D48:=KD.mk (W.mg_of X G b48) F48 F48.b2 (xK T)
 have D53:=KD.mk (W.mg_of X G b53) F53 F53.b2 (xM T)
 have D54:=KD.mk (W.mg_of X G b54) F54 F54.b2 (zx T)
 have D55:=KD.mk (W.mg_of X G b55) F55 F55.b1 (we T)
 have D1:=KD.mk (W.mg_of X G b1) F1 F1.b2 (rE T D0)
 have D2:=KD.mk (W.mg_of X G b2) F2 F2.b2 (sQ T D0)
 have D3:=KD.mk (W.mg_of X G b3) F3 F3.b2 (rF T D0)
 have D8:=KD.mk (W.mg_of X G b8) F8 F8.b2 (rG T D7)
 have D11:=KM.mk cl16 b11 F11 F11.b2 (pR T D7)
 have D18:=KD.mk (W.mg_of X G b18) F18 F18.b2 (rH T D17)
 have D27:=KM.mk cl18 b27 F27 F27.b5 (sR T D29)
 have D39:=KM.mk cl19 b39 F39 F39.b1 (mO T D28)
 have D41:=KM.mk cl19 b41 F41 F41.b2 (lM T D5)
 have D42:=KM.mk cl19 b42 F42 F42.b1 (u6 T D29)
 have D43:=KM.mk cl19 b43 F43 F43.b1 (pS T D12 D30)
 have D50:=KD.mk (W.mg_of X G b50) F50 F50.b1 (wg T D47)
 have D51:=KD.mk (W.mg_of X G b51) F51 F51.b2 (xN T D47)
 have D56:=KD.mk (W.mg_of X G b56) F56 F56.b4 (oj T D53 D54 D55)
 have D59:=KD.mk (W.mg_of X G b59) F59 F59.b4 (zE T D53 D54 D55)
 have D6:=KM.mk cl15 b6 F6 F6.b1 (u7 T D4)
 have D10:=KM.mk cl16 b10 F10 F10.b3 (sS T D1)
 have D13:=KM.mk cl16 b13 F13 F13.b2 (sT T D1)
 have D14:=KM.mk cl16 b14 F14 F14.b3 (u9 T D1)
 have D15:=KM.mk cl16 b15 F15 F15.b1 (sU T D9)
 have D20:=KD.mk (W.mg_of X G b20) F20 F20.b3 (rL T D18)
 have D21:=KD.mk (W.mg_of X G b21) F21 F21.b2 (wj T D18)
 have D31:=KN.mk b31 F31 F31.b6 (sV T D4 D9 D16 D22 D24 D26 D3 D8)
 have D40:=KM.mk cl19 b40 F40 F40.b4 (rN T D27 D41 D42)
 have D45:=KM.mk cl19 b45 F45 F45.b2 (kK T D18)
 have D52:=KD.mk (W.mg_of X G b52) F52 F52.b1 (xO T D46 D47 D50 D51)
 have D57:=KD.mk (W.mg_of X G b57) F57 F57.b4 (va T D54 D55 D56)
 have D25:=KM.mk cl17 b25 F25 F25.b1 (oZ T D24 D6 D15)
 have D44:=KM.mk cl19 b44 F44 F44.b1 (rO T D30 D45)
 have D32:=KM.mk cl19 b32 F32 F32.b3 (sW T D30 D10 D40 D25)
 have D33:=KM.mk cl19 b33 F33 F33.b2 (pU T D30 D11 D40 D25)
 have D34:=KM.mk cl19 b34 F34 F34.b2 (sX T D30 D13 D40 D25)
 have D37:=KM.mk cl19 b37 F37 F37.b4 (mR T D30 D1 D40 D25)
 have D38:=KM.mk cl19 b38 F38 F38.b4 (sY T D23 D30 D1 D41 D14 D20 D21 D40 D25)
 have D49:=KD.mk (W.mg_of X G b49) F49 F49.b2 (zJ T (W.mg_of X G b49) F49 F49.b2)
 have D35:=KM.mk cl19 b35 F35 F35.b2 (mS T D37)
 have D36:=KM.mk cl19 b36 F36 F36.b2 (mT T D37)
 have D58:=KD.mk (W.mg_of X G b58) F58 F58.b2 (CW T D32 D33 D34 D38 D35 D36)
 exact Ff T D48 D53 D55 D39 D43 D59 D31 D52 D57 D44 D49 D58 _ _ F60
theorem zL {K:JA}{Z:Adr}{H:Hp}{a:Addr}{ns:List Int}(hl:ns.length<=63)(hS:SqL K H a (ns.map V.int)){Q:VK}{E:XK}(q:∀H',Q (.bl true) H'):rP K Z [.ref a] H Q E:=⟨a,ns,rfl,hS,hl,q⟩
noncomputable def SPl (K:JA):Sp:=fun vs H Q _=>∃(a:Addr) (ns:List Int),vs=[.ref a]/\SqL K H a (ns.map V.int)/\ns.length<=63/\∀H',Q (.bl true) H'
theorem GP {l:W.OpenLaw}{q:Program}{loose:List Str}{XP:(Str->Option Value)->Heap->Prop}{YP:World->Heap->Prop}{d:DefRec}{K:Params->JA}(hn:l.most=some 63)(hdf:d.params.defaults=[])
  (hY:∀(w:World) (h:Heap),YP w h->(K w.params).In h)
  (F:∀(w:World) (mg:Str->Option Value) (fa:Addr) (h:Heap),(K w.params).In h->h.Ns mainGlobals mg->mg d.name=some (.ref fa)->
   ∃Z:Adr,∃fd:FuncData,(∀(s:Shared) (u:Value),BindsTo s fd ⟨[u],[]⟩ [("_law_script",u)])/\∀base:Heap,(K w.params).In base->base.Ns mainGlobals mg->fi l.prog w (K w.params) mg base CX0 8 fa fd ["_law_script"] (rP (K w.params) Z)) :
  W.WalkO q loose XP YP l.row.toRowW d [] (fun f vs=>PySem.call f vs):=
 L2.BQ (n:=63) (k:=8) (x:="_law_script") (CX:=fun _=>CX0) (sp:=fun w=>SPl (K w.params)) hn (by decide) hdf ⟨rfl,by decide,by decide⟩ hY
  (fun w mg fa h a b c=>let ⟨Z,fd,b1,b2⟩:=F w mg fa h a b c;⟨fd,b1,fun base x y=>(b2 base x y).imp fun vs H Q E ⟨a,ns,e,hS,hl,q⟩=>by subst e;exact zL hl hS q⟩) (fun _ _ a ns hl _ hS=>⟨a,ns,rfl,hS,hl,fun _=>rfl⟩) fun _ _ _ _ _ z=>z
end K33
local macro_rules | `(tactic| walk_at "m_is") => `(tactic| (delta L2.Xm; kts_exm))
local macro_rules | `(tactic| walk_at "h_is") => `(tactic| (delta L2.Kt; kit_is))
local macro_rules | `(tactic| walk_at "n_is") => `(tactic| (delta L2.NI; k_is))
local macro_rules | `(tactic| walk_at "a_is") => `(tactic| (delta L2.aP; k_is))
local macro_rules | `(tactic| walk_at "i_is") => `(tactic| (apply L2.KI.mk; k_is))
local macro_rules | `(tactic| walk_at "c_is") => `(tactic| (apply L2.Cls.mk; iterate 4 k_is))
local macro_rules | `(tactic| walk_at "o_is") => `(tactic| (apply L2.C0I.mk; k_is; exact rfl; k_is; exact rfl; exact rfl))
local macro_rules | `(tactic| walk_at "x_is") => `(tactic| (apply L2.XI.mk; k_is; k_is; exact rfl; exact rfl; k_is; k_is))
local macro_rules | `(tactic| walk_at "d_is") => `(tactic| (apply L2.DI.mk; iterate 4 k_is))
local macro_rules | `(tactic| walk_at "e_is") => `(tactic| (apply L2.MI.mk; iterate 5 k_is))
local macro_rules | `(tactic| walk_at "t_is") => `(tactic| (apply L2.II.mk; iterate 7 k_is))
open PySem PySem.W PyProof.Rows
set_option maxRecDepth 100000 in
set_option maxHeartbeats 0 in
theorem PySem.Challenge.cw_cagebells_k33_whole_wind_just_where_holds : PySem.Challenge.rw_cagebells_k33_whole_wind_just_where.Holds := by
 refine hd ?_
 k_fill
 refine K33.GP (l:=PySem.Challenge.rw_cagebells_k33_whole_wind_just_where) rfl rfl (fun w h Y=>W.kIn_of Y) ?F
 case F=>
  intro w mg fa h KX G hmg
  apply K33.Fg KX G hmg
  apply K33.DC.mk
  iterate 11 k_is
  iterate 20 walk_at "n_is"
  iterate 8 walk_at "i_is"
  iterate 4 k_is
  walk_at "c_is"
  iterate 3 walk_at "a_is"
  walk_at "c_is"
  iterate 3 walk_at "a_is"
  walk_at "c_is"
  iterate 4 walk_at "a_is"
  walk_at "c_is"
  iterate 3 walk_at "a_is"
  walk_at "c_is"
  iterate 5 walk_at "a_is"
  walk_at "o_is"
  iterate 14 walk_at "x_is"
  walk_at "m_is"
  iterate 7 walk_at "h_is"
  walk_at "m_is"
  iterate 7 walk_at "h_is"
  walk_at "m_is"
  iterate 7 walk_at "h_is"
  walk_at "m_is"
  iterate 7 walk_at "h_is"
  walk_at "m_is"
  iterate 7 walk_at "h_is"
  walk_at "m_is"
  iterate 7 walk_at "h_is"
  walk_at "m_is"
  iterate 7 walk_at "h_is"
  walk_at "m_is"
  iterate 7 walk_at "h_is"
  walk_at "m_is"
  iterate 7 walk_at "h_is"
  walk_at "m_is"
  iterate 7 walk_at "h_is"
  walk_at "m_is"
  iterate 7 walk_at "h_is"
  walk_at "m_is"
  iterate 7 walk_at "h_is"
  walk_at "m_is"
  iterate 7 walk_at "h_is"
  walk_at "m_is"
  iterate 7 walk_at "h_is"
  iterate 4 walk_at "d_is"
  walk_at "t_is"
  iterate 2 walk_at "e_is"
  iterate 2 walk_at "d_is"
  walk_at "t_is"
  iterate 6 walk_at "e_is"
  iterate 8 walk_at "d_is"
  walk_at "t_is"
  walk_at "e_is"
  walk_at "t_is"
  iterate 4 walk_at "e_is"
  walk_at "t_is"
  iterate 14 walk_at "e_is"
  iterate 15 walk_at "d_is"
